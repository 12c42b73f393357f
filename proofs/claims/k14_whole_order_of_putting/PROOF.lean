import PyProof.Rows.All
import Wide.All
import OpenK.AllK
import Wide.FinOn
import HandS.ForMost
import HandS.Wide
import HandS.Codes
import HandS.More
import HandS.IsInst
import HandS.Walk
import HandS.TupAny
import HandS.ForExc
import HandS.Lambda
import HandS.Style
import PyProof.RulesMatchSeq
import PyProof.Rows.MatchSeqLen
import HandS.ExcInit
import HandS.ExcField
import PyProof.StrLawsIn
import HandS.Deep
import PySem.Challenge.RW_rightrows_k14_whole_order_of_putting
import HandS.EndTab
set_option Elab.async false
set_option linter.all false
set_option maxRecDepth 100000
set_option synthInstance.maxSize 100000
set_option synthInstance.maxHeartbeats 0
namespace RR
open PySem PySem.Spec PyProof.Rows L2
/-! ### data, cells -/
abbrev D := PyData
abbrev D.obj (c : Int) (ds : List D) : D := .dict [(.int c, .list ds)]
/-- the classes: address, fields in order -/
structure Cl where
  f : Int → Option (Addr × List Str)
  /-- the classes of exceptions -/
  x : Int → Option (Addr × List Str)
  T : List (Addr × Str)
instance : CoeFun Cl fun _ => Int → Option (Addr × List Str) := ⟨Cl.f⟩
inductive W where
  | val (d : D)
  | ref (k : Nat)
  | ty (n : String)
  /-- a function made by a def: its code, its name, what stood when it was made -/
  | fn (f c : Addr) (q : Str) (F0 : Addr → Prop) (H0 : Hp)
inductive Cell where
  | lst (ds : List D)
  | frz (ds : List D)
  | obj (c : Int) (ws : List W)
  | nil
/-- how an exception leaves: class, fields, cells -/
abbrev XD := Int → List D → List Cell → Prop
/-- the classes, and what is wanted of an exception, by the heap and by the data -/
structure Ct where
  cl : Cl
  E : XK
  R : XD
instance : Coe Ct Cl := ⟨Ct.cl⟩
mutual
inductive RD (ct : Cl) (F : Addr → Prop) (H : Hp) : V → D → Prop
  | non : RD ct F H .non .none
  | int (i : Int) : RD ct F H (.int i) (.int i)
  | str (x : Str) : RD ct F H (.str x) (.str x)
  | bl (b : Bool) : RD ct F H (.bl b) (.bool b)
  | tup {a : Addr} {xs : List V} {ds : List D} : H a = some (.tup xs) → RDs ct F H xs ds → RD ct F H (.ref a) (.tuple ds)
  | lst {a : Addr} {xs : List V} {ds : List D} : F a → H a = some (.lst xs) → RDs ct F H xs ds → RD ct F H (.ref a) (.list ds)
  | obj {a C dx : Addr} {c : Int} {ns : List Str} {vs : List V} {ds : List D} : F a → ct c = some (C, ns) → H a = some (.ins C dx (ns.zip vs)) → vs.length = ns.length → RDs ct F H vs ds → RD ct F H (.ref a) (.dict [(.int c, .list ds)])
inductive RDs (ct : Cl) (F : Addr → Prop) (H : Hp) : List V → List D → Prop
  | nil : RDs ct F H [] []
  | cons {v : V} {vs : List V} {d : D} {ds : List D} : RD ct F H v d → RDs ct F H vs ds → RDs ct F H (v :: vs) (d :: ds)
end
/-- tuples and what is frozen stand -/
def Kp (F : Addr → Prop) (H : Hp) (F' : Addr → Prop) (H' : Hp) : Prop := (∀ a xs, H a = some (.tup xs) → H' a = some (.tup xs)) ∧ ∀ a, F a → F' a ∧ H' a = H a
theorem Kp.refl (F : Addr → Prop) (H : Hp) : Kp F H F H := ⟨fun _ _ h => h, fun _ h => ⟨h, rfl⟩⟩
theorem Kp.trans {F F1 F2 : Addr → Prop} {H H1 H2 : Hp} (a : Kp F H F1 H1) (b : Kp F1 H1 F2 H2) : Kp F H F2 H2 :=
  ⟨fun c xs h => b.1 c xs (a.1 c xs h), fun c h => ⟨(b.2 c (a.2 c h).1).1, ((b.2 c (a.2 c h).1).2).trans (a.2 c h).2⟩⟩
section
variable {ct : Cl} {F F' : Addr → Prop} {H H' : Hp}
mutual
theorem RD.mono (k : Kp F H F' H') : ∀ (d : D) (v : V), RD ct F H v d → RD ct F' H' v d
  | .none, v, h => by cases h; exact .non
  | .bool b, v, h => by cases h; exact .bl b
  | .int i, v, h => by cases h; exact .int i
  | .str x, v, h => by cases h; exact .str x
  | .tuple ds, v, h => by
    cases h with
    | tup h hs => exact .tup (k.1 _ _ h) (RDs.mono k ds _ hs)
  | .list ds, v, h => by
    cases h with
    | lst f h hs => exact .lst (k.2 _ f).1 ((k.2 _ f).2.trans h) (RDs.mono k ds _ hs)
  | .dict [(.int c, .list ds)], v, h => by
    cases h with
    | obj f hc h hl hs => exact .obj (k.2 _ f).1 hc ((k.2 _ f).2.trans h) hl (RDs.mono k ds _ hs)
  | .dict [], v, h => by cases h
  | .dict ((.none, _) :: _), v, h => by cases h
  | .dict ((.bool _, _) :: _), v, h => by cases h
  | .dict ((.str _, _) :: _), v, h => by cases h
  | .dict ((.tuple _, _) :: _), v, h => by cases h
  | .dict ((.list _, _) :: _), v, h => by cases h
  | .dict ((.dict _, _) :: _), v, h => by cases h
  | .dict ((.int _, .none) :: _), v, h => by cases h
  | .dict ((.int _, .bool _) :: _), v, h => by cases h
  | .dict ((.int _, .int _) :: _), v, h => by cases h
  | .dict ((.int _, .str _) :: _), v, h => by cases h
  | .dict ((.int _, .tuple _) :: _), v, h => by cases h
  | .dict ((.int _, .dict _) :: _), v, h => by cases h
  | .dict ((.int _, .list _) :: _ :: _), v, h => by cases h
theorem RDs.mono (k : Kp F H F' H') : ∀ (ds : List D) (vs : List V), RDs ct F H vs ds → RDs ct F' H' vs ds
  | [], vs, h => by cases h; exact .nil
  | d :: ds, vs, h => by
    cases h with
    | cons h hs => exact .cons (RD.mono k d _ h) (RDs.mono k ds _ hs)
end
theorem RDs.length : ∀ {vs : List V} {ds : List D}, RDs ct F H vs ds → vs.length = ds.length
  | _, _, .nil => rfl
  | _, _, .cons _ h => congrArg Nat.succ (RDs.length h)
theorem RDs.get : ∀ {vs : List V} {ds : List D}, RDs ct F H vs ds → ∀ (i : Nat) (d : D), ds[i]? = some d → ∃ v, vs[i]? = some v ∧ RD ct F H v d
  | _, _, .nil, i, v, h => by simp at h
  | _, _, .cons h1 h, 0, v, e => ⟨_, rfl, by
      have e2 := Option.some.inj e
      rw [← e2]
      exact h1⟩
  | _, _, .cons h1 h, i + 1, v, e => RDs.get h i v e
theorem RDs.get' : ∀ {vs : List V} {ds : List D}, RDs ct F H vs ds → ∀ (i : Nat) (v : V), vs[i]? = some v → ∃ d, ds[i]? = some d ∧ RD ct F H v d
  | _, _, .nil, i, v, h => by simp at h
  | _, _, .cons h1 h, 0, v, e => ⟨_, rfl, by
      have e2 := Option.some.inj e
      rw [← e2]
      exact h1⟩
  | _, _, .cons h1 h, i + 1, v, e => RDs.get' h i v e
theorem RDs.app : ∀ {vs ws : List V} {ds es : List D}, RDs ct F H vs ds → RDs ct F H ws es → RDs ct F H (vs ++ ws) (ds ++ es)
  | _, _, _, _, .nil, h => h
  | _, _, _, _, .cons h1 h2, h => .cons h1 (RDs.app h2 h)
theorem RDs.take : ∀ {vs : List V} {ds : List D} (n : Nat), RDs ct F H vs ds → RDs ct F H (vs.take n) (ds.take n)
  | _, _, 0, _ => .nil
  | _, _, n + 1, .nil => .nil
  | _, _, n + 1, .cons h1 h2 => .cons h1 (RDs.take n h2)
theorem RDs.drop : ∀ {vs : List V} {ds : List D} (n : Nat), RDs ct F H vs ds → RDs ct F H (vs.drop n) (ds.drop n)
  | _, _, 0, h => h
  | _, _, n + 1, .nil => .nil
  | _, _, n + 1, .cons h1 h2 => RDs.drop n h2
theorem RDs.rev : ∀ {vs : List V} {ds : List D}, RDs ct F H vs ds → RDs ct F H vs.reverse ds.reverse
  | _, _, .nil => .nil
  | _, _, .cons h1 h2 => by
    rw [List.reverse_cons, List.reverse_cons]
    exact RDs.app (RDs.rev h2) (.cons h1 .nil)
theorem RDs.set : ∀ {vs : List V} {ds : List D} (i : Nat) {v : V} {d : D}, RDs ct F H vs ds → RD ct F H v d → RDs ct F H (vs.set i v) (ds.set i d)
  | _, _, _, _, _, .nil, _ => .nil
  | _, _, 0, _, _, .cons h1 h2, h => .cons h h2
  | _, _, i + 1, _, _, .cons h1 h2, h => .cons h1 (RDs.set i h2 h)
end
/-! ### the ghost -/
structure Gh where
  F : Addr → Prop
  as : List Addr
  ms : List (List Addr)
structure Bs where
  g : Gh
  H : Hp
abbrev Bs.F (B : Bs) : Addr → Prop := B.g.F
abbrev Bs.M (B : Bs) : List Addr := B.g.ms.flatten
def RW (ct : Cl) (g : Gh) (H : Hp) (v : V) : W → Prop
  | .val d => RD ct g.F H v d
  | .ref k => ∃ a, g.as[k]? = some a ∧ v = .ref a
  | .ty n => v = .ty n
  | .fn f c q F0 H0 => v = .ref f ∧ H c = some (LamX.CodeO c q) ∧ Kp F0 H0 g.F H
def RWs (ct : Cl) (g : Gh) (H : Hp) : List V → List W → Prop := Paired (RW ct g H)
/-- a cell at a, with what of it may be written -/
def CellAt (ct : Cl) (g : Gh) (H : Hp) (a : Addr) (m : List Addr) : Cell → Prop
  | .lst ds => m = [a] ∧ ∃ xs, H a = some (.lst xs) ∧ RDs ct g.F H xs ds
  | .frz ds => m = [] ∧ g.F a ∧ ∃ xs, H a = some (.lst xs) ∧ RDs ct g.F H xs ds
  | .obj c ws => m = [a] ∧ ∃ C ns dx vs, ct c = some (C, ns) ∧ H a = some (.ins C dx (ns.zip vs)) ∧ vs.length = ns.length ∧ RWs ct g H vs ws
  | .nil => m = []
/-- the cells stand -/
structure Clz (ct : Cl) (g : Gh) (H : Hp) (C : List Cell) : Prop where
  la : g.as.length = C.length
  lm : g.ms.length = C.length
  at_ : ∀ (k : Nat) (c : Cell), C[k]? = some c → ∃ a m, g.as[k]? = some a ∧ g.ms[k]? = some m ∧ CellAt ct g H a m c
  nd : g.ms.flatten.Nodup
  ap : ∀ a ∈ g.ms.flatten, ¬ g.F a
  lv : ∀ a, g.F a → H a ≠ none
  tb : LamX.Tabs ct.T H
  tf : ∀ p ∈ ct.T, ¬ g.F p.1
/-- ghosts one behind the other -/
structure Gk (g : Gh) (H : Hp) (g' : Gh) (H' : Hp) : Prop where
  kp : Kp g.F H g'.F H'
  as : ∀ (k : Nat) (a : Addr), g.as[k]? = some a → g'.as[k]? = some a
  ex : ∀ c q, H c = some (LamX.CodeO c q) → H' c = some (LamX.CodeO c q)
theorem Gk.refl (g : Gh) (H : Hp) : Gk g H g H := ⟨Kp.refl _ _, fun _ _ h => h, fun _ _ h => h⟩
theorem Gk.trans {g g1 g2 : Gh} {H H1 H2 : Hp} (a : Gk g H g1 H1) (b : Gk g1 H1 g2 H2) : Gk g H g2 H2 := ⟨a.kp.trans b.kp, fun k x h => b.as k x (a.as k x h), fun c q h => b.ex c q (a.ex c q h)⟩
theorem RW.mono {ct : Cl} {g g' : Gh} {H H' : Hp} (k : Gk g H g' H') : ∀ {v : V} {w : W}, RW ct g H v w → RW ct g' H' v w
  | v, .val d, h => RD.mono k.kp d v h
  | v, .ref i, ⟨a, h, e⟩ => ⟨a, k.as i a h, e⟩
  | v, .ty n, h => h
  | v, .fn f c q F0 H0, h => ⟨h.1, k.ex c q h.2.1, h.2.2.trans k.kp⟩
theorem codeO_lst {c : Addr} {q : Str} {xs : List V} : LamX.CodeO c q ≠ .lst xs := fun z => by
  unfold LamX.CodeO at z
  cases z
theorem codeO_ins {c : Addr} {q : Str} {C dx : Addr} {fs : List (Str × V)} : LamX.CodeO c q ≠ .ins C dx fs := fun z => by
  unfold LamX.CodeO at z
  cases z
theorem RWs.mono {ct : Cl} {g g' : Gh} {H H' : Hp} (k : Gk g H g' H') {vs : List V} {ws : List W} (h : RWs ct g H vs ws) : RWs ct g' H' vs ws := Paired.mapP h fun _ _ => RW.mono k
/-- what a body may rely on: since its entry all but M stands, what is frozen or written beside M is new -/
structure Fr0 (B : Bs) (g : Gh) (H : Hp) : Prop where
  kt : ∀ a xs, B.H a = some (.tup xs) → H a = some (.tup xs)
  keep : ∀ a o, B.H a = some o → (∀ ps, o ≠ .tbl ps) → a ∉ B.M → H a = some o
  tl : ∀ a ps, B.H a = some (.tbl ps) → ∃ qs, H a = some (.tbl qs)
  newF : ∀ a, g.F a → B.F a ∨ B.H a = none ∨ a ∈ B.M
  newM : ∀ a ∈ g.ms.flatten, a ∈ B.M ∨ B.H a = none
abbrev Ev := List (Option W)
/-- an exception, its class and its fields -/
def XV (ct : Cl) (g : Gh) (H : Hp) (cls : Value) (d : Option Addr) (c : Int) (ds : List D) : Prop :=
  ∃ (C : Addr) (ns : List Str), ct.x c = some (C, ns) ∧ cls = .ref C ∧ (ns = [] ∧ ds = [] ∨ ∃ (dx : Addr) (vs : List V), d = some dx ∧ H dx = some (.xd (ns.zip vs)) ∧ vs.length = ns.length ∧ RDs ct g.F H vs ds)
def XOk (ct : Ct) (B : Bs) : Prop := ∀ g' H' C' cls d c ds, Gk B.g B.H g' H' → Fr0 B g' H' → Clz ct g' H' C' → XV ct g' H' cls d c ds → ct.R c ds C' → ct.E cls d H'
structure Rel (ct : Ct) (B : Bs) (g : Gh) (σ : L2.St) (H : Hp) (E : Ev) (C : List Cell) : Prop where
  env : ∀ (i : Nat) (w : W), E[i]? = some (some w) → ∃ v, σ[i]? = some (some v) ∧ RW ct g H v w
  len : σ.length = E.length
  cs : Clz ct g H C
  fr : Fr0 B g H
  gg : Gk B.g B.H g H
  xo : XOk ct B
theorem Rel.gk {ct : Ct} {B : Bs} {g g' : Gh} {σ : L2.St} {H H' : Hp} {E : Ev} {C C' : List Cell} (R : Rel ct B g σ H E C) (k : Gk g H g' H') (c : Clz ct g' H' C') (f : Fr0 B g' H') : Rel ct B g' σ H' E C' :=
  ⟨fun i w h => by
    obtain ⟨v, h1, h2⟩ := R.env i w h
    exact ⟨v, h1, h2.mono k⟩, R.len, c, f, R.gg.trans k, R.xo⟩
/-! ### readings -/
abbrev DK := W → List Cell → Prop
abbrev DE := Ev → List Cell → DK → Prop
abbrev DT := Ev → List Cell → (Bool → List Cell → Prop) → Prop
abbrev DA := Ev → List Cell → (List W → List Cell → Prop) → Prop
structure DEnds where
  nx : Ev → List Cell → Prop
  rt : DK
  bk : Ev → List Cell → Prop := fun _ _ => False
  ct : Ev → List Cell → Prop := fun _ _ => False
abbrev DS := DEnds → Ev → List Cell → Prop
def PostE (ct : Ct) (B : Bs) (g : Gh) (H : Hp) (σ : L2.St) (E : Ev) (Q : DK) : VK := fun v H' => ∃ g' C' w, Gk g H g' H' ∧ Rel ct B g' σ H' E C' ∧ RW ct g' H' v w ∧ Q w C'
def ImE (ct : Ct) (tt : TE) (t : DE) : Prop := ∀ B g σ H E C Q (K : VK), Rel ct B g σ H E C → (∀ v H', PostE ct B g H σ E Q v H' → K v H') → t E C Q → tt σ H K
def PostT (ct : Ct) (B : Bs) (g : Gh) (H : Hp) (σ : L2.St) (E : Ev) (Q : Bool → List Cell → Prop) : Bool → Hp → Prop := fun b H' => ∃ g' C', Gk g H g' H' ∧ Rel ct B g' σ H' E C' ∧ Q b C'
def ImT (ct : Ct) (tt : TT) (t : DT) : Prop := ∀ B g σ H E C Q (K : Bool → Hp → Prop), Rel ct B g σ H E C → (∀ v H', PostT ct B g H σ E Q v H' → K v H') → t E C Q → tt σ H K
def PostA (ct : Ct) (B : Bs) (g : Gh) (H : Hp) (σ : L2.St) (E : Ev) (Q : List W → List Cell → Prop) : List V → Hp → Prop := fun vs H' => ∃ g' C' ws, Gk g H g' H' ∧ Rel ct B g' σ H' E C' ∧ RWs ct g' H' vs ws ∧ Q ws C'
def ImA (ct : Ct) (tt : TA) (t : DA) : Prop := ∀ B g σ H E C Q (K : List V → Hp → Prop), Rel ct B g σ H E C → (∀ v H', PostA ct B g H σ E Q v H' → K v H') → t E C Q → tt σ H K
/-- the ends -/
structure EndsOk (ct : Ct) (B : Bs) (g : Gh) (H : Hp) (DD : DEnds) (D : Ends) : Prop where
  nx : ∀ σ' H' g' E' C', Gk g H g' H' → Rel ct B g' σ' H' E' C' → DD.nx E' C' → D.nx σ' H'
  rt : ∀ v σ' H' g' E' C' w, Gk g H g' H' → Rel ct B g' σ' H' E' C' → RW ct g' H' v w → DD.rt w C' → D.rt v H'
  bk : ∀ σ' H' g' E' C', Gk g H g' H' → Rel ct B g' σ' H' E' C' → DD.bk E' C' → D.bk σ' H'
  ct : ∀ σ' H' g' E' C', Gk g H g' H' → Rel ct B g' σ' H' E' C' → DD.ct E' C' → D.ct σ' H'
theorem EndsOk.later {ct : Ct} {B : Bs} {g g1 : Gh} {H H1 : Hp} {DD : DEnds} {D : Ends} (e : EndsOk ct B g H DD D) (k : Gk g H g1 H1) : EndsOk ct B g1 H1 DD D :=
  ⟨fun σ' H' g' E' C' a => e.nx σ' H' g' E' C' (k.trans a), fun v σ' H' g' E' C' w a => e.rt v σ' H' g' E' C' w (k.trans a), fun σ' H' g' E' C' a => e.bk σ' H' g' E' C' (k.trans a), fun σ' H' g' E' C' a => e.ct σ' H' g' E' C' (k.trans a)⟩
def ImS (ct : Ct) (tt : TS) (t : DS) : Prop := ∀ B g σ H E C D DD, Rel ct B g σ H E C → EndsOk ct B g H DD D → t DD E C → tt D σ H
/-- behind an expression: on with what was wanted -/
theorem PostE.later {ct : Ct} {B : Bs} {g g1 : Gh} {H H1 H' : Hp} {σ : L2.St} {E : Ev} {Q : DK} {v : V} (k : Gk g H g1 H1) (h : PostE ct B g1 H1 σ E Q v H') : PostE ct B g H σ E Q v H' := by
  obtain ⟨g', C', w, k', r⟩ := h
  exact ⟨g', C', w, k.trans k', r⟩
/-! ### the ghost's steps -/
theorem flat_apart {ms : List (List Addr)} (nd : ms.flatten.Nodup) : ∀ {k j : Nat} {m1 m2 : List Addr} {a : Addr}, ms[k]? = some m1 → ms[j]? = some m2 → k ≠ j → a ∈ m1 → a ∉ m2 := by
  induction ms with
  | nil =>
    intro k j m1 m2 a h
    simp at h
  | cons m r ih =>
    intro k j m1 m2 a h1 h2 hn ha hb
    rw [List.flatten_cons, List.nodup_append] at nd
    have mem : ∀ {i : Nat} {q : List Addr}, r[i]? = some q → ∀ x ∈ q, x ∈ r.flatten := fun h x hx => List.mem_flatten.mpr ⟨_, List.mem_of_getElem? h, hx⟩
    cases k with
    | zero =>
      have e1 : m = m1 := Option.some.inj h1
      subst e1
      cases j with
      | zero => exact hn rfl
      | succ j => exact nd.2.2 a ha a (mem h2 a hb) rfl
    | succ k =>
      cases j with
      | zero =>
        have e2 : m = m2 := Option.some.inj h2
        subst e2
        exact nd.2.2 a hb a (mem h1 a ha) rfl
      | succ j => exact ih nd.2.1 h1 h2 (fun e => hn (by rw [e])) ha hb
theorem mem_flat {ms : List (List Addr)} {k : Nat} {m : List Addr} {a : Addr} (h : ms[k]? = some m) (ha : a ∈ m) : a ∈ ms.flatten := List.mem_flatten.mpr ⟨_, List.mem_of_getElem? h, ha⟩
section
variable {ct : Cl} {B : Bs} {g g' : Gh} {σ : L2.St} {H H' : Hp} {E : Ev} {C C' : List Cell}
/-- a cell whose own object stands -/
theorem CellAt.keep {a : Addr} {m : List Addr} {c : Cell} (h : CellAt ct g H a m c) (k : Gk g H g' H') (ha : H' a = H a ∨ c = .nil) : CellAt ct g' H' a m c := by
  cases c with
  | lst ds =>
    obtain ⟨e, xs, h1, h2⟩ := h
    have ha := ha.resolve_right (fun z => nomatch z)
    exact ⟨e, xs, ha.trans h1, RDs.mono k.kp _ _ h2⟩
  | frz ds =>
    obtain ⟨e, f, xs, h1, h2⟩ := h
    exact ⟨e, (k.kp.2 _ f).1, xs, (k.kp.2 _ f).2.trans h1, RDs.mono k.kp _ _ h2⟩
  | obj c ws =>
    obtain ⟨e, Cc, ns, dx, vs, h1, h2, h3, h4⟩ := h
    have ha := ha.resolve_right (fun z => nomatch z)
    exact ⟨e, Cc, ns, dx, vs, h1, ha.trans h2, h3, h4.mono k⟩
  | nil => exact h
theorem CellAt.some {a : Addr} {m : List Addr} {c : Cell} (h : CellAt ct g H a m c) : H a ≠ none ∨ c = .nil := by
  cases c with
  | lst ds =>
    obtain ⟨e, xs, h1, h2⟩ := h
    exact .inl (by rw [h1]; exact fun z => nomatch z)
  | frz ds =>
    obtain ⟨e, f, xs, h1, h2⟩ := h
    exact .inl (by rw [h1]; exact fun z => nomatch z)
  | obj c ws =>
    obtain ⟨e, Cc, ns, dx, vs, h1, h2, h3, h4⟩ := h
    exact .inl (by rw [h2]; exact fun z => nomatch z)
  | nil => exact .inr rfl
theorem CellAt.ob {a : Addr} {m : List Addr} {c : Cell} (h : CellAt ct g H a m c) : (∃ o : HO, H a = Option.some o ∧ ∀ ps, o ≠ HO.tbl ps) ∨ c = .nil := by
  cases c with
  | lst ds =>
    obtain ⟨e, xs, h1, h2⟩ := h
    exact .inl ⟨_, h1, fun _ z => nomatch z⟩
  | frz ds =>
    obtain ⟨e, f, xs, h1, h2⟩ := h
    exact .inl ⟨_, h1, fun _ z => nomatch z⟩
  | obj c ws =>
    obtain ⟨e, Cc, ns, dx, vs, h1, h2, h3, h4⟩ := h
    exact .inl ⟨_, h2, fun _ z => nomatch z⟩
  | nil => exact .inr rfl
/-- tables stand where only lists and instances are written -/
theorem tabs_ext2 {T : List (Addr × Str)} {H H' : Hp} (t : LamX.Tabs T H) (e : ∀ b o, H b = some o → (∀ xs, o ≠ .lst xs) → (∀ C dx fs, o ≠ .ins C dx fs) → H' b = some o) : LamX.Tabs T H' := fun p hp => by
  obtain ⟨ps, h1, h2, h3⟩ := t p hp
  refine ⟨ps, e _ _ h1 (fun _ z => nomatch z) (fun _ _ _ z => nomatch z), h2, fun pos cv hc => ?_⟩
  obtain ⟨c, e1, e2⟩ := h3 pos cv hc
  exact ⟨c, e1, e _ _ e2 (fun _ z => by unfold LamX.CodeO at z; cases z) (fun _ _ _ z => by unfold LamX.CodeO at z; cases z)⟩
theorem tabs_new {T : List (Addr × Str)} {H : Hp} {p : Addr} {o : HO} (t : LamX.Tabs T H) (hp : H p = none) : LamX.Tabs T (upd H p o) := t.ext fun b o h => by
  rw [upd_ne (ne_of_none h hp)]
  exact h
theorem tab_some {T : List (Addr × Str)} {H : Hp} (t : LamX.Tabs T H) : ∀ p ∈ T, ∃ ps, H p.1 = some (.tbl ps) := fun p hp => by
  obtain ⟨ps, h, _⟩ := t p hp
  exact ⟨ps, h⟩
/-- something new is laid that is never written: a tuple, or what is frozen -/
def Gh.fz (g : Gh) (b : Bool) (p : Addr) : Gh := ⟨fun a => g.F a ∨ (b = true ∧ a = p), g.as, g.ms⟩
theorem gk_new {p : Addr} {o : HO} (b : Bool) (hp : H p = none) (lv : ∀ a, g.F a → H a ≠ none) : Gk g H (g.fz b p) (upd H p o) :=
  ⟨⟨fun a xs h => by rw [upd_ne (ne_of_none h hp)]; exact h, fun a h => ⟨.inl h, upd_ne fun e => lv a h (by rw [e]; exact hp)⟩⟩, fun _ _ h => h, fun c q h => by rw [upd_ne (ne_of_none h hp)]; exact h⟩
theorem Clz.mutIn (c : Clz ct g H C) : ∀ a ∈ g.ms.flatten, ∃ (k : Nat) (x : Cell) (a' : Addr) (m : List Addr), C[k]? = some x ∧ g.as[k]? = some a' ∧ g.ms[k]? = some m ∧ a ∈ m ∧ CellAt ct g H a' m x := fun a ha => by
  obtain ⟨m, hm, ham⟩ := List.mem_flatten.mp ha
  obtain ⟨k, hk⟩ := List.getElem?_of_mem hm
  have hk2 : k < C.length := by rw [← c.lm]; exact (List.getElem?_eq_some_iff.mp hk).1
  obtain ⟨a', m', h1, h2, h3⟩ := c.at_ k _ (List.getElem?_eq_getElem hk2)
  rw [hk] at h2
  cases h2
  exact ⟨k, _, a', m, List.getElem?_eq_getElem hk2, h1, hk, ham, h3⟩
theorem Clz.mutSome (c : Clz ct g H C) : ∀ a ∈ g.ms.flatten, H a ≠ none := fun a ha => by
  obtain ⟨k, x, a', m, h1, h2, h3, h4, h5⟩ := c.mutIn a ha
  cases x with
  | lst ds =>
    obtain ⟨e, xs, q1, q2⟩ := h5
    subst e
    have e2 : a = a' := by simpa using h4
    rw [e2, q1]
    exact fun z => nomatch z
  | frz ds =>
    obtain ⟨e, _⟩ := h5
    subst e
    cases h4
  | obj c ws =>
    obtain ⟨e, Cc, ns, dx, vs, q1, q2, _⟩ := h5
    subst e
    have e2 : a = a' := by simpa using h4
    rw [e2, q2]
    exact fun z => nomatch z
  | nil =>
    have e : m = [] := h5
    subst e
    cases h4
theorem Clz.new {p : Addr} {o : HO} {b : Bool} (c : Clz ct g H C) (hp : H p = none) : Clz ct (g.fz b p) (upd H p o) C :=
  ⟨c.la, c.lm, fun k x h => by
    obtain ⟨a, m, h1, h2, h3⟩ := c.at_ k x h
    refine ⟨a, m, h1, h2, h3.keep (gk_new b hp c.lv) ?_⟩
    rcases h3.some with q | q
    · exact .inl (upd_ne fun e => q (by rw [e]; exact hp))
    · exact .inr q, c.nd, fun a ha h => by
    rcases h with h | ⟨_, h⟩
    · exact c.ap a ha h
    · exact c.mutSome a ha (by rw [h]; exact hp), fun a h => by
    rcases h with h | ⟨_, h⟩
    · rw [upd_ne (fun e => c.lv a h (by rw [e]; exact hp))]
      exact c.lv a h
    · rw [h, upd_same]
      exact (fun z => nomatch z), tabs_new c.tb hp, fun q hq h => by
    rcases h with h | ⟨_, h⟩
    · exact c.tf q hq h
    · obtain ⟨ps, e⟩ := tab_some c.tb q hq
      rw [h, hp] at e
      cases e⟩
theorem Fr0.fresh (f : Fr0 B g H) {p : Addr} (hp : H p = none) : B.H p = none ∨ p ∈ B.M := by
  by_cases h : p ∈ B.M
  · exact .inr h
  · refine .inl ?_
    cases e : B.H p with
    | none => rfl
    | some o =>
      by_cases ht : ∃ ps, o = .tbl ps
      · obtain ⟨ps, rfl⟩ := ht
        obtain ⟨qs, e2⟩ := f.tl p ps e
        rw [e2] at hp
        cases hp
      · rw [f.keep p o e (fun ps z => ht ⟨ps, z⟩) h] at hp
        cases hp
theorem Fr0.new {p : Addr} {o : HO} {b : Bool} (f : Fr0 B g H) (hp : H p = none) : Fr0 B (g.fz b p) (upd H p o) :=
  ⟨fun a xs h => by
    have h2 := f.kt a xs h
    rw [upd_ne (ne_of_none h2 hp)]
    exact h2, fun a u h hu hm => by
    have h2 := f.keep a u h hu hm
    rw [upd_ne (ne_of_none h2 hp)]
    exact h2, fun a ps h => by
    obtain ⟨qs, h2⟩ := f.tl a ps h
    exact ⟨qs, by rw [upd_ne (ne_of_none h2 hp)]; exact h2⟩, fun a h => by
    rcases h with h | ⟨_, h⟩
    · exact f.newF a h
    · rw [h]
      exact .inr (f.fresh hp), f.newM⟩
theorem Rel.new {ct : Ct} {p : Addr} {o : HO} (b : Bool) (R : Rel ct B g σ H E C) (hp : H p = none) : Gk g H (g.fz b p) (upd H p o) ∧ Rel ct B (g.fz b p) σ (upd H p o) E C :=
  have k := gk_new (o := o) b hp R.cs.lv
  ⟨k, R.gk k (R.cs.new hp) (R.fr.new hp)⟩
/-- a new cell -/
def Gh.ad (g : Gh) (p : Addr) : Gh := ⟨g.F, g.as ++ [p], g.ms ++ [[p]]⟩
theorem gk_ad {p : Addr} {o : HO} (hp : H p = none) (lv : ∀ a, g.F a → H a ≠ none) : Gk g H (g.ad p) (upd H p o) :=
  ⟨⟨fun a xs h => by rw [upd_ne (ne_of_none h hp)]; exact h, fun a h => ⟨h, upd_ne fun e => lv a h (by rw [e]; exact hp)⟩⟩, fun k a h => by
    show (g.as ++ [p])[k]? = some a
    rw [List.getElem?_append_left (List.getElem?_eq_some_iff.mp h).1]
    exact h, fun c q h => by rw [upd_ne (ne_of_none h hp)]; exact h⟩
theorem Rel.ad {ct : Ct} {p : Addr} {o : HO} {c : Cell} (R : Rel ct B g σ H E C) (hp : H p = none) (new : Gk g H (g.ad p) (upd H p o) → CellAt ct (g.ad p) (upd H p o) p [p] c) :
    Gk g H (g.ad p) (upd H p o) ∧ Rel ct B (g.ad p) σ (upd H p o) E (C ++ [c]) ∧ (g.ad p).as[C.length]? = some p := by
  have k := gk_ad (o := o) hp R.cs.lv
  have fl : (g.ad p).ms.flatten = g.ms.flatten ++ [p] := by
    show (g.ms ++ [[p]]).flatten = _
    rw [List.flatten_append]
    rfl
  have hl : (g.ad p).as[C.length]? = some p := by
    show (g.as ++ [p])[C.length]? = some p
    rw [← R.cs.la]
    exact List.getElem?_concat_length
  refine ⟨k, R.gk k ⟨?_, ?_, fun j x h => ?_, ?_, fun a ha h => ?_, fun a h => ?_, tabs_new R.cs.tb hp, R.cs.tf⟩ ⟨fun a xs h => ?_, fun a u h hu hm => ?_, fun a ps h => ?_, fun a h => R.fr.newF a h, fun a ha => ?_⟩, hl⟩
  · show (g.as ++ [p]).length = _
    rw [List.length_append, List.length_append, R.cs.la]
    rfl
  · show (g.ms ++ [[p]]).length = _
    rw [List.length_append, List.length_append, R.cs.lm]
    rfl
  · by_cases hj : j < C.length
    · rw [List.getElem?_append_left hj] at h
      obtain ⟨a, m, h1, h2, h3⟩ := R.cs.at_ j x h
      refine ⟨a, m, k.as _ _ h1, ?_, h3.keep k ?_⟩
      · show (g.ms ++ [[p]])[j]? = some m
        rw [List.getElem?_append_left (List.getElem?_eq_some_iff.mp h2).1]
        exact h2
      · rcases h3.some with q | q
        · exact .inl (upd_ne fun e => q (by rw [e]; exact hp))
        · exact .inr q
    · have hj2 : j < (C ++ [c]).length := (List.getElem?_eq_some_iff.mp h).1
      rw [List.length_append] at hj2
      have e : j = C.length := by simp at hj2; omega
      subst e
      rw [List.getElem?_concat_length] at h
      cases h
      refine ⟨p, [p], hl, ?_, new k⟩
      show (g.ms ++ [[p]])[C.length]? = some [p]
      rw [← R.cs.lm]
      exact List.getElem?_concat_length
  · rw [fl, List.nodup_append]
    refine ⟨R.cs.nd, by simp, fun a ha b hb e => ?_⟩
    have e2 : b = p := by simpa using hb
    rw [e2] at e
    exact R.cs.mutSome a ha (by rw [e]; exact hp)
  · rw [fl, List.mem_append] at ha
    rcases ha with ha | ha
    · exact R.cs.ap a ha h
    · have e2 : a = p := by simpa using ha
      exact R.cs.lv a h (by rw [e2]; exact hp)
  · rw [upd_ne (fun e => R.cs.lv a h (by rw [e]; exact hp))]
    exact R.cs.lv a h
  · have h2 := R.fr.kt a xs h
    rw [upd_ne (ne_of_none h2 hp)]
    exact h2
  · have h2 := R.fr.keep a u h hu hm
    rw [upd_ne (ne_of_none h2 hp)]
    exact h2
  · obtain ⟨qs, h2⟩ := R.fr.tl a ps h
    exact ⟨qs, by rw [upd_ne (ne_of_none h2 hp)]; exact h2⟩
  · rw [fl, List.mem_append] at ha
    rcases ha with ha | ha
    · exact R.fr.newM a ha
    · have e2 : a = p := by simpa using ha
      rw [e2]
      exact (R.fr.fresh hp).symm
/-- a cell is written -/
theorem Rel.put {ct : Ct} {a : Addr} {o : HO} {k : Nat} {c c' : Cell} (R : Rel ct B g σ H E C) (hc : C[k]? = some c) (ha : g.as[k]? = some a) (hm : g.ms[k]? = some [a]) (hca : CellAt ct g H a [a] c) (ht : ∀ xs, H a ≠ some (.tup xs))
    (new : Gk g H g (upd H a o) → CellAt ct g (upd H a o) a [a] c') : Gk g H g (upd H a o) ∧ Rel ct B g σ (upd H a o) E (C.set k c') := by
  have hin : a ∈ g.ms.flatten := mem_flat hm (List.mem_singleton.mpr rfl)
  have hF : ¬ g.F a := R.cs.ap a hin
  have hob : (∃ xs, H a = some (.lst xs)) ∨ ∃ C' dx fs, H a = some (.ins C' dx fs) := by
    cases c with
    | lst ds => obtain ⟨e, xs, h1, h2⟩ := hca; exact .inl ⟨xs, h1⟩
    | frz ds => obtain ⟨e, f, xs, h1, h2⟩ := hca; exact .inl ⟨xs, h1⟩
    | obj c ws => obtain ⟨e, Cc, ns, dx, vs, h1, h2, h3, h4⟩ := hca; exact .inr ⟨_, _, _, h2⟩
    | nil => cases (show ([a] : List Addr) = [] from hca)
  have kk : Gk g H g (upd H a o) := ⟨⟨fun b xs h => by rw [upd_ne (fun e => ht xs (by rw [← e]; exact h))]; exact h, fun b h => ⟨h, upd_ne fun e => hF (by rw [← e]; exact h)⟩⟩, fun _ _ h => h, fun c q h => by
    rw [upd_ne fun e => ?_]
    · exact h
    · rw [e] at h
      rcases hob with ⟨xs, z⟩ | ⟨C', dx, fs, z⟩
      · rw [z] at h
        exact codeO_lst (Option.some.inj h).symm
      · rw [z] at h
        exact codeO_ins (Option.some.inj h).symm⟩
  have hk : k < C.length := (List.getElem?_eq_some_iff.mp hc).1
  refine ⟨kk, R.gk kk ⟨by rw [List.length_set]; exact R.cs.la, by rw [List.length_set]; exact R.cs.lm, fun j x h => ?_, R.cs.nd, R.cs.ap, fun b h => ?_, tabs_ext2 R.cs.tb fun b u h n1 n2 => ?_, R.cs.tf⟩ ⟨fun b xs h => kk.kp.1 b xs (R.fr.kt b xs h), fun b u h hu hb => ?_, fun b ps h => ?_, R.fr.newF, R.fr.newM⟩⟩
  · by_cases e : k = j
    · subst e
      rw [List.getElem?_set_self hk] at h
      cases h
      exact ⟨a, [a], ha, hm, new kk⟩
    · rw [List.getElem?_set_ne e] at h
      obtain ⟨a', m', h1, h2, h3⟩ := R.cs.at_ j x h
      refine ⟨a', m', h1, h2, h3.keep kk ?_⟩
      by_cases e2 : a' = a
      · cases x with
        | lst ds =>
          obtain ⟨e3, _⟩ := h3
          subst e3
          exact absurd (show a ∈ [a'] by rw [e2]; exact List.mem_singleton.mpr rfl) (flat_apart R.cs.nd hm h2 e (List.mem_singleton.mpr rfl))
        | frz ds =>
          obtain ⟨_, f, _⟩ := h3
          exact absurd (by rw [← e2]; exact f) hF
        | obj c ws =>
          obtain ⟨e3, _⟩ := h3
          subst e3
          exact absurd (show a ∈ [a'] by rw [e2]; exact List.mem_singleton.mpr rfl) (flat_apart R.cs.nd hm h2 e (List.mem_singleton.mpr rfl))
        | nil => exact .inr rfl
      · exact .inl (upd_ne e2)
  · rw [(kk.kp.2 b h).2]
    exact R.cs.lv b h
  · rw [upd_ne fun e => ?_]
    · exact h
    · rw [e] at h
      rcases hob with ⟨xs, z⟩ | ⟨C', dx, fs, z⟩
      · rw [z] at h
        exact n1 _ (Option.some.inj h).symm
      · rw [z] at h
        exact n2 _ _ _ (Option.some.inj h).symm
  · by_cases e : b = a
    · rw [e] at hb
      rcases R.fr.newM a hin with q | q
      · exact absurd q hb
      · rw [e, q] at h
        cases h
    · rw [upd_ne e]
      exact R.fr.keep b u h hu hb
  · obtain ⟨qs, h2⟩ := R.fr.tl b ps h
    refine ⟨qs, ?_⟩
    rw [upd_ne fun e => ?_]
    · exact h2
    · rw [e] at h2
      rcases hob with ⟨xs, z⟩ | ⟨C', dx, fs, z⟩ <;> rw [z] at h2 <;> cases h2
/-- a list is frozen -/
def Gh.ice (g : Gh) (k : Nat) (a : Addr) : Gh := ⟨fun b => g.F b ∨ b = a, g.as, g.ms.set k []⟩
theorem flat_set {ms : List (List Addr)} : ∀ {k : Nat} {a : Addr}, ms[k]? = some [a] → ms.flatten.Nodup → (∀ b ∈ (ms.set k []).flatten, b ∈ ms.flatten ∧ b ≠ a) ∧ (ms.set k []).flatten.Nodup := by
  induction ms with
  | nil =>
    intro k a h
    simp at h
  | cons m r ih =>
    intro k a h nd
    rw [List.flatten_cons, List.nodup_append] at nd
    cases k with
    | zero =>
      have e : m = [a] := Option.some.inj h
      subst e
      refine ⟨fun b hb => ?_, ?_⟩
      · have hb2 : b ∈ r.flatten := hb
        exact ⟨by rw [List.flatten_cons]; exact List.mem_append_right _ hb2, fun e => nd.2.2 a (List.mem_singleton.mpr rfl) b hb2 e.symm⟩
      · exact nd.2.1
    | succ k =>
      obtain ⟨h1, h2⟩ := ih (k := k) (a := a) h nd.2.1
      have hr : a ∈ r.flatten := mem_flat (k := k) h (List.mem_singleton.mpr rfl)
      refine ⟨fun b hb => ?_, ?_⟩
      · have hb2 : b ∈ m ++ (r.set k []).flatten := hb
        rw [List.flatten_cons]
        rcases List.mem_append.mp hb2 with q | q
        · exact ⟨List.mem_append_left _ q, fun e => nd.2.2 b q a hr e⟩
        · exact ⟨List.mem_append_right _ (h1 b q).1, (h1 b q).2⟩
      · show (m ++ (r.set k []).flatten).Nodup
        rw [List.nodup_append]
        exact ⟨nd.1, h2, fun x hx y hy => nd.2.2 x hx y (h1 y hy).1⟩
theorem Rel.ice {ct : Ct} {a : Addr} {k : Nat} {ds : List D} (R : Rel ct B g σ H E C) (hc : C[k]? = some (.lst ds)) (ha : g.as[k]? = some a) : Gk g H (g.ice k a) H ∧ Rel ct B (g.ice k a) σ H E (C.set k (.frz ds)) ∧ RD ct (g.ice k a).F H (.ref a) (.list ds) := by
  obtain ⟨a', m, h1, h2, e, xs, h3, h4⟩ := R.cs.at_ k _ hc
  rw [ha] at h1
  cases h1
  subst e
  have kk : Gk g H (g.ice k a) H := ⟨⟨fun _ _ h => h, fun b h => ⟨.inl h, rfl⟩⟩, fun _ _ h => h, fun _ _ h => h⟩
  have hk : k < C.length := (List.getElem?_eq_some_iff.mp hc).1
  have hkm : k < g.ms.length := (List.getElem?_eq_some_iff.mp h2).1
  obtain ⟨f1, f2⟩ := flat_set h2 R.cs.nd
  refine ⟨kk, R.gk kk ⟨by rw [List.length_set]; exact R.cs.la, by rw [List.length_set]; show (g.ms.set k []).length = _; rw [List.length_set]; exact R.cs.lm, fun j x h => ?_, f2, fun b hb h => ?_, fun b h => ?_, R.cs.tb, fun q hq h => ?_⟩ ⟨R.fr.kt, R.fr.keep, R.fr.tl, fun b h => ?_, fun b hb => R.fr.newM b (f1 b hb).1⟩, .lst (.inr rfl) h3 (RDs.mono kk.kp _ _ h4)⟩
  · by_cases e : k = j
    · subst e
      rw [List.getElem?_set_self hk] at h
      cases h
      exact ⟨a, [], ha, List.getElem?_set_self hkm, rfl, .inr rfl, xs, h3, RDs.mono kk.kp _ _ h4⟩
    · rw [List.getElem?_set_ne e] at h
      obtain ⟨a', m', q1, q2, q3⟩ := R.cs.at_ j x h
      exact ⟨a', m', q1, by show (g.ms.set k [])[j]? = some m'; rw [List.getElem?_set_ne e]; exact q2, q3.keep kk (.inl rfl)⟩
  · rcases h with h | h
    · exact R.cs.ap b (f1 b hb).1 h
    · exact (f1 b hb).2 h
  · rcases h with h | h
    · exact R.cs.lv b h
    · rw [h, h3]
      exact fun z => nomatch z
  · rcases h with h | h
    · exact R.cs.tf q hq h
    · obtain ⟨ps, e⟩ := tab_some R.cs.tb q hq
      rw [h, h3] at e
      cases e
  · rcases h with h | h
    · exact R.fr.newF b h
    · rw [h]
      rcases R.fr.newM a (mem_flat h2 (List.mem_singleton.mpr rfl)) with q | q
      · exact .inr (.inr q)
      · exact .inr (.inl q)
end
/-- the list of a value or a cell -/
def cellL : Option Cell → Option (List D)
  | some (.lst ds) => some ds
  | some (.frz ds) => some ds
  | _ => none
def rdL (C : List Cell) : W → Option (List D)
  | .val (.list ds) => some ds
  | .ref k => cellL C[k]?
  | _ => none
theorem rdL_ok {ct : Cl} {g : Gh} {H : Hp} {C : List Cell} {v : V} {w : W} {ds : List D} (c : Clz ct g H C) (r : RW ct g H v w) (h : rdL C w = some ds) : ∃ a xs, v = .ref a ∧ H a = some (.lst xs) ∧ RDs ct g.F H xs ds := by
  unfold rdL at h
  split at h
  · cases h
    cases r with
    | lst f h1 h2 => exact ⟨_, _, rfl, h1, h2⟩
  · rename_i k
    obtain ⟨a, ha, rfl⟩ := r
    unfold cellL at h
    split at h
    · rename_i ds' e
      cases h
      obtain ⟨a', m, h1, h2, e2, xs, h3, h4⟩ := c.at_ k _ e
      rw [ha] at h1
      cases h1
      exact ⟨a, xs, rfl, h3, h4⟩
    · rename_i ds' e
      cases h
      obtain ⟨a', m, h1, h2, e2, f, xs, h3, h4⟩ := c.at_ k _ e
      rw [ha] at h1
      cases h1
      exact ⟨a, xs, rfl, h3, h4⟩
    · cases h
  · cases h
class CE (ct : Ct) (tt : TE) (t : outParam DE) : Prop where run : ImE ct tt t
class CT (ct : Ct) (tt : TT) (t : outParam DT) : Prop where run : ImT ct tt t
class CA (ct : Ct) (tt : TA) (t : outParam DA) : Prop where run : ImA ct tt t
class CS (ct : Ct) (tt : TS) (t : outParam DS) : Prop where run : ImS ct tt t
abbrev F2 := W → W → List Cell → DK → Prop
abbrev FC := List W → List Cell → DK → Prop
class CR2 (ct : Ct) (r : R2) (f : outParam F2) : Prop where
  run : ∀ B g σ H E C Q v u x y (K : VK), Rel ct B g σ H E C → (∀ v H', PostE ct B g H σ E Q v H' → K v H') → RW ct g H v x → RW ct g H u y → f x y C Q → r v u H K
class CC (ct : Ct) (r : List V → Hp → VK → Prop) (f : outParam FC) : Prop where
  run : ∀ B g σ H E C Q vs ws (K : VK), Rel ct B g σ H E C → (∀ v H', PostE ct B g H σ E Q v H' → K v H') → RWs ct g H vs ws → f ws C Q → r vs H K
section
variable {ct : Ct} {B : Bs} {g : Gh} {σ : L2.St} {H : Hp} {E : Ev} {C : List Cell} {Q : DK} {K : VK}
theorem post_val {v : V} {w : W} (R : Rel ct B g σ H E C) (r : RW ct g H v w) (k : ∀ v H', PostE ct B g H σ E Q v H' → K v H') (q : Q w C) : K v H := k _ _ ⟨g, C, w, Gk.refl _ _, R, r, q⟩
theorem post_tup {p : Addr} {xs : List V} {ds : List D} (R : Rel ct B g σ H E C) (hp : H p = none) (hx : RDs ct g.F H xs ds) (kk : ∀ v H', PostE ct B g H σ E Q v H' → K v H') (q : Q (.val (.tuple ds)) C) : K (.ref p) (upd H p (.tup xs)) :=
  have k := R.new (o := .tup xs) false hp
  kk _ _ ⟨_, C, .val (.tuple ds), k.1, k.2, RD.tup upd_same (RDs.mono k.1.kp _ _ hx), q⟩
theorem post_lst {p : Addr} {xs : List V} {ds : List D} (R : Rel ct B g σ H E C) (hp : H p = none) (hx : RDs ct g.F H xs ds) (kk : ∀ v H', PostE ct B g H σ E Q v H' → K v H') (q : Q (.val (.list ds)) C) : K (.ref p) (upd H p (.lst xs)) :=
  have k := R.new (o := .lst xs) true hp
  kk _ _ ⟨_, C, .val (.list ds), k.1, k.2, RD.lst (.inr ⟨rfl, rfl⟩) upd_same (RDs.mono k.1.kp _ _ hx), q⟩
theorem PostE.back {g1 : Gh} {H1 H' : Hp} {v : V} (k : Gk g H g1 H1) (h : PostE ct B g1 H1 σ E Q v H') : PostE ct B g H σ E Q v H' := h.later k
theorem PostT.back {g1 : Gh} {H1 H' : Hp} {b : Bool} {Q : Bool → List Cell → Prop} (k : Gk g H g1 H1) (h : PostT ct B g1 H1 σ E Q b H') : PostT ct B g H σ E Q b H' := by
  obtain ⟨g', C', k', r⟩ := h
  exact ⟨g', C', k.trans k', r⟩
end
/-! ### names and constants -/
def dVar (i : Nat) : DE := fun E C Q => match E[i]? with
  | some (some w) => Q w C
  | _ => False
instance ce_var {ct : Ct} {i : Nat} : CE ct (tVar i) (dVar i) := ⟨fun B g σ H E C Q K R k h => by
  unfold dVar at h
  split at h
  · rename_i w e
    obtain ⟨v, h1, h2⟩ := R.env i w e
    exact ⟨v, h1, post_val R h2 k h⟩
  · exact h.elim⟩
/-- a name whose list is frozen from here on -/
def tVarF (i : Nat) : TE := tVar i
def dVarF (i : Nat) : DE := fun E C Q => match E[i]? with
  | some (some (.ref k)) => (match C[k]? with
    | some (.lst ds) => Q (.val (.list ds)) (C.set k (.frz ds))
    | some (.frz ds) => Q (.val (.list ds)) C
    | _ => False)
  | _ => False
instance ce_varF {ct : Ct} {i : Nat} : CE ct (tVarF i) (dVarF i) := ⟨fun B g σ H E C Q K R k h => by
  unfold dVarF at h
  split at h
  · rename_i j e
    obtain ⟨v, h1, a, h2, rfl⟩ := R.env i _ e
    refine ⟨_, h1, ?_⟩
    split at h
    · rename_i ds e2
      obtain ⟨q1, q2, q3⟩ := R.ice e2 h2
      exact k _ _ ⟨_, _, .val (.list ds), q1, q2, q3, h⟩
    · rename_i ds e2
      obtain ⟨a', m, q1, q2, q3, f, xs, q4, q5⟩ := R.cs.at_ j _ e2
      rw [h2] at q1
      cases q1
      exact post_val R (w := .val (.list ds)) (RD.lst f q4 q5) k h
    · exact h.elim
  · exact h.elim⟩
def dC (d : D) : DE := fun _ C Q => Q (.val d) C
instance ce_int {ct : Ct} {i : Int} : CE ct (tC (.int i)) (dC (.int i)) := ⟨fun B g σ H E C Q K R k h => post_val R (w := .val (.int i)) (.int i) k h⟩
instance ce_str {ct : Ct} {i : Str} : CE ct (tC (.str i)) (dC (.str i)) := ⟨fun B g σ H E C Q K R k h => post_val R (w := .val (.str i)) (.str i) k h⟩
instance ce_bl {ct : Ct} {i : Bool} : CE ct (tC (.bl i)) (dC (.bool i)) := ⟨fun B g σ H E C Q K R k h => post_val R (w := .val (.bool i)) (.bl i) k h⟩
instance ce_non {ct : Ct} : CE ct (tC .non) (dC .none) := ⟨fun B g σ H E C Q K R k h => post_val R (w := .val .none) .non k h⟩
/-! ### operators -/
def dOp (f : F2) (a b : DE) : DE := fun E C Q => a E C fun x C1 => b E C1 fun y C2 => f x y C2 Q
instance ce_op {ct : Ct} {r : R2} {f : F2} {ta tb : TE} {a b : DE} [hr : CR2 ct r f] [ha : CE ct ta a] [hb : CE ct tb b] : CE ct (tOp r ta tb) (dOp f a b) := ⟨fun B g σ H E C Q K R k h => by
  refine ha.run B g σ H E C _ _ R (fun v H1 ⟨g1, C1, x, k1, R1, r1, h1⟩ => ?_) h
  refine hb.run B g1 σ H1 E C1 _ _ R1 (fun u H2 ⟨g2, C2, y, k2, R2, r2, h2⟩ => ?_) h1
  exact hr.run B g2 σ H2 E C2 Q v u x y K R2 (fun v' H' p => k v' H' ((p.later k2).later k1)) (r1.mono k2) r2 h2⟩
def fII (h : Int → Int → D) : W → W → List Cell → DK → Prop
  | .val (.int i), .val (.int j), C, Q => Q (.val (h i j)) C
  | _, _, _, _ => False
def fIIc (c : Int → Int → Prop) (h : Int → Int → D) : W → W → List Cell → DK → Prop
  | .val (.int i), .val (.int j), C, Q => c i j ∧ Q (.val (h i j)) C
  | _, _, _, _ => False
theorem rw_int {ct : Cl} {g : Gh} {H : Hp} {v : V} {i : Int} (h : RW ct g H v (.val (.int i))) : v = .int i := by
  cases (show RD ct g.F H v (.int i) from h)
  rfl
theorem rw_str {ct : Cl} {g : Gh} {H : Hp} {v : V} {i : Str} (h : RW ct g H v (.val (.str i))) : v = .str i := by
  cases (show RD ct g.F H v (.str i) from h)
  rfl
theorem rw_bool {ct : Cl} {g : Gh} {H : Hp} {v : V} {i : Bool} (h : RW ct g H v (.val (.bool i))) : v = .bl i := by
  cases (show RD ct g.F H v (.bool i) from h)
  rfl
theorem rw_tup {ct : Cl} {g : Gh} {H : Hp} {v : V} {ds : List D} (h : RW ct g H v (.val (.tuple ds))) : ∃ a xs, v = .ref a ∧ H a = some (.tup xs) ∧ RDs ct g.F H xs ds := by
  cases (show RD ct g.F H v (.tuple ds) from h) with
  | tup h1 h2 => exact ⟨_, _, rfl, h1, h2⟩
instance cr_ii {ct : Ct} {h : Int → Int → Int} : CR2 ct (rI0 fun i j => .int (h i j)) (fII fun i j => .int (h i j)) := ⟨fun B g σ H E C Q v u x y K R k rx ry q => by
  unfold fII at q
  try dsimp only at q
  split at q
  · exact ⟨_, _, rw_int rx, rw_int ry, post_val R (w := .val (.int _)) (.int _) k q⟩
  · exact q.elim⟩
instance cr_ib {ct : Ct} {h : Int → Int → Bool} : CR2 ct (rI0 fun i j => .bl (h i j)) (fII fun i j => .bool (h i j)) := ⟨fun B g σ H E C Q v u x y K R k rx ry q => by
  unfold fII at q
  try dsimp only at q
  split at q
  · exact ⟨_, _, rw_int rx, rw_int ry, post_val R (w := .val (.bool _)) (.bl _) k q⟩
  · exact q.elim⟩
instance cr_iic {ct : Ct} {c : Int → Int → Prop} {h : Int → Int → Int} : CR2 ct (rI c fun i j => .int (h i j)) (fIIc c fun i j => .int (h i j)) := ⟨fun B g σ H E C Q v u x y K R k rx ry q => by
  unfold fIIc at q
  try dsimp only at q
  split at q
  · exact ⟨_, _, rw_int rx, rw_int ry, q.1, post_val R (w := .val (.int _)) (.int _) k q.2⟩
  · exact q.elim⟩
/-- + of ints, texts, tuples, lists -/
def rAddA (K : PySem.W.Frag) : R2 := fun x y H Q => (rI0 fun i j => .int (i + j)) x y H Q ∨ (∃ i j, x = .str i ∧ y = .str j ∧ i.length + j.length ≤ sizeLine ∧ Q (.str (i ++ j)) H) ∨ rCatA K x y H Q ∨ rCat x y H Q
theorem op_addA {X : Cx} : OpR X (binaryOp .Add) (rAddA X.K) := op_add.or (op_add_str.or (op_catA.or op_cat))
def catK : Option (List D) → Option (List D) → List Cell → DK → Prop
  | some xs, some ys, C, Q => xs.length + ys.length ≤ sizeLine ∧ Q (.val (.list (xs ++ ys))) C
  | _, _, _, _ => False
def fAdd : W → W → List Cell → DK → Prop
  | .val (.int i), .val (.int j), C, Q => Q (.val (.int (i + j))) C
  | .val (.str a), .val (.str b), C, Q => a.length + b.length ≤ sizeLine ∧ Q (.val (.str (a ++ b))) C
  | .val (.tuple a), .val (.tuple b), C, Q => a.length + b.length ≤ sizeLine ∧ Q (.val (.tuple (a ++ b))) C
  | .val (.list a), y, C, Q => catK (some a) (rdL C y) C Q
  | .ref k, y, C, Q => catK (rdL C (.ref k)) (rdL C y) C Q
  | _, _, _, _ => False
theorem catK_ok {ct : Ct} {B : Bs} {g : Gh} {σ : L2.St} {H : Hp} {E : Ev} {C : List Cell} {Q : DK} {v u : V} {x y : W} {k : VK} (R : Rel ct B g σ H E C) (kk : ∀ v H', PostE ct B g H σ E Q v H' → k v H') (rx : RW ct g H v x) (ry : RW ct g H u y) (q : catK (rdL C x) (rdL C y) C Q) : rCat v u H k := by
  unfold catK at q
  split at q
  · rename_i xs ys e1 e2
    obtain ⟨a, us, rfl, h1, h2⟩ := rdL_ok R.cs rx e1
    obtain ⟨b, ws, rfl, h3, h4⟩ := rdL_ok R.cs ry e2
    refine ⟨a, b, us, ws, rfl, rfl, h1, h3, by rw [h2.length, h4.length]; exact q.1, fun p hp => ?_⟩
    exact post_lst R hp (h2.app h4) kk q.2
  · exact q.elim
instance cr_add {ct : Ct} {K : PySem.W.Frag} : CR2 ct (rAddA K) fAdd := ⟨fun B g σ H E C Q v u x y k R kk rx ry q => by
  unfold fAdd at q
  try dsimp only at q
  split at q
  · exact .inl ⟨_, _, rw_int rx, rw_int ry, post_val R (w := .val (.int _)) (.int _) kk q⟩
  · exact .inr (.inl ⟨_, _, rw_str rx, rw_str ry, q.1, post_val R (w := .val (.str _)) (.str _) kk q.2⟩)
  · obtain ⟨a, xs, rfl, h1, h2⟩ := rw_tup rx
    obtain ⟨b, ys, rfl, h3, h4⟩ := rw_tup ry
    refine .inr (.inr (.inl ⟨a, b, xs, ys, rfl, rfl, SqT.of h1, SqT.of h3, by rw [h2.length, h4.length]; exact q.1, fun e => ?_, fun _ e => ?_, fun _ _ p hp => ?_⟩))
    · subst e
      cases h2
      exact post_val R ry kk q.2
    · subst e
      cases h4
      rw [List.append_nil] at q
      exact post_val R rx kk q.2
    · exact post_tup R hp (h2.app h4) kk q.2
  · exact .inr (.inr (.inr (catK_ok R kk rx ry q)))
  · exact .inr (.inr (.inr (catK_ok R kk rx ry q)))
  · exact q.elim⟩
/-- comparisons of ints and of texts -/
def rCmpA (f : Int → Int → Bool) (h : Str → Str → Bool) : R2 := fun x y H Q => (rI0 fun i j => .bl (f i j)) x y H Q ∨ (∃ i j, x = .str i ∧ y = .str j ∧ Q (.bl (h i j)) H)
abbrev ltS (a b : Str) : Bool := decide (a.cps.toList < b.cps.toList)
theorem op_ltA {X : Cx} : OpR X (compareOp .Lt) (rCmpA (fun i j => decide (i < j)) fun a b => ltS a b) := op_lt.or op_lt_str
theorem op_leA {X : Cx} : OpR X (compareOp .LtE) (rCmpA (fun i j => decide (i ≤ j)) fun a b => !ltS b a) := op_le.or op_le_str
theorem op_gtA {X : Cx} : OpR X (compareOp .Gt) (rCmpA (fun i j => decide (j < i)) fun a b => ltS b a) := op_gt.or op_gt_str
theorem op_geA {X : Cx} : OpR X (compareOp .GtE) (rCmpA (fun i j => decide (j ≤ i)) fun a b => !ltS a b) := op_ge.or op_ge_str
def fCmp (f : Int → Int → Bool) (h : Str → Str → Bool) : W → W → List Cell → DK → Prop
  | .val (.int i), .val (.int j), C, Q => Q (.val (.bool (f i j))) C
  | .val (.str a), .val (.str b), C, Q => Q (.val (.bool (h a b))) C
  | _, _, _, _ => False
instance cr_cmp {ct : Ct} {f : Int → Int → Bool} {h : Str → Str → Bool} : CR2 ct (rCmpA f h) (fCmp f h) := ⟨fun B g σ H E C Q v u x y k R kk rx ry q => by
  unfold fCmp at q
  try dsimp only at q
  split at q
  · exact .inl ⟨_, _, rw_int rx, rw_int ry, post_val R (w := .val (.bool _)) (.bl _) kk q⟩
  · exact .inr ⟨_, _, rw_str rx, rw_str ry, post_val R (w := .val (.bool _)) (.bl _) kk q⟩
  · exact q.elim⟩
/-- == and != of data -/
def rdV (C : List Cell) : W → Option D
  | .val d => some d
  | .ref k => (rdL C (.ref k)).map .list
  | _ => none
mutual
theorem RD.dp {ct : Cl} {F : Addr → Prop} {H : Hp} {K : PySem.W.Frag} : ∀ (d : D) (v : V), RD ct F H v d → d.canLay0 = true → Dp K H v d
  | .none, _, .non, _ => .non
  | .int _, _, .int i, _ => .int i
  | .str _, _, .str i, _ => .str i
  | .bool _, _, .bl i, _ => .bl i
  | .tuple ds, _, .tup h hs, s => .tup (SqT.of h) (RDs.dp ds _ hs s)
  | .list ds, _, .lst f h hs, s => .lst (SqL.of h) (RDs.dp ds _ hs s)
  | .dict _, _, .obj _ _ _ _ _, s => nomatch s
theorem RDs.dp {ct : Cl} {F : Addr → Prop} {H : Hp} {K : PySem.W.Frag} : ∀ (ds : List D) (vs : List V), RDs ct F H vs ds → PyData.canLayAll0 ds = true → DpAll K H vs ds
  | [], _, .nil, _ => .nil
  | d :: ds, _, .cons h hs, s => by
    have s' : (d.canLay0 && PyData.canLayAll0 ds) = true := s
    rw [Bool.and_eq_true] at s'
    exact .cons (RD.dp d _ h s'.1) (RDs.dp ds _ hs s'.2)
end
theorem rdV_ok {ct : Cl} {g : Gh} {H : Hp} {C : List Cell} {v : V} {w : W} {d : D} {K : PySem.W.Frag} (c : Clz ct g H C) (r : RW ct g H v w) (h : rdV C w = some d) (l : d.canLay0 = true) : Dp K H v d := by
  cases w with
  | val d' =>
    have e : d' = d := Option.some.inj h
    rw [e] at r
    exact RD.dp d v r l
  | ref k =>
    have h' : (rdL C (.ref k)).map PyData.list = some d := h
    cases e : rdL C (.ref k) with
    | none =>
      rw [e] at h'
      cases h'
    | some ds =>
      rw [e] at h'
      cases h'
      obtain ⟨a, xs, rfl, h1, h2⟩ := rdL_ok c r e
      exact .lst (SqL.of h1) (RDs.dp ds xs h2 l)
  | ty n => cases h
  | fn => cases h
abbrev okD (d : D) : Prop := SeqAt.shaped d = true
theorem okD.lay {d : D} (h : okD d) : d.canLay0 = true := by
  unfold okD SeqAt.shaped at h
  rw [Bool.and_eq_true] at h
  exact h.1
def eqK (f : Bool → Bool) : Option D → Option D → List Cell → DK → Prop
  | some d, some e, C, Q => okD d ∧ okD e ∧ Q (.val (.bool (f (PyData.eqv d e)))) C
  | _, _, _, _ => False
def fEqD (f : Bool → Bool) (x y : W) (C : List Cell) (Q : DK) : Prop := eqK f (rdV C x) (rdV C y) C Q
instance cr_eqD {ct : Ct} {K : PySem.W.Frag} : CR2 ct (rEqD K) (fEqD id) := ⟨fun B g σ H E C Q v u x y k R kk rx ry q => by
  unfold fEqD eqK at q
  try dsimp only at q
  split at q
  · rename_i d e h1 h2
    exact ⟨d, e, rdV_ok R.cs rx h1 (okD.lay q.1), rdV_ok R.cs ry h2 (okD.lay q.2.1), q.1, q.2.1, post_val R (w := .val (.bool _)) (.bl _) kk q.2.2⟩
  · exact q.elim⟩
instance cr_neD {ct : Ct} {K : PySem.W.Frag} : CR2 ct (rNeD K) (fEqD not) := ⟨fun B g σ H E C Q v u x y k R kk rx ry q => by
  unfold fEqD eqK at q
  try dsimp only at q
  split at q
  · rename_i d e h1 h2
    exact ⟨d, e, rdV_ok R.cs rx h1 (okD.lay q.1), rdV_ok R.cs ry h2 (okD.lay q.2.1), q.1, q.2.1, post_val R (w := .val (.bool _)) (.bl _) kk q.2.2⟩
  · exact q.elim⟩
/-- is None, is not None -/
def isNon : W → Bool
  | .val .none => true
  | _ => false
theorem isNon_ok {ct : Cl} {g : Gh} {H : Hp} {v : V} {w : W} (r : RW ct g H v w) : decide (v = .non) = isNon w := by
  cases w with
  | val d =>
    cases (show RD ct g.F H v d from r) <;> first | rfl | exact decide_eq_false (fun z => nomatch z)
  | ref k =>
    obtain ⟨a, _, rfl⟩ := r
    exact decide_eq_false (fun z => nomatch z)
  | ty n =>
    cases (show v = .ty n from r)
    exact decide_eq_false (fun z => nomatch z)
  | fn f c q F0 H0 =>
    obtain ⟨rfl, _⟩ := r
    exact decide_eq_false (fun z => nomatch z)
def rIsN (f : Bool → Bool) : R2 := fun x y H Q => y = .non ∧ Q (.bl (f (decide (x = .non)))) H
theorem op_isNA {X : Cx} : OpR X (compareOp .Is) (rIsN id) := op_isN
theorem op_notNA {X : Cx} : OpR X (compareOp .IsNot) (rIsN not) := op_notN
def fIsN (f : Bool → Bool) : W → W → List Cell → DK → Prop
  | x, .val .none, C, Q => Q (.val (.bool (f (isNon x)))) C
  | _, _, _, _ => False
instance cr_isN {ct : Ct} {f : Bool → Bool} : CR2 ct (rIsN f) (fIsN f) := ⟨fun B g σ H E C Q v u x y k R kk rx ry q => by
  unfold fIsN at q
  try dsimp only at q
  split at q
  · cases (show RD ct g.F H u .none from ry)
    refine ⟨rfl, ?_⟩
    rw [isNon_ok rx]
    exact post_val R (w := .val (.bool _)) (.bl _) kk q
  · exact q.elim⟩
/-! ### tests -/
def bK (Q : Bool → List Cell → Prop) : W → List Cell → Prop
  | .val (.bool b), C1 => Q b C1
  | _, _ => False
def dB (a : DE) : DT := fun E C Q => a E C (bK Q)
theorem bl_of {ct : Cl} {g : Gh} {H : Hp} {v : V} {b : Bool} (h : RW ct g H v (.val (.bool b))) : v = .bl b := rw_bool h
instance ct_b {ct : Ct} {t : TE} {a : DE} [h : CE ct t a] : CT ct (tB t) (dB a) := ⟨fun B g σ H E C Q K R k q => by
  refine h.run B g σ H E C _ _ R (fun v H1 ⟨g1, C1, x, k1, R1, r1, q1⟩ => ?_) q
  unfold bK at q1
  split at q1
  · exact ⟨_, rw_bool r1, k _ _ ⟨g1, C1, k1, R1, q1⟩⟩
  · exact q1.elim⟩
instance ct_test {ct : Ct} {t : TE} {a : DE} [h : CE ct t a] : CT ct (tTest t) (dB a) := ⟨fun B g σ H E C Q K R k q => by
  refine h.run B g σ H E C _ _ R (fun v H1 ⟨g1, C1, x, k1, R1, r1, q1⟩ => ?_) q
  unfold bK at q1
  split at q1
  · exact ⟨_, rw_bool r1, k _ _ ⟨g1, C1, k1, R1, q1⟩⟩
  · exact q1.elim⟩
def dAnd (a b : DT) : DT := fun E C Q => a E C fun c C1 => if c = true then b E C1 Q else Q false C1
def dOr (a b : DT) : DT := fun E C Q => a E C fun c C1 => if c = true then Q true C1 else b E C1 Q
def dNot (a : DT) : DT := fun E C Q => a E C fun c C1 => Q (!c) C1
instance ct_and {ct : Ct} {t u : TT} {a b : DT} [ha : CT ct t a] [hb : CT ct u b] : CT ct (tAnd t u) (dAnd a b) := ⟨fun B g σ H E C Q K R k q => by
  refine ha.run B g σ H E C _ _ R (fun c H1 ⟨g1, C1, k1, R1, q1⟩ => ?_) q
  cases c with
  | true => exact iteT (hb.run B g1 σ H1 E C1 _ _ R1 (fun v H' p => k v H' (p.back k1)) q1)
  | false => exact iteF (k _ _ ⟨g1, C1, k1, R1, q1⟩)⟩
instance ct_or {ct : Ct} {t u : TT} {a b : DT} [ha : CT ct t a] [hb : CT ct u b] : CT ct (tOr t u) (dOr a b) := ⟨fun B g σ H E C Q K R k q => by
  refine ha.run B g σ H E C _ _ R (fun c H1 ⟨g1, C1, k1, R1, q1⟩ => ?_) q
  cases c with
  | true => exact iteT (k _ _ ⟨g1, C1, k1, R1, q1⟩)
  | false => exact iteF (hb.run B g1 σ H1 E C1 _ _ R1 (fun v H' p => k v H' (p.back k1)) q1)⟩
instance ct_not {ct : Ct} {t : TT} {a : DT} [ha : CT ct t a] : CT ct (tNot t) (dNot a) := ⟨fun B g σ H E C Q K R k q =>
  ha.run B g σ H E C _ _ R (fun c H1 ⟨g1, C1, k1, R1, q1⟩ => k _ _ ⟨g1, C1, k1, R1, q1⟩) q⟩
/-- truth -/
def tTruA (K : PySem.W.Frag) (ta : TE) : TT := fun σ H Q => ta σ H fun x H' => ∃ k, TruV K x H' k ∧ Q k H'
theorem pt_truA {X : Cx} {a : Expr} {ta : TE} (ha : PE X a ta) (he : ∀ whole, isTrue a X.env whole = (do let v ← whole; standAt a.pos; holding [v] (truthy v)) := by intro _; rfl) : PT X a (tTruA X.K ta) := pt_truth ha he
def truL (Q : Bool → List Cell → Prop) : Option (List D) → List Cell → Prop
  | some ds, C1 => Q (!ds.isEmpty) C1
  | none, _ => False
def truK (Q : Bool → List Cell → Prop) : W → List Cell → Prop
  | .val (.bool b), C1 => Q b C1
  | .val (.int i), C1 => Q (i != 0) C1
  | .val (.tuple ds), C1 => Q (!ds.isEmpty) C1
  | .val .none, C1 => Q false C1
  | .val (.list ds), C1 => Q (!ds.isEmpty) C1
  | .ref k, C1 => truL Q (cellL C1[k]?) C1
  | _, _ => False
def dTru (a : DE) : DT := fun E C Q => a E C (truK Q)
theorem empty_eq {ct : Cl} {F : Addr → Prop} {H : Hp} {xs : List V} {ds : List D} (h : RDs ct F H xs ds) : xs.isEmpty = ds.isEmpty := by
  cases h <;> rfl
instance ct_tru {ct : Ct} {K : PySem.W.Frag} {t : TE} {a : DE} [h : CE ct t a] : CT ct (tTruA K t) (dTru a) := ⟨fun B g σ H E C Q K R k q => by
  refine h.run B g σ H E C _ _ R (fun v H1 ⟨g1, C1, x, k1, R1, r1, q1⟩ => ?_) q
  unfold truK at q1
  split at q1
  · exact ⟨_, by rw [rw_bool r1]; exact rfl, k _ _ ⟨g1, C1, k1, R1, q1⟩⟩
  · exact ⟨_, by rw [rw_int r1]; exact rfl, k _ _ ⟨g1, C1, k1, R1, q1⟩⟩
  · obtain ⟨a, xs, rfl, h1, h2⟩ := rw_tup r1
    exact ⟨_, .inr (.inl ⟨xs, SqT.of h1, by rw [empty_eq h2]⟩), k _ _ ⟨g1, C1, k1, R1, q1⟩⟩
  · cases (show RD ct g1.F H1 v .none from r1)
    exact ⟨_, rfl, k _ _ ⟨g1, C1, k1, R1, q1⟩⟩
  · obtain ⟨a, xs, rfl, h1, h2⟩ := rdL_ok R1.cs r1 rfl
    exact ⟨_, .inl ⟨xs, SqL.of h1, by rw [empty_eq h2]⟩, k _ _ ⟨g1, _, k1, R1, q1⟩⟩
  · unfold truL at q1
    split at q1
    · rename_i ds e
      obtain ⟨a, xs, rfl, h1, h2⟩ := rdL_ok R1.cs r1 e
      exact ⟨_, .inl ⟨xs, SqL.of h1, by rw [empty_eq h2]⟩, k _ _ ⟨g1, _, k1, R1, q1⟩⟩
    · exact q1.elim
  · exact q1.elim⟩
/-! ### values by truth -/
def dIf (c : DT) (a b : DE) : DE := fun E C Q => c E C fun x C1 => if x = true then a E C1 Q else b E C1 Q
instance ce_if {ct : Ct} {tc : TT} {ta tb : TE} {c : DT} {a b : DE} [hc : CT ct tc c] [ha : CE ct ta a] [hb : CE ct tb b] : CE ct (tIf tc ta tb) (dIf c a b) := ⟨fun B g σ H E C Q K R k q => by
  refine hc.run B g σ H E C _ _ R (fun c H1 ⟨g1, C1, k1, R1, q1⟩ => ?_) q
  cases c with
  | true => exact iteT (ha.run B g1 σ H1 E C1 _ _ R1 (fun v H' p => k v H' (p.back k1)) q1)
  | false => exact iteF (hb.run B g1 σ H1 E C1 _ _ R1 (fun v H' p => k v H' (p.back k1)) q1)⟩
def dAndV (a b : DE) : DE := fun E C Q => a E C (bK fun c C1 => if c = true then b E C1 Q else Q (.val (.bool false)) C1)
def dOrV (a b : DE) : DE := fun E C Q => a E C (bK fun c C1 => if c = true then Q (.val (.bool true)) C1 else b E C1 Q)
def dNotV (a : DE) : DE := fun E C Q => a E C (bK fun c C1 => Q (.val (.bool (!c))) C1)
instance ce_andV {ct : Ct} {ta tb : TE} {a b : DE} [ha : CE ct ta a] [hb : CE ct tb b] : CE ct (tAndV ta tb) (dAndV a b) := ⟨fun B g σ H E C Q K R k q => by
  refine ha.run B g σ H E C _ _ R (fun v H1 ⟨g1, C1, x, k1, R1, r1, q1⟩ => ?_) q
  unfold bK at q1
  split at q1
  · rename_i c
    refine ⟨c, rw_bool r1, ?_⟩
    cases c with
    | true => exact iteT (hb.run B g1 σ H1 E C1 _ _ R1 (fun v H' p => k v H' (p.back k1)) q1)
    | false => exact iteF (k _ _ ⟨g1, C1, .val (.bool false), k1, R1, RD.bl _, q1⟩)
  · exact q1.elim⟩
instance ce_orV {ct : Ct} {ta tb : TE} {a b : DE} [ha : CE ct ta a] [hb : CE ct tb b] : CE ct (tOrV ta tb) (dOrV a b) := ⟨fun B g σ H E C Q K R k q => by
  refine ha.run B g σ H E C _ _ R (fun v H1 ⟨g1, C1, x, k1, R1, r1, q1⟩ => ?_) q
  unfold bK at q1
  split at q1
  · rename_i c
    refine ⟨c, rw_bool r1, ?_⟩
    cases c with
    | true => exact iteT (k _ _ ⟨g1, C1, .val (.bool true), k1, R1, RD.bl _, q1⟩)
    | false => exact iteF (hb.run B g1 σ H1 E C1 _ _ R1 (fun v H' p => k v H' (p.back k1)) q1)
  · exact q1.elim⟩
instance ce_notV {ct : Ct} {ta : TE} {a : DE} [ha : CE ct ta a] : CE ct (tNotV ta) (dNotV a) := ⟨fun B g σ H E C Q K R k q => by
  refine ha.run B g σ H E C _ _ R (fun v H1 ⟨g1, C1, x, k1, R1, r1, q1⟩ => ?_) q
  unfold bK at q1
  split at q1
  · exact ⟨_, rw_bool r1, k _ _ ⟨g1, C1, .val (.bool _), k1, R1, RD.bl _, q1⟩⟩
  · exact q1.elim⟩
def dChain (f h : F2) (a b c : DE) : DE := fun E C Q => a E C fun x C1 => b E C1 fun y C2 => f x y C2 (bK fun k C3 => if k = true then c E C3 fun w C4 => h y w C4 Q else Q (.val (.bool false)) C3)
instance ce_chain {ct : Ct} {r r' : R2} {f h : F2} {ta tb tc : TE} {a b c : DE} [hr : CR2 ct r f] [hr' : CR2 ct r' h] [ha : CE ct ta a] [hb : CE ct tb b] [hc : CE ct tc c] : CE ct (tChain r r' ta tb tc) (dChain f h a b c) := ⟨fun B g σ H E C Q K R k q => by
  refine ha.run B g σ H E C _ _ R (fun v H1 ⟨g1, C1, x, k1, R1, r1, q1⟩ => ?_) q
  refine hb.run B g1 σ H1 E C1 _ _ R1 (fun u H2 ⟨g2, C2, y, k2, R2, r2, q2⟩ => ?_) q1
  refine hr.run B g2 σ H2 E C2 _ v u x y _ R2 (fun z H3 ⟨g3, C3, zw, k3, R3, r3, q3⟩ => ?_) (r1.mono k2) r2 q2
  unfold bK at q3
  split at q3
  · rename_i kb
    refine ⟨kb, rw_bool r3, ?_⟩
    cases kb with
    | true =>
      refine iteT (hc.run B g3 σ H3 E C3 _ _ R3 (fun w' H4 ⟨g4, C4, w4, k4, R4, r4, q4⟩ => ?_) q3)
      exact hr'.run B g4 σ H4 E C4 Q u w' y w4 K R4 (fun v' H' p => k v' H' ((((p.back k4).back k3).back k2).back k1)) ((r2.mono k3).mono k4) r4 q4
    | false => exact iteF (k _ _ ⟨g3, C3, .val (.bool false), (k1.trans k2).trans k3, R3, RD.bl _, q3⟩)
  · exact q3.elim⟩
/-! ### argument lists, displays -/
def dNil : DA := fun _ C Q => Q [] C
def dCons (a : DE) (r : DA) : DA := fun E C Q => a E C fun x C1 => r E C1 fun xs C2 => Q (x :: xs) C2
instance ca_nil {ct : Ct} : CA ct tNil dNil := ⟨fun B g σ H E C Q K R k q => k _ _ ⟨g, C, [], Gk.refl _ _, R, .nil, q⟩⟩
instance ca_cons {ct : Ct} {ta : TE} {tr : TA} {a : DE} {r : DA} [ha : CE ct ta a] [hr : CA ct tr r] : CA ct (tCons ta tr) (dCons a r) := ⟨fun B g σ H E C Q K R k q => by
  refine ha.run B g σ H E C _ _ R (fun v H1 ⟨g1, C1, x, k1, R1, r1, q1⟩ => ?_) q
  refine hr.run B g1 σ H1 E C1 _ _ R1 (fun vs H2 ⟨g2, C2, xs, k2, R2, r2, q2⟩ => ?_) q1
  exact k _ _ ⟨g2, C2, x :: xs, k1.trans k2, R2, .cons (r1.mono k2) r2, q2⟩⟩
/-- all are data -/
def vals : List W → Option (List D)
  | [] => some []
  | .val d :: ws => (vals ws).map (d :: ·)
  | _ :: _ => none
theorem vals_ok {ct : Cl} {g : Gh} {H : Hp} : ∀ {vs : List V} {ws : List W} {ds : List D}, RWs ct g H vs ws → vals ws = some ds → RDs ct g.F H vs ds
  | _, _, _, .nil, h => by
    cases h
    exact .nil
  | _, _, _, .cons (b := .val d) (l₂ := ws) r rs, h => by
    have h' : (vals ws).map (d :: ·) = some _ := h
    cases e : vals ws with
    | none =>
      rw [e] at h'
      cases h'
    | some es =>
      rw [e] at h'
      cases h'
      exact .cons r (vals_ok rs e)
  | _, _, _, .cons (b := .ref k) r rs, h => nomatch h
  | _, _, _, .cons (b := .ty k) r rs, h => nomatch h
  | _, _, _, .cons (b := .fn ..) r rs, h => nomatch h
def dispK (f : List D → D) (Q : DK) : Option (List D) → List Cell → Prop
  | some ds, C1 => ds.length ≤ sizeLine ∧ Q (.val (f ds)) C1
  | none, _ => False
def dTup (a : DA) : DE := fun E C Q => a E C fun ws C1 => dispK .tuple Q (vals ws) C1
instance ce_tup {ct : Ct} {t : TA} {a : DA} [h : CA ct t a] : CE ct (tTup t) (dTup a) := ⟨fun B g σ H E C Q K R k q => by
  refine h.run B g σ H E C _ _ R (fun vs H1 ⟨g1, C1, ws, k1, R1, r1, q1⟩ => ?_) q
  unfold dispK at q1
  dsimp only at q1
  split at q1
  · rename_i ds e
    have hd := vals_ok r1 e
    refine ⟨by rw [hd.length]; exact q1.1, fun p hp => ?_⟩
    exact post_tup R1 hp hd (fun v H' p => k v H' (p.back k1)) q1.2
  · exact q1.elim⟩
def dLst (a : DA) : DE := fun E C Q => a E C fun ws C1 => dispK .list Q (vals ws) C1
instance ce_lst {ct : Ct} {t : TA} {a : DA} [h : CA ct t a] : CE ct (tLst t) (dLst a) := ⟨fun B g σ H E C Q K R k q => by
  refine h.run B g σ H E C _ _ R (fun vs H1 ⟨g1, C1, ws, k1, R1, r1, q1⟩ => ?_) q
  unfold dispK at q1
  dsimp only at q1
  split at q1
  · rename_i ds e
    have hd := vals_ok r1 e
    refine ⟨by rw [hd.length]; exact q1.1, fun p hp => ?_⟩
    exact post_lst R1 hp hd (fun v H' p => k v H' (p.back k1)) q1.2
  · exact q1.elim⟩
/-! ### index -/
theorem atI_ex {α β : Type} {xs : List α} {ds : List β} {i : Int} {d : β} (hl : xs.length = ds.length) (h : atI ds i = some d) : ∃ (j : Nat) (v : α), atI xs i = some v ∧ xs[j]? = some v ∧ ds[j]? = some d := by
  unfold atI at h ⊢
  rw [hl]
  cases e : ixN ds.length i with
  | none =>
    rw [e] at h
    cases h
  | some j =>
    rw [e] at h
    have h2 : ds[j]? = some d := h
    have hj : j < xs.length := by rw [hl]; exact (List.getElem?_eq_some_iff.mp h2).1
    exact ⟨j, xs[j], List.getElem?_eq_getElem hj, List.getElem?_eq_getElem hj, h2⟩
theorem RDs.atI {ct : Cl} {F : Addr → Prop} {H : Hp} {xs : List V} {ds : List D} (h : RDs ct F H xs ds) {i : Int} {d : D} (e : L2.atI ds i = some d) : ∃ v, L2.atI xs i = some v ∧ RD ct F H v d := by
  obtain ⟨j, v, h1, h2, h3⟩ := atI_ex h.length e
  obtain ⟨v', h4, h5⟩ := h.get j d h3
  rw [h2] at h4
  cases h4
  exact ⟨v, h1, h5⟩
def ixK (Q : DK) : Option D → List Cell → Prop
  | some d, C => Q (.val d) C
  | none, _ => False
def ixS (Q : DK) : Option Nat → List Cell → Prop
  | some c, C => Q (.val (.str ⟨#[c]⟩)) C
  | none, _ => False
def ixL (Q : DK) (i : Int) : Option (List D) → List Cell → Prop
  | some ds, C => ixK Q (atI ds i) C
  | none, _ => False
def fIx : W → W → List Cell → DK → Prop
  | .val (.tuple ds), .val (.int i), C, Q => ixK Q (atI ds i) C
  | .val (.str z), .val (.int i), C, Q => z.length ≤ sizeLine ∧ ixS Q (atI z.cps.toList i) C
  | .val (.list ds), .val (.int i), C, Q => ixK Q (atI ds i) C
  | .ref k, .val (.int i), C, Q => ixL Q i (cellL C[k]?) C
  | _, _, _, _ => False
theorem ixK_ok {ct : Ct} {B : Bs} {g : Gh} {σ : L2.St} {H : Hp} {E : Ev} {C : List Cell} {Q : DK} {k : VK} {ds : List D} {i : Int} {xs : List V} (R : Rel ct B g σ H E C) (kk : ∀ v H', PostE ct B g H σ E Q v H' → k v H') (r : RDs ct g.F H xs ds) (q : ixK Q (atI ds i) C) : ∃ v, atI xs i = some v ∧ k v H := by
  unfold ixK at q
  split at q
  · rename_i d e
    obtain ⟨v, h3, h4⟩ := r.atI e
    exact ⟨v, h3, post_val R (w := .val d) h4 kk q⟩
  · exact q.elim
instance cr_ix {ct : Ct} {K : PySem.W.Frag} : CR2 ct (rIx K) fIx := ⟨fun B g σ H E C Q v u x y k R kk rx ry q => by
  unfold fIx at q
  split at q
  · obtain ⟨a, xs, rfl, h1, h2⟩ := rw_tup rx
    obtain ⟨v', h3, h4⟩ := ixK_ok R kk h2 q
    exact .inr (.inl ⟨a, xs, _, v', rfl, rw_int ry, SqT.of h1, h3, h4⟩)
  · obtain ⟨hz, q⟩ := q
    unfold ixS at q
    split at q
    · rename_i c e
      exact .inr (.inr ⟨_, _, c, rw_str rx, rw_int ry, hz, e, post_val R (w := .val (.str _)) (.str _) kk q⟩)
    · exact q.elim
  · obtain ⟨a, xs, rfl, h1, h2⟩ := rdL_ok R.cs rx rfl
    obtain ⟨v', h3, h4⟩ := ixK_ok R kk h2 q
    exact .inl ⟨a, xs, _, v', rfl, rw_int ry, SqL.of h1, h3, h4⟩
  · unfold ixL at q
    split at q
    · rename_i ds e
      obtain ⟨a, xs, rfl, h1, h2⟩ := rdL_ok R.cs rx e
      obtain ⟨v', h3, h4⟩ := ixK_ok R kk h2 q
      exact .inl ⟨a, xs, _, v', rfl, rw_int ry, SqL.of h1, h3, h4⟩
    · exact q.elim
  · exact q.elim⟩
/-! ### slices -/
abbrev DO := Ev → List Cell → (Option Int → List Cell → Prop) → Prop
def PostO (ct : Ct) (B : Bs) (g : Gh) (H : Hp) (σ : L2.St) (E : Ev) (Q : Option Int → List Cell → Prop) : Option Int → Hp → Prop := fun b H' => ∃ g' C', Gk g H g' H' ∧ Rel ct B g' σ H' E C' ∧ Q b C'
class CO (ct : Ct) (tt : TO) (t : outParam DO) : Prop where
  run : ∀ B g σ H E C Q (K : Option Int → Hp → Prop), Rel ct B g σ H E C → (∀ v H', PostO ct B g H σ E Q v H' → K v H') → t E C Q → tt σ H K
def dNoPart : DO := fun _ C Q => Q none C
def partK (Q : Option Int → List Cell → Prop) : W → List Cell → Prop
  | .val (.int i), C1 => Q (some i) C1
  | _, _ => False
def dPart (a : DE) : DO := fun E C Q => a E C (partK Q)
instance co_none {ct : Ct} : CO ct tNoPart dNoPart := ⟨fun B g σ H E C Q K R k q => k _ _ ⟨g, C, Gk.refl _ _, R, q⟩⟩
instance co_part {ct : Ct} {t : TE} {a : DE} [h : CE ct t a] : CO ct (tPart t) (dPart a) := ⟨fun B g σ H E C Q K R k q => by
  refine h.run B g σ H E C _ _ R (fun v H1 ⟨g1, C1, x, k1, R1, r1, q1⟩ => ?_) q
  unfold partK at q1
  split at q1
  · exact ⟨_, rw_int r1, k _ _ ⟨g1, _, k1, R1, q1⟩⟩
  · exact q1.elim⟩
def cutL {α : Type} (xs : List α) (lo hi : Option Int) : List α := (xs.drop (HT.sIx xs.length 0 lo)).take (HT.sIx xs.length xs.length hi - HT.sIx xs.length 0 lo)
theorem RDs.cut {ct : Cl} {F : Addr → Prop} {H : Hp} {xs : List V} {ds : List D} (h : RDs ct F H xs ds) (lo hi : Option Int) : RDs ct F H (cutV xs lo hi) (cutL ds lo hi) := by
  unfold cutV cutL
  rw [h.length]
  exact (h.drop _).take _
theorem cutL_full {α : Type} {xs : List α} {lo hi : Option Int} (h : HT.sIx xs.length 0 lo = 0 ∧ HT.sIx xs.length xs.length hi = xs.length) : cutL xs lo hi = xs := by
  unfold cutL
  rw [h.1, h.2, List.drop_zero, Nat.sub_zero, List.take_length]
def rSlN (K : PySem.W.Frag) : V → Option Int → Option Int → Hp → VK → Prop := fun x lo hi H Q => rSlL K x lo hi H Q ∨ rSlA K x lo hi H Q ∨ C8.rSlX x lo hi H Q
theorem sl_any {X : Cx} : SlR X (rSlN X.K) := sl_list.or (sl_tupA.or C8.sl_txt)
def slL (lo hi : Option Int) (Q : DK) : Option (List D) → List Cell → Prop
  | some ds, C => Q (.val (.list (cutL ds lo hi))) C
  | none, _ => False
def slK (lo hi : Option Int) (Q : DK) : W → List Cell → Prop
  | .val (.tuple ds), C => Q (.val (.tuple (cutL ds lo hi))) C
  | .val (.str z), C => z.length ≤ sizeLine ∧ Q (.val (.str (Txt.slice z lo hi))) C
  | .val (.list ds), C => Q (.val (.list (cutL ds lo hi))) C
  | .ref k, C => slL lo hi Q (cellL C[k]?) C
  | _, _ => False
def dSl (a : DE) (l h : DO) : DE := fun E C Q => a E C fun x C1 => l E C1 fun lo C2 => h E C2 fun hi C3 => slK lo hi Q x C3
instance ce_sl {ct : Ct} {K : PySem.W.Frag} {t : TE} {tl th : TO} {a : DE} {l h : DO} [ha : CE ct t a] [hl : CO ct tl l] [hh : CO ct th h] : CE ct (tSl (rSlN K) t tl th) (dSl a l h) := ⟨fun B g σ H E C Q K' R k q => by
  refine ha.run B g σ H E C _ _ R (fun v H1 ⟨g1, C1, x, k1, R1, r1, q1⟩ => ?_) q
  refine hl.run B g1 σ H1 E C1 _ _ R1 (fun lo H2 ⟨g2, C2, k2, R2, q2⟩ => ?_) q1
  refine hh.run B g2 σ H2 E C2 _ _ R2 (fun hi H3 ⟨g3, C3, k3, R3, q3⟩ => ?_) q2
  have k23 := k2.trans k3
  have r3 := r1.mono k23
  have kk : ∀ v' H', PostE ct B g3 H3 σ E Q v' H' → K' v' H' := fun v' H' p => k v' H' (p.back (k1.trans k23))
  unfold slK at q3
  dsimp only at q3
  split at q3
  · obtain ⟨b, xs, rfl, h1, h2⟩ := rw_tup r3
    refine .inr (.inl ⟨b, xs, rfl, SqT.of h1, fun z => ?_, fun _ p hp => post_tup R3 hp (h2.cut lo hi) kk q3⟩)
    rw [h2.length] at z
    rw [cutL_full z] at q3
    exact post_val R3 r3 kk q3
  · exact .inr (.inr ⟨_, rw_str r3, q3.1, post_val R3 (w := .val (.str _)) (.str _) kk q3.2⟩)
  · obtain ⟨b, xs, rfl, h1, h2⟩ := rdL_ok R3.cs r3 rfl
    exact .inl ⟨b, xs, rfl, SqL.of h1, fun p hp => post_lst R3 hp (h2.cut lo hi) kk q3⟩
  · unfold slL at q3
    split at q3
    · rename_i ds e
      obtain ⟨b, xs, rfl, h1, h2⟩ := rdL_ok R3.cs r3 e
      exact .inl ⟨b, xs, rfl, SqL.of h1, fun p hp => post_lst R3 hp (h2.cut lo hi) kk q3⟩
    · exact q3.elim
  · exact q3.elim⟩
/-! ### built-in functions -/
def dCB (f : FC) (a : DA) : DE := fun E C Q => a E C fun ws C1 => f ws C1 Q
instance ce_cb {ct : Ct} {r : List V → Hp → VK → Prop} {f : FC} {t : TA} {a : DA} [hr : CC ct r f] [ha : CA ct t a] : CE ct (tCB r t) (dCB f a) := ⟨fun B g σ H E C Q K R k q => by
  refine ha.run B g σ H E C _ _ R (fun vs H1 ⟨g1, C1, ws, k1, R1, r1, q1⟩ => ?_) q
  exact hr.run B g1 σ H1 E C1 Q vs ws K R1 (fun v H' p => k v H' (p.back k1)) r1 q1⟩
theorem rws1 {ct : Cl} {g : Gh} {H : Hp} {vs : List V} {w : W} (h : RWs ct g H vs [w]) : ∃ v, vs = [v] ∧ RW ct g H v w := by
  cases h with
  | cons r rs =>
    cases rs
    exact ⟨_, rfl, r⟩
theorem rws2 {ct : Cl} {g : Gh} {H : Hp} {vs : List V} {w u : W} (h : RWs ct g H vs [w, u]) : ∃ v x, vs = [v, x] ∧ RW ct g H v w ∧ RW ct g H x u := by
  cases h with
  | cons r rs =>
    obtain ⟨x, rfl, h2⟩ := rws1 rs
    exact ⟨_, _, rfl, r, h2⟩
def rLenA (K : PySem.W.Frag) : List V → Hp → VK → Prop := fun xs H Q => (∃ p ys, xs = [.ref p] ∧ (SqL K H p ys ∨ SqT K H p ys) ∧ Q (.int ys.length) H) ∨ (∃ z, xs = [.str z] ∧ z.length ≤ sizeLine ∧ Q (.int z.length) H)
theorem call_lenA {X : Cx} : CallR X (.builtin "len") (rLenA X.K) := call_len_seq.or call_len_str
def lenLK (Q : DK) : Option (List D) → List Cell → Prop
  | some ds, C => Q (.val (.int ds.length)) C
  | none, _ => False
def fLen : List W → List Cell → DK → Prop
  | [.val (.tuple ds)], C, Q => Q (.val (.int ds.length)) C
  | [.val (.str z)], C, Q => z.length ≤ sizeLine ∧ Q (.val (.int z.length)) C
  | [.val (.list ds)], C, Q => Q (.val (.int ds.length)) C
  | [.ref k], C, Q => lenLK Q (cellL C[k]?) C
  | _, _, _ => False
instance cc_len {ct : Ct} {K : PySem.W.Frag} : CC ct (rLenA K) fLen := ⟨fun B g σ H E C Q vs ws K' R k r q => by
  unfold fLen at q
  split at q
  · obtain ⟨v, rfl, r1⟩ := rws1 r
    obtain ⟨a, xs, rfl, h1, h2⟩ := rw_tup r1
    refine .inl ⟨a, xs, rfl, .inr (SqT.of h1), ?_⟩
    rw [h2.length]
    exact post_val R (w := .val (.int _)) (.int _) k q
  · obtain ⟨v, rfl, r1⟩ := rws1 r
    exact .inr ⟨_, by rw [rw_str r1], q.1, post_val R (w := .val (.int _)) (.int _) k q.2⟩
  · obtain ⟨v, rfl, r1⟩ := rws1 r
    obtain ⟨a, xs, rfl, h1, h2⟩ := rdL_ok R.cs r1 rfl
    refine .inl ⟨a, xs, rfl, .inl (SqL.of h1), ?_⟩
    rw [h2.length]
    exact post_val R (w := .val (.int _)) (.int _) k q
  · obtain ⟨v, rfl, r1⟩ := rws1 r
    unfold lenLK at q
    split at q
    · rename_i ds e
      obtain ⟨a, xs, rfl, h1, h2⟩ := rdL_ok R.cs r1 e
      refine .inl ⟨a, xs, rfl, .inl (SqL.of h1), ?_⟩
      rw [h2.length]
      exact post_val R (w := .val (.int _)) (.int _) k q
    · exact q.elim
  · exact q.elim⟩
def rIntA : List V → Hp → VK → Prop := fun xs H Q => (∃ i, xs = [.int i] ∧ Q (.int i) H) ∨ ∃ k, xs = [.bl k] ∧ Q (.int (if k then 1 else 0)) H
theorem call_intA {X : Cx} : CallR X (.type "int") rIntA := call_int1
def fInt : List W → List Cell → DK → Prop
  | [.val (.int i)], C, Q => Q (.val (.int i)) C
  | [.val (.bool b)], C, Q => Q (.val (.int (if b then 1 else 0))) C
  | _, _, _ => False
instance cc_int {ct : Ct} : CC ct rIntA fInt := ⟨fun B g σ H E C Q vs ws K' R k r q => by
  unfold fInt at q
  split at q
  · obtain ⟨v, rfl, r1⟩ := rws1 r
    exact .inl ⟨_, by rw [rw_int r1], post_val R (w := .val (.int _)) (.int _) k q⟩
  · obtain ⟨v, rfl, r1⟩ := rws1 r
    exact .inr ⟨_, by rw [rw_bool r1], post_val R (w := .val (.int _)) (.int _) k q⟩
  · exact q.elim⟩
def rListA (K : PySem.W.Frag) : List V → Hp → VK → Prop := fun xs H Q => ∃ p ys, xs = [.ref p] ∧ (SqL K H p ys ∨ SqT K H p ys) ∧ ∀ l, H l = none → Q (.ref l) (upd H l (.lst ys))
theorem call_listA {X : Cx} : CallR X (.type "list") (rListA X.K) := call_list_of
/-- the items of a list or a tuple -/
def rdS (C : List Cell) : W → Option (List D)
  | .val (.tuple ds) => some ds
  | .val (.list ds) => some ds
  | .ref k => cellL C[k]?
  | _ => none
theorem rdS_ok {ct : Cl} {g : Gh} {H : Hp} {C : List Cell} {v : V} {w : W} {ds : List D} {K : PySem.W.Frag} (c : Clz ct g H C) (r : RW ct g H v w) (h : rdS C w = some ds) : ∃ a xs, v = .ref a ∧ (SqL K H a xs ∨ SqT K H a xs) ∧ RDs ct g.F H xs ds := by
  unfold rdS at h
  split at h
  · cases h
    obtain ⟨a, xs, rfl, h1, h2⟩ := rw_tup r
    exact ⟨a, xs, rfl, .inr (SqT.of h1), h2⟩
  · obtain ⟨a, xs, rfl, h1, h2⟩ := rdL_ok c r h
    exact ⟨a, xs, rfl, .inl (SqL.of h1), h2⟩
  · obtain ⟨a, xs, rfl, h1, h2⟩ := rdL_ok c r h
    exact ⟨a, xs, rfl, .inl (SqL.of h1), h2⟩
  · cases h
def mkL (f : List D → D) (Q : DK) : Option (List D) → List Cell → Prop
  | some ds, C => Q (.val (f ds)) C
  | none, _ => False
def fList : List W → List Cell → DK → Prop
  | [x], C, Q => mkL .list Q (rdS C x) C
  | _, _, _ => False
instance cc_list {ct : Ct} {K : PySem.W.Frag} : CC ct (rListA K) fList := ⟨fun B g σ H E C Q vs ws K' R k r q => by
  unfold fList at q
  split at q
  · obtain ⟨v, rfl, r1⟩ := rws1 r
    unfold mkL at q
    split at q
    · rename_i ds e
      obtain ⟨a, xs, rfl, h1, h2⟩ := rdS_ok (K := K) R.cs r1 e
      exact ⟨a, xs, rfl, h1, fun l hl => post_lst R hl h2 k q⟩
    · exact q.elim
  · exact q.elim⟩
def rTupA (K : PySem.W.Frag) : List V → Hp → VK → Prop := fun xs H Q => ∃ p ys, xs = [.ref p] ∧ ((SqL K H p ys ∧ ∀ l, H l = none → Q (.ref l) (upd H l (.tup ys))) ∨ (SqT K H p ys ∧ Q (.ref p) H))
theorem call_tupA {X : Cx} : CallR X (.type "tuple") (rTupA X.K) := call_tuple_of
def fTup : List W → List Cell → DK → Prop
  | [x], C, Q => mkL .tuple Q (rdL C x) C
  | _, _, _ => False
instance cc_tup {ct : Ct} {K : PySem.W.Frag} : CC ct (rTupA K) fTup := ⟨fun B g σ H E C Q vs ws K' R k r q => by
  unfold fTup at q
  split at q
  · obtain ⟨v, rfl, r1⟩ := rws1 r
    unfold mkL at q
    split at q
    · rename_i ds e
      obtain ⟨a, xs, rfl, h1, h2⟩ := rdL_ok R.cs r1 e
      exact ⟨a, xs, rfl, .inl ⟨SqL.of h1, fun l hl => post_tup R hl h2 k q⟩⟩
    · exact q.elim
  · exact q.elim⟩
def rOrd : List V → Hp → VK → Prop := fun xs H Q => ∃ x, xs = [.str x] ∧ x.length = 1 ∧ Q (.int (x.cps.getD 0 0 : Nat)) H
theorem call_ordA {X : Cx} : CallR X (.builtin "ord") rOrd := call_ord
def fOrd : List W → List Cell → DK → Prop
  | [.val (.str x)], C, Q => x.length = 1 ∧ Q (.val (.int (x.cps.getD 0 0 : Nat))) C
  | _, _, _ => False
instance cc_ord {ct : Ct} : CC ct rOrd fOrd := ⟨fun B g σ H E C Q vs ws K' R k r q => by
  unfold fOrd at q
  split at q
  · obtain ⟨v, rfl, r1⟩ := rws1 r
    exact ⟨_, by rw [rw_str r1], q.1, post_val R (w := .val (.int _)) (.int _) k q.2⟩
  · exact q.elim⟩
theorem RDs.ints_eq {ct : Cl} {F : Addr → Prop} {H : Hp} : ∀ {xs : List V} {ns : List Int}, RDs ct F H xs (ns.map .int) → xs = ns.map V.int
  | _, [], h => by
    cases h
    rfl
  | _, n :: ns, h => by
    cases h with
    | cons h1 h2 =>
      cases h1
      rw [RDs.ints_eq h2]
      rfl
theorem RDs.bls_eq {ct : Cl} {F : Addr → Prop} {H : Hp} : ∀ {xs : List V} {ns : List Bool}, RDs ct F H xs (ns.map .bool) → xs = ns.map V.bl
  | _, [], h => by
    cases h
    rfl
  | _, n :: ns, h => by
    cases h with
    | cons h1 h2 =>
      cases h1
      rw [RDs.bls_eq h2]
      rfl
def fSum : FC := fun ws C Q => ∃ (x : W) (ns : List Int), ws = [x] ∧ rdL C x = some (ns.map PyData.int) ∧ Q (.val (.int ns.sum)) C
instance cc_sum {ct : Ct} {K : PySem.W.Frag} : CC ct (rSum K) fSum := ⟨fun B g σ H E C Q vs ws K' R k r q => by
  obtain ⟨x, ns, rfl, e, q⟩ := q
  obtain ⟨v, rfl, r1⟩ := rws1 r
  obtain ⟨a, xs, rfl, h1, h2⟩ := rdL_ok R.cs r1 e
  rw [h2.ints_eq] at h1
  exact ⟨a, ns, rfl, SqL.of h1, post_val R (w := .val (.int _)) (.int _) k q⟩⟩
def fAll : FC := fun ws C Q => ∃ (x : W) (bs : List Bool), ws = [x] ∧ rdL C x = some (bs.map PyData.bool) ∧ Q (.val (.bool (bs.all id))) C
instance cc_all {ct : Ct} {K : PySem.W.Frag} : CC ct (rAll K) fAll := ⟨fun B g σ H E C Q vs ws K' R k r q => by
  obtain ⟨x, ns, rfl, e, q⟩ := q
  obtain ⟨v, rfl, r1⟩ := rws1 r
  obtain ⟨a, xs, rfl, h1, h2⟩ := rdL_ok R.cs r1 e
  rw [h2.bls_eq] at h1
  exact ⟨a, ns, rfl, SqL.of h1, post_val R (w := .val (.bool _)) (.bl _) k q⟩⟩
/-- isinstance -/
def tyD (C : List Cell) : W → Option String
  | .val .none => some "NoneType"
  | .val (.bool _) => some "bool"
  | .val (.int _) => some "int"
  | .val (.str _) => some "str"
  | .val (.tuple _) => some "tuple"
  | .val (.list _) => some "list"
  | _ => none
theorem tyD_ok {ct : Cl} {g : Gh} {H : Hp} {C : List Cell} {v : V} {w : W} {t : String} {K : PySem.W.Frag} (r : RW ct g H v w) (h : tyD C w = some t) : TyX K H v (.type t) := by
  unfold tyD at h
  split at h
  · cases h
    cases (show RD ct g.F H v .none from r)
    exact .base .non
  · cases h
    rw [rw_bool r]
    exact .base (.bl _)
  · cases h
    rw [rw_int r]
    exact .base (.int _)
  · cases h
    rw [rw_str r]
    exact .base (.str _)
  · cases h
    obtain ⟨a, xs, rfl, h1, h2⟩ := rw_tup r
    exact .base (.tup h1)
  · cases h
    cases (show RD ct g.F H v (.list _) from r) with
    | lst f h1 h2 => exact .base (.lst h1)
  · cases h
def isiB (Q : DK) : Option Bool → List Cell → Prop
  | some b, C => Q (.val (.bool b)) C
  | none, _ => False
def isiK (n : String) (Q : DK) : Option String → List Cell → Prop
  | some t, C => isiB Q (kitB t n) C
  | none, _ => False
def fIsi : List W → List Cell → DK → Prop
  | [x, .ty n], C, Q => isiK n Q (tyD C x) C
  | _, _, _ => False
instance cc_isi {ct : Ct} {K : PySem.W.Frag} : CC ct (rIsi K) fIsi := ⟨fun B g σ H E C Q vs ws K' R k r q => by
  unfold fIsi at q
  split at q
  · obtain ⟨v, x, rfl, r1, r2⟩ := rws2 r
    unfold isiK at q
    split at q
    · rename_i t e
      unfold isiB at q
      split at q
      · rename_i b e2
        exact ⟨v, x, .type t, _, b, rfl, by rw [show x = .ty _ from r2]; exact .ty _, tyD_ok r1 e, kit_ty e2, post_val R (w := .val (.bool _)) (.bl _) k q⟩
      · exact q.elim
    · exact q.elim
  · exact q.elim⟩
instance ce_ty {ct : Ct} {n : String} : CE ct (tC (.ty n)) (fun E C Q => Q (.ty n) C) := ⟨fun B g σ H E C Q K R k h => post_val R (w := .ty n) rfl k h⟩
theorem kb1 : kitB "int" "int" = some true := by decide +kernel
theorem kb2 : kitB "bool" "int" = some true := by decide +kernel
theorem kb3 : kitB "str" "int" = some false := by decide +kernel
theorem kb4 : kitB "tuple" "int" = some false := by decide +kernel
theorem kb5 : kitB "list" "int" = some false := by decide +kernel
theorem kb6 : kitB "NoneType" "int" = some false := by decide +kernel
theorem kb7 : kitB "int" "bool" = some false := by decide +kernel
theorem kb8 : kitB "bool" "bool" = some true := by decide +kernel
theorem kb9 : kitB "str" "bool" = some false := by decide +kernel
theorem kb10 : kitB "tuple" "bool" = some false := by decide +kernel
theorem kb11 : kitB "list" "bool" = some false := by decide +kernel
theorem kb12 : kitB "NoneType" "bool" = some false := by decide +kernel
theorem kb13 : kitB "int" "str" = some false := by decide +kernel
theorem kb14 : kitB "bool" "str" = some false := by decide +kernel
theorem kb15 : kitB "str" "str" = some true := by decide +kernel
theorem kb16 : kitB "tuple" "str" = some false := by decide +kernel
theorem kb17 : kitB "list" "str" = some false := by decide +kernel
theorem kb18 : kitB "NoneType" "str" = some false := by decide +kernel
theorem kb19 : kitB "int" "tuple" = some false := by decide +kernel
theorem kb20 : kitB "bool" "tuple" = some false := by decide +kernel
theorem kb21 : kitB "str" "tuple" = some false := by decide +kernel
theorem kb22 : kitB "tuple" "tuple" = some true := by decide +kernel
theorem kb23 : kitB "list" "tuple" = some false := by decide +kernel
theorem kb24 : kitB "NoneType" "tuple" = some false := by decide +kernel
/-! ### another base -/
abbrev Bs.of (g : Gh) (H : Hp) : Bs := ⟨g, H⟩
theorem Fr0.self (g : Gh) (H : Hp) : Fr0 (Bs.of g H) g H := ⟨fun _ _ h => h, fun _ _ h _ _ => h, fun _ ps h => ⟨ps, h⟩, fun _ h => .inl h, fun _ h => .inl h⟩
theorem Fr0.comp {B : Bs} {g g' : Gh} {H H' : Hp} (f : Fr0 B g H) (f' : Fr0 (Bs.of g H) g' H') : Fr0 B g' H' := by
  have fresh : ∀ a, H a = none → B.H a = none ∨ a ∈ B.M := fun a h => f.fresh h
  refine ⟨fun a xs h => f'.kt a xs (f.kt a xs h), fun a o h hu hm => ?_, fun a ps h => ?_, fun a h => ?_, fun a h => ?_⟩
  · refine f'.keep a o (f.keep a o h hu hm) hu fun hin => ?_
    rcases f.newM a hin with q | q
    · exact hm q
    · rw [q] at h
      cases h
  · obtain ⟨qs, h2⟩ := f.tl a ps h
    exact f'.tl a qs h2
  · rcases f'.newF a h with q | q | q
    · exact f.newF a q
    · exact .inr (fresh a q)
    · exact .inr ((f.newM a q).symm)
  · rcases f'.newM a h with q | q
    · exact f.newM a q
    · exact (fresh a q).symm
theorem Rel.self {ct : Ct} {B : Bs} {g : Gh} {σ : L2.St} {H : Hp} {E : Ev} {C : List Cell} (R : Rel ct B g σ H E C) : Rel ct (Bs.of g H) g σ H E C := ⟨R.env, R.len, R.cs, Fr0.self g H, Gk.refl _ _, fun g' H' C' cls d c ds k f => R.xo g' H' C' cls d c ds (R.gg.trans k) (R.fr.comp f)⟩
/-! ### sequences that are walked -/
def iSeqA (K : PySem.W.Frag) (tl : TE) : TI := fun σ H R => tl σ H fun x H1 => (∃ a, x = .ref a ∧ (∃ xs, SqL K H1 a xs) ∧ R (Itl K a) H1) ∨ (∃ a, x = .ref a ∧ (∃ xs, SqT K H1 a xs) ∧ R (Itt K a) H1) ∨ (∃ z, x = .str z ∧ R (Its z) H1)
theorem pi_seqA {X : Cx} {tg l : Expr} {tl : TE} (hl : PE X l tl) : PI X tg l (iSeqA X.K tl) := by
  refine ⟨fun pins s σ H R I h => ?_⟩
  refine thn (hl.run pins s σ H _ I h) fun v s1 ⟨x, H1, I1, r1, q1⟩ => ?_
  rcases q1 with ⟨a, e, ⟨xs, hq⟩, q⟩ | ⟨a, e, ⟨xs, hq⟩, q⟩ | ⟨z, e, q⟩
  · subst e
    cases r1
    obtain ⟨its, rv, p, hz⟩ := I1.list hq
    refine wpAny_pyIter_list p.isList ?_
    refine ⟨s1.heap.objs.size, [s1.heap.objs.size], _, _, H1, rfl, I1.kept (t' := s1.toks) fun b o e => Heap.get?_push_of_some _ e, turn_list a _, ⟨_, Heap.get?_push_size _ rfl, rfl, rfl⟩, fun b hb => ?_, q⟩
    have e : b = s1.heap.objs.size := by simpa using hb
    subst e
    exact I1.fpOk (Nat.le_refl _) (I1.hok.fresh (Nat.le_refl _))
  · subst e
    cases r1
    obtain ⟨its, rv, p, hz⟩ := I1.tuple hq
    refine wpAny_pyIter_tuple (show s1.heap.IsTuple a its.toArray from p) ?_
    refine ⟨s1.heap.objs.size, [s1.heap.objs.size], _, _, H1, rfl, I1.kept (t' := s1.toks) fun b o e => Heap.get?_push_of_some _ e, turn_tuple a _, ⟨_, Heap.get?_push_size _ rfl, rfl, rfl⟩, fun b hb => ?_, q⟩
    have e : b = s1.heap.objs.size := by simpa using hb
    subst e
    exact I1.fpOk (Nat.le_refl _) (I1.hok.fresh (Nat.le_refl _))
  · subst e
    obtain ⟨t, rfl⟩ := r1
    cases ha : z.cps.all (· < 128)
    · exact wpAny_pyIter_wide ha (pi_one (tk := s1.toks) I1 _ (turn_str _ z t "str_iterator" (.inr rfl)) ⟨_, Heap.get?_push_size _ rfl, rfl, rfl⟩ q)
    · exact wpAny_pyIter_ascii ha (pi_one (tk := s1.toks) I1 _ (turn_str _ z t "str_ascii_iterator" (.inl rfl)) ⟨_, Heap.get?_push_size _ rfl, rfl, rfl⟩ q)
/-- the walk gives the data, one after the other, whatever else goes on -/
structure IterOk (ct : Cl) (J : It) (g : Gh) (H : Hp) (ds : List D) : Prop where
  go : ∀ g' H', Gk g H g' H' → ∀ i, i < ds.length → J.go i H'
  stop : ∀ g' H', Gk g H g' H' → J.stop ds.length H'
  yld : ∀ g' H', Gk g H g' H' → ∀ i x H'' d, ds[i]? = some d → J.yld i H' x H'' → (H'' = H' ∨ ∃ T xs, H' T = none ∧ H'' = upd H' T (.tup xs)) ∧ ∀ g'', Gk g' H' g'' H'' → RD ct g''.F H'' x d
abbrev DI := Ev → List Cell → (List D → List Cell → Prop) → Prop
class CI (ct : Ct) (wi : TI) (t : outParam DI) : Prop where
  run : ∀ B g σ H E C Q (K : It → Hp → Prop), Rel ct B g σ H E C → (∀ J H' g' C' ds, Gk g H g' H' → Rel ct B g' σ H' E C' → IterOk ct J g' H' ds → Q ds C' → K J H') → t E C Q → wi σ H K
theorem iter_list {ct : Cl} {K : PySem.W.Frag} {g : Gh} {H : Hp} {a : Addr} {xs : List V} {ds : List D} (f : g.F a) (h : H a = some (.lst xs)) (r : RDs ct g.F H xs ds) : IterOk ct (Itl K a) g H ds := by
  have at_ : ∀ g' H', Gk g H g' H' → SqL K H' a xs := fun g' H' k => SqL.of ((k.kp.2 a f).2.trans h)
  refine ⟨fun g' H' k i hi => walk_list.goes i H' (by rw [r.length]; exact hi) (at_ g' H' k), fun g' H' k => ?_, fun g' H' k i x H'' d hd y => ?_⟩
  · have q := walk_list.stops H' (at_ g' H' k)
    rw [r.length] at q
    exact q
  · obtain ⟨v, hv, rv⟩ := r.get i d hd
    obtain ⟨e, hx⟩ := walk_list.yields i H' x H'' (List.getElem?_eq_some_iff.mp hv).1 (at_ g' H' k) y
    rw [hv] at hx
    cases hx
    exact ⟨.inl e, fun g'' k' => RD.mono (k.trans k').kp _ _ rv⟩
theorem iter_tup {ct : Cl} {K : PySem.W.Frag} {g : Gh} {H : Hp} {a : Addr} {xs : List V} {ds : List D} (h : H a = some (.tup xs)) (r : RDs ct g.F H xs ds) : IterOk ct (Itt K a) g H ds := by
  have at_ : ∀ g' H', Gk g H g' H' → SqT K H' a xs := fun g' H' k => SqT.of (k.kp.1 a xs h)
  refine ⟨fun g' H' k i hi => walk_tup.goes i H' (by rw [r.length]; exact hi) (at_ g' H' k), fun g' H' k => ?_, fun g' H' k i x H'' d hd y => ?_⟩
  · have q := walk_tup.stops H' (at_ g' H' k)
    rw [r.length] at q
    exact q
  · obtain ⟨v, hv, rv⟩ := r.get i d hd
    obtain ⟨e, hx⟩ := walk_tup.yields i H' x H'' (List.getElem?_eq_some_iff.mp hv).1 (at_ g' H' k) y
    rw [hv] at hx
    cases hx
    exact ⟨.inl e, fun g'' k' => RD.mono (k.trans k').kp _ _ rv⟩
def chars (z : Str) : List D := z.cps.toList.map fun c => .str ⟨#[c]⟩
theorem chars_len (z : Str) : (chars z).length = z.cps.size := by
  unfold chars
  rw [List.length_map, Array.length_toList]
theorem iter_str {ct : Cl} {g : Gh} {H : Hp} {z : Str} : IterOk ct (Its z) g H (chars z) := by
  refine ⟨fun g' H' k i hi => walk_str.goes i H' (by rw [← chars_len]; exact hi) True.intro, fun g' H' k => ?_, fun g' H' k i x H'' d hd y => ?_⟩
  · rw [chars_len]
    exact walk_str.stops H' True.intro
  · have hi : i < z.cps.size := by
      rw [← chars_len]
      exact (List.getElem?_eq_some_iff.mp hd).1
    obtain ⟨e, c, hc, rfl⟩ := walk_str.yields i H' x H'' hi True.intro y
    unfold chars at hd
    rw [List.getElem?_map, Array.getElem?_toList, hc] at hd
    cases hd
    exact ⟨.inl e, fun _ _ => .str _⟩
/-- the items of what a value or a cell holds; a list is frozen then -/
def frzK (k : Nat) (Q : List D → List Cell → Prop) : Option Cell → List Cell → Prop
  | some (.lst ds), C => Q ds (C.set k (.frz ds))
  | some (.frz ds), C => Q ds C
  | _, _ => False
def seqK (Q : List D → List Cell → Prop) : W → List Cell → Prop
  | .val (.list ds), C => Q ds C
  | .val (.tuple ds), C => Q ds C
  | .val (.str z), C => Q (chars z) C
  | .ref k, C => frzK k Q C[k]? C
  | _, _ => False
def dSeq (a : DE) : DI := fun E C Q => a E C (seqK Q)
instance ci_seq {ct : Ct} {K : PySem.W.Frag} {t : TE} {a : DE} [h : CE ct t a] : CI ct (iSeqA K t) (dSeq a) := ⟨fun B g σ H E C Q K' R k q => by
  refine h.run B g σ H E C _ _ R (fun v H1 ⟨g1, C1, x, k1, R1, r1, q1⟩ => ?_) q
  unfold seqK at q1
  split at q1
  · rename_i ds
    cases (show RD ct g1.F H1 v (.list ds) from r1) with
    | lst f h1 h2 => exact .inl ⟨_, rfl, ⟨_, SqL.of h1⟩, k _ _ g1 C1 ds k1 R1 (iter_list f h1 h2) q1⟩
  · rename_i ds
    obtain ⟨a, xs, rfl, h1, h2⟩ := rw_tup r1
    exact .inr (.inl ⟨_, rfl, ⟨_, SqT.of h1⟩, k _ _ g1 C1 ds k1 R1 (iter_tup h1 h2) q1⟩)
  · exact .inr (.inr ⟨_, rw_str r1, k _ _ g1 C1 _ k1 R1 iter_str q1⟩)
  · rename_i j
    obtain ⟨a, ha, rfl⟩ := r1
    unfold frzK at q1
    split at q1
    · rename_i ds e
      obtain ⟨k2, R2, r2⟩ := R1.ice e ha
      cases r2 with
      | lst f h1 h2 => exact .inl ⟨_, rfl, ⟨_, SqL.of h1⟩, k _ _ _ _ ds (k1.trans k2) R2 (iter_list f h1 h2) q1⟩
    · rename_i ds e
      obtain ⟨a', m, q2, q3, q4, f, xs, h1, h2⟩ := R1.cs.at_ j _ e
      rw [ha] at q2
      cases q2
      exact .inl ⟨_, rfl, ⟨_, SqL.of h1⟩, k _ _ g1 _ ds k1 R1 (iter_list f h1 h2) q1⟩
    · exact q1.elim
  · exact q1.elim⟩
/-- ranges -/
def rangeD (lo : Int) (n : Nat) : List D := (List.range n).map fun i => .int (lo + (i : Nat))
theorem iter_range {ct : Cl} {g : Gh} {H : Hp} {lo : Int} {n : Nat} : IterOk ct (Itr lo n) g H (rangeD lo n) := by
  have hl : (rangeD lo n).length = n := by
    unfold rangeD
    rw [List.length_map, List.length_range]
  refine ⟨fun g' H' k i hi => walk_range.goes i H' (by rw [← hl]; exact hi) True.intro, fun g' H' k => ?_, fun g' H' k i x H'' d hd y => ?_⟩
  · rw [hl]
    exact walk_range.stops H' True.intro
  · have hi : i < n := by
      rw [← hl]
      exact (List.getElem?_eq_some_iff.mp hd).1
    obtain ⟨e, rfl⟩ := walk_range.yields i H' x H'' hi True.intro y
    unfold rangeD at hd
    rw [List.getElem?_map, List.getElem?_range hi] at hd
    cases hd
    exact ⟨.inl e, fun _ _ => .int _⟩
def rng1K (Q : List D → List Cell → Prop) : List W → List Cell → Prop
  | [.val (.int j)], C1 => -(2 ^ 62) ≤ j ∧ j < 2 ^ 62 ∧ Q (rangeD 0 j.toNat) C1
  | _, _ => False
def dRng1 (a : DA) : DI := fun E C Q => a E C (rng1K Q)
instance ci_rng1 {ct : Ct} {t : TA} {a : DA} [h : CA ct t a] : CI ct (iRng1 t) (dRng1 a) := ⟨fun B g σ H E C Q K' R k q => by
  refine h.run B g σ H E C _ _ R (fun v H1 ⟨g1, C1, x, k1, R1, r1, q1⟩ => ?_) q
  unfold rng1K at q1
  split at q1
  · rename_i j
    obtain ⟨u, rfl, r2⟩ := rws1 r1
    exact ⟨j, by rw [rw_int r2], q1.1, q1.2.1, k _ _ g1 C1 _ k1 R1 iter_range q1.2.2⟩
  · exact q1.elim⟩
def rng2K (Q : List D → List Cell → Prop) : List W → List Cell → Prop
  | [.val (.int i), .val (.int j)], C1 => (-(2 ^ 62) ≤ i ∧ i < 2 ^ 62 ∧ -(2 ^ 62) ≤ j ∧ j < 2 ^ 62) ∧ Q (rangeD i (j - i).toNat) C1
  | _, _ => False
def dRng2 (a : DA) : DI := fun E C Q => a E C (rng2K Q)
instance ci_rng2 {ct : Ct} {t : TA} {a : DA} [h : CA ct t a] : CI ct (iRng2 t) (dRng2 a) := ⟨fun B g σ H E C Q K' R k q => by
  refine h.run B g σ H E C _ _ R (fun v H1 ⟨g1, C1, x, k1, R1, r1, q1⟩ => ?_) q
  unfold rng2K at q1
  split at q1
  · obtain ⟨u, u2, rfl, r2, r3⟩ := rws2 r1
    exact ⟨_, _, by rw [rw_int r2, rw_int r3], q1.1, k _ _ g1 C1 _ k1 R1 iter_range q1.2⟩
  · exact q1.elim⟩
/-- reversed, of a list that is frozen -/
theorem iter_rev {ct : Cl} {K : PySem.W.Frag} {g : Gh} {H : Hp} {a : Addr} {xs : List V} {ds : List D} (f : g.F a) (h : H a = some (.lst xs)) (r : RDs ct g.F H xs ds) : IterOk ct (Itv K a xs.length) g H ds.reverse := by
  have at_ : ∀ g' H', Gk g H g' H' → SqL K H' a xs := fun g' H' k => SqL.of ((k.kp.2 a f).2.trans h)
  refine ⟨fun g' H' k i hi => walk_rev.goes i H' (by rw [r.length, ← List.length_reverse]; exact hi) (at_ g' H' k), fun g' H' k => ?_, fun g' H' k i x H'' d hd y => ?_⟩
  · have q := walk_rev.stops H' (at_ g' H' k)
    rw [List.length_reverse, ← r.length]
    exact q
  · have hi : i < ds.length := by
      rw [← List.length_reverse]
      exact (List.getElem?_eq_some_iff.mp hd).1
    obtain ⟨e, hx⟩ := walk_rev.yields i H' x H'' (by rw [r.length]; exact hi) (at_ g' H' k) y
    rw [List.getElem?_reverse hi] at hd
    obtain ⟨v, hv, rv⟩ := r.get _ d hd
    rw [r.length, hv] at hx
    cases hx
    exact ⟨.inl e, fun g'' k' => RD.mono (k.trans k').kp _ _ rv⟩
def lstK (Q : List D → List Cell → Prop) : W → List Cell → Prop
  | .val (.list ds), C => Q ds C
  | .ref k, C => frzK k Q C[k]? C
  | _, _ => False
theorem lstK_ok {ct : Ct} {B : Bs} {g : Gh} {σ : L2.St} {H : Hp} {E : Ev} {C : List Cell} {Q : List D → List Cell → Prop} {v : V} {w : W} (R : Rel ct B g σ H E C) (r : RW ct g H v w) (q : lstK Q w C) :
    ∃ g' C' a xs ds, Gk g H g' H ∧ Rel ct B g' σ H E C' ∧ v = .ref a ∧ g'.F a ∧ H a = some (.lst xs) ∧ RDs ct g'.F H xs ds ∧ Q ds C' := by
  unfold lstK at q
  split at q
  · rename_i ds
    cases (show RD ct g.F H v (.list ds) from r) with
    | lst f h1 h2 => exact ⟨g, C, _, _, ds, Gk.refl _ _, R, rfl, f, h1, h2, q⟩
  · rename_i j
    obtain ⟨a, ha, rfl⟩ := r
    unfold frzK at q
    split at q
    · rename_i ds e
      obtain ⟨k2, R2, r2⟩ := R.ice e ha
      cases r2 with
      | lst f h1 h2 => exact ⟨_, _, _, _, ds, k2, R2, rfl, f, h1, h2, q⟩
    · rename_i ds e
      obtain ⟨a', m, q2, q3, q4, f, xs, h1, h2⟩ := R.cs.at_ j _ e
      rw [ha] at q2
      cases q2
      exact ⟨g, _, _, _, ds, Gk.refl _ _, R, rfl, f, h1, h2, q⟩
    · exact q.elim
  · exact q.elim
def lst1K (Q : List D → List Cell → Prop) : List W → List Cell → Prop
  | [x], C1 => lstK Q x C1
  | _, _ => False
def dRev (a : DA) : DI := fun E C Q => a E C (lst1K fun ds C2 => Q ds.reverse C2)
instance ci_rev {ct : Ct} {K : PySem.W.Frag} {t : TA} {a : DA} [h : CA ct t a] : CI ct (iRev K t) (dRev a) := ⟨fun B g σ H E C Q K' R k q => by
  refine h.run B g σ H E C _ _ R (fun v H1 ⟨g1, C1, x, k1, R1, r1, q1⟩ => ?_) q
  unfold lst1K at q1
  split at q1
  · obtain ⟨u, rfl, r2⟩ := rws1 r1
    obtain ⟨g2, C2, b, xs, ds, k2, R2, rfl, f, h1, h2, q2⟩ := lstK_ok R1 r2 q1
    exact ⟨b, xs, rfl, SqL.of h1, k _ _ g2 C2 _ (k1.trans k2) R2 (iter_rev f h1 h2) q2⟩
  · exact q1.elim⟩
theorem iter_enum {ct : Cl} {K : PySem.W.Frag} {g : Gh} {H : Hp} {a : Addr} {xs : List V} {ds : List D} (f : g.F a) (h : H a = some (.lst xs)) (r : RDs ct g.F H xs ds) : IterOk ct (Ite K a) g H (ds.zipIdx.map fun p => .tuple [.int (p.2 : Nat), p.1]) := by
  have at_ : ∀ g' H', Gk g H g' H' → SqL K H' a xs := fun g' H' k => SqL.of ((k.kp.2 a f).2.trans h)
  have hl : (ds.zipIdx.map fun p => PyData.tuple [.int (p.2 : Nat), p.1]).length = xs.length := by rw [List.length_map, List.length_zipIdx, r.length]
  refine ⟨fun g' H' k i hi => walk_enum.goes i H' (by rw [← hl]; exact hi) (at_ g' H' k), fun g' H' k => ?_, fun g' H' k i x H'' d hd y => ?_⟩
  · rw [hl]
    exact walk_enum.stops H' (at_ g' H' k)
  · have hi : i < xs.length := by
      rw [← hl]
      exact (List.getElem?_eq_some_iff.mp hd).1
    obtain ⟨T, u, v, rfl, hT, rfl, e1, e2⟩ := walk_enum.yields i H' x H'' hi (at_ g' H' k) y
    cases e1
    obtain ⟨d', hd', rd'⟩ := r.get' i v e2
    rw [List.getElem?_map, List.getElem?_zipIdx, hd'] at hd
    simp only [Option.map_some, Nat.zero_add] at hd
    cases hd
    exact ⟨.inr ⟨T, _, hT, rfl⟩, fun g'' k' => .tup upd_same (.cons (.int _) (.cons (RD.mono (k.trans k').kp _ _ rd') .nil))⟩
def enumD (ds : List D) : List D := ds.zipIdx.map fun p => .tuple [.int (p.2 : Nat), p.1]
def dEnum (a : DA) : DI := fun E C Q => a E C (lst1K fun ds C2 => Q (enumD ds) C2)
instance ci_enum {ct : Ct} {K : PySem.W.Frag} {t : TA} {a : DA} [h : CA ct t a] : CI ct (iEnum K t) (dEnum a) := ⟨fun B g σ H E C Q K' R k q => by
  refine h.run B g σ H E C _ _ R (fun v H1 ⟨g1, C1, x, k1, R1, r1, q1⟩ => ?_) q
  unfold lst1K at q1
  split at q1
  · obtain ⟨u, rfl, r2⟩ := rws1 r1
    obtain ⟨g2, C2, b, xs, ds, k2, R2, rfl, f, h1, h2, q2⟩ := lstK_ok R1 r2 q1
    exact ⟨b, xs, rfl, SqL.of h1, k _ _ g2 C2 _ (k1.trans k2) R2 (iter_enum f h1 h2) q2⟩
  · exact q1.elim⟩
def zipD (ds es : List D) : List D := List.zipWith (fun d e => .tuple [d, e]) ds es
theorem iter_zip {ct : Cl} {K : PySem.W.Frag} {g : Gh} {H : Hp} {a b : Addr} {xs ys : List V} {ds es : List D} (f : g.F a) (h : H a = some (.lst xs)) (r : RDs ct g.F H xs ds) (f' : g.F b) (h' : H b = some (.lst ys)) (r' : RDs ct g.F H ys es) :
    IterOk ct (Itz K a b) g H (zipD ds es) := by
  have at_ : ∀ g' H', Gk g H g' H' → SqL K H' a xs ∧ SqL K H' b ys := fun g' H' k => ⟨SqL.of ((k.kp.2 a f).2.trans h), SqL.of ((k.kp.2 b f').2.trans h')⟩
  have hl : (zipD ds es).length = min xs.length ys.length := by
    unfold zipD
    rw [List.length_zipWith, r.length, r'.length]
  refine ⟨fun g' H' k i hi => (walk_zip rfl).goes i H' (by rw [← hl]; exact hi) (at_ g' H' k), fun g' H' k => ?_, fun g' H' k i x H'' d hd y => ?_⟩
  · rw [hl]
    exact (walk_zip rfl).stops H' (at_ g' H' k)
  · have hi : i < min xs.length ys.length := by
      rw [← hl]
      exact (List.getElem?_eq_some_iff.mp hd).1
    obtain ⟨T, u, v, rfl, hT, rfl, e1, e2⟩ := (walk_zip rfl).yields i H' x H'' hi (at_ g' H' k) y
    obtain ⟨d1, hd1, rd1⟩ := r.get' i u e1
    obtain ⟨d2, hd2, rd2⟩ := r'.get' i v e2
    unfold zipD at hd
    rw [List.getElem?_zipWith, hd1, hd2] at hd
    cases hd
    exact ⟨.inr ⟨T, _, hT, rfl⟩, fun g'' k' => .tup upd_same (.cons (RD.mono (k.trans k').kp _ _ rd1) (.cons (RD.mono (k.trans k').kp _ _ rd2) .nil))⟩
def zipK (Q : List D → List Cell → Prop) : List W → List Cell → Prop
  | [x, y], C1 => lstK (fun ds C2 => lstK (fun es C3 => Q (zipD ds es) C3) y C2) x C1
  | _, _ => False
def dZip (a : DA) : DI := fun E C Q => a E C (zipK Q)
instance ci_zip {ct : Ct} {K : PySem.W.Frag} {t : TA} {a : DA} [h : CA ct t a] : CI ct (iZip K t) (dZip a) := ⟨fun B g σ H E C Q K' R k q => by
  refine h.run B g σ H E C _ _ R (fun v H1 ⟨g1, C1, x, k1, R1, r1, q1⟩ => ?_) q
  unfold zipK at q1
  split at q1
  · obtain ⟨u, u2, rfl, r2, r3⟩ := rws2 r1
    obtain ⟨g2, C2, b, xs, ds, k2, R2, rfl, f, h1, h2, q2⟩ := lstK_ok R1 r2 q1
    obtain ⟨g3, C3, b', ys, es, k3, R3, rfl, f', h1', h2', q3⟩ := lstK_ok R2 (r3.mono k2) q2
    exact ⟨b, b', xs, ys, rfl, SqL.of h1, SqL.of h1', k _ _ g3 C3 _ ((k1.trans k2).trans k3) R3 (iter_zip (k3.kp.2 b f).1 h1 (RDs.mono k3.kp _ _ h2) f' h1' h2') q3⟩
  · exact q1.elim⟩
/-! ### targets -/
abbrev DG := W → Ev → List Cell → (Ev → List Cell → Prop) → Prop
abbrev DGs := List W → Ev → List Cell → (Ev → List Cell → Prop) → Prop
def PostG (ct : Ct) (B : Bs) (g : Gh) (H : Hp) (Q : Ev → List Cell → Prop) : L2.St → Hp → Prop := fun σ' H' => ∃ g' E' C', Gk g H g' H' ∧ Rel ct B g' σ' H' E' C' ∧ Q E' C'
class CG (ct : Ct) (gt : TG) (h : outParam DG) : Prop where
  run : ∀ B g σ H E C v w Q (K : L2.St → Hp → Prop), Rel ct B g σ H E C → RW ct g H v w → (∀ σ' H', PostG ct B g H Q σ' H' → K σ' H') → h w E C Q → gt v σ H K
class CGs (ct : Ct) (gt : TGs) (h : outParam DGs) : Prop where
  run : ∀ B g σ H E C vs ws Q (K : L2.St → Hp → Prop), Rel ct B g σ H E C → RWs ct g H vs ws → (∀ σ' H', PostG ct B g H Q σ' H' → K σ' H') → h ws E C Q → gt vs σ H K
def dgName (i : Nat) : DG := fun w E C Q => Q (E.set i (some w)) C
theorem Rel.set {ct : Ct} {B : Bs} {g : Gh} {σ : L2.St} {H : Hp} {E : Ev} {C : List Cell} {v : V} {w : W} (R : Rel ct B g σ H E C) (r : RW ct g H v w) (i : Nat) : Rel ct B g (σ.set i (some v)) H (E.set i (some w)) C :=
  ⟨fun j u h => by
    by_cases e : i = j
    · subst e
      by_cases hi : i < E.length
      · rw [List.getElem?_set_self hi] at h
        cases h
        exact ⟨v, List.getElem?_set_self (by rw [R.len]; exact hi), r⟩
      · rw [List.getElem?_eq_none (by rw [List.length_set]; omega)] at h
        cases h
    · rw [List.getElem?_set_ne e] at h
      obtain ⟨x, h1, h2⟩ := R.env j u h
      exact ⟨x, by rw [List.getElem?_set_ne e]; exact h1, h2⟩, by rw [List.length_set, List.length_set]; exact R.len, R.cs, R.fr, R.gg, R.xo⟩
instance cg_name {ct : Ct} {i : Nat} : CG ct (gName i) (dgName i) := ⟨fun B g σ H E C v w Q K R r k q => k _ _ ⟨g, _, C, Gk.refl _ _, R.set r i, q⟩⟩
def dgNil : DGs := fun ws E C Q => ws = [] ∧ Q E C
def dgCons (t : DG) (u : DGs) : List W → Ev → List Cell → (Ev → List Cell → Prop) → Prop
  | w :: r, E, C, Q => t w E C fun E' C' => u r E' C' Q
  | [], _, _, _ => False
instance cgs_nil {ct : Ct} : CGs ct gNil dgNil := ⟨fun B g σ H E C vs ws Q K R r k q => by
  obtain ⟨rfl, q⟩ := q
  cases r
  exact ⟨rfl, k _ _ ⟨g, E, C, Gk.refl _ _, R, q⟩⟩⟩
instance cgs_cons {ct : Ct} {t : TG} {u : TGs} {a : DG} {b : DGs} [ha : CG ct t a] [hb : CGs ct u b] : CGs ct (gCons t u) (dgCons a b) := ⟨fun B g σ H E C vs ws Q K R r k q => by
  cases r with
  | nil => exact q.elim
  | cons r rs =>
    refine ⟨_, _, rfl, ha.run B g σ H E C _ _ _ _ R r (fun σ' H' ⟨g', E', C', k', R', q'⟩ => ?_) q⟩
    exact hb.run B g' σ' H' E' C' _ _ _ _ R' (RWs.mono k' rs) (fun σ'' H'' ⟨g2, E2, C2, k2, R2, q2⟩ => k _ _ ⟨g2, E2, C2, k'.trans k2, R2, q2⟩) q'⟩
def dgTup (n : Nat) (t : DGs) : W → Ev → List Cell → (Ev → List Cell → Prop) → Prop
  | .val (.tuple ds), E, C, Q => ds.length = n ∧ t (ds.map .val) E C Q
  | _, _, _, _ => False
theorem rws_vals {ct : Cl} {g : Gh} {H : Hp} : ∀ {vs : List V} {ds : List D}, RDs ct g.F H vs ds → RWs ct g H vs (ds.map .val)
  | _, _, .nil => .nil
  | _, _, .cons h hs => .cons h (rws_vals hs)
instance cg_tup {ct : Ct} {K : PySem.W.Frag} {n : Nat} {t : TGs} {a : DGs} [h : CGs ct t a] : CG ct (gTup K n t) (dgTup n a) := ⟨fun B g σ H E C v w Q K' R r k q => by
  unfold dgTup at q
  split at q
  · obtain ⟨b, xs, rfl, h1, h2⟩ := rw_tup r
    exact ⟨b, xs, rfl, SqT.of h1, by rw [h2.length]; exact q.1, h.run B g σ H E C _ _ _ _ R (rws_vals h2) k q.2⟩
  · exact q.elim⟩
/-- xs[i] = v -/
def sub2K (E : Ev) (Q : Ev → List Cell → Prop) (k : Nat) (ds : List D) (d : D) : Option Nat → List Cell → Prop
  | some m, C => Q E (C.set k (.lst (ds.set m d)))
  | none, _ => False
def sub1K (E : Ev) (Q : Ev → List Cell → Prop) (k : Nat) (j : Int) (d : D) : Option Cell → List Cell → Prop
  | some (.lst ds), C => sub2K E Q k ds d (ixN ds.length j) C
  | _, _ => False
def subK (E : Ev) (Q : Ev → List Cell → Prop) : W → W → W → List Cell → Prop
  | .ref k, .val (.int j), .val d, C => sub1K E Q k j d C[k]? C
  | _, _, _, _ => False
def dgSub (o i : DE) : DG := fun w E C Q => o E C fun x C1 => i E C1 fun y C2 => subK E Q x y w C2
theorem cell_lst {ct : Cl} {g : Gh} {H : Hp} {C : List Cell} {k : Nat} {a : Addr} {ds : List D} (c : Clz ct g H C) (h : C[k]? = some (.lst ds)) (ha : g.as[k]? = some a) : ∃ xs, g.ms[k]? = some [a] ∧ H a = some (.lst xs) ∧ RDs ct g.F H xs ds ∧ CellAt ct g H a [a] (.lst ds) := by
  obtain ⟨a', m, q1, q2, q3⟩ := c.at_ k _ h
  rw [ha] at q1
  cases q1
  obtain ⟨e, xs, h1, h2⟩ := id q3
  subst e
  exact ⟨xs, q2, h1, h2, q3⟩
theorem Rel.write {ct : Ct} {B : Bs} {g : Gh} {σ : L2.St} {H : Hp} {E : Ev} {C : List Cell} {k : Nat} {a : Addr} {ds es : List D} {ys : List V} (R : Rel ct B g σ H E C) (h : C[k]? = some (.lst ds)) (ha : g.as[k]? = some a) (r : RDs ct g.F H ys es) :
    Gk g H g (upd H a (.lst ys)) ∧ Rel ct B g σ (upd H a (.lst ys)) E (C.set k (.lst es)) := by
  obtain ⟨xs, hm, h1, h2, h3⟩ := cell_lst R.cs h ha
  exact R.put h ha hm h3 (fun zs e => by rw [h1] at e; cases e) fun kk => ⟨rfl, ys, upd_same, RDs.mono kk.kp _ _ r⟩
theorem subK_ok {ct : Ct} {B : Bs} {g : Gh} {σ : L2.St} {H : Hp} {E : Ev} {C : List Cell} {Q : Ev → List Cell → Prop} {vx vy vw : V} {x y w : W} (R : Rel ct B g σ H E C) (rx : RW ct g H vx x) (ry : RW ct g H vy y) (rw_ : RW ct g H vw w) (q : subK E Q x y w C) {K : Hp → Prop}
    (k : ∀ C' H', Gk g H g H' → Rel ct B g σ H' E C' → Q E C' → K H') : rSetL vx vy vw H K := by
  unfold subK at q
  split at q
  · rename_i j m d
    obtain ⟨a, ha, rfl⟩ := rx
    cases rw_int ry
    unfold sub1K at q
    split at q
    · rename_i ds e
      unfold sub2K at q
      split at q
      · rename_i n e2
        obtain ⟨xs, hm, h1, h2, h3⟩ := cell_lst R.cs e ha
        obtain ⟨k3, R3⟩ := R.write e ha (h2.set n rw_)
        exact ⟨a, xs, m, n, rfl, rfl, h1, by rw [h2.length]; exact e2, k _ _ k3 R3 q⟩
      · exact q.elim
    · exact q.elim
  · exact q.elim
instance cg_sub {ct : Ct} {to ti : TE} {o i : DE} [ho : CE ct to o] [hi : CE ct ti i] : CG ct (gSub to ti rSetL) (dgSub o i) := ⟨fun B g σ H E C v w Q K R r k q => by
  refine ho.run B g σ H E C _ _ R (fun x H1 ⟨g1, C1, xw, k1, R1, r1, q1⟩ => ?_) q
  refine hi.run B g1 σ H1 E C1 _ _ R1 (fun y H2 ⟨g2, C2, yw, k2, R2, r2, q2⟩ => ?_) q1
  exact subK_ok R2 (r1.mono k2) r2 (r.mono (k1.trans k2)) q2 fun C' H' k3 R3 q3 => k _ _ ⟨g2, E, C', (k1.trans k2).trans k3, R3, q3⟩⟩
/-! ### methods of lists -/
abbrev FM := W → List W → List Cell → DK → Prop
class CM (ct : Ct) (r : V → List V → Hp → VK → Prop) (f : outParam FM) : Prop where
  run : ∀ B g σ H E C Q v vs w ws (K : VK), Rel ct B g σ H E C → (∀ v H', PostE ct B g H σ E Q v H' → K v H') → RW ct g H v w → RWs ct g H vs ws → f w ws C Q → r v vs H K
def dBM (f : FM) (o : DE) (a : DA) : DE := fun E C Q => o E C fun x C1 => (rdL C1 x).isSome = true ∧ a E C1 fun ws C2 => f x ws C2 Q
instance ce_bm {ct : Ct} {K : PySem.W.Frag} {r : V → List V → Hp → VK → Prop} {f : FM} {to : TE} {t : TA} {o : DE} {a : DA} [hr : CM ct r f] [ho : CE ct to o] [ha : CA ct t a] : CE ct (tBM K "list" r to t) (dBM f o a) := ⟨fun B g σ H E C Q K' R k q => by
  refine ho.run B g σ H E C _ _ R (fun x H1 ⟨g1, C1, xw, k1, R1, r1, q1⟩ => ?_) q
  obtain ⟨h1, q1⟩ := q1
  cases e : rdL C1 xw with
  | none =>
    rw [e] at h1
    cases h1
  | some ds =>
    obtain ⟨b, xs, rfl, h2, h3⟩ := rdL_ok R1.cs r1 e
    refine ⟨.inl ⟨rfl, xs, SqL.of h2⟩, ?_⟩
    refine ha.run B g1 σ H1 E C1 _ _ R1 (fun vs H2 ⟨g2, C2, ws, k2, R2, r2, q2⟩ => ?_) q1
    exact hr.run B g2 σ H2 E C2 Q _ vs xw ws K' R2 (fun v' H' p => k v' H' ((p.back k2).back k1)) (r1.mono k2) r2 q2⟩
def dBM0 (f : FM) (o : DE) : DE := fun E C Q => o E C fun x C1 => (rdL C1 x).isSome = true ∧ f x [] C1 Q
instance ce_bm0 {ct : Ct} {K : PySem.W.Frag} {r : V → List V → Hp → VK → Prop} {f : FM} {to : TE} {o : DE} [hr : CM ct r f] [ho : CE ct to o] : CE ct (tBM0 K "list" r to) (dBM0 f o) := ⟨fun B g σ H E C Q K' R k q => by
  refine ho.run B g σ H E C _ _ R (fun x H1 ⟨g1, C1, xw, k1, R1, r1, q1⟩ => ?_) q
  obtain ⟨h1, q1⟩ := q1
  cases e : rdL C1 xw with
  | none =>
    rw [e] at h1
    cases h1
  | some ds =>
    obtain ⟨b, xs, rfl, h2, h3⟩ := rdL_ok R1.cs r1 e
    exact ⟨.inl ⟨rfl, xs, SqL.of h2⟩, hr.run B g1 σ H1 E C1 Q _ [] xw [] K' R1 (fun v' H' p => k v' H' (p.back k1)) r1 .nil q1⟩⟩
def appK (k : Nat) (d : D) (Q : DK) : Option Cell → List Cell → Prop
  | some (.lst ds), C => ds.length < sizeLine ∧ Q (.val .none) (C.set k (.lst (ds ++ [d])))
  | _, _ => False
def fAppend : W → List W → List Cell → DK → Prop
  | .ref k, [.val d], C, Q => appK k d Q C[k]? C
  | _, _, _, _ => False
instance cm_append {ct : Ct} : CM ct rAppend fAppend := ⟨fun B g σ H E C Q v vs w ws K R kk r rs q => by
  unfold fAppend at q
  split at q
  · rename_i k d
    obtain ⟨a, ha, rfl⟩ := r
    obtain ⟨y, rfl, r1⟩ := rws1 rs
    unfold appK at q
    split at q
    · rename_i ds e
      obtain ⟨xs, hm, h1, h2, h3⟩ := cell_lst R.cs e ha
      obtain ⟨k3, R3⟩ := R.write e ha (h2.app (.cons r1 .nil))
      exact ⟨a, xs, y, rfl, rfl, h1, by rw [h2.length]; exact q.1, kk _ _ ⟨g, _, .val .none, k3, R3, RD.non, q.2⟩⟩
    · exact q.elim
  · exact q.elim⟩
def extK (k : Nat) (Q : DK) : Option Cell → Option (List D) → List Cell → Prop
  | some (.lst ds), some es, C => ds.length + es.length ≤ sizeLine ∧ Q (.val .none) (C.set k (.lst (ds ++ es)))
  | _, _, _ => False
def fExtend : W → List W → List Cell → DK → Prop
  | .ref k, [y], C, Q => extK k Q C[k]? (rdL C y) C
  | _, _, _, _ => False
instance cm_extend {ct : Ct} : CM ct rExtend fExtend := ⟨fun B g σ H E C Q v vs w ws K R kk r rs q => by
  unfold fExtend at q
  split at q
  · rename_i k yw
    obtain ⟨a, ha, rfl⟩ := r
    obtain ⟨y, rfl, r1⟩ := rws1 rs
    unfold extK at q
    split at q
    · rename_i ds es e e2
      obtain ⟨xs, hm, h1, h2, h3⟩ := cell_lst R.cs e ha
      obtain ⟨b, ys, rfl, h4, h5⟩ := rdL_ok R.cs r1 e2
      obtain ⟨k3, R3⟩ := R.write e ha (h2.app h5)
      exact ⟨a, b, xs, ys, rfl, rfl, h1, h4, by rw [h2.length, h5.length]; exact q.1, kk _ _ ⟨g, _, .val .none, k3, R3, RD.non, q.2⟩⟩
    · exact q.elim
  · exact q.elim⟩
def pop2K (k : Nat) (ds : List D) (Q : DK) : Option D → List Cell → Prop
  | some d, C => Q (.val d) (C.set k (.lst ds.dropLast))
  | none, _ => False
def popK (k : Nat) (Q : DK) : Option Cell → List Cell → Prop
  | some (.lst ds), C => pop2K k ds Q ds[ds.length - 1]? C
  | _, _ => False
def fPop : W → List W → List Cell → DK → Prop
  | .ref k, [], C, Q => popK k Q C[k]? C
  | _, _, _, _ => False
theorem RDs.dropLast {ct : Cl} {F : Addr → Prop} {H : Hp} {xs : List V} {ds : List D} (h : RDs ct F H xs ds) : RDs ct F H xs.dropLast ds.dropLast := by
  rw [List.dropLast_eq_take, List.dropLast_eq_take, h.length]
  exact h.take _
instance cm_pop {ct : Ct} : CM ct rPop fPop := ⟨fun B g σ H E C Q v vs w ws K R kk r rs q => by
  unfold fPop at q
  split at q
  · rename_i k
    obtain ⟨a, ha, rfl⟩ := r
    cases rs
    unfold popK at q
    split at q
    · rename_i ds e
      obtain ⟨xs, hm, h1, h2, h3⟩ := cell_lst R.cs e ha
      unfold pop2K at q
      split at q
      · rename_i d e2
        obtain ⟨y, hy, ry⟩ := h2.get _ d e2
        obtain ⟨k3, R3⟩ := R.write e ha h2.dropLast
        exact ⟨a, xs, y, rfl, rfl, h1, by rw [h2.length]; exact hy, kk _ _ ⟨g, _, .val d, k3, R3, RD.mono k3.kp _ _ ry, q⟩⟩
      · exact q.elim
    · exact q.elim
  · exact q.elim⟩
/-! ### statements -/
def dNext : DS := fun D E C => D.nx E C
def dSeqS (t u : DS) : DS := fun D E C => t { D with nx := u D } E C
instance cs_next {ct : Ct} : CS ct tNext dNext := ⟨fun B g σ H E C D DD R e q => e.nx σ H g E C (Gk.refl _ _) R q⟩
instance cs_seq {ct : Ct} {t u : TS} {a b : DS} [ha : CS ct t a] [hb : CS ct u b] : CS ct (tSeq t u) (dSeqS a b) := ⟨fun B g σ H E C D DD R e q => by
  refine ha.run B g σ H E C _ { DD with nx := b DD } R ⟨fun σ' H' g' E' C' k R' q' => hb.run B g' σ' H' E' C' _ DD R' (e.later k) q', e.rt, e.bk, e.ct⟩ q⟩
def dDrop (a : DE) : DS := fun D E C => a E C fun _ C1 => D.nx E C1
instance cs_drop {ct : Ct} {t : TE} {a : DE} [h : CE ct t a] : CS ct (tDrop t) (dDrop a) := ⟨fun B g σ H E C D DD R e q =>
  h.run B g σ H E C _ _ R (fun v H1 ⟨g1, C1, x, k1, R1, r1, q1⟩ => e.nx σ H1 g1 E C1 k1 R1 q1) q⟩
def dRet (a : DE) : DS := fun D E C => a E C D.rt
instance cs_ret {ct : Ct} {t : TE} {a : DE} [h : CE ct t a] : CS ct (tRet t) (dRet a) := ⟨fun B g σ H E C D DD R e q =>
  h.run B g σ H E C _ _ R (fun v H1 ⟨g1, C1, x, k1, R1, r1, q1⟩ => e.rt v σ H1 g1 E C1 x k1 R1 r1 q1) q⟩
def dRetN : DS := fun D _ C => D.rt (.val .none) C
instance cs_retN {ct : Ct} : CS ct tRetN dRetN := ⟨fun B g σ H E C D DD R e q => e.rt .non σ H g E C (.val .none) (Gk.refl _ _) R RD.non q⟩
def dIfS (c : DT) (a b : DS) : DS := fun D E C => c E C fun k C1 => if k = true then a D E C1 else b D E C1
instance cs_if {ct : Ct} {tc : TT} {t u : TS} {c : DT} {a b : DS} [hc : CT ct tc c] [ha : CS ct t a] [hb : CS ct u b] : CS ct (tIfS tc t u) (dIfS c a b) := ⟨fun B g σ H E C D DD R e q => by
  refine hc.run B g σ H E C _ _ R (fun k H1 ⟨g1, C1, k1, R1, q1⟩ => ?_) q
  cases k with
  | true => exact iteT (ha.run B g1 σ H1 E C1 _ _ R1 (e.later k1) q1)
  | false => exact iteF (hb.run B g1 σ H1 E C1 _ _ R1 (e.later k1) q1)⟩
def dBreak : DS := fun D E C => D.bk E C
instance cs_break {ct : Ct} : CS ct tBreak dBreak := ⟨fun B g σ H E C D DD R e q => e.bk σ H g E C (Gk.refl _ _) R q⟩
def dAsg (a : DE) (h : DG) : DS := fun D E C => a E C fun x C1 => h x E C1 D.nx
instance cs_asg {ct : Ct} {t : TE} {gt : TG} {a : DE} {h : DG} [ha : CE ct t a] [hg : CG ct gt h] : CS ct (tAsg t gt) (dAsg a h) := ⟨fun B g σ H E C D DD R e q => by
  refine ha.run B g σ H E C _ _ R (fun v H1 ⟨g1, C1, x, k1, R1, r1, q1⟩ => ?_) q
  exact hg.run B g1 σ H1 E C1 v x _ _ R1 r1 (fun σ' H' ⟨g', E', C', k', R', q'⟩ => e.nx σ' H' g' E' C' (k1.trans k') R' q') q1⟩
/-- while, by an invariant with a measure -/
def dWhile (c : DT) (b : DS) : DS := fun D E C => ∃ I : Nat → Ev → List Cell → Prop, (∃ m, I m E C) ∧ ∀ m E C, I m E C →
  c E C fun k C1 => if k = true then b { D with nx := fun E C => ∃ m', m' < m ∧ I m' E C, ct := fun E C => ∃ m', m' < m ∧ I m' E C, bk := D.nx } E C1 else D.nx E C1
instance cs_while {ct : Ct} {tc : TT} {tb : TS} {c : DT} {b : DS} [hc : CT ct tc c] [hb : CS ct tb b] : CS ct (tWhile tc tb) (dWhile c b) := ⟨fun B g σ H E C D DD R e q => by
  obtain ⟨I, ⟨m0, i0⟩, turn⟩ := q
  refine ⟨fun m σ' H' => ∃ g' E' C', Gk g H g' H' ∧ Rel ct B g' σ' H' E' C' ∧ I m E' C', ⟨m0, g, E, C, Gk.refl _ _, R, i0⟩, ?_⟩
  rintro m σ1 H1 ⟨g1, E1, C1, k1, R1, i1⟩
  refine hc.run B g1 σ1 H1 E1 C1 _ _ R1 (fun k H2 ⟨g2, C2, k2, R2, q2⟩ => ?_) (turn m E1 C1 i1)
  cases k with
  | false => exact iteF (e.nx σ1 H2 g2 E1 C2 (k1.trans k2) R2 q2)
  | true =>
    refine iteT ⟨fun σ' H' => ∃ m', m' < m ∧ ∃ g' E' C', Gk g H g' H' ∧ Rel ct B g' σ' H' E' C' ∧ I m' E' C', fun σ' H' h => h, ?_⟩
    have e2 := e.later (k1.trans k2)
    refine hb.run B g2 σ1 H2 E1 C2 _ { DD with nx := fun E C => ∃ m', m' < m ∧ I m' E C, ct := fun E C => ∃ m', m' < m ∧ I m' E C, bk := DD.nx } R2 ⟨?_, e2.rt, e2.nx, ?_⟩ q2
    · rintro σ' H' g' E' C' k' R' ⟨m', h1, h2⟩
      exact ⟨m', h1, g', E', C', (k1.trans k2).trans k', R', h2⟩
    · rintro σ' H' g' E' C' k' R' ⟨m', h1, h2⟩
      exact ⟨m', h1, g', E', C', (k1.trans k2).trans k', R', h2⟩⟩
/-- for, over the data -/
def dForGo (h : DG) (b : DS) (D : DEnds) : List PyData → Ev → List Cell → Prop
  | [], E, C => D.nx E C
  | x :: xs, E, C => h (.val x) E C fun E2 C2 => b { D with nx := dForGo h b D xs, ct := dForGo h b D xs, bk := D.nx } E2 C2
def dFor (it : DI) (h : DG) (b : DS) : DS := fun D E C => it E C fun ds C1 => dForGo h b D ds E C1
theorem Rel.step {ct : Ct} {B : Bs} {g : Gh} {σ : L2.St} {H H' : Hp} {E : Ev} {C : List Cell} (R : Rel ct B g σ H E C) (h : H' = H ∨ ∃ T xs, H T = none ∧ H' = upd H T (.tup xs)) : ∃ g', Gk g H g' H' ∧ Rel ct B g' σ H' E C := by
  rcases h with rfl | ⟨T, xs, hT, rfl⟩
  · exact ⟨g, Gk.refl _ _, R⟩
  · exact ⟨_, R.new false hT⟩
instance cs_for {ct : Ct} {wi : TI} {gt : TG} {tb : TS} {it : DI} {h : DG} {b : DS} [hi : CI ct wi it] [hg : CG ct gt h] [hb : CS ct tb b] : CS ct (tFor wi gt tb) (dFor it h b) := ⟨fun B g σ H E C D DD R e q => by
  refine hi.run B g σ H E C _ _ R (fun J H1 g1 C1 ds k1 R1 ok q1 => ?_) q
  refine ⟨fun i m σ' H' => m = ds.length - i ∧ i ≤ ds.length ∧ ∃ g' E' C', Gk g1 H1 g' H' ∧ Rel ct B g' σ' H' E' C' ∧ dForGo h b DD (ds.drop i) E' C', ⟨ds.length, by simp, Nat.zero_le _, g1, E, C1, Gk.refl _ _, R1, q1⟩, ?_⟩
  rintro i m σ2 H2 ⟨rfl, hle, g2, E2, C2, k2, R2, q2⟩
  by_cases hlt : i < ds.length
  · refine .inr ⟨ok.go g2 H2 k2 i hlt, fun σ' H' => ds.length - (i + 1) = ds.length - (i + 1) ∧ i + 1 ≤ ds.length ∧ ∃ g' E' C', Gk g1 H1 g' H' ∧ Rel ct B g' σ' H' E' C' ∧ dForGo h b DD (ds.drop (i + 1)) E' C', fun σ' H' p => ⟨ds.length - (i + 1), by omega, p⟩, fun x H3 y => ?_⟩
    obtain ⟨h1, h2⟩ := ok.yld g2 H2 k2 i x H3 ds[i] (List.getElem?_eq_getElem hlt) y
    obtain ⟨g3, k3, R3⟩ := R2.step h1
    have q3 : dForGo h b DD (ds[i] :: ds.drop (i + 1)) E2 C2 := by
      rw [← List.drop_eq_getElem_cons hlt]
      exact q2
    refine hg.run B g3 σ2 H3 E2 C2 x (.val ds[i]) _ _ R3 (h2 g3 k3) (fun σ' H' ⟨g4, E4, C4, k4, R4, q4⟩ => ?_) q3
    have kk := (k2.trans k3).trans k4
    have e2 := e.later (k1.trans kk)
    refine hb.run B g4 σ' H' E4 C4 _ { DD with nx := dForGo h b DD (ds.drop (i + 1)), ct := dForGo h b DD (ds.drop (i + 1)), bk := DD.nx } R4 ⟨?_, e2.rt, e2.nx, ?_⟩ q4
    · exact fun σ' H' g' E' C' k' R' q' => ⟨rfl, hlt, g', E', C', kk.trans k', R', q'⟩
    · exact fun σ' H' g' E' C' k' R' q' => ⟨rfl, hlt, g', E', C', kk.trans k', R', q'⟩
  · have hi2 : i = ds.length := by omega
    subst hi2
    rw [List.drop_length] at q2
    exact .inl ⟨ok.stop g2 H2 k2, e.nx σ2 H2 g2 E2 C2 (k1.trans k2) R2 q2⟩⟩
/-! ### a list beside the cells -/
structure Side (B : Bs) (g : Gh) (H : Hp) (A : Addr) (xs : List V) : Prop where
  at_ : H A = some (.lst xs)
  nf : ¬ g.F A
  nm : A ∉ g.ms.flatten
  nb : B.H A = none ∨ A ∈ B.M
section
variable {ct : Ct} {B : Bs} {g g' : Gh} {σ : L2.St} {H H' : Hp} {E : Ev} {C C' : List Cell} {A : Addr} {xs ys : List V} {ds : List D}
theorem Clz.ne {ct : Cl} (c : Clz ct g H C) (nf : ¬ g.F A) (nm : A ∉ g.ms.flatten) {k : Nat} {x : Cell} {a : Addr} {m : List Addr} (hm : g.ms[k]? = some m) (h : CellAt ct g H a m x) : a ≠ A ∨ x = .nil := by
  cases x with
  | lst ds =>
    obtain ⟨e, _⟩ := h
    subst e
    exact .inl fun e => nm (mem_flat hm (by rw [e]; exact List.mem_singleton.mpr rfl))
  | frz ds =>
    obtain ⟨_, f, _⟩ := h
    exact .inl fun e => nf (by rw [← e]; exact f)
  | obj c ws =>
    obtain ⟨e, _⟩ := h
    subst e
    exact .inl fun e => nm (mem_flat hm (by rw [e]; exact List.mem_singleton.mpr rfl))
  | nil => exact .inr rfl
/-- it is written -/
theorem Rel.side (R : Rel ct B g σ H E C) (s : Side B g H A xs) : Gk g H g (upd H A (.lst ys)) ∧ Rel ct B g σ (upd H A (.lst ys)) E C ∧ Side B g (upd H A (.lst ys)) A ys := by
  have kk : Gk g H g (upd H A (.lst ys)) := ⟨⟨fun a zs h => by
    rw [upd_ne (fun e => by rw [e, s.at_] at h; cases h)]
    exact h, fun a h => ⟨h, upd_ne fun e => s.nf (by rw [← e]; exact h)⟩⟩, fun _ _ h => h, fun c q h => by
    rw [upd_ne fun e => by rw [e, s.at_] at h; exact codeO_lst (Option.some.inj h).symm]
    exact h⟩
  refine ⟨kk, R.gk kk ⟨R.cs.la, R.cs.lm, fun k x h => ?_, R.cs.nd, R.cs.ap, fun a h => ?_, tabs_ext2 R.cs.tb fun b u h n1 n2 => ?_, R.cs.tf⟩ ⟨fun a zs h => kk.kp.1 a zs (R.fr.kt a zs h), fun a o h hu hm => ?_, fun a ps h => ?_, R.fr.newF, R.fr.newM⟩, ⟨upd_same, s.nf, s.nm, s.nb⟩⟩
  · obtain ⟨a, m, h1, h2, h3⟩ := R.cs.at_ k x h
    refine ⟨a, m, h1, h2, h3.keep kk ?_⟩
    rcases R.cs.ne s.nf s.nm h2 h3 with q | q
    · exact .inl (upd_ne q)
    · exact .inr q
  · rw [(kk.kp.2 a h).2]
    exact R.cs.lv a h
  · rw [upd_ne fun e => ?_]
    · exact h
    · rw [e, s.at_] at h
      exact n1 _ (Option.some.inj h).symm
  · by_cases e : a = A
    · rcases s.nb with q | q
      · rw [e, q] at h
        cases h
      · exact absurd (by rw [e]; exact q) hm
    · rw [upd_ne e]
      exact R.fr.keep a o h hu hm
  · obtain ⟨qs, h2⟩ := R.fr.tl a ps h
    refine ⟨qs, ?_⟩
    rw [upd_ne fun e => ?_]
    · exact h2
    · rw [e, s.at_] at h2
      cases h2
/-- it is frozen -/
theorem Rel.adopt (R : Rel ct B g σ H E C) (s : Side B g H A xs) (r : RDs ct g.F H xs ds) : Gk g H (g.fz true A) H ∧ Rel ct B (g.fz true A) σ H E C ∧ RD ct (g.fz true A).F H (.ref A) (.list ds) := by
  have kk : Gk g H (g.fz true A) H := ⟨⟨fun _ _ h => h, fun a h => ⟨.inl h, rfl⟩⟩, fun _ _ h => h, fun _ _ h => h⟩
  refine ⟨kk, R.gk kk ⟨R.cs.la, R.cs.lm, fun k x h => ?_, R.cs.nd, fun a ha h => ?_, fun a h => ?_, R.cs.tb, fun q hq h => ?_⟩ ⟨R.fr.kt, R.fr.keep, R.fr.tl, fun a h => ?_, R.fr.newM⟩, .lst (.inr ⟨rfl, rfl⟩) s.at_ (RDs.mono kk.kp _ _ r)⟩
  · obtain ⟨a, m, h1, h2, h3⟩ := R.cs.at_ k x h
    exact ⟨a, m, h1, h2, h3.keep kk (.inl rfl)⟩
  · rcases h with h | ⟨_, h⟩
    · exact R.cs.ap a ha h
    · exact s.nm (by rw [← h]; exact ha)
  · rcases h with h | ⟨_, h⟩
    · exact R.cs.lv a h
    · rw [h, s.at_]
      exact fun z => nomatch z
  · rcases h with h | ⟨_, h⟩
    · exact R.cs.tf q hq h
    · obtain ⟨ps, e⟩ := tab_some R.cs.tb q hq
      rw [h, s.at_] at e
      cases e
  · rcases h with h | ⟨_, h⟩
    · exact R.fr.newF a h
    · rw [h]
      exact .inr s.nb
/-- it becomes a cell -/
theorem Rel.adoptC (R : Rel ct B g σ H E C) (s : Side B g H A xs) (r : RDs ct g.F H xs ds) : Gk g H (g.ad A) H ∧ Rel ct B (g.ad A) σ H E (C ++ [.lst ds]) ∧ (g.ad A).as[C.length]? = some A := by
  have kk : Gk g H (g.ad A) H := ⟨⟨fun _ _ h => h, fun a h => ⟨h, rfl⟩⟩, fun k a h => by
    show (g.as ++ [A])[k]? = some a
    rw [List.getElem?_append_left (List.getElem?_eq_some_iff.mp h).1]
    exact h, fun _ _ h => h⟩
  have fl : (g.ad A).ms.flatten = g.ms.flatten ++ [A] := by
    show (g.ms ++ [[A]]).flatten = _
    rw [List.flatten_append]
    rfl
  have hl : (g.ad A).as[C.length]? = some A := by
    show (g.as ++ [A])[C.length]? = some A
    rw [← R.cs.la]
    exact List.getElem?_concat_length
  refine ⟨kk, R.gk kk ⟨?_, ?_, fun j x h => ?_, ?_, fun a ha h => ?_, fun a h => R.cs.lv a h, R.cs.tb, R.cs.tf⟩ ⟨R.fr.kt, R.fr.keep, R.fr.tl, R.fr.newF, fun a ha => ?_⟩, hl⟩
  · show (g.as ++ [A]).length = _
    rw [List.length_append, List.length_append, R.cs.la]
    rfl
  · show (g.ms ++ [[A]]).length = _
    rw [List.length_append, List.length_append, R.cs.lm]
    rfl
  · by_cases hj : j < C.length
    · rw [List.getElem?_append_left hj] at h
      obtain ⟨a, m, h1, h2, h3⟩ := R.cs.at_ j x h
      refine ⟨a, m, kk.as _ _ h1, ?_, h3.keep kk (.inl rfl)⟩
      show (g.ms ++ [[A]])[j]? = some m
      rw [List.getElem?_append_left (List.getElem?_eq_some_iff.mp h2).1]
      exact h2
    · have hj2 : j < (C ++ [Cell.lst ds]).length := (List.getElem?_eq_some_iff.mp h).1
      rw [List.length_append] at hj2
      have e : j = C.length := by simp at hj2; omega
      subst e
      rw [List.getElem?_concat_length] at h
      cases h
      refine ⟨A, [A], hl, ?_, rfl, xs, s.at_, RDs.mono kk.kp _ _ r⟩
      show (g.ms ++ [[A]])[C.length]? = some [A]
      rw [← R.cs.lm]
      exact List.getElem?_concat_length
  · rw [fl, List.nodup_append]
    refine ⟨R.cs.nd, by simp, fun a ha b hb e => ?_⟩
    have e2 : b = A := by simpa using hb
    exact s.nm (by rw [← e2, ← e]; exact ha)
  · rw [fl, List.mem_append] at ha
    rcases ha with ha | ha
    · exact R.cs.ap a ha h
    · have e2 : a = A := by simpa using ha
      exact s.nf (by rw [← e2]; exact h)
  · rw [fl, List.mem_append] at ha
    rcases ha with ha | ha
    · exact R.fr.newM a ha
    · have e2 : a = A := by simpa using ha
      rw [e2]
      exact s.nb.symm
/-- something new is laid beside -/
theorem Rel.newSide {p : Addr} {xs : List V} (R : Rel ct B g σ H E C) (hp : H p = none) : Gk g H (g.fz false p) (upd H p (.lst xs)) ∧ Rel ct B (g.fz false p) σ (upd H p (.lst xs)) E C ∧ Side B (g.fz false p) (upd H p (.lst xs)) p xs := by
  obtain ⟨k, R'⟩ := R.new (o := .lst xs) false hp
  refine ⟨k, R', upd_same, fun h => ?_, fun h => R.cs.mutSome p h hp, R.fr.fresh hp⟩
  rcases h with h | ⟨h, _⟩
  · exact R.cs.lv p h hp
  · cases h
end
/-! ### what makes a list -/
abbrev DFl := Ev → List Cell → (List D → List Cell → Prop) → Prop
def PostF (ct : Ct) (B : Bs) (g : Gh) (H : Hp) (σ : L2.St) (E : Ev) (Q : List D → List Cell → Prop) : VK := fun v H' => ∃ g' C' ds xs A, Gk g H g' H' ∧ Rel ct B g' σ H' E C' ∧ v = .ref A ∧ Side B g' H' A xs ∧ RDs ct g'.F H' xs ds ∧ Q ds C'
class CF (ct : Ct) (tt : TE) (t : outParam DFl) : Prop where
  run : ∀ B g σ H E C Q (K : VK), Rel ct B g σ H E C → (∀ v H', PostF ct B g H σ E Q v H' → K v H') → t E C Q → tt σ H K
/-- .. is frozen at once -/
theorem CF.val {ct : Ct} {tt : TE} {t : DFl} (h : CF ct tt t) : CE ct tt (fun E C Q => t E C fun ds C1 => Q (.val (.list ds)) C1) := ⟨fun B g σ H E C Q K R k q => by
  refine h.run B g σ H E C _ _ R (fun v H1 ⟨g1, C1, ds, xs, A, k1, R1, e, s, r, q1⟩ => ?_) q
  subst e
  obtain ⟨k2, R2, r2⟩ := R1.adopt s r
  exact k _ _ ⟨_, C1, .val (.list ds), k1.trans k2, R2, r2, q1⟩⟩
/-- .. or is a cell, in slot i -/
def tAsgC (te : TE) (i : Nat) : TS := tAsg te (gName i)
def dAsgC (t : DFl) (i : Nat) : DS := fun D E C => t E C fun ds C1 => D.nx (E.set i (some (.ref C1.length))) (C1 ++ [.lst ds])
instance cs_asgC {ct : Ct} {te : TE} {t : DFl} {i : Nat} [h : CF ct te t] : CS ct (tAsgC te i) (dAsgC t i) := ⟨fun B g σ H E C D DD R e q => by
  refine h.run B g σ H E C _ _ R (fun v H1 ⟨g1, C1, ds, xs, A, k1, R1, ev, s, r, q1⟩ => ?_) q
  subst ev
  obtain ⟨k2, R2, h2⟩ := R1.adoptC s r
  exact e.nx _ _ _ _ _ (k1.trans k2) (R2.set (w := .ref C1.length) ⟨A, h2, rfl⟩ i) q1⟩
def lstFK (Q : List D → List Cell → Prop) : Option (List D) → List Cell → Prop
  | some ds, C1 => ds.length ≤ sizeLine ∧ Q ds C1
  | none, _ => False
def dLstF (a : DA) : DFl := fun E C Q => a E C fun ws C1 => lstFK Q (vals ws) C1
instance cf_lst {ct : Ct} {t : TA} {a : DA} [h : CA ct t a] : CF ct (tLst t) (dLstF a) := ⟨fun B g σ H E C Q K R k q => by
  refine h.run B g σ H E C _ _ R (fun vs H1 ⟨g1, C1, ws, k1, R1, r1, q1⟩ => ?_) q
  unfold lstFK at q1
  dsimp only at q1
  split at q1
  · rename_i ds e
    have hd := vals_ok r1 e
    refine ⟨by rw [hd.length]; exact q1.1, fun p hp => ?_⟩
    obtain ⟨k2, R2, s2⟩ := R1.newSide (xs := vs) hp
    exact k _ _ ⟨_, _, ds, vs, p, k1.trans k2, R2, rfl, s2, RDs.mono k2.kp _ _ hd, q1.2⟩
  · exact q1.elim⟩
def lisF2K (Q : List D → List Cell → Prop) : Option (List D) → List Cell → Prop
  | some ds, C1 => Q ds C1
  | none, _ => False
def lisFK (Q : List D → List Cell → Prop) : List W → List Cell → Prop
  | [x], C1 => lisF2K Q (rdS C1 x) C1
  | _, _ => False
def dListF (a : DA) : DFl := fun E C Q => a E C (lisFK Q)
instance cf_list {ct : Ct} {K : PySem.W.Frag} {t : TA} {a : DA} [h : CA ct t a] : CF ct (tCB (rListA K) t) (dListF a) := ⟨fun B g σ H E C Q K' R k q => by
  refine h.run B g σ H E C _ _ R (fun vs H1 ⟨g1, C1, ws, k1, R1, r1, q1⟩ => ?_) q
  unfold lisFK at q1
  split at q1
  · obtain ⟨v, rfl, r2⟩ := rws1 r1
    unfold lisF2K at q1
    split at q1
    · rename_i ds e
      obtain ⟨a, xs, rfl, h1, h2⟩ := rdS_ok (K := K) R1.cs r2 e
      refine ⟨a, xs, rfl, h1, fun p hp => ?_⟩
      obtain ⟨k2, R2, s2⟩ := R1.newSide (xs := xs) hp
      exact k _ _ ⟨_, _, ds, xs, p, k1.trans k2, R2, rfl, s2, RDs.mono k2.kp _ _ h2, q1⟩
    · exact q1.elim
  · exact q1.elim⟩
/-! ### comprehensions -/
theorem wipe_get (σ : L2.St) : ∀ (vs : List Nat) (j : Nat), (wipe σ vs)[j]? = if j ∈ vs then (σ[j]?.map fun _ => none) else σ[j]?
  | [], j => by simp [wipe]
  | v :: vs, j => by
    have ih := wipe_get σ vs j
    show ((wipe σ vs).set v none)[j]? = _
    by_cases e : v = j
    · subst e
      rw [if_pos List.mem_cons_self]
      by_cases hv : v < σ.length
      · rw [List.getElem?_set_self (by rw [wipe_length]; exact hv), List.getElem?_eq_getElem hv]
        rfl
      · rw [List.getElem?_eq_none (by rw [List.length_set, wipe_length]; omega), List.getElem?_eq_none (by omega)]
        rfl
    · rw [List.getElem?_set_ne e, ih]
      have h : (j ∈ v :: vs) ↔ j ∈ vs := by
        rw [List.mem_cons]
        exact ⟨fun h => h.resolve_left fun z => e z.symm, .inr⟩
      simp only [h]
theorem wipe_ext {σ τ : L2.St} {vs : List Nat} (h : ∀ j, j ∉ vs → σ[j]? = τ[j]?) (hl : σ.length = τ.length) : wipe σ vs = wipe τ vs := by
  apply List.ext_getElem?
  intro j
  rw [wipe_get, wipe_get]
  by_cases e : j ∈ vs
  · rw [if_pos e, if_pos e]
    by_cases hj : j < σ.length
    · rw [List.getElem?_eq_getElem hj, List.getElem?_eq_getElem (by rw [← hl]; exact hj)]
      rfl
    · rw [List.getElem?_eq_none (by omega), List.getElem?_eq_none (by omega)]
  · rw [if_neg e, if_neg e]
    exact h j e
/-- the target stores into these slots alone -/
class GW (gt : TG) (sl : outParam (List Nat)) : Prop where
  run : ∀ v σ H (K K' : L2.St → Hp → Prop), gt v σ H K → (∀ σ2 H2, K σ2 H2 → σ2.length = σ.length → (∀ j, j ∉ sl → σ2[j]? = σ[j]?) → K' σ2 H2) → gt v σ H K'
class GWs (gt : TGs) (sl : outParam (List Nat)) : Prop where
  run : ∀ vs σ H (K K' : L2.St → Hp → Prop), gt vs σ H K → (∀ σ2 H2, K σ2 H2 → σ2.length = σ.length → (∀ j, j ∉ sl → σ2[j]? = σ[j]?) → K' σ2 H2) → gt vs σ H K'
instance gw_name {i : Nat} : GW (gName i) [i] := ⟨fun v σ H K K' h k => k _ _ h (by rw [List.length_set]) fun j hj => List.getElem?_set_ne fun e => hj (by rw [e]; exact List.mem_singleton.mpr rfl)⟩
instance gw_nil : GWs gNil [] := ⟨fun vs σ H K K' h k => ⟨h.1, k _ _ h.2 rfl fun _ _ => rfl⟩⟩
instance gw_cons {i : Nat} {u : TGs} {sl : List Nat} [hu : GWs u sl] : GWs (gCons (gName i) u) (i :: sl) := ⟨fun vs σ H K K' ⟨v, r, e, h⟩ k => by
  refine ⟨v, r, e, hu.run _ _ _ _ _ h fun σ2 H2 p l n => k _ _ p (by rw [l, List.length_set]) fun j hj => ?_⟩
  rw [n j fun z => hj (List.mem_cons_of_mem _ z)]
  exact List.getElem?_set_ne fun e => hj (by rw [e]; exact List.mem_cons_self)⟩
instance gw_tup {K : PySem.W.Frag} {n : Nat} {t : TGs} {sl : List Nat} [h : GWs t sl] : GW (gTup K n t) sl := ⟨fun v σ H K1 K' ⟨a, xs, e, h1, h2, h3⟩ k => ⟨a, xs, e, h1, h2, h.run _ _ _ _ _ h3 k⟩⟩
def wipeE (E : Ev) : List Nat → Ev
  | [] => E
  | v :: vs => (wipeE E vs).set v none
theorem wipeE_some {E : Ev} {i : Nat} {x : W} : ∀ {vs : List Nat}, (wipeE E vs)[i]? = some (some x) → E[i]? = some (some x) ∧ i ∉ vs
  | [], h => ⟨h, by simp⟩
  | v :: vs, h => by
    unfold wipeE at h
    by_cases hi : v = i
    · subst hi
      by_cases hv : v < (wipeE E vs).length
      · rw [List.getElem?_set_self hv] at h
        cases h
      · rw [List.getElem?_eq_none (by simpa using hv)] at h
        cases h
    · rw [List.getElem?_set_ne hi] at h
      obtain ⟨h1, h2⟩ := wipeE_some h
      exact ⟨h1, by simp only [List.mem_cons, not_or]; exact ⟨fun e => hi e.symm, h2⟩⟩
theorem wipeE_length (E : Ev) : ∀ vs : List Nat, (wipeE E vs).length = E.length
  | [] => rfl
  | v :: vs => by unfold wipeE; rw [List.length_set, wipeE_length E vs]
theorem Rel.wipe {ct : Ct} {B : Bs} {g : Gh} {σ : L2.St} {H : Hp} {E : Ev} {C : List Cell} (R : Rel ct B g σ H E C) (vs : List Nat) : Rel ct B g (L2.wipe σ vs) H (wipeE E vs) C :=
  ⟨fun i w h => by
    obtain ⟨h1, h2⟩ := wipeE_some h
    obtain ⟨v, h3, h4⟩ := R.env i w h1
    exact ⟨v, by rw [wipe_get, if_neg h2]; exact h3, h4⟩, by rw [wipe_length, wipeE_length]; exact R.len, R.cs, R.fr, R.gg, R.xo⟩
def dYes : DT := fun _ C Q => Q true C
instance ct_yes {ct : Ct} : CT ct tYes dYes := ⟨fun B g σ H E C Q K R k q => k _ _ ⟨g, C, Gk.refl _ _, R, q⟩⟩
def accK (n : Nat) (N : D → List Cell → Prop) : W → List Cell → Prop
  | .val d, C => n < sizeLine ∧ N d C
  | _, _ => False
def dVal (t : DFl) (E : Ev) (C : List Cell) (Q : DK) : Prop := t E C fun ds C1 => Q (.val (.list ds)) C1
def dLcGo (h : DG) (tt : DT) (te : DE) (E : Ev) : List D → List D → List Cell → (List D → List Cell → Prop) → Prop
  | [], acc, C, Q => Q acc C
  | x :: xs, acc, C, Q => h (.val x) E C fun E2 C1 => tt E2 C1 fun b C2 => if b = true then te E2 C2 (accK acc.length fun d C3 => dLcGo h tt te E xs (acc ++ [d]) C3 Q) else dLcGo h tt te E xs acc C2 Q
def dLc (it : DI) (h : DG) (tt : DT) (te : DE) (sl vs : List Nat) : DFl := fun E C Q => (sl.all fun i => vs.contains i) = true ∧ it E C fun ds C1 => dLcGo h tt te (wipeE E vs) ds [] C1 Q
theorem Rel.step2 {ct : Ct} {B : Bs} {g : Gh} {σ : L2.St} {H H' : Hp} {E : Ev} {C : List Cell} {A : Addr} {xs : List V} (R : Rel ct B g σ H E C) (s : Side B g H A xs) (h : H' = H ∨ ∃ T xs, H T = none ∧ H' = upd H T (.tup xs)) :
    ∃ g', Gk g H g' H' ∧ Rel ct B g' σ H' E C ∧ Side B g' H' A xs := by
  rcases h with rfl | ⟨T, ys, hT, rfl⟩
  · exact ⟨g, Gk.refl _ _, R, s⟩
  · obtain ⟨k, R'⟩ := R.new (o := .tup ys) false hT
    refine ⟨_, k, R', ?_, fun h => ?_, s.nm, s.nb⟩
    · rw [upd_ne (ne_of_none s.at_ hT)]
      exact s.at_
    · rcases h with h | ⟨h, _⟩
      · exact s.nf h
      · cases h
theorem Side.later {B : Bs} {g g' : Gh} {H H' : Hp} {A : Addr} {xs : List V} (s : Side B g H A xs) (f : Fr0 (Bs.of g H) g' H') : Side B g' H' A xs := by
  refine ⟨f.keep A _ s.at_ (fun _ z => nomatch z) s.nm, fun h => ?_, fun h => ?_, s.nb⟩
  · rcases f.newF A h with q | q | q
    · exact s.nf q
    · rw [show (Bs.of g H).H A = H A from rfl, s.at_] at q
      cases q
    · exact s.nm q
  · rcases f.newM A h with q | q
    · exact s.nm q
    · rw [show (Bs.of g H).H A = H A from rfl, s.at_] at q
      cases q
instance cf_lc {ct : Ct} {wi : TI} {gt : TG} {t1 : TT} {te : TE} {vs sl : List Nat} {it : DI} {h : DG} {dt : DT} {de : DE} [hi : CI ct wi it] [hg : CG ct gt h] [hw : GW gt sl] [ht : CT ct t1 dt] [he : CE ct te de] : CF ct (tLc wi gt t1 te vs) (dLc it h dt de sl vs) := ⟨fun B g σ H E C Q K R k q => by
  obtain ⟨hsl, q⟩ := q
  refine hi.run B g σ H E C _ _ R (fun J H1 g1 C1 ds k1 R1 ok q1 => ?_) q
  intro A hA
  have hsl2 : ∀ j, j ∉ vs → j ∉ sl := fun j hj hm => hj (by
    have := List.all_eq_true.mp hsl j hm
    simpa using this)
  obtain ⟨k0, R0, s0⟩ := R1.newSide (xs := []) hA
  refine ⟨fun i m H2 => m = ds.length - i ∧ i ≤ ds.length ∧ ∃ g2 C2 xs acc, Gk g1 H1 g2 H2 ∧ Rel ct B g2 σ H2 E C2 ∧ Side B g2 H2 A xs ∧ RDs ct g2.F H2 xs acc ∧ dLcGo h dt de (wipeE E vs) (ds.drop i) acc C2 Q, ⟨ds.length, by simp, Nat.zero_le _, _, C1, [], [], k0, R0, s0, .nil, q1⟩, ?_⟩
  rintro i m H2 ⟨rfl, hle, g2, C2, xs, acc, k2, R2, s2, r2, q2⟩
  by_cases hlt : i < ds.length
  · refine .inr ⟨ok.go g2 H2 k2 i hlt, fun H' => ds.length - (i + 1) = ds.length - (i + 1) ∧ i + 1 ≤ ds.length ∧ ∃ g2 C2 xs acc, Gk g1 H1 g2 H' ∧ Rel ct B g2 σ H' E C2 ∧ Side B g2 H' A xs ∧ RDs ct g2.F H' xs acc ∧ dLcGo h dt de (wipeE E vs) (ds.drop (i + 1)) acc C2 Q, fun H' p => ⟨ds.length - (i + 1), by omega, p⟩, fun x H3 y => ?_⟩
    obtain ⟨h1, h2⟩ := ok.yld g2 H2 k2 i x H3 ds[i] (List.getElem?_eq_getElem hlt) y
    obtain ⟨g3, k3, R3, s3⟩ := R2.step2 s2 h1
    have q3 : dLcGo h dt de (wipeE E vs) (ds[i] :: ds.drop (i + 1)) acc C2 Q := by
      rw [← List.drop_eq_getElem_cons hlt]
      exact q2
    have r3 := RDs.mono k3.kp _ _ r2
    refine hw.run _ _ _ (PostG ct (Bs.of g3 H3) g3 H3 _) _ (hg.run (Bs.of g3 H3) g3 (L2.wipe σ vs) H3 (wipeE E vs) C2 x (.val ds[i]) _ _ ((R3.wipe vs).self) (h2 g3 k3) (fun _ _ p => p) q3) ?_
    rintro σ2 H4 ⟨g4, E4, C4, k4, R4, q4⟩ hl hn
    refine ⟨?_, ?_⟩
    · rw [wipe_ext (σ := σ2) (τ := L2.wipe σ vs) (fun j hj => hn j (hsl2 j hj)) hl]
      exact wipe_ext (fun j hj => by rw [wipe_get, if_neg hj]) (wipe_length σ vs)
    refine ht.run _ g4 σ2 H4 E4 C4 _ _ R4 (fun b H5 ⟨g5, C5, k5, R5, q5⟩ => ?_) q4
    have k35 := k4.trans k5
    cases b with
    | false =>
      refine iteF ⟨rfl, hlt, g5, C5, xs, acc, (k2.trans k3).trans k35, R3.gk k35 R5.cs (R3.fr.comp R5.fr), s3.later R5.fr, RDs.mono k35.kp _ _ r3, q5⟩
    | true =>
      refine iteT (he.run _ g5 σ2 H5 E4 C5 _ _ R5 (fun v H6 ⟨g6, C6, w, k6, R6, r6, q6⟩ => ?_) q5)
      have k36 := k35.trans k6
      have s6 := s3.later R6.fr
      unfold accK at q6
      split at q6
      · rename_i d
        obtain ⟨hz, q7⟩ := q6
        have r36 := RDs.mono k36.kp _ _ r3
        refine ⟨xs, s6.at_, by rw [r36.length]; exact hz, ?_⟩
        have R6' := R3.gk k36 R6.cs (R3.fr.comp R6.fr)
        obtain ⟨k7, R7, s7⟩ := R6'.side (ys := xs ++ [v]) s6
        exact ⟨rfl, hlt, g6, C6, xs ++ [v], acc ++ [d], ((k2.trans k3).trans k36).trans k7, R7, s7, RDs.mono k7.kp _ _ (r36.app (.cons r6 .nil)), q7⟩
      · exact q6.elim
  · have hi2 : i = ds.length := by omega
    subst hi2
    rw [List.drop_length] at q2
    exact .inl ⟨ok.stop g2 H2 k2, k _ _ ⟨g2, C2, acc, xs, A, k1.trans k2, R2, rfl, s2, r2, q2⟩⟩⟩
instance ce_lc {ct : Ct} {wi : TI} {gt : TG} {t1 : TT} {te : TE} {vs : List Nat} {t : DFl} [h : CF ct (tLc wi gt t1 te vs) t] : CE ct (tLc wi gt t1 te vs) (dVal t) := h.val
/-! ### defs -/
abbrev DSp := List W → List Cell → DK → XD → Prop
/-- the fields of a class, in order (the exceptions' among them) -/
def clsF : Int → List Str
  | 0 => ["link", "root", "is_open"]
  | 1 => ["rule", "certificate"]
  | 2 => ["rule", "certificate", "position"]
  | 3 => ["number", "word"]
  | 4 => ["rule", "secret", "tables", "line"]
  | 5 => ["rule", "held_cards", "line"]
  | 6 => ["rule", "head", "size", "pairs"]
  | 7 => ["number"]
  | 8 => ["number"]
  | 9 => ["number"]
  | _ => []
abbrev Ct.w (ct : Ct) (E : XK) (R : XD) : Ct := ⟨ct.cl, E, R⟩
def spD (ct : Ct) (n m : Nat) (P : DSp) : Sp := fun vs H Q E => ∃ (g : Gh) (C : List Cell) (ws : List W) (QD : DK) (RX : XD), vs.length = m ∧ C.length = n ∧ Clz ct g H C ∧ RWs ct g H vs ws ∧ P ws C QD RX ∧
  (∀ v H' g' C' w, Gk g H g' H' → Fr0 (Bs.of g H) g' H' → Clz ct g' H' C' → C'.length = n → RW ct g' H' v w → QD w C' → Q v H') ∧
  (∀ cls d H' g' C' c ds, Gk g H g' H' → Fr0 (Bs.of g H) g' H' → Clz ct g' H' C' → C'.length = n → XV ct g' H' cls d c ds → RX c ds C' → E cls d H')
theorem spD_len {ct : Ct} {n m : Nat} {P : DSp} {vs : List V} {H : Hp} {Q : VK} {E : XK} (h : spD ct n m P vs H Q E) : vs.length = m := by
  obtain ⟨g, C, ws, QD, RX, h, _⟩ := h
  exact h
def wOk (n : Nat) : W → Bool
  | .ref k => decide (k < n)
  | _ => true
def cellOk (n : Nat) : Cell → Bool
  | .obj _ ws => ws.all (wOk n)
  | _ => true
def fin (n : Nat) (Q : DK) : DK := fun w C => n ≤ C.length ∧ ((C.take n).all (cellOk n) && wOk n w) = true ∧ Q w (C.take n)
def finD (n : Nat) (Q : DK) : DEnds := { nx := fun _ C => fin n Q (.val .none) C, rt := fin n Q }
def E0D (N : Nat) (ws : List W) : Ev := ws.map some ++ List.replicate (N - ws.length) none
def Gh.tk (g : Gh) (n : Nat) : Gh := ⟨g.F, g.as.take n, g.ms.take n⟩
theorem RW.tk {ct : Cl} {g : Gh} {H : Hp} {n : Nat} {v : V} {w : W} (h : RW ct g H v w) (k : wOk n w = true) : RW ct (g.tk n) H v w := by
  cases w with
  | val d => exact h
  | ty n => exact h
  | fn => exact h
  | ref j =>
    obtain ⟨a, h1, h2⟩ := h
    exact ⟨a, by show (g.as.take n)[j]? = some a; rw [List.getElem?_take, if_pos (of_decide_eq_true k)]; exact h1, h2⟩
theorem RWs.tk {ct : Cl} {g : Gh} {H : Hp} {n : Nat} : ∀ {vs : List V} {ws : List W}, RWs ct g H vs ws → ws.all (wOk n) = true → RWs ct (g.tk n) H vs ws
  | _, _, .nil, _ => .nil
  | _, _, .cons r rs, k => by
    rw [List.all_cons, Bool.and_eq_true] at k
    exact .cons (r.tk k.1) (RWs.tk rs k.2)
theorem flat_take {ms : List (List Addr)} (n : Nat) : (ms.take n).flatten.Sublist ms.flatten := by
  have e : ms.flatten = (ms.take n).flatten ++ (ms.drop n).flatten := by rw [← List.flatten_append, List.take_append_drop]
  rw [e]
  exact List.sublist_append_left _ _
theorem Clz.tk {ct : Cl} {g : Gh} {H : Hp} {C : List Cell} (c : Clz ct g H C) (n : Nat) (k : (C.take n).all (cellOk n) = true) : Clz ct (g.tk n) H (C.take n) := by
  refine ⟨?_, ?_, fun j x h => ?_, c.nd.sublist (flat_take n), fun a ha h => c.ap a ((flat_take n).subset ha) h, c.lv, c.tb, c.tf⟩
  · show (g.as.take n).length = _
    rw [List.length_take, List.length_take, c.la]
  · show (g.ms.take n).length = _
    rw [List.length_take, List.length_take, c.lm]
  · have hj : j < n := by
      have := (List.getElem?_eq_some_iff.mp h).1
      rw [List.length_take] at this
      omega
    have hm : x ∈ C.take n := List.mem_of_getElem? h
    rw [List.getElem?_take, if_pos hj] at h
    obtain ⟨a, m, h1, h2, h3⟩ := c.at_ j x h
    refine ⟨a, m, by show (g.as.take n)[j]? = _; rw [List.getElem?_take, if_pos hj]; exact h1, by show (g.ms.take n)[j]? = _; rw [List.getElem?_take, if_pos hj]; exact h2, ?_⟩
    have kx := List.all_eq_true.mp k x hm
    cases x with
    | lst ds => exact h3
    | frz ds => exact h3
    | obj cc ws =>
      obtain ⟨e, Cc, ns, dx, vs, q1, q2, q3, q4⟩ := h3
      exact ⟨e, Cc, ns, dx, vs, q1, q2, q3, q4.tk kx⟩
    | nil => exact h3
theorem start_map {ct : Cl} {g : Gh} {H : Hp} {N : List Str} {vs : List V} {ws : List W} (r : RWs ct g H vs ws) : ∀ (i : Nat) (w : W), (E0D N.length ws)[i]? = some (some w) → ∃ v : V, (start N vs)[i]? = some (some v) ∧ RW ct g H v w := by
  intro i w h
  have hl : vs.length = ws.length := Paired.length r
  unfold E0D at h
  unfold L2.start
  by_cases hi : i < ws.length
  · rw [List.getElem?_append_left (by rw [List.length_map]; exact hi), List.getElem?_map] at h
    rw [List.getElem?_append_left (by rw [List.length_map, hl]; exact hi), List.getElem?_map]
    have get : ∀ {vs : List V} {ws : List W}, RWs ct g H vs ws → ∀ (i : Nat) (w : W), ws[i]? = some w → ∃ v : V, vs[i]? = some v ∧ RW ct g H v w := by
      intro vs ws r
      induction r with
      | nil => intro i w h; simp at h
      | cons r rs ih =>
        intro i w h
        cases i with
        | zero =>
          cases h
          exact ⟨_, rfl, r⟩
        | succ i => exact ih i w h
    cases e : ws[i]? with
    | none =>
      rw [e] at h
      cases h
    | some u =>
      rw [e] at h
      cases h
      obtain ⟨v, h1, h2⟩ := get r i _ e
      exact ⟨v, by rw [h1]; rfl, h2⟩
  · rw [List.getElem?_append_right (by rw [List.length_map]; omega), List.getElem?_replicate] at h
    split at h <;> cases h
def finX (n : Nat) (R : XD) : XD := fun c ds C => n ≤ C.length ∧ (C.take n).all (cellOk n) = true ∧ R c ds (C.take n)
theorem Gk.tk {g g' : Gh} {H H' : Hp} {n : Nat} (k : Gk g H g' H') (hl : g.as.length = n) : Gk g H (g'.tk n) H' :=
  ⟨k.kp, fun j a h => by
    show (g'.as.take n)[j]? = some a
    rw [List.getElem?_take, if_pos (by rw [← hl]; exact (List.getElem?_eq_some_iff.mp h).1)]
    exact k.as j a h, k.ex⟩
theorem Fr0.tk {B : Bs} {g : Gh} {H : Hp} {n : Nat} (f : Fr0 B g H) : Fr0 B (g.tk n) H := ⟨f.kt, f.keep, f.tl, f.newF, fun a h => f.newM a ((flat_take n).subset h)⟩
/-- a body keeps the promise -/
theorem body_ok {ct : Ct} {N : List Str} {n m : Nat} {P : DSp} {tt : TS} {vs : List V} {H : Hp} {Q : VK} {E : XK} (t : XD → DS) (c : ∀ R, CS (ct.w E R) tt (t R)) (hm : m ≤ N.length)
    (h : ∀ ws C Q R, ws.length = m → C.length = n → P ws C Q R → t (finX n R) (finD n Q) (E0D N.length ws) C) (sp : spD ct n m P vs H Q E) : tt { nx := fun _ H' => Q .non H', rt := Q } (start N vs) H := by
  obtain ⟨g, C, ws, QD, RX, h1, h2, h3, h4, h5, h6, h7⟩ := sp
  have hl : vs.length = ws.length := Paired.length h4
  have hga : g.as.length = n := by rw [h3.la, h2]
  refine (c (finX n RX)).run ⟨g, H⟩ g (start N vs) H (E0D N.length ws) C _ (finD n QD) ⟨start_map h4, ?_, h3, Fr0.self g H, Gk.refl _ _, ?_⟩ ⟨?_, ?_, ?_, ?_⟩ (h ws C QD RX (by rw [← hl, h1]) h2 h5)
  · unfold L2.start E0D
    rw [List.length_append, List.length_append, List.length_map, List.length_map, List.length_replicate, List.length_replicate, hl]
  · rintro g' H' C' cls d cc ds k f z x ⟨q1, q2, q3⟩
    exact h7 cls d H' (g'.tk n) _ cc ds (k.tk hga) f.tk (z.tk n q2) (by rw [List.length_take]; omega) x q3
  · rintro σ' H' g' E' C' k R' ⟨q1, q2, q3⟩
    rw [Bool.and_eq_true] at q2
    exact h6 .non H' (g'.tk n) _ (.val .none) (k.tk hga) (R'.fr.tk) (R'.cs.tk n q2.1) (by rw [List.length_take]; omega) RD.non q3
  · rintro v σ' H' g' E' C' w k R' r ⟨q1, q2, q3⟩
    rw [Bool.and_eq_true] at q2
    exact h6 v H' (g'.tk n) _ w (k.tk hga) (R'.fr.tk) (R'.cs.tk n q2.1) (by rw [List.length_take]; omega) (r.tk q2.2) q3
  · exact fun _ _ _ _ _ _ _ q => q.elim
  · exact fun _ _ _ _ _ _ _ q => q.elim
/-! ### calls -/
def X0 : XD := fun _ _ _ => False
/-- a call that is given data alone -/
def dCallP (m : Nat) (P : DSp) (a : DA) : DE := fun E C Q => a E C fun ws C1 => ws.length = m ∧ (vals ws).isSome = true ∧ P ws [] (fun w _ => Q w C1) X0
theorem rws_pure {ct : Cl} {g : Gh} {H : Hp} : ∀ {vs : List V} {ws : List W}, RWs ct g H vs ws → (vals ws).isSome = true → RWs ct ⟨g.F, [], []⟩ H vs ws
  | _, _, .nil, _ => .nil
  | _, _, .cons (b := .val d) (l₂ := ws) r rs, h => by
    have h' : ((vals ws).map (d :: ·)).isSome = true := h
    rw [Option.isSome_map] at h'
    exact .cons r (rws_pure rs h')
  | _, _, .cons (b := .ref k) r rs, h => nomatch h
  | _, _, .cons (b := .ty k) r rs, h => nomatch h
  | _, _, .cons (b := .fn ..) r rs, h => nomatch h
theorem clz_nil {ct : Cl} {g : Gh} {H : Hp} {C : List Cell} (c : Clz ct g H C) : Clz ct ⟨g.F, [], []⟩ H [] :=
  ⟨rfl, rfl, fun k c h => by simp at h, List.nodup_nil, fun a h => by simp at h, c.lv, c.tb, c.tf⟩
theorem Rel.called {ct : Ct} {B : Bs} {g g' : Gh} {σ : L2.St} {H H' : Hp} {E : Ev} {C : List Cell} (R : Rel ct B g σ H E C) (k : Gk ⟨g.F, [], []⟩ H g' H') (f : Fr0 (Bs.of ⟨g.F, [], []⟩ H) g' H') (c : Clz ct g' H' []) :
    Gk g H ⟨g'.F, g.as, g.ms⟩ H' ∧ Rel ct B ⟨g'.F, g.as, g.ms⟩ σ H' E C := by
  have kk : Gk g H ⟨g'.F, g.as, g.ms⟩ H' := ⟨k.kp, fun _ _ h => h, k.ex⟩
  have keep : ∀ a o, H a = some o → (∀ ps, o ≠ .tbl ps) → H' a = some o := fun a o h hu => f.keep a o h hu (by simp)
  have nF : ∀ a, g'.F a → g.F a ∨ H a = none := fun a h => by
    rcases f.newF a h with q | q | q
    · exact .inl q
    · exact .inr q
    · exact absurd q (by simp)
  refine ⟨kk, R.gk kk ⟨R.cs.la, R.cs.lm, fun j x h => ?_, R.cs.nd, fun a ha h => ?_, c.lv, c.tb, c.tf⟩ (R.fr.comp ⟨fun a xs h => keep a _ h (fun _ z => nomatch z), fun a o h hu _ => keep a o h hu, fun a ps h => f.tl a ps h, fun a h => ?_, fun a h => .inl h⟩)⟩
  · obtain ⟨a, m, h1, h2, h3⟩ := R.cs.at_ j x h
    refine ⟨a, m, h1, h2, h3.keep kk ?_⟩
    rcases h3.ob with ⟨o, e, hu⟩ | q
    · exact .inl ((keep a o e hu).trans e.symm)
    · exact .inr q
  · rcases nF a h with q | q
    · exact R.cs.ap a ha q
    · exact R.cs.mutSome a ha q
  · rcases nF a h with q | q
    · exact .inl q
    · exact .inr (.inl q)
instance ce_callP {ct : Ct} {E : XK} {R : XD} {m : Nat} {P : DSp} {E' : XK} {t : TA} {a : DA} [h : CA (ct.w E R) t a] : CE (ct.w E R) (tCall (spD ct 0 m P) [] E' t) (dCallP m P a) := ⟨fun B g σ H Ev C Q K Re k q => by
  refine h.run B g σ H Ev C _ _ Re (fun vs H1 ⟨g1, C1, ws, k1, R1, r1, q1⟩ => ?_) q
  obtain ⟨e1, e2, q2⟩ := q1
  rw [List.append_nil]
  refine ⟨⟨g1.F, [], []⟩, [], ws, _, X0, by rw [← e1]; exact Paired.length r1, rfl, clz_nil R1.cs, rws_pure r1 e2, q2, fun v H' g' C' w k' f' c' l' r' q' => ?_, fun _ _ _ _ _ _ _ _ _ _ _ _ z => z.elim⟩
  have e3 : C' = [] := List.eq_nil_of_length_eq_zero l'
  subst e3
  obtain ⟨k2, R2⟩ := R1.called k' f' c'
  refine k v H' ⟨_, C1, w, k1.trans k2, R2, ?_, q'⟩
  cases w with
  | val d => exact r'
  | ty n => exact r'
  | fn => exact r'
  | ref j =>
    obtain ⟨b, hb, _⟩ := r'
    have : g'.as.length = 0 := c'.la
    rw [List.eq_nil_of_length_eq_zero this] at hb
    simp at hb⟩
/-! ### calls that are given cells -/
def firstRef : List W → Option Nat
  | [] => none
  | .ref k :: _ => some k
  | _ :: ws => firstRef ws
def shW (k : Nat) : W → W
  | .ref j => .ref (j - k)
  | w => w
def unW (k : Nat) : W → W
  | .ref j => .ref (j + k)
  | w => w
def inW (k n : Nat) : W → Bool
  | .ref j => decide (k ≤ j) && decide (j < k + n)
  | _ => true
def shC (k : Nat) : Cell → Cell
  | .obj c ws => .obj c (ws.map (shW k))
  | c => c
def unC (k : Nat) : Cell → Cell
  | .obj c ws => .obj c (ws.map (unW k))
  | c => c
def inC (k n : Nat) : Cell → Bool
  | .obj _ ws => ws.all (inW k n)
  | _ => true
def Gh.wd (g : Gh) (k n : Nat) : Gh := ⟨g.F, (g.as.drop k).take n, (g.ms.drop k).take n⟩
theorem wd_get {α : Type} (xs : List α) (k n j : Nat) (h : k ≤ j ∧ j < k + n) : ((xs.drop k).take n)[j - k]? = xs[j]? := by
  rw [List.getElem?_take, if_pos (by omega), List.getElem?_drop]
  congr 1
  omega
theorem RW.wd {ct : Cl} {g : Gh} {H : Hp} {k n : Nat} {v : V} {w : W} (h : RW ct g H v w) (i : inW k n w = true) : RW ct (g.wd k n) H v (shW k w) := by
  cases w with
  | val d => exact h
  | ty n => exact h
  | fn => exact h
  | ref j =>
    obtain ⟨a, h1, h2⟩ := h
    have i' : (decide (k ≤ j) && decide (j < k + n)) = true := i
    rw [Bool.and_eq_true] at i'
    exact ⟨a, by show ((g.as.drop k).take n)[j - k]? = some a; rw [wd_get _ _ _ _ ⟨of_decide_eq_true i'.1, of_decide_eq_true i'.2⟩]; exact h1, h2⟩
theorem RWs.wd {ct : Cl} {g : Gh} {H : Hp} {k n : Nat} : ∀ {vs : List V} {ws : List W}, RWs ct g H vs ws → ws.all (inW k n) = true → RWs ct (g.wd k n) H vs (ws.map (shW k))
  | _, _, .nil, _ => .nil
  | _, _, .cons r rs, i => by
    rw [List.all_cons, Bool.and_eq_true] at i
    exact .cons (r.wd i.1) (RWs.wd rs i.2)
theorem flat_wd {ms : List (List Addr)} (k n : Nat) : ms.flatten = (ms.take k).flatten ++ (((ms.drop k).take n).flatten ++ (ms.drop (k + n)).flatten) := by
  rw [← List.flatten_append, ← List.flatten_append]
  congr 1
  rw [← List.drop_drop, List.take_append_drop, List.take_append_drop]
theorem Clz.wd {ct : Cl} {g : Gh} {H : Hp} {C : List Cell} (c : Clz ct g H C) (k n : Nat) (i : ((C.drop k).take n).all (inC k n) = true) : Clz ct (g.wd k n) H (((C.drop k).take n).map (shC k)) := by
  have sub : ∀ a, a ∈ ((g.ms.drop k).take n).flatten → a ∈ g.ms.flatten := fun a h => by
    rw [flat_wd (ms := g.ms) k n]
    exact List.mem_append_right _ (List.mem_append_left _ h)
  have nd := c.nd
  rw [flat_wd (ms := g.ms) k n, List.nodup_append] at nd
  refine ⟨?_, ?_, fun j x h => ?_, (List.nodup_append.mp nd.2.1).1, fun a ha h => c.ap a (sub a ha) h, c.lv, c.tb, c.tf⟩
  · show ((g.as.drop k).take n).length = _
    rw [List.length_map, List.length_take, List.length_take, List.length_drop, List.length_drop, c.la]
  · show ((g.ms.drop k).take n).length = _
    rw [List.length_map, List.length_take, List.length_take, List.length_drop, List.length_drop, c.lm]
  · rw [List.getElem?_map] at h
    cases e : ((C.drop k).take n)[j]? with
    | none =>
      rw [e] at h
      cases h
    | some y =>
      rw [e] at h
      cases h
      have hy : y ∈ (C.drop k).take n := List.mem_of_getElem? e
      have hj : j < n := by
        have := (List.getElem?_eq_some_iff.mp e).1
        rw [List.length_take] at this
        omega
      rw [List.getElem?_take, if_pos hj, List.getElem?_drop] at e
      obtain ⟨a, m, h1, h2, h3⟩ := c.at_ _ y e
      refine ⟨a, m, by show ((g.as.drop k).take n)[j]? = _; rw [List.getElem?_take, if_pos hj, List.getElem?_drop]; exact h1, by show ((g.ms.drop k).take n)[j]? = _; rw [List.getElem?_take, if_pos hj, List.getElem?_drop]; exact h2, ?_⟩
      have iy := List.all_eq_true.mp i y hy
      cases y with
      | lst ds => exact h3
      | frz ds => exact h3
      | obj cc ws =>
        obtain ⟨e, Cc, ns, dx, vs, q1, q2, q3, q4⟩ := h3
        exact ⟨e, Cc, ns, dx, vs, q1, q2, q3, q4.wd iy⟩
      | nil => exact h3
/-- back in the caller -/
def Gh.bk (g g' : Gh) (k n : Nat) : Gh := ⟨g'.F, g.as, g.ms.take k ++ g'.ms ++ g.ms.drop (k + n)⟩
section
variable {ct : Ct} {B : Bs} {g g' : Gh} {σ : L2.St} {H H' : Hp} {E : Ev} {C C' : List Cell} {k n : Nat}
theorem RW.un {ct : Cl} (ha : ∀ (j : Nat) (a : Addr), g'.as[j]? = some a → g.as[j + k]? = some a) {v : V} {w : W} (h : RW ct g' H' v w) : RW ct (g.bk g' k n) H' v (unW k w) := by
  cases w with
  | val d => exact h
  | ty n => exact h
  | fn => exact h
  | ref j =>
    obtain ⟨a, h1, h2⟩ := h
    exact ⟨a, ha j a h1, h2⟩
theorem RWs.un {ct : Cl} (ha : ∀ (j : Nat) (a : Addr), g'.as[j]? = some a → g.as[j + k]? = some a) : ∀ {vs : List V} {ws : List W}, RWs ct g' H' vs ws → RWs ct (g.bk g' k n) H' vs (ws.map (unW k))
  | _, _, .nil => .nil
  | _, _, .cons r rs => .cons (RW.un ha r) (RWs.un ha rs)
theorem Rel.calledW (R : Rel ct B g σ H E C) (hk : k + n ≤ C.length) (kk : Gk (g.wd k n) H g' H') (f : Fr0 (Bs.of (g.wd k n) H) g' H') (c : Clz ct g' H' C') (hl : C'.length = n) :
    Gk g H (g.bk g' k n) H' ∧ Rel ct B (g.bk g' k n) σ H' E (C.take k ++ C'.map (unC k) ++ C.drop (k + n)) ∧ ∀ (j : Nat) (a : Addr), g'.as[j]? = some a → g.as[j + k]? = some a := by
  have hga : g.as.length = C.length := R.cs.la
  have hgm : g.ms.length = C.length := R.cs.lm
  have has : ∀ (j : Nat) (a : Addr), g'.as[j]? = some a → g.as[j + k]? = some a := fun j a h => by
    have hj : j < n := by
      rw [← hl, ← c.la]
      exact (List.getElem?_eq_some_iff.mp h).1
    have hb : (g.wd k n).as[j]? = g.as[j + k]? := by
      show ((g.as.drop k).take n)[j]? = _
      rw [List.getElem?_take, if_pos hj, List.getElem?_drop, Nat.add_comm]
    cases e : g.as[j + k]? with
    | none =>
      rw [List.getElem?_eq_none_iff] at e
      omega
    | some b =>
      rw [e] at hb
      have := kk.as j b hb
      rw [h] at this
      exact this.symm
  have k2 : Gk g H (g.bk g' k n) H' := ⟨kk.kp, fun _ _ h => h, kk.ex⟩
  have nd := R.cs.nd
  rw [flat_wd (ms := g.ms) k n, List.nodup_append] at nd
  obtain ⟨nd1, nd2, nd3⟩ := nd
  rw [List.nodup_append] at nd2
  obtain ⟨nd4, nd5, nd6⟩ := nd2
  have keep : ∀ a o, H a = some o → (∀ ps, o ≠ .tbl ps) → a ∉ (g.wd k n).ms.flatten → H' a = some o := fun a o h hu hm => f.keep a o h hu hm
  have all : ∀ a, (a ∈ (g.ms.take k).flatten ∨ a ∈ (g.ms.drop (k + n)).flatten) → a ∈ g.ms.flatten ∧ a ∉ (g.wd k n).ms.flatten := fun a h => by
    refine ⟨?_, fun hw => ?_⟩
    · rw [flat_wd (ms := g.ms) k n]
      rcases h with h | h
      · exact List.mem_append_left _ h
      · exact List.mem_append_right _ (List.mem_append_right _ h)
    · rcases h with h | h
      · exact nd3 a h a (List.mem_append_left _ hw) rfl
      · exact nd6 a hw a h rfl
  have newM : ∀ a ∈ g'.ms.flatten, a ∈ (g.wd k n).ms.flatten ∨ H a = none := f.newM
  have newF : ∀ a, g'.F a → g.F a ∨ H a = none ∨ a ∈ (g.wd k n).ms.flatten := f.newF
  have fl : (g.bk g' k n).ms.flatten = (g.ms.take k).flatten ++ (g'.ms.flatten ++ (g.ms.drop (k + n)).flatten) := by
    show (g.ms.take k ++ g'.ms ++ g.ms.drop (k + n)).flatten = _
    rw [List.flatten_append, List.flatten_append, List.append_assoc]
  have sep : ∀ a, (a ∈ (g.ms.take k).flatten ∨ a ∈ (g.ms.drop (k + n)).flatten) → a ∉ g'.ms.flatten := fun a h hg => by
    obtain ⟨h1, h2⟩ := all a h
    rcases newM a hg with q | q
    · exact h2 q
    · exact R.cs.mutSome a h1 q
  have sepF : ∀ a, (a ∈ (g.ms.take k).flatten ∨ a ∈ (g.ms.drop (k + n)).flatten) → ¬ g'.F a := fun a h hg => by
    obtain ⟨h1, h2⟩ := all a h
    rcases newF a hg with q | q | q
    · exact R.cs.ap a h1 q
    · exact R.cs.mutSome a h1 q
    · exact h2 q
  have wdm : ∀ a, a ∈ (g.wd k n).ms.flatten → a ∈ g.ms.flatten := fun a h => by
    rw [flat_wd (ms := g.ms) k n]
    exact List.mem_append_right _ (List.mem_append_left _ h)
  refine ⟨k2, R.gk k2 ⟨?_, ?_, fun j x h => ?_, ?_, fun a ha h => ?_, c.lv, c.tb, c.tf⟩ (R.fr.comp ⟨f.kt, fun a o h hu hm => keep a o h hu fun z => hm (wdm a z), f.tl, fun a h => ?_, fun a h => ?_⟩), has⟩
  · show g.as.length = _
    rw [List.length_append, List.length_append, List.length_map, List.length_take, List.length_drop]
    omega
  · show (g.ms.take k ++ g'.ms ++ g.ms.drop (k + n)).length = _
    have := c.lm
    rw [List.length_append, List.length_append, List.length_append, List.length_append, List.length_map, List.length_take, List.length_drop, List.length_take, List.length_drop]
    omega
  · have lt : (C.take k).length = k := by rw [List.length_take]; omega
    have ltm : (g.ms.take k).length = k := by rw [List.length_take]; omega
    have lc : (C'.map (unC k)).length = n := by rw [List.length_map]; exact hl
    have lgm : g'.ms.length = n := by rw [c.lm]; exact hl
    by_cases h1 : j < k
    · rw [List.append_assoc, List.getElem?_append_left (by omega), List.getElem?_take, if_pos h1] at h
      obtain ⟨a, m, q1, q2, q3⟩ := R.cs.at_ j x h
      refine ⟨a, m, q1, ?_, ?_⟩
      · show (g.ms.take k ++ g'.ms ++ g.ms.drop (k + n))[j]? = _
        rw [List.append_assoc, List.getElem?_append_left (by omega), List.getElem?_take, if_pos h1]
        exact q2
      · refine q3.keep k2 ?_
        have hin : ∀ b ∈ m, b ∈ (g.ms.take k).flatten := fun b hb => mem_flat (k := j) (by rw [List.getElem?_take, if_pos h1]; exact q2) hb
        cases x with
        | lst ds =>
          obtain ⟨e, xs, r1, _⟩ := q3
          exact .inl (by rw [r1]; exact keep a _ r1 (fun _ z => nomatch z) (all a (.inl (hin a (by rw [e]; exact List.mem_singleton.mpr rfl)))).2)
        | frz ds =>
          obtain ⟨_, fa, _⟩ := q3
          exact .inl (kk.kp.2 a fa).2
        | obj cc ws =>
          obtain ⟨e, _, _, _, _, _, r1, _⟩ := q3
          exact .inl (by rw [r1]; exact keep a _ r1 (fun _ z => nomatch z) (all a (.inl (hin a (by rw [e]; exact List.mem_singleton.mpr rfl)))).2)
        | nil => exact .inr rfl
    · by_cases h2 : j < k + n
      · rw [List.append_assoc, List.getElem?_append_right (by omega), lt, List.getElem?_append_left (by omega), List.getElem?_map] at h
        cases e : C'[j - k]? with
        | none =>
          rw [e] at h
          cases h
        | some y =>
          rw [e] at h
          cases h
          obtain ⟨a, m, q1, q2, q3⟩ := c.at_ _ y e
          have hjk : j - k + k = j := by omega
          refine ⟨a, m, by have := has _ a q1; rw [hjk] at this; exact this, ?_, ?_⟩
          · show (g.ms.take k ++ g'.ms ++ g.ms.drop (k + n))[j]? = _
            rw [List.append_assoc, List.getElem?_append_right (by omega), ltm, List.getElem?_append_left (by omega)]
            exact q2
          · cases y with
            | lst ds => exact q3
            | frz ds => exact q3
            | obj cc ws =>
              obtain ⟨e, Cc, ns, dx, vs, r1, r2, r3, r4⟩ := q3
              exact ⟨e, Cc, ns, dx, vs, r1, r2, r3, RWs.un has r4⟩
            | nil => exact q3
      · rw [List.append_assoc, List.getElem?_append_right (by omega), lt, List.getElem?_append_right (by omega), lc, List.getElem?_drop] at h
        have hj : k + n + (j - k - n) = j := by omega
        rw [hj] at h
        obtain ⟨a, m, q1, q2, q3⟩ := R.cs.at_ j x h
        have hm2 : (g.ms.drop (k + n))[j - k - n]? = some m := by
          rw [List.getElem?_drop, hj]
          exact q2
        refine ⟨a, m, q1, ?_, ?_⟩
        · show (g.ms.take k ++ g'.ms ++ g.ms.drop (k + n))[j]? = _
          rw [List.append_assoc, List.getElem?_append_right (by omega), ltm, List.getElem?_append_right (by omega), lgm]
          exact hm2
        · refine q3.keep k2 ?_
          have hin : ∀ b ∈ m, b ∈ (g.ms.drop (k + n)).flatten := fun b hb => mem_flat hm2 hb
          cases x with
          | lst ds =>
            obtain ⟨e, xs, r1, _⟩ := q3
            exact .inl (by rw [r1]; exact keep a _ r1 (fun _ z => nomatch z) (all a (.inr (hin a (by rw [e]; exact List.mem_singleton.mpr rfl)))).2)
          | frz ds =>
            obtain ⟨_, fa, _⟩ := q3
            exact .inl (kk.kp.2 a fa).2
          | obj cc ws =>
            obtain ⟨e, _, _, _, _, _, r1, _⟩ := q3
            exact .inl (by rw [r1]; exact keep a _ r1 (fun _ z => nomatch z) (all a (.inr (hin a (by rw [e]; exact List.mem_singleton.mpr rfl)))).2)
          | nil => exact .inr rfl
  · rw [fl, List.nodup_append]
    refine ⟨nd1, List.nodup_append.mpr ⟨c.nd, nd5, fun a ha b hb e => sep b (.inr hb) (by rw [← e]; exact ha)⟩, fun a ha b hb e => ?_⟩
    rcases List.mem_append.mp hb with q | q
    · exact sep a (.inl ha) (by rw [e]; exact q)
    · exact nd3 a ha b (List.mem_append_right _ q) e
  · rw [fl, List.mem_append, List.mem_append] at ha
    rcases ha with q | q | q
    · exact sepF a (.inl q) h
    · exact c.ap a q h
    · exact sepF a (.inr q) h
  · rcases newF a h with q | q | q
    · exact .inl q
    · exact .inr (.inl q)
    · exact .inr (.inr (wdm a q))
  · rw [fl, List.mem_append, List.mem_append] at h
    rcases h with q | q | q
    · exact .inl (all a (.inl q)).1
    · rcases newM a q with z | z
      · exact .inl (wdm a z)
      · exact .inr z
    · exact .inl (all a (.inr q)).1
end
def putW (C C' : List Cell) (k n : Nat) : List Cell := C.take k ++ C'.map (unC k) ++ C.drop (k + n)
def callK (n m : Nat) (P : DSp) (RX : XD) (Q : DK) (ws : List W) (C1 : List Cell) : Option Nat → Prop
  | some k => ws.length = m ∧ k + n ≤ C1.length ∧ (ws.all (inW k n) && ((C1.drop k).take n).all (inC k n)) = true ∧
    P (ws.map (shW k)) (((C1.drop k).take n).map (shC k)) (fun w C' => Q (unW k w) (putW C1 C' k n)) fun c ds C' => RX c ds (putW C1 C' k n)
  | none => False
def dCallW (n m : Nat) (P : DSp) (a : DA) (RX : XD) : DE := fun E C Q => a E C fun ws C1 => callK n m P RX Q ws C1 (firstRef ws)
instance ce_callW {ct : Ct} {E : XK} {R : XD} {n m : Nat} {P : DSp} {E' : XK} {t : TA} {a : DA} [h : CA (ct.w E R) t a] : CE (ct.w E R) (tCall (spD ct (n + 1) m P) [] E' t) (dCallW (n + 1) m P a X0) := ⟨fun B g σ H Ev C Q K Re k q => by
  refine h.run B g σ H Ev C _ _ Re (fun vs H1 ⟨g1, C1, ws, k1, R1, r1, q1⟩ => ?_) q
  unfold callK at q1
  dsimp only at q1
  split at q1
  · rename_i j e
    obtain ⟨e1, e2, e3, q2⟩ := q1
    rw [Bool.and_eq_true] at e3
    rw [List.append_nil]
    refine ⟨g1.wd j (n + 1), _, _, _, _, by rw [← e1]; exact Paired.length r1, ?_, R1.cs.wd j (n + 1) e3.2, r1.wd e3.1, q2, fun v H' g' C' w k' f' c' l' r' q' => ?_, fun _ _ _ _ _ _ _ _ _ _ _ _ z => z.elim⟩
    · rw [List.length_map, List.length_take, List.length_drop]
      omega
    obtain ⟨k2, R2, h2⟩ := R1.calledW e2 k' f' c' l'
    exact k v H' ⟨_, _, _, k1.trans k2, R2, RW.un h2 r', q'⟩
  · exact q1.elim⟩
/-! ### names that are frozen, lists that are cells: the same terms under another name -/
section
variable {X : Cx}
theorem pvF (i : Nat) {x : Str} {pos : Pos} (hN : X.N[i]? = some x := by rfl) (hv : Vis X.env.scope x := by first | exact Or.inl rfl | exact Or.inr (Or.inl rfl) | exact Or.inr (Or.inr rfl)) (hd : (x == ("__debug__" : Str)) = false := by decide)
    (hcd : (x == ("__classdict__" : Str)) = false := by decide) : PE X (.Name x pos) (tVarF i) := pe_var hN hv hd hcd
theorem psC {st : Stmt} {te : TE} {i : Nat} (h : PS X st (tAsg te (gName i))) : PS X st (tAsgC te i) := h
end
/-! ### the law's start -/
def lawD : DEnds := { nx := fun _ _ => False, rt := fun w _ => w = .val (.bool true) }
abbrev st0 (ns : List Int) : Cell := .lst [.int 0, .int 0, .list (ns.map .int), .int 1]
def spLaw (K : PySem.W.Frag) (T : List (Addr × Str)) : Sp := fun vs H Q _ => ∃ (a : Addr) (ns : List Int), vs = [.ref a] ∧ SqL K H a (ns.map V.int) ∧ ns.length ≤ 63 ∧ LamX.Tabs T H ∧ ∀ H', Q (.bl true) H'
theorem RDs.ints {ct : Cl} {F : Addr → Prop} {H : Hp} : ∀ ns : List Int, RDs ct F H (ns.map V.int) (ns.map .int)
  | [] => .nil
  | n :: r => .cons (.int n) (RDs.ints r)
theorem law_body {ct : Ct} {K : PySem.W.Frag} {N : List Str} {tt : TS} {t : DS} {vs : List V} {H : Hp} {Q : VK} (c : CS (ct.w E0 X0) tt t) (hN : 2 ≤ N.length) (h : ∀ ns : List Int, ns.length ≤ 63 → t lawD ([none, some (.ref 0)] ++ List.replicate (N.length - 2) none) [st0 ns])
    (sp : spLaw K ct.cl.T vs H Q E0) : tSeq (tAsg (tLst (tCons (tC (.int 0)) (tCons (tC (.int 0)) (tCons (tCB (rListA K) (tCons (tVar 0) tNil)) (tCons (tC (.int 1)) tNil))))) (gName 1)) tt { nx := fun _ H' => Q .non H', rt := Q } (start N vs) H := by
  obtain ⟨a, ns, rfl, hS, hlen, hT, q⟩ := sp
  refine ⟨_, rfl, a, _, rfl, .inl hS, fun l hl => ?_⟩
  refine ⟨by show 4 ≤ sizeLine; decide, fun st hst => ?_⟩
  have nls : l ≠ st := ne_of_none upd_same hst
  have hl2 : upd (upd H l (.lst (ns.map V.int))) st (.lst [.int 0, .int 0, .ref l, .int 1]) l = some (.lst (ns.map V.int)) := by
    rw [upd_ne nls]
    exact upd_same
  have hs2 : upd (upd H l (.lst (ns.map V.int))) st (.lst [.int 0, .int 0, .ref l, .int 1]) st = some (.lst [.int 0, .int 0, .ref l, .int 1]) := upd_same
  have hT1 : LamX.Tabs ct.cl.T (upd (upd H l (.lst (ns.map V.int))) st (.lst [.int 0, .int 0, .ref l, .int 1])) := tabs_new (tabs_new hT hl) hst
  generalize upd (upd H l (.lst (ns.map V.int))) st (.lst [.int 0, .int 0, .ref l, .int 1]) = H0 at hl2 hs2 hT1
  have r : RDs ct.cl (fun b => b = l) H0 [V.int 0, .int 0, .ref l, .int 1] [.int 0, .int 0, .list (ns.map .int), .int 1] := .cons (.int 0) (.cons (.int 0) (.cons (.lst rfl hl2 (RDs.ints ns)) (.cons (.int 1) .nil)))
  have cz : Clz ct.cl ⟨fun b => b = l, [st], [[st]]⟩ H0 [st0 ns] := by
    refine ⟨rfl, rfl, fun k c h => ?_, by simp, fun b hb h => ?_, fun b h => ?_, hT1, fun q hq h => ?_⟩
    · cases k with
      | zero =>
        cases h
        exact ⟨st, [st], rfl, rfl, rfl, _, hs2, r⟩
      | succ k => simp at h
    · have e : b = st := by simpa using hb
      exact nls (by rw [← h, e])
    · rw [h, hl2]
      exact fun z => nomatch z
    · obtain ⟨ps, e⟩ := tab_some hT1 q hq
      rw [show q.1 = l from h, hl2] at e
      cases e
  refine c.run ⟨⟨fun b => b = l, [st], [[st]]⟩, H0⟩ ⟨fun b => b = l, [st], [[st]]⟩ _ H0 _ _ _ lawD ⟨fun i w h => ?_, ?_, cz, Fr0.self _ _, Gk.refl _ _, ?_⟩ ⟨?_, ?_, ?_, ?_⟩ (h ns hlen)
  · cases i with
    | zero => cases h
    | succ i =>
      cases i with
      | zero =>
        cases h
        refine ⟨.ref st, ?_, st, rfl, rfl⟩
        show ((L2.start N [V.ref a]).set 1 (some (.ref st)))[1]? = _
        rw [List.getElem?_set_self]
        show 1 < ([some (V.ref a)] ++ List.replicate (N.length - 1) none).length
        rw [List.length_append, List.length_replicate]
        show 1 < 1 + _
        omega
      | succ i =>
        have h' : ([none, some (W.ref 0)] ++ List.replicate (N.length - 2) (none : Option W))[i + 2]? = some (some w) := h
        rw [List.getElem?_append_right (by simp), List.getElem?_replicate] at h'
        split at h' <;> cases h'
  · show ((L2.start N [V.ref a]).set 1 (some (.ref st))).length = _
    rw [List.length_set]
    show ([some (V.ref a)] ++ List.replicate (N.length - 1) none).length = ([none, some (W.ref 0)] ++ List.replicate (N.length - 2) none).length
    rw [List.length_append, List.length_append, List.length_replicate, List.length_replicate]
    show 1 + _ = 2 + _
    omega
  · exact fun _ _ _ _ _ _ _ _ _ _ _ z => z.elim
  · exact fun _ _ _ _ _ _ _ z => z.elim
  · rintro v σ' H' g' E' C' w k R' rw_ e
    have e2 : w = .val (.bool true) := e
    subst e2
    rw [rw_bool rw_]
    exact q H'
  · exact fun _ _ _ _ _ _ _ z => z.elim
  · exact fun _ _ _ _ _ _ _ z => z.elim
end RR

namespace RX
open PySem PySem.Spec PyProof.Rows L2
/-! ### t[::-1] of a tuple -/
theorem back_pick (xs : List Value) : ((List.range xs.length).filterMap fun (k : Nat) => xs.toArray[((((xs.length : Nat) : Int) - 1) + (k : Int) * (-1)).toNat]?) = xs.reverse := by
  have key : ∀ n, n ≤ xs.length → ((List.range n).filterMap fun (k : Nat) => xs.toArray[((((xs.length : Nat) : Int) - 1) + (k : Int) * (-1)).toNat]?) = xs.reverse.take n := by
    intro n
    induction n with
    | zero => intro _; rfl
    | succ n ih =>
      intro h
      have e : ((((xs.length : Nat) : Int) - 1) + (n : Int) * (-1)).toNat = xs.length - 1 - n := by omega
      have hl : xs.length - 1 - n < xs.length := by omega
      have hr : xs.reverse[n]? = some xs[xs.length - 1 - n] := by
        rw [List.getElem?_reverse (by omega), List.getElem?_eq_getElem hl]
      have hx : xs.toArray[((((xs.length : Nat) : Int) - 1) + (n : Int) * (-1)).toNat]? = some xs[xs.length - 1 - n] := by
        rw [e, List.getElem?_toArray, List.getElem?_eq_getElem hl]
      rw [List.range_succ, List.filterMap_append, ih (by omega), List.take_add_one, hr, List.filterMap_cons, hx]
      rfl
  rw [key xs.length (Nat.le_refl _), List.take_of_length_le (by rw [List.length_reverse]; exact Nat.le_refl _)]
theorem back_adjust (n : Nat) : Builtin.Slice.sliceAdjust none none (-1) (n : Int) = ((n : Int) - 1, -1) := by
  unfold Builtin.Slice.sliceAdjust
  simp
theorem back_places (n : Nat) : Builtin.Slice.slicePlaces ((n : Int) - 1) (-1) (-1) = n := by
  unfold Builtin.Slice.slicePlaces
  simp
  omega
section
variable {prog : Program} {w : World} {A : Around} {E : Value → Shared → Prop} {s : Shared}
theorem applied_back {sl : Addr} {vs : Value} {n : Nat} {Q : Int × Int × Nat → Shared → Prop} (hs : s.heap.IsSliceOf sl .none .none vs) (ps : IsPart vs (some (-1))) (h : Q ((n : Int) - 1, -1, n) s) :
    wpAny (model prog w) A (Builtin.Slice.sliceApplied (.ref sl) (pure (n : Int))) Q E s := by
  obtain ⟨os, hos, hcs, hds⟩ := id hs
  unfold Builtin.Slice.sliceApplied Builtin.Slice.sliceFields
  refine wpAny_bind (wpAny_bind (wpAny_field hos hds (x := .none) rfl (wpAny_bind (wpAny_field hos hds (x := .none) rfl (wpAny_bind (wpAny_field hos hds (x := vs) rfl (wpAny_pure ?_)))))))
  refine wpAny_bind (HT.slicePart_ ps ?_)
  show wpAny _ _ (if ((-1 : Int) == 0) = true then _ else _) _ _ s
  rw [if_neg (by decide)]
  refine wpAny_bind (slicePart_none (wpAny_bind (slicePart_none (wpAny_bind (wpAny_pure ?_)))))
  show wpAny _ _ (match Builtin.Slice.sliceAdjust none none (-1) (n : Int) with | (lo, hi) => pure (lo, (-1 : Int), Builtin.Slice.slicePlaces lo hi (-1))) _ _ s
  rw [back_adjust n]
  show wpAny _ _ (pure ((n : Int) - 1, (-1 : Int), Builtin.Slice.slicePlaces ((n : Int) - 1) (-1) (-1))) _ _ s
  rw [back_places]
  exact wpAny_pure h
theorem getItem_tuple_back {t sl : Addr} {its : List Value} {vs : Value} {Q : Value → Shared → Prop} (ht : IsTup s.heap t its.toArray) (hs : s.heap.IsSliceOf sl .none .none vs) (ps : IsPart vs (some (-1)))
    (h : Q (.ref s.heap.objs.size) { s with heap := s.heap.push { cls := .type "tuple", data := .seq its.reverse.toArray } }) (hsz : its.length ≤ sizeLine) : wpAny (model prog w) A (getItem (.ref t) (.ref sl)) Q E s := by
  have htake : sizeOk (.seq its.reverse.toArray) := by
    show its.reverse.toArray.size ≤ sizeLine
    rw [List.size_toArray, List.length_reverse]
    exact hsz
  obtain ⟨os, hos, hcs, hds⟩ := id hs
  have hTs : s.TypeIs (.ref sl) "slice" := ⟨os, hos, hcs⟩
  unfold getItem
  try with_reducible refine wpAny_holding ?_
  first | refine wpAny_bind (wpAny_pure ?_) | skip
  refine wpAny_bind (wpAny_sequenceKey ht.typeIs (by decide) ?_)
  refine wpAny_bind (wpAny_callSpecial?_slot (name := Str.ofString "__getitem__") ht.typeIs PyProof.Rows.slot_tuple_getitem (wpAny_call_entry PyProof.Rows.slot_tuple_getitem ht.typeIs entry_tuple_getitem ?_ (args_tuple_getitem _ _)))
  show wpAny _ _ (Builtin.Tuple.tupleItemsOf (.ref t) >>= _) _ _ s
  refine wpAny_bind (tupleItemsOf_ ht ?_)
  refine wpAny_bind (wpAny_typeOf hTs ?_)
  rw [if_pos (by decide), List.size_toArray]
  refine wpAny_bind (applied_back hs ps ?_)
  have hno : ¬ ((((its.length : Int) - 1) == 0 && (-1 : Int) == 1 && its.length == its.length) = true) := by simp
  show wpAny _ _ (if (((its.length : Int) - 1) == 0 && (-1 : Int) == 1 && its.length == its.length) = true then _ else _) _ _ s
  rw [if_neg hno, back_pick]
  first
    | exact wpAny_bind (m := Builtin.Tuple.tupleExact _) (wpAny_newObj_type (wpAny_pure ⟨_, rfl, wpAny_pure h⟩) htake)
    | exact wpAny_bind (m := Builtin.Tuple.tupleExact _) (wpAny_newObj_type (wpAny_bind (wpAny_pure (wpAny_pure ⟨_, rfl, wpAny_pure h⟩))) htake)
    | exact wpAny_bind (wpAny_bind (m := Builtin.Tuple.tupleExact _) (wpAny_newObj_type (wpAny_pure (wpAny_pure ⟨_, rfl, wpAny_pure h⟩)) htake))
end
theorem ext_tup (l b : Addr) (items items2 : Array Value) (n n2 : Nat) (dd : Option Addr) (sl : Array (Option Value)) (hs0 : ¬(!items.isEmpty && Builtin.List.listTooLong (items.size + items2.size)) = true) (hs1 : items.size ≤ sizeLine) (hs2 : items.size + items2.size ≤ sizeLine + 1) :
    Meets (Builtin.«list.extend» ⟨[.ref l, .ref b], []⟩) (fun _ R s => s.heap.get? l = some { cls := .type "list", dict := none, data := .seq items n, slots := #[] } ∧ s.heap.get? b = some { cls := .type "tuple", dict := dd, data := .seq items2 n2, slots := sl } ∧
      R (.ok (.ret Value.none)) { s with heap := s.heap.update l (Obj.mapSeq fun x => x ++ items2), toks := s.toks }) := .of_wp fun prog w A R s h => by
  obtain ⟨hp, g, d, tk, os⟩ := s
  obtain ⟨hl, hb, h⟩ := h
  have f1 := AutoSeq1.idx_int
  have f2 := AutoSeq1.sub_tuple_tuple
  have f3 := AutoSeq1.sub_list_list
  have f4 := AutoSeq1.sub_tuple_list
  have f5 := AutoSeq1.sub_list_tuple
  have hz' : (items ++ items2).size ≤ sizeLine + 1 := by
    rw [Array.size_append]
    exact hs2
  wp_walk using (wpAny_updateSeq hl rfl (hz := hs1) (_hz' := hz')), AutoSeq1.wpAny_loadPart' hl, AutoSeq1.wpAny_loadPart' hb
  exact ⟨_, rfl, h⟩
section
variable {X : Cx}
def tRevT (K : PySem.W.Frag) (te : TE) : TE := fun σ H Q => te σ H fun x H1 => ∃ a xs, x = .ref a ∧ SqT K H1 a xs ∧ ∀ p, H1 p = none → Q (.ref p) (upd H1 p (.tup xs.reverse))
theorem pe_revT {e : Expr} {te : TE} {k : Nat} {p1 p2 p3 pos : Pos} (he : PE X e te) : PE X (.Subscript e (.Slice none none (some (.UnaryOp .USub (.Constant (.int 1) k p1) p2)) p3) pos) (tRevT X.K te) := by
  refine ⟨fun pins s σ H Q I h => Subscript_ (thn (he.run pins s σ H _ I h) fun v s1 ⟨x, H1, I1, r1, q1⟩ => ?_)⟩
  obtain ⟨a, xs, ex, hx, q⟩ := q1
  subst ex
  cases r1
  have hst : PO X (some (.UnaryOp .USub (.Constant (.int 1) k p1) p2)) (tPart (tUn (rU fun i => .int (-i)) (tC (.int 1)))) := po_some (pe_un un_neg pe_int)
  refine wpAny_Slice (thn (po_none.run pins s1 σ H1 (fun o H2 => o = none ∧ H2 = H1) I1 ⟨rfl, rfl⟩) fun vl s2 ⟨l, H2, I2, pl, el, e2⟩ => ?_)
  subst el e2
  refine thn (po_none.run pins s2 σ H2 (fun o H3 => o = none ∧ H3 = H2) I2 ⟨rfl, rfl⟩) fun vu s3 ⟨u, H3, I3, pu, eu, e3⟩ => ?_
  subst eu e3
  refine thn (hst.run pins s3 σ H3 (fun o H4 => o = some (-1) ∧ H4 = H3) I3 ⟨1, rfl, -1, rfl, rfl, rfl⟩) fun vs s4 ⟨o, H4, I4, ps, eo, e4⟩ => ?_
  subst eo e4
  cases pl
  cases pu
  have I5 : Inv X pins σ H4 { s4 with heap := s4.heap.push { cls := .type "slice", data := .fields #[.none, .none, vs] } } := I4.kept (t' := s4.toks) fun b ob q => Heap.get?_push_of_some _ q
  obtain ⟨its, r, ht, hz⟩ := I5.tuple hx
  have hlen := r.length
  show wpAny (model X.prog X.w) X.A (subscriptTail e (.Slice none none (some (.UnaryOp .USub (.Constant (.int 1) k p1) p2)) p3) (.ref a) (.ref s4.heap.objs.size)) (EP X pins σ Q) X.xe { s4 with heap := s4.heap.push { cls := .type "slice", data := .fields #[.none, .none, vs] } }
  refine tail_any (ops := [.ref a, .ref s4.heap.objs.size]) ht.typeIs PyProof.Rows.slot_tuple_getitem.lookup ?_ (by with_unfolding_all rfl)
  refine getItem_tuple_back ht (Heap.IsSliceOf.new _ .none .none vs) ps ?_ (by omega)
  exact ⟨.ref _, _, I5.laid (t' := s4.toks) (o := .tup xs.reverse) (fun b ob q => Heap.get?_push_of_some _ q) (Nat.le_refl _) ⟨by rw [List.length_reverse]; exact hz, _, r.reverse, IsTup.new _ _⟩, rfl, q _ (I5.hok.fresh (Nat.le_refl _))⟩
/-! ### xs.extend(t), t a tuple -/
def rExtT (K : PySem.W.Frag) : V → List V → Hp → VK → Prop := fun x vs H Q => ∃ l b xs zs, x = .ref l ∧ vs = [.ref b] ∧ H l = some (.lst xs) ∧ H b = some (.tup zs) ∧ xs.length + zs.length ≤ sizeLine ∧ Q .non (upd H l (.lst (xs ++ zs)))
theorem mt_extT : MtM X "list.extend" (rExtT X.K) := by
  intro pins s σ H x vs v us Q I rx rv h
  obtain ⟨l, b, xs, zs, rfl, rfl, hH, hB, hz, q⟩ := h
  cases rx
  obtain ⟨u, rfl, ru⟩ := rv.one
  cases ru
  obtain ⟨z, its, n, r, hl, e⟩ := I.lstM hH
  obtain ⟨z2, its2, r2, o, e2, hc, n2, hd⟩ := (show ObjOk X.prog X.w H s.heap b (.tup zs) from I.hok b _ hB)
  obtain ⟨oc, od, dt, osl⟩ := o
  simp only at hc hd
  subst hc hd
  have l2 := r2.length
  have hsz : its.toArray.size + its2.toArray.size ≤ sizeLine := by
    rw [List.size_toArray, List.size_toArray]
    omega
  have hlong : ¬ (!its.toArray.isEmpty && Builtin.List.listTooLong (its.toArray.size + its2.toArray.size)) = true := by
    rw [notLongL hsz, Bool.and_false]
    exact Bool.false_ne_true
  refine call_meets F.slot_list_extend ⟨_, e, rfl⟩ F.entry_list_extend (F.args_list_extend_2 _ _) (ext_tup l b its.toArray its2.toArray n n2 od osl hlong (by omega) (by omega)) ⟨e, e2, ?_⟩
  exact ⟨.non, _, I.lset (its' := its ++ its2) hH e (by simp) (r.append r2) (by rw [List.length_append]; omega), rfl, q⟩
end
end RX

namespace RR
open PySem PySem.Spec PyProof.Rows L2
/-! ### t[::-1] -/
def revTK (Q : DK) : W → List Cell → Prop
  | .val (.tuple ds), C1 => Q (.val (.tuple ds.reverse)) C1
  | _, _ => False
def dRevT (a : DE) : DE := fun E C Q => a E C (revTK Q)
instance ce_revT {ct : Ct} {K : PySem.W.Frag} {t : TE} {a : DE} [h : CE ct t a] : CE ct (RX.tRevT K t) (dRevT a) := ⟨fun B g σ H E C Q K' R k q => by
  refine h.run B g σ H E C _ _ R (fun v H1 ⟨g1, C1, x, k1, R1, r1, q1⟩ => ?_) q
  unfold revTK at q1
  split at q1
  · obtain ⟨a, xs, rfl, h1, h2⟩ := rw_tup r1
    exact ⟨a, xs, rfl, SqT.of h1, fun p hp => post_tup R1 hp h2.rev (fun v' H' p => k v' H' (p.back k1)) q1⟩
  · exact q1.elim⟩
/-! ### extend by a list or a tuple -/
def rExtA (K : PySem.W.Frag) : V → List V → Hp → VK → Prop := fun x vs H Q => rExtend x vs H Q ∨ RX.rExtT K x vs H Q
theorem mt_extA {X : Cx} : MtM X "list.extend" (rExtA X.K) := by
  intro pins s σ H x xs v us Q I r rs h
  rcases h with h | h
  · exact mt_extend pins s σ H x xs v us Q I r rs h
  · exact RX.mt_extT pins s σ H x xs v us Q I r rs h
def fExtA : W → List W → List Cell → DK → Prop
  | .ref k, [y], C, Q => extK k Q C[k]? (rdS C y) C
  | _, _, _, _ => False
instance cm_extA {ct : Ct} {K : PySem.W.Frag} : CM ct (rExtA K) fExtA := ⟨fun B g σ H E C Q v vs w ws K' R kk r rs q => by
  unfold fExtA at q
  split at q
  · rename_i k yw
    obtain ⟨a, ha, rfl⟩ := r
    obtain ⟨y, rfl, r1⟩ := rws1 rs
    unfold extK at q
    split at q
    · rename_i ds es e e2
      obtain ⟨xs, hm, h1, h2, h3⟩ := cell_lst R.cs e ha
      cases yw with
      | val d =>
        cases d with
        | tuple zs =>
          cases e2
          obtain ⟨b, ys, rfl, h4, h5⟩ := rw_tup r1
          obtain ⟨k3, R3⟩ := R.write e ha (h2.app h5)
          exact .inr ⟨a, b, xs, ys, rfl, rfl, h1, h4, by rw [h2.length, h5.length]; exact q.1, kk _ _ ⟨g, _, .val .none, k3, R3, RD.non, q.2⟩⟩
        | list zs =>
          cases e2
          obtain ⟨b, ys, rfl, h4, h5⟩ := rdL_ok R.cs r1 (ds := es) rfl
          obtain ⟨k3, R3⟩ := R.write e ha (h2.app h5)
          exact .inl ⟨a, b, xs, ys, rfl, rfl, h1, h4, by rw [h2.length, h5.length]; exact q.1, kk _ _ ⟨g, _, .val .none, k3, R3, RD.non, q.2⟩⟩
        | _ => cases e2
      | ref j =>
        obtain ⟨b, ys, rfl, h4, h5⟩ := rdL_ok R.cs r1 e2
        obtain ⟨k3, R3⟩ := R.write e ha (h2.app h5)
        exact .inl ⟨a, b, xs, ys, rfl, rfl, h1, h4, by rw [h2.length, h5.length]; exact q.1, kk _ _ ⟨g, _, .val .none, k3, R3, RD.non, q.2⟩⟩
      | ty n => cases e2
      | fn => cases e2
    · exact q.elim
  · exact q.elim⟩
def dRevL (a : DE) : DE := fun E C Q => a E C fun x C1 => mkL (fun ds => .list ds.reverse) Q (rdL C1 x) C1
instance ce_revL {ct : Ct} {K : PySem.W.Frag} {t : TE} {a : DE} [h : CE ct t a] : CE ct (tRevL K t) (dRevL a) := ⟨fun B g σ H E C Q K' R k q => by
  refine h.run B g σ H E C _ _ R (fun v H1 ⟨g1, C1, x, k1, R1, r1, q1⟩ => ?_) q
  unfold mkL at q1
  dsimp only at q1
  split at q1
  · rename_i ds e
    obtain ⟨a, xs, rfl, h1, h2⟩ := rdL_ok R1.cs r1 e
    exact ⟨a, xs, rfl, SqL.of h1, fun p hp => post_lst R1 hp h2.rev (fun v' H' p => k v' H' (p.back k1)) q1⟩
  · exact q1.elim⟩
/-! ### min, max of two -/
def rMin2 : List V → Hp → VK → Prop := fun xs H Q => ∃ i j, xs = [.int i, .int j] ∧ Q (.int (if j < i then j else i)) H
def rMax2 : List V → Hp → VK → Prop := fun xs H Q => ∃ i j, xs = [.int i, .int j] ∧ Q (.int (if j > i then j else i)) H
theorem call_minA {X : Cx} (hc : X.calm = true) : CallR X (.builtin "min") rMin2 := call_min2 hc
theorem call_maxA {X : Cx} (hc : X.calm = true) : CallR X (.builtin "max") rMax2 := call_max2 hc
def f2I (h : Int → Int → Int) : List W → List Cell → DK → Prop
  | [.val (.int i), .val (.int j)], C, Q => Q (.val (.int (h i j))) C
  | _, _, _ => False
instance cc_min2 {ct : Ct} : CC ct rMin2 (f2I fun i j => if j < i then j else i) := ⟨fun B g σ H E C Q vs ws K' R k r q => by
  unfold f2I at q
  split at q
  · obtain ⟨v, x, rfl, r1, r2⟩ := rws2 r
    exact ⟨_, _, by rw [rw_int r1, rw_int r2], post_val R (w := .val (.int _)) (.int _) k q⟩
  · exact q.elim⟩
instance cc_max2 {ct : Ct} : CC ct rMax2 (f2I fun i j => if j > i then j else i) := ⟨fun B g σ H E C Q vs ws K' R k r q => by
  unfold f2I at q
  split at q
  · obtain ⟨v, x, rfl, r1, r2⟩ := rws2 r
    exact ⟨_, _, by rw [rw_int r1, rw_int r2], post_val R (w := .val (.int _)) (.int _) k q⟩
  · exact q.elim⟩
theorem at0 {α : Type} (x : α) (xs : List α) : atI (x :: xs) 0 = some x := atI_nat (j := 0) rfl
theorem at1 {α : Type} (x y : α) (xs : List α) : atI (x :: y :: xs) 1 = some y := atI_nat (j := 1) rfl
theorem at2 {α : Type} (x y z : α) (xs : List α) : atI (x :: y :: z :: xs) 2 = some z := atI_nat (j := 2) rfl
theorem at3 {α : Type} (x y z u : α) (xs : List α) : atI (x :: y :: z :: u :: xs) 3 = some u := atI_nat (j := 3) rfl
/-! ### how loops and comprehensions are answered -/
/-- a while: by states a with a measure -/
theorem dWhile_by {α : Type} {c : DT} {b : DS} {D : DEnds} {E : Ev} {C : List Cell} (I : α → Ev → List Cell → Prop) (μ : α → Nat) (a0 : α) (h0 : I a0 E C)
    (turn : ∀ a E C, I a E C → c E C fun k C1 => if k = true then b { D with nx := fun E C => ∃ a', μ a' < μ a ∧ I a' E C, ct := fun E C => ∃ a', μ a' < μ a ∧ I a' E C, bk := D.nx } E C1 else D.nx E C1) : dWhile c b D E C := by
  refine ⟨fun m E C => ∃ a, μ a = m ∧ I a E C, ⟨μ a0, a0, rfl, h0⟩, ?_⟩
  rintro m E C ⟨a, rfl, i⟩
  have e : (fun E C => ∃ m', m' < μ a ∧ ∃ a', μ a' = m' ∧ I a' E C) = fun E C => ∃ a', μ a' < μ a ∧ I a' E C := by
    funext E C
    refine propext ⟨fun ⟨m', h1, a', h2, h3⟩ => ⟨a', by rw [h2]; exact h1, h3⟩, fun ⟨a', h1, h2⟩ => ⟨_, h1, a', rfl, h2⟩⟩
  rw [e]
  exact turn a E C i
/-- a for: by what is left -/
theorem dForGo_ind {h : DG} {b : DS} {D : DEnds} (I : List PyData → Ev → List Cell → Prop) (nil : ∀ E C, I [] E C → D.nx E C)
    (cons : ∀ x xs E C, I (x :: xs) E C → ∀ N : Ev → List Cell → Prop, (∀ E C, I xs E C → N E C) → h (.val x) E C fun E2 C2 => b { D with nx := N, ct := N, bk := D.nx } E2 C2) : ∀ ds E C, I ds E C → dForGo h b D ds E C
  | [], E, C, i => nil E C i
  | x :: xs, E, C, i => cons x xs E C i _ fun E C i' => dForGo_ind I nil cons xs E C i'
/-- a for over an image, by what has been taken -/
theorem dForGo_map {α : Type} {h : DG} {b : DS} {D : DEnds} (f : α → PyData) (full : List α) (I : List α → Ev → List Cell → Prop)
    (turn : ∀ pre a post E C, full = pre ++ a :: post → I pre E C → ∀ N : Ev → List Cell → Prop, (∀ E C, I (pre ++ [a]) E C → N E C) → h (.val (f a)) E C fun E2 C2 => b { D with nx := N, ct := N, bk := D.nx } E2 C2)
    (after : ∀ E C, I full E C → D.nx E C) {E : Ev} {C : List Cell} (start : I [] E C) : dForGo h b D (full.map f) E C := by
  have key : ∀ (post pre : List α) (E : Ev) (C : List Cell), full = pre ++ post → I pre E C → dForGo h b D (post.map f) E C := by
    intro post
    induction post with
    | nil =>
      intro pre E C e i
      rw [List.append_nil] at e
      subst e
      exact after E C i
    | cons a post ih =>
      intro pre E C e i
      exact turn pre a post E C e i _ fun E' C' i' => ih (pre ++ [a]) E' C' (by rw [List.append_assoc]; exact e) i'
  exact key full [] E C rfl start
theorem dForGo_pre {h : DG} {b : DS} {D : DEnds} (full : List PyData) (I : List PyData → Ev → List Cell → Prop)
    (turn : ∀ pre a post E C, full = pre ++ a :: post → I pre E C → ∀ N : Ev → List Cell → Prop, (∀ E C, I (pre ++ [a]) E C → N E C) → h (.val a) E C fun E2 C2 => b { D with nx := N, ct := N, bk := D.nx } E2 C2)
    (after : ∀ E C, I full E C → D.nx E C) {E : Ev} {C : List Cell} (start : I [] E C) : dForGo h b D full E C := by
  have := dForGo_map (h := h) (b := b) (D := D) (fun x => x) full I turn after start
  rw [List.map_id' full] at this
  exact this
theorem dForGo_range {h : DG} {b : DS} {D : DEnds} {lo : Int} (n : Nat) (I : Nat → Ev → List Cell → Prop)
    (turn : ∀ i E C, i < n → I i E C → ∀ N : Ev → List Cell → Prop, (∀ E C, I (i + 1) E C → N E C) → h (.val (.int (lo + (i : Nat)))) E C fun E2 C2 => b { D with nx := N, ct := N, bk := D.nx } E2 C2)
    (after : ∀ E C, I n E C → D.nx E C) {E : Ev} {C : List Cell} (start : I 0 E C) : dForGo h b D (rangeD lo n) E C := by
  refine dForGo_map (fun i : Nat => PyData.int (lo + (i : Nat))) (List.range n) (fun pre E C => I pre.length E C ∧ pre.length ≤ n) ?_ ?_ ⟨start, Nat.zero_le _⟩
  · rintro pre a post E C e ⟨i, hl⟩ N hN
    have h1 : (List.range n)[pre.length]? = some a := by rw [e]; exact List.getElem?_append_right (Nat.le_refl _) |>.trans (by simp)
    have h2 : pre.length < n := by
      have := congrArg List.length e
      rw [List.length_range, List.length_append, List.length_cons] at this
      omega
    rw [List.getElem?_range h2] at h1
    cases h1
    exact turn _ E C h2 i N fun E' C' i' => hN E' C' ⟨by rw [List.length_append]; exact i', by rw [List.length_append]; exact h2⟩
  · rintro E C ⟨i, _⟩
    rw [List.length_range] at i
    exact after E C i
/-- a comprehension: by what is left and what is made -/
theorem dLcGo_ind {h : DG} {tt : DT} {te : DE} {E : Ev} {Q : List D → List Cell → Prop} (I : List D → List D → List Cell → Prop) (nil : ∀ acc C, I [] acc C → Q acc C)
    (cons : ∀ x xs acc C, I (x :: xs) acc C → ∀ N : List D → List Cell → Prop, (∀ acc C, I xs acc C → N acc C) → h (.val x) E C fun E2 C1 => tt E2 C1 fun b C2 => if b = true then te E2 C2 (accK acc.length fun d C3 => N (acc ++ [d]) C3) else N acc C2) : ∀ ds acc C, I ds acc C → dLcGo h tt te E ds acc C Q
  | [], acc, C, i => nil acc C i
  | x :: xs, acc, C, i => cons x xs acc C i (fun acc C => dLcGo h tt te E xs acc C Q) fun acc C i' => dLcGo_ind I nil cons xs acc C i'
/-- .. that only filters and maps -/
theorem dLcGo_fm {h : DG} {tt : DT} {te : DE} {E : Ev} {Q : List D → List Cell → Prop} {C : List Cell} (p : D → Bool) (f : D → D) : ∀ (ds acc : List D), acc.length + ds.length ≤ sizeLine →
    (∀ x ∈ ds, ∀ (K : DK) (L : List Cell → Prop), (p x = true → K (.val (f x)) C) → (p x = false → L C) → h (.val x) E C fun E2 C1 => tt E2 C1 fun b C2 => if b = true then te E2 C2 K else L C2) →
    Q (acc ++ (ds.filter p).map f) C → dLcGo h tt te E ds acc C Q
  | [], acc, hl, cons, q => by
    rw [List.filter_nil, List.map_nil, List.append_nil] at q
    exact q
  | x :: xs, acc, hl, cons, q => by
    rw [List.length_cons] at hl
    have rest := fun y hy => cons y (List.mem_cons_of_mem _ hy)
    refine cons x List.mem_cons_self _ _ (fun e => ?_) fun e => ?_
    · refine ⟨by omega, dLcGo_fm p f xs (acc ++ [f x]) (by rw [List.length_append]; show acc.length + 1 + xs.length ≤ _; omega) rest ?_⟩
      rw [List.filter_cons, if_pos e, List.map_cons] at q
      rw [List.append_assoc]
      exact q
    · refine dLcGo_fm p f xs acc (by omega) rest ?_
      rw [List.filter_cons, if_neg (by rw [e]; decide)] at q
      exact q
/-- .. that only maps -/
theorem dLcGo_map {h : DG} {te : DE} {E : Ev} {Q : List D → List Cell → Prop} {C : List Cell} (f : D → D) (ds : List D) (hl : ds.length ≤ sizeLine)
    (cons : ∀ x ∈ ds, ∀ K : DK, K (.val (f x)) C → h (.val x) E C fun E2 C1 => te E2 C1 K) (q : Q (ds.map f) C) : dLcGo h dYes te E ds [] C Q := by
  refine dLcGo_fm (fun _ => true) f ds [] (by show 0 + _ ≤ _; omega) (fun x hx K L h1 _ => ?_) ?_
  · exact cons x hx K (h1 rfl)
  · rw [List.filter_eq_self.mpr fun _ _ => rfl]
    exact q
theorem okDi (i : Int) : (SeqAt.shaped (PyData.int i) = true) = True := eq_true rfl
theorem okDb (i : Bool) : (SeqAt.shaped (PyData.bool i) = true) = True := eq_true rfl
theorem okDn : (SeqAt.shaped PyData.none = true) = True := eq_true rfl
theorem eqvi (i j : Int) : PyData.eqv (.int i) (.int j) = decide (i = j) := rfl
theorem eqvs (i j : Str) : PyData.eqv (.str i) (.str j) = decide (i = j) := rfl
theorem okDs_of {z : Str} (h : ∀ c ∈ z.cps.toList, c < 128) : okD (.str z) := by
  have h1 : z.cps.all (· < 0x110000) = true := by
    rw [← Array.all_toList, List.all_eq_true]
    exact fun x hx => decide_eq_true (Nat.lt_trans (h x hx) (by decide))
  have h2 : (PyData.str z).canLay0 = true := h1
  unfold okD SeqAt.shaped
  rw [h2]
  rfl
/-! ### the same rules where the context is a comprehension's -/
section
variable {X : Cx} {K : PySem.W.Frag} (h : X.K = K)
include h
theorem ix_seqC : IxR X (rIx K) := h ▸ ix_seq
theorem op_addC : OpR X (binaryOp .Add) (rAddA K) := h ▸ op_addA
theorem op_eqC (hu : X.A.units + 64 < cLine) : OpR X (compareOp .Eq) (rEqD K) := h ▸ op_eqD hu
theorem op_neC (hu : X.A.units + 64 < cLine) : OpR X (compareOp .NotEq) (rNeD K) := h ▸ op_neD hu
theorem sl_anyC : SlR X (rSlN K) := h ▸ sl_any
theorem call_lenC : CallR X (.builtin "len") (rLenA K) := h ▸ call_lenA
theorem call_listC : CallR X (.type "list") (rListA K) := h ▸ call_listA
theorem call_tupC : CallR X (.type "tuple") (rTupA K) := h ▸ call_tupA
theorem cr_sumC (hc : X.calm = true) : CallR X (.builtin "sum") (rSum K) := h ▸ cr_sum hc
theorem cr_allC (hc : X.calm = true) : CallR X (.builtin "all") (rAll K) := h ▸ cr_all hc
theorem call_isiC : CallR X (.builtin "isinstance") (rIsi K) := h ▸ call_isi
theorem pi_seqC {tg l : Expr} {tl : TE} (hl : PE X l tl) : PI X tg l (iSeqA K tl) := h ▸ pi_seqA hl
theorem pt_truC {a : Expr} {ta : TE} (ha : PE X a ta) (he : ∀ whole, isTrue a X.env whole = (do let v ← whole; standAt a.pos; holding [v] (truthy v)) := by intro _; rfl) : PT X a (tTruA K ta) := h ▸ pt_truA ha he
end
/-- a comprehension over an image that only filters and maps -/
theorem dLcGo_over {α : Type} {h : DG} {tt : DT} {te : DE} {E : Ev} {Q : List D → List Cell → Prop} {C : List Cell} (g : α → D) (p : α → Bool) (f : α → D) : ∀ (xs : List α) (acc : List D), acc.length + xs.length ≤ sizeLine →
    (∀ x ∈ xs, ∀ (K : DK) (L : List Cell → Prop), (p x = true → K (.val (f x)) C) → (p x = false → L C) → h (.val (g x)) E C fun E2 C1 => tt E2 C1 fun b C2 => if b = true then te E2 C2 K else L C2) →
    Q (acc ++ (xs.filter p).map f) C → dLcGo h tt te E (xs.map g) acc C Q
  | [], acc, hl, cons, q => by
    rw [List.filter_nil, List.map_nil, List.append_nil] at q
    exact q
  | x :: xs, acc, hl, cons, q => by
    rw [List.length_cons] at hl
    have rest := fun y hy => cons y (List.mem_cons_of_mem _ hy)
    refine cons x List.mem_cons_self _ _ (fun e => ?_) fun e => ?_
    · refine ⟨by omega, dLcGo_over g p f xs (acc ++ [f x]) (by rw [List.length_append]; show acc.length + 1 + xs.length ≤ _; omega) rest ?_⟩
      rw [List.filter_cons, if_pos e, List.map_cons] at q
      rw [List.append_assoc]
      exact q
    · refine dLcGo_over g p f xs acc (by omega) rest ?_
      rw [List.filter_cons, if_neg (by rw [e]; decide)] at q
      exact q
theorem dLcGo_each {α : Type} {h : DG} {te : DE} {E : Ev} {Q : List D → List Cell → Prop} {C : List Cell} (g : α → D) (f : α → D) (xs : List α) (hl : xs.length ≤ sizeLine)
    (cons : ∀ x ∈ xs, ∀ K : DK, K (.val (f x)) C → h (.val (g x)) E C fun E2 C1 => te E2 C1 K) (q : Q (xs.map f) C) : dLcGo h dYes te E (xs.map g) [] C Q := by
  refine dLcGo_over g (fun _ => true) f xs [] (by show 0 + _ ≤ _; omega) (fun x hx K L h1 _ => ?_) ?_
  · exact cons x hx K (h1 rfl)
  · rw [List.filter_eq_self.mpr fun _ _ => rfl]
    exact q
theorem if_of {P : Prop} {c : Bool} {A B : Prop} (h : c = true ↔ P) (a : P → A) (b : ¬ P → B) : if c = true then A else B := by
  by_cases e : c = true
  · rw [if_pos e]
    exact a (h.mp e)
  · rw [if_neg e]
    exact b fun z => e (h.mpr z)
/-- a test, both ways -/
theorem ifd {P A B : Prop} [Decidable P] (a : P → A) (b : ¬ P → B) : if decide P = true then A else B := if_of (by simp) a b
/-! ### -x -/
def unK (f : Int → Int) (Q : DK) : W → List Cell → Prop
  | .val (.int i), C => Q (.val (.int (f i))) C
  | _, _ => False
def dUn (f : Int → Int) (a : DE) : DE := fun E C Q => a E C (unK f Q)
instance ce_un {ct : Ct} {f : Int → Int} {t : TE} {a : DE} [h : CE ct t a] : CE ct (tUn (rU fun i => .int (f i)) t) (dUn f a) := ⟨fun B g σ H E C Q K' R k q => by
  refine h.run B g σ H E C _ _ R (fun v H1 ⟨g1, C1, x, k1, R1, r1, q1⟩ => ?_) q
  unfold unK at q1
  split at q1
  · exact ⟨_, rw_int r1, k _ _ ⟨g1, C1, .val (.int _), k1, R1, .int _, q1⟩⟩
  · exact q1.elim⟩
/-- one statement, then the others -/
theorem dSeq_go {a b : DS} {D : DEnds} {E : Ev} {C : List Cell} (h : a { D with nx := fun E C => b D E C } E C) : dSeqS a b D E C := h
/-- .. by what holds between them -/
theorem dSeq_cut {a b : DS} {D : DEnds} {E : Ev} {C : List Cell} (I : Ev → List Cell → Prop) (ha : ∀ N : Ev → List Cell → Prop, (∀ E C, I E C → N E C) → a { D with nx := N } E C) (hb : ∀ E C, I E C → b D E C) : dSeqS a b D E C := ha _ hb
theorem zip_map {α : Type} (f : α → D) : ∀ xs ys : List α, zipD (xs.map f) (ys.map f) = (xs.zip ys).map fun p => .tuple [f p.1, f p.2]
  | [], _ => rfl
  | _ :: _, [] => rfl
  | x :: xs, y :: ys => congrArg (PyData.tuple [f x, f y] :: ·) (zip_map f xs ys)
/-! ### objects: instances of the program's classes, frozen as data or in a cell -/
/-- of each class in the table: its names, that they are the instance's alone -/
class CtOk (K : PySem.W.Frag) (ct : Ct) : Prop where
  ok : ∀ c C ns, ct.cl c = some (C, ns) → ns = clsF c ∧ Cls K C ∧ ∀ f ∈ ns, NoAttr K C f
instance {K : PySem.W.Frag} {ct : Ct} {E : XK} {R : XD} [h : CtOk K ct] : CtOk K (ct.w E R) := ⟨h.ok⟩
/-- the class at C is number c -/
class ClA (ct : Ct) (C : Addr) (c : outParam Int) : Prop where
  at_ : ct.cl c = some (C, clsF c)
instance {ct : Ct} {C : Addr} {c : Int} {E : XK} {R : XD} [h : ClA ct C c] : ClA (ct.w E R) C c := ⟨h.at_⟩
def fldOf {α : Type} (c : Int) (f : Str) (xs : List α) : Option α := ((clsF c).zip xs).lookup f
theorem lookup_zip {α : Type} (f : Str) : ∀ (ns : List Str) (xs : List α) (x : α), (ns.zip xs).lookup f = some x → ∃ i : Nat, ns[i]? = some f ∧ xs[i]? = some x ∧ ∀ {β : Type} (ys : List β) (y : β), ys[i]? = some y → (ns.zip ys).lookup f = some y
  | [], _, _, h => nomatch h
  | _ :: _, [], _, h => nomatch h
  | n :: ns, x0 :: xs, x, h => by
    have h' : (match f == n with | true => some x0 | false => (ns.zip xs).lookup f) = some x := h
    by_cases e : f = n
    · subst e
      rw [beq_self_eq_true] at h'
      refine ⟨0, rfl, h', fun ys y hy => ?_⟩
      cases ys with
      | nil => cases hy
      | cons y0 ys =>
        show (match f == f with | true => some y0 | false => (ns.zip ys).lookup f) = some y
        rw [beq_self_eq_true]
        exact hy
    · have eb : (f == n) = false := beq_false_of_ne e
      rw [eb] at h'
      obtain ⟨i, h1, h2, h3⟩ := lookup_zip f ns xs x h'
      refine ⟨i + 1, h1, h2, fun ys y hy => ?_⟩
      cases ys with
      | nil => cases hy
      | cons y0 ys =>
        show (match f == n with | true => some y0 | false => (ns.zip ys).lookup f) = some y
        rw [eb]
        exact h3 ys y hy
def fldW (Q : DK) : Option W → List Cell → Prop
  | some w, C => Q w C
  | none, _ => False
def fldC (f : Str) (Q : DK) : Option Cell → List Cell → Prop
  | some (.obj c ws), C => fldW Q (fldOf c f ws) C
  | _, _ => False
def fldK (f : Str) (Q : DK) : W → List Cell → Prop
  | .val (.dict [(.int c, .list ds)]), C => ixK Q (fldOf c f ds) C
  | .ref k, C => fldC f Q C[k]? C
  | _, _ => False
def dFld (f : Str) (a : DE) : DE := fun E C Q => a E C (fldK f Q)
theorem Paired.at {α β : Type} {R : α → β → Prop} : ∀ {xs : List α} {ys : List β}, Paired R xs ys → ∀ (i : Nat) (y : β), ys[i]? = some y → ∃ x, xs[i]? = some x ∧ R x y
  | _, _, .nil, i, y, h => by simp at h
  | _, _, .cons h1 h, 0, y, e => ⟨_, rfl, by
      have e2 := Option.some.inj e
      rw [← e2]
      exact h1⟩
  | _, _, .cons h1 h, i + 1, y, e => Paired.at h i y e
instance ce_fld {K : PySem.W.Frag} {ct : Ct} {f : Str} {t : TE} {a : DE} [h : CE ct t a] [hk : CtOk K ct] : CE ct (tFld K t f) (dFld f a) := ⟨fun B g σ H E C Q K' R k q => by
  refine h.run B g σ H E C _ _ R (fun v H1 ⟨g1, C1, x, k1, R1, r1, q1⟩ => ?_) q
  unfold fldK at q1
  split at q1
  · rename_i c ds
    cases (show RD ct g1.F H1 v (.dict [(.int c, .list ds)]) from r1) with
    | obj hf hc ho hl hs =>
      obtain ⟨rfl, cls, no⟩ := hk.ok _ _ _ hc
      unfold ixK at q1
      split at q1
      · rename_i d e
        obtain ⟨i, h1, h2, h3⟩ := lookup_zip _ _ _ _ e
        obtain ⟨v, hv, rv⟩ := hs.get i d h2
        exact ⟨_, _, _, _, v, rfl, ho, cls, no f (List.mem_of_getElem? h1), h3 _ v hv, k _ _ ⟨g1, _, .val d, k1, R1, rv, q1⟩⟩
      · exact q1.elim
  · rename_i j
    obtain ⟨a0, ha, rfl⟩ := r1
    unfold fldC at q1
    split at q1
    · rename_i c ws e
      obtain ⟨a', m, z1, z2, z3, Ca, ns, dx, vs, hc, ho, hl, hs⟩ := R1.cs.at_ j _ e
      rw [ha] at z1
      cases z1
      obtain ⟨rfl, cls, no⟩ := hk.ok _ _ _ hc
      unfold fldW at q1
      split at q1
      · rename_i wd e2
        obtain ⟨i, h1, h2, h3⟩ := lookup_zip _ _ _ _ e2
        obtain ⟨v, hv, rv⟩ := Paired.at hs i wd h2
        exact ⟨_, _, _, _, v, rfl, ho, cls, no f (List.mem_of_getElem? h1), h3 _ v hv, k _ _ ⟨g1, _, wd, k1, R1, rv, q1⟩⟩
      · exact q1.elim
    · exact q1.elim
  · exact q1.elim⟩
/-! ### a class whose __init__ takes its fields one by one -/
def spInit (K : PySem.W.Frag) (ns : List Str) : Sp := fun vs H Q _ => ∃ (a C dx : Addr) (us : List V), vs = .ref a :: us ∧ us.length = ns.length ∧ H a = some (.ins C dx []) ∧ Cls K C ∧ (∀ f ∈ ns, NoAttr K C f) ∧ Q .non (upd H a (.ins C dx (ns.zip us)))
def makK (c : Int) (n : Nat) (Q : DK) : Option (List D) → List Cell → Prop
  | some ds, C => ds.length = n ∧ Q (.val (.dict [(.int c, .list ds)])) C
  | none, _ => False
def dMake (c : Int) (n : Nat) (a : DA) : DE := fun E C Q => a E C fun ws C1 => makK c n Q (vals ws) C1
theorem upd_upd {H : Hp} {a : Addr} {o o' : HO} : upd (upd H a o) a o' = upd H a o' := by
  funext b
  by_cases e : b = a
  · rw [e, upd_same, upd_same]
  · rw [upd_ne e, upd_ne e, upd_ne e]
instance ce_make {K : PySem.W.Frag} {ct : Ct} {Ca : Addr} {c : Int} {Ex : XK} {t : TA} {a : DA} [h : CA ct t a] [hk : CtOk K ct] [hc : ClA ct Ca c] : CE ct (tMake Ca (spInit K (clsF c)) [] Ex t) (dMake c (clsF c).length a) := ⟨fun B g σ H E C Q K' R k q => by
  refine h.run B g σ H E C _ _ R (fun vs H1 ⟨g1, C1, ws, k1, R1, r1, q1⟩ => ?_) q
  unfold makK at q1
  dsimp only at q1
  split at q1
  · rename_i ds e
    have hd := vals_ok r1 e
    obtain ⟨hn, q1⟩ := q1
    obtain ⟨_, cls, no⟩ := hk.ok _ _ _ hc.at_
    intro x dx nx ndx nex
    rw [List.append_nil]
    refine ⟨x, Ca, dx, vs, rfl, by rw [hd.length, hn], upd_same, cls, no, rfl, ?_⟩
    rw [upd_upd]
    obtain ⟨k2, R2⟩ := R1.new (o := .own x) false ndx
    have nx2 : upd H1 dx (.own x) x = none := by
      rw [upd_ne (Ne.symm nex)]
      exact nx
    obtain ⟨k3, R3⟩ := R2.new (o := .ins Ca dx ((clsF c).zip vs)) true nx2
    refine k _ _ ⟨_, _, .val (.dict [(.int c, .list ds)]), k1.trans (k2.trans k3), R3, ?_, q1⟩
    exact .obj (.inr ⟨rfl, rfl⟩) hc.at_ upd_same (by rw [hd.length, hn]) (RDs.mono (k2.trans k3).kp _ _ hd)
  · exact q1.elim⟩
/-- __init__ of a class, as the top has made it -/
structure Ini (K : PySem.W.Frag) (mg : Str → Option Value) (x : Str) (C : Addr) (q : Str) (st : Stmt) (ps : List Str) where
  f : Addr
  fd : FuncData
  F : Fun K "__init__" q st f fd
  b : Binds K fd ps []
  M : Mk K C f
  g : mg x = some (.ref C)
theorem fld00 {α : Type} (a b c : α) : fldOf 0 "link" [a, b, c] = some a := rfl
theorem fld01 {α : Type} (a b c : α) : fldOf 0 "root" [a, b, c] = some b := rfl
theorem fld02 {α : Type} (a b c : α) : fldOf 0 "is_open" [a, b, c] = some c := rfl
theorem lenF0 : (clsF 0).length = 3 := rfl
theorem lenF1 : (clsF 1).length = 2 := rfl
theorem lenF2 : (clsF 2).length = 3 := rfl
theorem pe_fldC {X : Cx} {K : PySem.W.Frag} {e : Expr} {f : Str} {pos : Pos} {ta : TE} (h : X.K = K) (he : PE X e ta) (hb : attributeBase e f X.env (eval e X.env) = eval e X.env) : PE X (.Attribute e f pos) (tFld K ta f) := h ▸ pe_fld he hb
theorem get_end {α : Type} (J : List α) (x : α) : (J ++ [x])[J.length]? = some x := by
  rw [List.getElem?_append_right (Nat.le_refl _), Nat.sub_self]
  rfl
theorem set_end {α : Type} (J : List α) (x y : α) : (J ++ [x]).set J.length y = J ++ [y] := by
  rw [List.set_append_right _ _ (Nat.le_refl _), Nat.sub_self]
  rfl
/-- the table of a program's classes -/
def clT (l x : List (Int × Addr)) (T : List (Addr × Str)) : Cl := ⟨fun c => (l.lookup c).map fun C => (C, clsF c), fun c => (x.lookup c).map fun C => (C, clsF c), T⟩
theorem lookup_mem {α : Type} {l : List (Int × α)} {c : Int} {x : α} (h : l.lookup c = some x) : (c, x) ∈ l := by
  induction l with
  | nil => cases h
  | cons p r ih =>
    have h' : (match c == p.1 with | true => some p.2 | false => r.lookup c) = some x := h
    by_cases e : c = p.1
    · subst e
      rw [beq_self_eq_true] at h'
      cases h'
      exact List.mem_cons_self
    · rw [beq_false_of_ne e] at h'
      exact List.mem_cons_of_mem _ (ih h')
theorem ctOk_of {K : PySem.W.Frag} {l x : List (Int × Addr)} {T : List (Addr × Str)} {E : XK} {R : XD} (h : ∀ p ∈ l, Cls K p.2 ∧ ∀ f ∈ clsF p.1, NoAttr K p.2 f) : CtOk K ⟨clT l x T, E, R⟩ := ⟨fun c C ns e => by
  have e' : (l.lookup c).map (fun C => (C, clsF c)) = some (C, ns) := e
  cases e2 : l.lookup c with
  | none =>
    rw [e2] at e'
    cases e'
  | some x =>
    rw [e2] at e'
    cases e'
    have := h _ (lookup_mem e2)
    exact ⟨rfl, this.1, this.2⟩⟩
/-! ### methods of objects -/
structure Mth (K : PySem.W.Frag) (C : Addr) (m q : Str) (st : Stmt) (ps : List Str) where
  f : Addr
  fd : FuncData
  F : Fun K m q st f fd
  b : Binds K fd ps []
  c : Cls K C
  M : Meth K C m f
theorem lookup_no {α : Type} {f : Str} : ∀ {ns : List Str} {xs : List α}, f ∉ ns → (ns.zip xs).lookup f = none
  | [], _, _ => rfl
  | _ :: _, [], _ => rfl
  | n :: ns, x :: xs, h => by
    have e : f ≠ n := fun z => h (by rw [z]; exact List.mem_cons_self)
    show (match f == n with | true => some x | false => (ns.zip xs).lookup f) = none
    rw [beq_false_of_ne e]
    exact lookup_no fun z => h (List.mem_cons_of_mem _ z)
/-- an object of class c -/
def isObC (c : Int) : Option Cell → Prop
  | some (.obj c' _) => c' = c
  | _ => False
def isOb (c : Int) : W → List Cell → Prop
  | .val (.dict [(.int c', .list _)]), _ => c' = c
  | .ref k, C => isObC c C[k]?
  | _, _ => False
theorem isOb_ok {ct : Ct} {Ca : Addr} {c : Int} {g : Gh} {H : Hp} {C : List Cell} {v : V} {w : W} {m : Str} [hc : ClA ct Ca c] (cz : Clz ct g H C) (r : RW ct g H v w) (h : isOb c w C) (no : m ∉ clsF c) :
    ∃ a dx fs, v = .ref a ∧ H a = some (.ins Ca dx fs) ∧ fs.lookup m = none := by
  unfold isOb at h
  split at h
  · rename_i c' ds
    subst h
    cases (show RD ct g.F H v (.dict [(.int c', .list ds)]) from r) with
    | obj hf hcc ho hl hs =>
      have e := hc.at_.symm.trans hcc
      cases e
      exact ⟨_, _, _, rfl, ho, lookup_no no⟩
  · rename_i j
    obtain ⟨a0, ha, rfl⟩ := r
    unfold isObC at h
    split at h
    · rename_i c' ws e
      subst h
      obtain ⟨a', m', z1, z2, z3, C', ns, dx, vs, hcc, ho, hl, hs⟩ := cz.at_ j _ e
      rw [ha] at z1
      cases z1
      have e := hc.at_.symm.trans hcc
      cases e
      exact ⟨_, _, _, rfl, ho, lookup_no no⟩
    · exact h.elim
  · exact h.elim
/-- a method that is given data alone -/
def dMethP (c : Int) (mn : Str) (m : Nat) (P : DSp) (a : DE) (t : DA) : DE := fun E C Q => a E C fun x C1 => isOb c x C1 ∧ mn ∉ clsF c ∧ t E C1 fun ws C2 => ws.length + 1 = m ∧ (vals (x :: ws)).isSome = true ∧ P (x :: ws) [] (fun w _ => Q w C2) X0
instance ce_methP {ct : Ct} {E : XK} {R : XD} {m : Nat} {P : DSp} {E' : XK} {Ca : Addr} {c : Int} {mn : Str} {te : TE} {t : TA} {e : DE} {a : DA} [h : CE (ct.w E R) te e] [h2 : CA (ct.w E R) t a] [hc : ClA ct Ca c] :
    CE (ct.w E R) (tMeth Ca mn (spD ct 0 m P) [] E' te t) (dMethP c mn m P e a) := ⟨fun B g σ H Ev C Q K' Re k q => by
  refine h.run B g σ H Ev C _ _ Re (fun v H1 ⟨g1, C1, x, k1, R1, r1, q1⟩ => ?_) q
  obtain ⟨o1, o2, q1⟩ := q1
  obtain ⟨a0, dx, fs, rfl, ho, hn⟩ := isOb_ok (hc := hc) R1.cs r1 o1 o2
  refine ⟨a0, dx, fs, rfl, ho, hn, ?_⟩
  refine h2.run B g1 σ H1 Ev C1 _ _ R1 (fun vs H2 ⟨g2, C2, ws, k2, R2, r2, q2⟩ => ?_) q1
  obtain ⟨e1, e2, q2⟩ := q2
  rw [List.append_nil]
  have rr : RWs ct g2 H2 (.ref a0 :: vs) (x :: ws) := .cons (RW.mono k2 r1) r2
  refine ⟨⟨g2.F, [], []⟩, [], x :: ws, _, X0, by rw [← e1]; exact Paired.length rr, rfl, clz_nil R2.cs, rws_pure rr e2, q2, fun v H' g' C' w k' f' c' l' r' q' => ?_, fun _ _ _ _ _ _ _ _ _ _ _ _ z => z.elim⟩
  have e3 : C' = [] := List.eq_nil_of_length_eq_zero l'
  subst e3
  obtain ⟨k3, R3⟩ := R2.called k' f' c'
  refine k v H' ⟨_, C2, w, k1.trans (k2.trans k3), R3, ?_, q'⟩
  cases w with
  | val d => exact r'
  | ty n => exact r'
  | fn => exact r'
  | ref j =>
    obtain ⟨b, hb, _⟩ := r'
    have : g'.as.length = 0 := c'.la
    rw [List.eq_nil_of_length_eq_zero this] at hb
    simp at hb⟩
/-- a method that is given cells -/
def dMethW (c : Int) (mn : Str) (n m : Nat) (P : DSp) (a : DE) (t : DA) : DE := fun E C Q => a E C fun x C1 => isOb c x C1 ∧ mn ∉ clsF c ∧ t E C1 fun ws C2 => callK n m P X0 Q (x :: ws) C2 (firstRef (x :: ws))
instance ce_methW {ct : Ct} {E : XK} {R : XD} {n m : Nat} {P : DSp} {E' : XK} {Ca : Addr} {c : Int} {mn : Str} {te : TE} {t : TA} {e : DE} {a : DA} [h : CE (ct.w E R) te e] [h2 : CA (ct.w E R) t a] [hc : ClA ct Ca c] :
    CE (ct.w E R) (tMeth Ca mn (spD ct (n + 1) m P) [] E' te t) (dMethW c mn (n + 1) m P e a) := ⟨fun B g σ H Ev C Q K' Re k q => by
  refine h.run B g σ H Ev C _ _ Re (fun v H1 ⟨g1, C1, x, k1, R1, r1, q1⟩ => ?_) q
  obtain ⟨o1, o2, q1⟩ := q1
  obtain ⟨a0, dx, fs, rfl, ho, hn⟩ := isOb_ok (hc := hc) R1.cs r1 o1 o2
  refine ⟨a0, dx, fs, rfl, ho, hn, ?_⟩
  refine h2.run B g1 σ H1 Ev C1 _ _ R1 (fun vs H2 ⟨g2, C2, ws, k2, R2, r2, q2⟩ => ?_) q1
  unfold callK at q2
  dsimp only at q2
  split at q2
  · rename_i j e
    obtain ⟨e1, e2, e3, q3⟩ := q2
    rw [Bool.and_eq_true] at e3
    rw [List.append_nil]
    have rr : RWs ct g2 H2 (.ref a0 :: vs) (x :: ws) := .cons (RW.mono k2 r1) r2
    refine ⟨g2.wd j (n + 1), _, _, _, _, by rw [← e1]; exact Paired.length rr, ?_, R2.cs.wd j (n + 1) e3.2, rr.wd e3.1, q3, fun v H' g' C' w k' f' c' l' r' q' => ?_, fun _ _ _ _ _ _ _ _ _ _ _ _ z => z.elim⟩
    · rw [List.length_map, List.length_take, List.length_drop]
      omega
    obtain ⟨k3, R3, h3⟩ := R2.calledW e2 k' f' c' l'
    exact k v H' ⟨_, _, _, k1.trans (k2.trans k3), R3, RW.un h3 r', q'⟩
  · exact q2.elim⟩
/-! ### a field of an object in a cell is set -/
def setAt (c : Int) (f : Str) (w : W) (ws : List W) : List W := ((clsF c).zip ws).map fun p => if p.1 = f then w else p.2
def sfC (f : Str) (w : W) (k : Nat) (N : List Cell → Prop) : Option Cell → List Cell → Prop
  | some (.obj c ws), C => f ∈ clsF c ∧ N (C.set k (.obj c (setAt c f w ws)))
  | _, _ => False
def sfK (f : Str) (w : W) (N : List Cell → Prop) : W → List Cell → Prop
  | .ref k, C => sfC f w k N C[k]? C
  | _, _ => False
def dSetF (f : Str) (a b : DE) : DS := fun D E C => b E C fun y C1 => a E C1 fun x C2 => sfK f y (fun C3 => D.nx E C3) x C2
theorem putF_zip {f : Str} {y : V} : ∀ {ns : List Str} {vs : List V}, ns.Nodup → f ∈ ns → vs.length = ns.length → putF f y (ns.zip vs) = ns.zip ((ns.zip vs).map fun p => if p.1 = f then y else p.2)
  | [], _, _, h, _ => nomatch h
  | n :: ns, [], _, _, h => nomatch h
  | n :: ns, v :: vs, nd, h, hl => by
    show (if n = f then (n, y) :: ns.zip vs else (n, v) :: putF f y (ns.zip vs)) = (n, if n = f then y else v) :: ns.zip ((ns.zip vs).map fun p => if p.1 = f then y else p.2)
    obtain ⟨n1, n2⟩ := List.nodup_cons.mp nd
    have hl' : vs.length = ns.length := Nat.succ.inj hl
    by_cases e : n = f
    · subst e
      rw [if_pos rfl, if_pos rfl]
      congr 1
      have same : ∀ (ns : List Str) (vs : List V), n ∉ ns → vs.length = ns.length → (ns.zip vs).map (fun p => if p.1 = n then y else p.2) = vs := by
        intro ns
        induction ns with
        | nil =>
          intro vs _ hl
          rw [List.eq_nil_of_length_eq_zero hl]
          rfl
        | cons m ns ih =>
          intro vs hm hl
          cases vs with
          | nil => cases hl
          | cons v vs =>
            have h1 : m ≠ n := fun z => hm (by rw [z]; exact List.mem_cons_self)
            show (if m = n then y else v) :: (ns.zip vs).map _ = v :: vs
            rw [if_neg h1, ih vs (fun z => hm (List.mem_cons_of_mem _ z)) (Nat.succ.inj hl)]
      rw [same ns vs n1 hl']
    · rw [if_neg e, if_neg e]
      congr 1
      have hf : f ∈ ns := by
        rcases List.mem_cons.mp h with z | z
        · exact absurd z.symm e
        · exact z
      exact putF_zip n2 hf hl'
theorem clsF_nodup (c : Int) : (clsF c).Nodup := by
  unfold clsF
  split <;> decide
theorem set_paired {α β : Type} {R : α → β → Prop} {f : Str} {y : α} {w : β} (hw : R y w) : ∀ (ns : List Str) {vs : List α} {ws : List β}, Paired R vs ws → Paired R ((ns.zip vs).map fun p => if p.1 = f then y else p.2) ((ns.zip ws).map fun p => if p.1 = f then w else p.2)
  | [], _, _, _ => .nil
  | _ :: _, _, _, .nil => .nil
  | n :: ns, v :: vs, x :: ws, .cons h hs => by
    show Paired R ((if n = f then y else v) :: _) ((if n = f then w else x) :: _)
    by_cases e : n = f
    · rw [if_pos e, if_pos e]
      exact .cons hw (set_paired hw ns hs)
    · rw [if_neg e, if_neg e]
      exact .cons h (set_paired hw ns hs)
theorem Rel.setO {K : PySem.W.Frag} {ct : Ct} {B : Bs} {g : Gh} {σ : L2.St} {H : Hp} {E : Ev} {C : List Cell} {k : Nat} {a : Addr} {c : Int} {ws : List W} {f : Str} {y : V} {w : W} [hk : CtOk K ct] (R : Rel ct B g σ H E C) (h : C[k]? = some (.obj c ws)) (ha : g.as[k]? = some a) (hw : RW ct g H y w) (hf : f ∈ clsF c) :
    ∃ Ca dx fs, H a = some (.ins Ca dx fs) ∧ Cls K Ca ∧ NoAttr K Ca f ∧ fs.length < 1000 ∧ Gk g H g (upd H a (.ins Ca dx (putF f y fs))) ∧ Rel ct B g σ (upd H a (.ins Ca dx (putF f y fs))) E (C.set k (.obj c (setAt c f w ws))) := by
  obtain ⟨a', m', z1, z2, rfl, Ca, ns, dx, vs, hcc, ho, hl, hs⟩ := R.cs.at_ k _ h
  rw [ha] at z1
  cases z1
  obtain ⟨rfl, cls, no⟩ := hk.ok _ _ _ hcc
  have e := putF_zip (y := y) (clsF_nodup c) hf hl
  have hlen : ((clsF c).zip vs).length < 1000 := by
    rw [List.length_zip]
    have : (clsF c).length ≤ 4 := by
      unfold clsF
      split <;> decide
    omega
  refine ⟨Ca, dx, _, ho, cls, no f hf, hlen, ?_⟩
  rw [e]
  refine R.put h ha z2 ⟨rfl, Ca, clsF c, dx, vs, hcc, ho, hl, hs⟩ (fun zs e => by rw [ho] at e; cases e) fun kk => ?_
  refine ⟨rfl, Ca, clsF c, dx, _, hcc, upd_same, ?_, ?_⟩
  · rw [List.length_map, List.length_zip, hl]
    exact Nat.min_self _
  · exact set_paired (RW.mono kk hw) (clsF c) (RWs.mono kk hs)
instance cs_setF {K : PySem.W.Frag} {ct : Ct} {ta tv : TE} {a b : DE} {f : Str} [ha : CE ct ta a] [hb : CE ct tv b] [hk : CtOk K ct] : CS ct (sFld K ta tv f) (dSetF f a b) := ⟨fun B g σ H E C D DD R e q => by
  refine hb.run B g σ H E C _ _ R (fun y H1 ⟨g1, C1, yw, k1, R1, r1, q1⟩ => ?_) q
  refine ha.run B g1 σ H1 E C1 _ _ R1 (fun x H2 ⟨g2, C2, xw, k2, R2, r2, q2⟩ => ?_) q1
  unfold sfK at q2
  dsimp only at q2
  split at q2
  · rename_i k
    obtain ⟨a0, h0, rfl⟩ := r2
    unfold sfC at q2
    split at q2
    · rename_i c ws e3
      obtain ⟨Ca, dx, fs, ho, cls, no, hl, k3, R3⟩ := R2.setO (K := K) (hk := hk) e3 h0 (RW.mono k2 r1) q2.1
      exact ⟨a0, Ca, dx, fs, rfl, ho, cls, no, hl, e.nx _ _ _ _ _ (k1.trans (k2.trans k3)) R3 q2.2⟩
    · exact q2.elim
  · exact q2.elim⟩
/-! ### a list in a cell is frozen where it is handed on -/
def tFz (t : TE) : TE := t
theorem pe_fz {X : Cx} {e : Expr} {t : TE} (h : PE X e t) : PE X e (tFz t) := h
def fzC (k : Nat) (Q : DK) : Option Cell → List Cell → Prop
  | some (.lst ds), C => Q (.val (.list ds)) (C.set k (.frz ds))
  | some (.frz ds), C => Q (.val (.list ds)) C
  | _, _ => False
def fzK (Q : DK) : W → List Cell → Prop
  | .val d, C => Q (.val d) C
  | .ref k, C => fzC k Q C[k]? C
  | _, _ => False
def dFz (a : DE) : DE := fun E C Q => a E C (fzK Q)
instance ce_fz {ct : Ct} {t : TE} {a : DE} [h : CE ct t a] : CE ct (tFz t) (dFz a) := ⟨fun B g σ H E C Q K R k q => by
  refine h.run B g σ H E C _ _ R (fun v H1 ⟨g1, C1, x, k1, R1, r1, q1⟩ => ?_) q
  unfold fzK at q1
  split at q1
  · exact k _ _ ⟨_, _, _, k1, R1, r1, q1⟩
  · rename_i j
    obtain ⟨a0, h2, rfl⟩ := r1
    unfold fzC at q1
    split at q1
    · rename_i ds e2
      obtain ⟨z1, z2, z3⟩ := R1.ice e2 h2
      exact k _ _ ⟨_, _, .val (.list ds), k1.trans z1, z2, z3, q1⟩
    · rename_i ds e2
      obtain ⟨a', m, z1, z2, z3, f, xs, z4, z5⟩ := R1.cs.at_ j _ e2
      rw [h2] at z1
      cases z1
      exact k _ _ ⟨_, _, .val (.list ds), k1, R1, RD.lst f z4 z5, q1⟩
    · exact q1.elim
  · exact q1.elim⟩
/-! ### an object with a fresh list: two cells -/
def spRecI (K : PySem.W.Frag) : Sp := fun vs H Q _ => ∃ (a C dx : Addr) (u : V), vs = [.ref a, u] ∧ H a = some (.ins C dx []) ∧ Cls K C ∧ (∀ f ∈ clsF 1, NoAttr K C f) ∧ ∀ l, H l = none → Q .non (upd (upd H l (.lst [])) a (.ins C dx ((clsF 1).zip [u, .ref l])))
def recK (Q : DK) : Option (List D) → List Cell → Prop
  | some [d], C => Q (.ref C.length) (C ++ [.obj 1 [.val d, .ref (C.length + 1)], .lst []])
  | _, _ => False
def dMakeRec (a : DA) : DE := fun E C Q => a E C fun ws C1 => recK Q (vals ws) C1
theorem upd_swap {H : Hp} {x l : Addr} {A A' L Z : HO} : upd (upd (upd H x A) l L) x Z = upd (upd (upd H x A') l L) x Z := by
  funext b
  by_cases e : b = x
  · rw [e, upd_same, upd_same]
  · rw [upd_ne e, upd_ne e]
    by_cases e2 : b = l
    · rw [e2, upd_same, upd_same]
    · rw [upd_ne e2, upd_ne e2, upd_ne e, upd_ne e]
instance ce_makeRec {K : PySem.W.Frag} {ct : Ct} {Ca : Addr} {Ex : XK} {t : TA} {a : DA} [h : CA ct t a] [hk : CtOk K ct] [hc : ClA ct Ca 1] : CE ct (tMake Ca (spRecI K) [] Ex t) (dMakeRec a) := ⟨fun B g σ H E C Q K' R k q => by
  refine h.run B g σ H E C _ _ R (fun vs H1 ⟨g1, C1, ws, k1, R1, r1, q1⟩ => ?_) q
  unfold recK at q1
  dsimp only at q1
  split at q1
  · rename_i Cc o1 Cx d e
    have hd := vals_ok r1 e
    obtain ⟨_, cls, no⟩ := hk.ok _ _ _ hc.at_
    obtain ⟨u, rfl, ru⟩ : ∃ u, vs = [u] ∧ RD ct g1.F H1 u d := by
      cases hd with
      | cons h1 h2 =>
        cases h2
        exact ⟨_, rfl, h1⟩
    intro x dx nx ndx nex
    rw [List.append_nil]
    refine ⟨x, Ca, dx, u, rfl, upd_same, cls, no, fun l hl => ⟨rfl, ?_⟩⟩
    have nlx : l ≠ x := fun z => by
      rw [z, upd_same] at hl
      cases hl
    have nld : l ≠ dx := fun z => by
      rw [z, upd_ne nex, upd_same] at hl
      cases hl
    rw [upd_ne nlx, upd_ne nld] at hl
    rw [upd_swap (A' := .ins Ca dx ((clsF 1).zip [u, .non]))]
    obtain ⟨k2, R2⟩ := R1.new (o := .own x) false ndx
    have nx2 : upd H1 dx (.own x) x = none := by
      rw [upd_ne (Ne.symm nex)]
      exact nx
    obtain ⟨k3, R3, a3⟩ := R2.ad (o := .ins Ca dx ((clsF 1).zip [u, .non])) (c := .obj 1 [.val d, .val .none]) nx2 fun kk => ⟨rfl, Ca, clsF 1, dx, [u, .non], hc.at_, upd_same, rfl, .cons (RD.mono (k2.trans kk).kp _ _ ru) (.cons .non .nil)⟩
    have nl3 : upd (upd H1 dx (.own x)) x (.ins Ca dx ((clsF 1).zip [u, .non])) l = none := by
      rw [upd_ne nlx, upd_ne nld]
      exact hl
    obtain ⟨k4, R4, a4⟩ := R3.ad (o := .lst []) (c := .lst []) nl3 fun kk => ⟨rfl, [], upd_same, .nil⟩
    have a3' := k4.as _ _ a3
    have g0 : ((Cc ++ [Cell.obj 1 [.val d, .val .none]]) ++ [Cell.lst []] : List Cell)[Cc.length]? = some (.obj 1 [.val d, .val .none]) := by
      rw [List.append_assoc, List.getElem?_append_right (Nat.le_refl _), Nat.sub_self]
      rfl
    obtain ⟨ax, mx, y1, y2, y3⟩ := R4.cs.at_ _ _ g0
    rw [a3'] at y1
    cases y1
    obtain ⟨rfl, y4⟩ := id y3
    have hold := y4
    obtain ⟨Ca', ns', dx', vs', w1, w2, w3, w4⟩ := hold
    obtain ⟨k5, R5⟩ := R4.put (o := .ins Ca dx ((clsF 1).zip [u, .ref l])) (c' := .obj 1 [.val d, .ref (Cc.length + 1)]) g0 a3' y2 ⟨rfl, y4⟩ (fun zs z => by rw [w2] at z; cases z) fun kk => ⟨rfl, Ca, clsF 1, dx, [u, .ref l], hc.at_, upd_same, rfl, .cons (RD.mono (k2.trans (k3.trans (k4.trans kk))).kp _ _ ru) (.cons ⟨l, by rw [List.length_append] at a4; exact a4, rfl⟩ .nil)⟩
    refine k _ _ ⟨_, _, .ref (Cc.length), k1.trans (k2.trans (k3.trans (k4.trans k5))), R5, ⟨x, a3', rfl⟩, ?_⟩
    rw [List.append_assoc, List.set_append_right _ _ (Nat.le_refl _), Nat.sub_self]
    exact q1
  · exact q1.elim⟩
theorem fld10 {α : Type} (a b : α) : fldOf 1 "rule" [a, b] = some a := rfl
theorem fld11 {α : Type} (a b : α) : fldOf 1 "certificate" [a, b] = some b := rfl
end RR

namespace RX
open PySem PySem.Spec PyProof.Rows L2
/-! ### match v: case ("word", a, b): .. -/
/-- names alone -/
inductive Caps : List Pattern → List Str → Prop
  | nil : Caps [] []
  | cons {n : Str} {pos : Pos} {ps : List Pattern} {ns : List Str} (h : Caps ps ns) : Caps (.MatchAs none (some n) pos :: ps) (n :: ns)
theorem Caps.len {ps : List Pattern} {ns : List Str} (c : Caps ps ns) : ps.length = ns.length := by
  induction c with
  | nil => rfl
  | cons _ ih => exact congrArg Nat.succ ih
/-- the slots filled, from the left -/
def fill : L2.St → List Nat → List V → L2.St
  | σ, i :: is, x :: xs => fill (σ.set i (some x)) is xs
  | σ, _, _ => σ
structure PMs (X : Cx) (cs : List MatchCase) (t : V → TS) : Prop where
  run : ∀ (pins : List (Addr × Obj)) (s : Shared) (σ : L2.St) (H : Hp) (D : Ends) (v : V) (u : Value) (first : Bool), Inv X pins σ H s → RelV v u → t v D σ H → wpAny (model X.prog X.w) X.A (matchCases cs X.env u first) (SP X pins D) X.xe s
def tMNil : V → TS := fun _ D σ H => D.nx σ H
/-- a case whose pattern is a written word and names: the value is a tuple that begins with a text -/
def tMCase (K : PySem.W.Frag) (z : Str) (is : List Nat) (tb : TS) (tr : V → TS) : V → TS := fun v D σ H => ∃ (a : Addr) (y : Str) (xs : List V), v = .ref a ∧ SqT K H a (.str y :: xs) ∧
  ((xs.length = is.length ∧ y = z ∧ tb D (fill σ is xs) H) ∨ (¬ (xs.length = is.length ∧ y = z) ∧ tr v D σ H))
section
variable {X : Cx}
theorem pms_nil : PMs X [] tMNil := ⟨fun pins s σ H D v u first I r h => wpAny_matchCases_nil ⟨σ, H, I, h⟩⟩
theorem each_caps : ∀ {ps : List Pattern} {ns : List Str}, Caps ps ns → ∀ {us : List Value} {s : Shared} {M : Model} {A : Around} {E : Value → Shared → Prop} {env : Env} {Q : Option (List (Str × Value)) → Shared → Prop}, us.length = ns.length → Q (some (ns.zip us)) s → wpAny M A (matchEach ps env us) Q E s := by
  intro ps ns c
  induction c with
  | nil =>
    intro us s M A E env Q hl h
    exact wpAny_matchEach_nil (by simpa using h)
  | @cons n pos ps ns c ih =>
    intro us s M A E env Q hl h
    cases us with
    | nil => cases hl
    | cons u us =>
      refine wpAny_matchEach_cons (wpAny_matchPattern_Capture ?_)
      refine ih (by simpa using hl) ?_
      exact h
/-- the slots of names -/
inductive Slots (X : Cx) : List Nat → List Str → Prop
  | nil : Slots X [] []
  | cons {i : Nat} {n : Str} {is : List Nat} {ns : List Str} (hi : X.N[i]? = some n) (hl : X.env.scope.names.lookup n = some .local) (h : Slots X is ns) : Slots X (i :: is) (n :: ns)
theorem Slots.len {is : List Nat} {ns : List Str} (h : Slots X is ns) : is.length = ns.length := by
  induction h with
  | nil => rfl
  | cons _ _ _ ih => exact congrArg Nat.succ ih
theorem assign_all (hN : X.N.Nodup) {is : List Nat} {ns : List Str} (S : Slots X is ns) : ∀ {xs : List V} {us : List Value} {pins : List (Addr × Obj)} {σ : L2.St} {H : Hp} {s : Shared} {Q : Unit → Shared → Prop}, xs.length = is.length → Vals xs us → Inv X pins σ H s →
    (∀ s', Inv X pins (fill σ is xs) H s' → Q () s') → wpAny (model X.prog X.w) X.A (assignInOrder ((ns.zip us).map fun (n, _) => bindName X.env n) ((ns.zip us).map (·.2))) Q X.xe s := by
  induction S with
  | nil =>
    intro xs us pins σ H s Q hl r I h
    cases xs with
    | nil =>
      cases r
      exact wpAny_assignInOrder_none (h s I)
    | cons x xs => cases hl
  | @cons i n is ns hi hl S ih =>
    intro xs us pins σ H s Q hlen r I h
    cases xs with
    | nil => cases hlen
    | cons x xs =>
      cases r with
      | cons r1 r2 =>
        refine wpAny_assignInOrder_more ?_
        refine wpAny_bindName (store_ok I hN hi (.inl hl) r1 (fun s' I' => ?_) (.inr hl))
        exact ih (by simpa using hlen) r2 I' h
theorem pms_case {z : Str} {k : Nat} {p1 p2 pos : Pos} {ps : List Pattern} {ns : List Str} {is : List Nat} {body : List Stmt} {rest : List MatchCase} {tb : TS} {tr : V → TS} (hN : X.N.Nodup) (hc : X.calm = true) (c : Caps ps ns) (S : Slots X is ns) (hb : PSs X body tb) (hr : PMs X rest tr)
    (hstar : (Pattern.MatchValue (.Constant (.str z) k p1) p2 :: ps).findIdx? (·.isStar) = none := by rfl) (hwild : ((Pattern.MatchValue (.Constant (.str z) k p1) p2 :: ps).all fun p => p.isWildcard || (p.isStar && p.names.isEmpty)) = false := by rfl) :
    PMs X (⟨.MatchSequence (.MatchValue (.Constant (.str z) k p1) p2 :: ps) pos, none, body⟩ :: rest) (tMCase X.K z is tb tr) := by
  refine ⟨fun pins s σ H D v u first I r h => ?_⟩
  obtain ⟨a, y, xs, ev, hS, h⟩ := h
  subst ev
  have eu : u = .ref a := r
  subst eu
  obtain ⟨its, rv, ht, hz⟩ := I.tuple hS
  obtain ⟨_ | ⟨u0, us⟩, rv⟩ : ∃ l, Vals (.str y :: xs) l ∧ its = l := ⟨its, rv, rfl⟩
  · obtain ⟨rv, e⟩ := rv
    cases rv
  obtain ⟨rv, e⟩ := rv
  subst e
  have hlen := rv.length
  have lps := c.len
  have lis := S.len
  refine wpAny_matchCases_cons (wpAny_matchPattern_Sequence (wpAny_collectionFlag ht.typeIs flag_seq_tuple ?_) hstar hwild)
  refine iteT ?_
  have hsz : (((u0 :: us).toArray.size : Nat) : Int) < 2 ^ 63 := by
    rw [List.size_toArray, ← hlen]
    have h1 : (sizeLine : Int) < 2 ^ 63 := by decide
    omega
  refine pyLen_tuple ht hsz ?_
  have I1 : Inv X pins σ H { s with toks := s.toks + 1 + 1 } := I.tok _
  have hlen1 : xs.length = us.length := by simpa using hlen
  by_cases hl : xs.length = is.length
  · have e1 : (Pattern.MatchValue (.Constant (.str z) k p1) p2 :: ps).length = (u0 :: us).toArray.size := by
      rw [List.size_toArray, List.length_cons, List.length_cons]
      omega
    rw [e1]
    refine ite2 (fun q => absurd q (by simp)) (fun _ => ?_)
    refine unpackItems_tuple (I.ok.hd hc) ht fun h' hx => ?_
    have I2 : Inv X pins σ H { s with heap := h', toks := s.toks + 1 + 1 } := I1.kept (t' := s.toks + 1 + 1) fun b o e => hx b o (Nat.ne_of_lt (Heap.lt_size e)) e
    show wpAny _ _ (matchEach _ _ (u0 :: us)) _ _ _
    cases rv with
    | cons r0 r1 =>
      refine wpAny_matchEach_cons (wpAny_matchPattern_Value ?_)
      have hst : PE X (.Constant (.str z) k p1) (tC (.str z)) := pe_str
      refine thn (hst.run pins _ σ H (fun x H' => x = .str z ∧ H' = H) I2 ⟨rfl, rfl⟩) fun x s3 ⟨xv, H3, I3, rx, ex, eH⟩ => ?_
      subst ex eH
      refine thn (op_eq pins s3 σ H3 (.str y) (.str z) u0 x (fun v H' => v = .bl (decide (V.str y = V.str z)) ∧ H' = H3) I3 r0 rx ⟨rfl, rfl, rfl⟩) fun cv s4 ⟨cw, H4, I4, rc, ec, eH⟩ => ?_
      subst ec eH
      have ecv : cv = .bool (decide (V.str y = V.str z)) := rc
      subst ecv
      refine wpAny_truthy_bool ?_
      by_cases hy : y = z
      · rw [decide_eq_true (show V.str y = V.str z by rw [hy])]
        refine iteT ?_
        refine each_caps c (by omega) ?_
        rcases h with ⟨_, _, h⟩ | ⟨n, _⟩
        · exact assign_all hN S hl r1 I4 fun s5 I5 => hb.run pins s5 _ _ D I5 h
        · exact absurd ⟨hl, hy⟩ n
      · have hne : ¬ (V.str y = V.str z) := fun e => hy (V.str.inj e)
        rw [decide_eq_false hne]
        refine iteF ?_
        rcases h with ⟨_, e, _⟩ | ⟨_, h⟩
        · exact absurd e hy
        · exact hr.run pins s4 σ _ D (.ref a) (.ref a) false I4 rfl h
  · refine ite2 (fun _ => ?_) (fun n => absurd ?_ n)
    · rcases h with ⟨e, _⟩ | ⟨_, h⟩
      · exact absurd e hl
      · exact hr.run pins _ σ _ D (.ref a) (.ref a) false I1 rfl h
    · have e2 : ¬ (((u0 :: us).toArray.size : Nat) : Int) = (((Pattern.MatchValue (.Constant (.str z) k p1) p2 :: ps).length : Nat) : Int) := by
        rw [List.size_toArray, List.length_cons, List.length_cons]
        omega
      simpa using e2
def tMatch (te : TE) (t : V → TS) : TS := fun D σ H => te σ H fun v H1 => t v D σ H1
theorem ps_match {e : Expr} {cs : List MatchCase} {pos : Pos} {te : TE} {t : V → TS} (he : PE X e te) (hc : PMs X cs t) : PS X (.Match e cs pos) (tMatch te t) := by
  refine ⟨fun pins s σ H D I h => ?_⟩
  refine wpAny_Match (thn (he.run pins s σ H _ I h) fun u s1 ⟨v, H1, I1, r, q⟩ => ?_)
  exact hc.run pins s1 σ H1 D v u true I1 r q
end
end RX

namespace RR
open PySem PySem.Spec PyProof.Rows L2
/-! ### match over tuples that begin with a written word -/
def fillE : Ev → List Nat → List D → Ev
  | E, i :: is, x :: xs => fillE (E.set i (some (.val x))) is xs
  | E, _, _ => E
abbrev DMs := W → DS
class CMs (ct : Ct) (t : V → TS) (d : outParam DMs) : Prop where
  run : ∀ B g σ H E C D DD v w, Rel ct B g σ H E C → EndsOk ct B g H DD D → RW ct g H v w → d w DD E C → t v D σ H
def dMNil : DMs := fun _ D E C => D.nx E C
instance cms_nil {ct : Ct} : CMs ct RX.tMNil dMNil := ⟨fun B g σ H E C D DD v w R e r q => e.nx σ H g E C (Gk.refl _ _) R q⟩
def dMCase (z : Str) (is : List Nat) (b : DS) (t : DMs) : W → DEnds → Ev → List Cell → Prop
  | .val (.tuple (.str y :: ds)), D, E, C => if ds.length = is.length ∧ y = z then b D (fillE E is ds) C else t (.val (.tuple (.str y :: ds))) D E C
  | _, _, _, _ => False
theorem Rel.fill {ct : Ct} {B : Bs} {g : Gh} {H : Hp} {C : List Cell} : ∀ {is : List Nat} {xs : List V} {ds : List D} {σ : L2.St} {E : Ev}, Rel ct B g σ H E C → RDs ct g.F H xs ds → Rel ct B g (RX.fill σ is xs) H (fillE E is ds) C
  | [], [], [], _, _, R, .nil => R
  | [], _ :: _, _ :: _, _, _, R, .cons _ _ => R
  | _ :: _, [], [], _, _, R, .nil => R
  | i :: is, x :: xs, d :: ds, σ, E, R, .cons r rs => Rel.fill (is := is) (xs := xs) (ds := ds) (σ := σ.set i (some x)) (E := E.set i (some (.val d))) (R.set (w := .val d) r i) rs
theorem dMCase_inv {z : Str} {is : List Nat} {b : DS} {t : DMs} {w : W} {D : DEnds} {E : Ev} {C : List Cell} (q : dMCase z is b t w D E C) : ∃ y ds, w = .val (.tuple (.str y :: ds)) ∧ if ds.length = is.length ∧ y = z then b D (fillE E is ds) C else t (.val (.tuple (.str y :: ds))) D E C := by
  unfold dMCase at q
  split at q
  · exact ⟨_, _, rfl, q⟩
  · exact q.elim
instance cms_case {ct : Ct} {K : PySem.W.Frag} {z : Str} {is : List Nat} {tb : TS} {tr : V → TS} {b : DS} {t : DMs} [hb : CS ct tb b] [ht : CMs ct tr t] : CMs ct (RX.tMCase K z is tb tr) (dMCase z is b t) := ⟨fun B g σ H E C D DD v w R e r q => by
  obtain ⟨y, ds, rfl, q'⟩ := dMCase_inv q
  clear q
  have q := q'
  clear q'
  · obtain ⟨a, xs, rfl, h1, h2⟩ := rw_tup r
    obtain ⟨xs', rfl, r2⟩ : ∃ xs', xs = .str y :: xs' ∧ RDs ct g.F H xs' ds := by
      cases h2 with
      | cons q1 q2 =>
        cases q1
        exact ⟨_, rfl, q2⟩
    refine ⟨a, y, xs', rfl, SqT.of h1, ?_⟩
    by_cases hc : ds.length = is.length ∧ y = z
    · rw [if_pos hc] at q
      exact .inl ⟨by rw [r2.length]; exact hc.1, hc.2, hb.run B g _ H _ C D _ (R.fill r2) e q⟩
    · rw [if_neg hc] at q
      exact .inr ⟨by rw [r2.length]; exact hc, ht.run B g σ H E C D _ _ _ R e r q⟩⟩
def dMatch (a : DE) (t : DMs) : DS := fun D E C => a E C fun w C1 => t w D E C1
instance cs_match {ct : Ct} {te : TE} {t : V → TS} {a : DE} {d : DMs} [ha : CE ct te a] [ht : CMs ct t d] : CS ct (RX.tMatch te t) (dMatch a d) := ⟨fun B g σ H E C D DD R e q => by
  refine ha.run B g σ H E C _ _ R (fun v H1 ⟨g1, C1, x, k1, R1, r1, q1⟩ => ?_) q
  exact ht.run B g1 σ H1 E C1 D DD v x R1 (e.later k1) r1 q1⟩
/-! ### x += e -/
def augK (i : Nat) (D : DEnds) (E : Ev) : W → W → List Cell → Prop
  | .val (.int a), .val (.int b), C => D.nx (E.set i (some (.val (.int (a + b))))) C
  | _, _, _ => False
theorem augK_inv {i : Nat} {D : DEnds} {E : Ev} {x y : W} {C : List Cell} (q : augK i D E x y C) : ∃ a b, x = .val (.int a) ∧ y = .val (.int b) ∧ D.nx (E.set i (some (.val (.int (a + b))))) C := by
  unfold augK at q
  split at q
  · exact ⟨_, _, rfl, rfl, q⟩
  · exact q.elim
def aug0 (i : Nat) (D : DEnds) (E : Ev) (C : List Cell) (b : DE) : Option (Option W) → Prop
  | some (some x) => b E C fun y C1 => augK i D E x y C1
  | _ => False
def dAug (i : Nat) (b : DE) : DS := fun D E C => aug0 i D E C b E[i]?
instance cs_aug {ct : Ct} {i : Nat} {te : TE} {b : DE} [h : CE ct te b] : CS ct (tAug i te (ipI fun i j => i + j)) (dAug i b) := ⟨fun B g σ H E C D DD R e q => by
  unfold dAug aug0 at q
  split at q
  · rename_i x hx
    obtain ⟨v, hv, rv⟩ := R.env i x hx
    refine ⟨v, hv, ?_⟩
    refine h.run B g σ H E C _ _ R (fun u H1 ⟨g1, C1, y, k1, R1, r1, q1⟩ => ?_) q
    obtain ⟨ia, ib, rfl, rfl, q2⟩ := augK_inv q1
    have rv2 := rw_int (RW.mono k1 rv)
    subst rv2
    cases rw_int r1
    have r3 : RW ct g1 H1 (.int (ia + ib)) (.val (.int (ia + ib))) := RD.int (ia + ib)
    exact ⟨ia, ib, rfl, rfl, e.nx _ H1 g1 _ C1 k1 (R1.set r3 i) q2⟩
  · exact q.elim⟩
/-! ### isinstance of what may be an object -/
class IsT (K : PySem.W.Frag) (ct : Ct) : Prop where
  ok : ∀ C ns, ct.cl 0 = some (C, ns) → Cls K C ∧ PySem.W.findIn K (.ref C) "__class__" = some (some (.builtin "object.__class__")) ∧ PySem.W.specialIn K (.builtin "object.__class__") "__get__" = some (some (.builtin "getset_descriptor.__get__")) ∧
    PySem.W.takesIn K (.builtin "object.__class__") = some true ∧ PySem.W.mroIn K C (.type "object") = some true ∧ PySem.W.kitOne K (.ref C) (.type "tuple") = some false
instance {K : PySem.W.Frag} {ct : Ct} {E : XK} {R : XD} [h : IsT K ct] : IsT K (ct.w E R) := ⟨h.ok⟩
def rIsiO (K : PySem.W.Frag) : List V → Hp → VK → Prop := rIsi K
theorem call_isiO {X : Cx} : CallR X (.builtin "isinstance") (rIsiO X.K) := call_isi
def fIsiO : List W → List Cell → DK → Prop
  | [.val (.dict [(.int c, .list _)]), .ty n], C, Q => c = 0 ∧ n = "tuple" ∧ Q (.val (.bool false)) C
  | ws, C, Q => fIsi ws C Q
instance cc_isiO {ct : Ct} {K : PySem.W.Frag} [hk : IsT K ct] : CC ct (rIsiO K) fIsiO := ⟨fun B g σ H E C Q vs ws K' R k r q => by
  unfold fIsiO at q
  split at q
  · obtain ⟨rfl, rfl, q⟩ := q
    obtain ⟨v, x, rfl, r1, r2⟩ := rws2 r
    cases (show RD ct g.F H v (.dict [(.int 0, .list _)]) from r1) with
    | obj f hc ho hl hs =>
      obtain ⟨h1, h2, h3, h4, h5, h6⟩ := hk.ok _ _ hc
      exact ⟨_, x, .ref _, .type "tuple", false, rfl, by rw [show x = .ty _ from r2]; exact .ty _, .base (.ins ho h1 h2 h3 h4 h5), h6, post_val R (w := .val (.bool false)) (.bl _) k q⟩
  · exact (cc_isi (K := K)).run B g σ H E C Q vs ws K' R k r q⟩
/-! ### from a def that lets nothing out -/
theorem FnOk.lift {P : Program} {w : World} {K : PySem.W.Frag} {mg : Str → Option Value} {base : Heap} {k : Nat} {f : Addr} {fd : FuncData} {ps : List Str} {sp : Sp} (F : FnOk P w K mg base CX0 k f fd ps sp) : FnOk P w K mg base (L2.CX P w) k f fd ps sp :=
  ⟨F.len, fun A outer s H args us vs Q E hr he hb hv hs => codeAny_mono (F.run A outer s H args us vs Q E hr he hb hv hs) fun r s' h => by
    cases r with
    | ok fl => cases fl <;> exact h
    | error e => exact (show False from h).elim⟩
/-! ### calls that may raise what the def may let out -/
theorem passX {P : Program} {w : World} {K : PySem.W.Frag} {mg : Str → Option Value} {base : Heap} {N : List Str} {q : Str} {sc : Scope} {f : Addr} {cd : Value} {A : Around} {outer : List Env} {s : Shared} {H : Hp} {E : XK} :
    Passes (L2.CX P w) (cxOf (L2.CX P w) P w K mg base N q sc f cd A outer s H E) E := passes_call (takes_of rfl rfl rfl rfl) (fun _ _ _ _ h => h)
def tCallX (sp : Sp) (E : XK) (t : TA) : TE := tCall sp [] E t
def tMethX (C : Addr) (m : Str) (sp : Sp) (E : XK) (ta : TE) (t : TA) : TE := tMeth C m sp [] E ta t
section
variable {X : Cx} {CX : CXT} {k : Nat} {f C : Addr} {fd : FuncData} {ps : List Str} {sp : Sp} {E : XK} {x m : Str} {p pos apos : Pos} {e o : Expr} {es : List Expr} {ta : TE} {t : TA}
theorem pe_callX (F : FnOk X.prog X.w X.K X.mg X.base CX k f fd ps sp) (hr : Room k X.A) (hg : Gl X x) (hm : X.mg x = some (.ref f)) (hk : PySem.W.keepIn X.K (.ref f) = true) (hb : Binds X.K fd ps []) (hx : Passes CX X E)
    (ha : PA X (e :: es) t) (hdb : (x == ("__debug__" : Str)) = false := by decide) (he : starEach (e :: es) X.env = (false, eval e X.env) :: starEach es X.env := by rfl) (hpl : (backTo pos (starEach es X.env)).any (·.1) = false := by rfl) :
    PE X (.Call (.Name x p) (e :: es) [] pos) (tCallX sp E t) := pe_call F hr hg hm hk hb .nil hx ha hdb he hpl
theorem pe_methX {pl : Sem Bool} (he : PE X o ta) (c : Cls X.K C) (hm : Meth X.K C m f) (F : FnOk X.prog X.w X.K X.mg X.base CX k f fd ps sp) (hr : Room k X.A) (hb : Binds X.K fd ps []) (hx : Passes CX X E) (ha : PA X (e :: es) t)
    (hst : starEach (e :: es) X.env = (false, eval e X.env) :: starEach es X.env := by rfl) (hpl : (backTo pos (starEach es X.env)).any (·.1) = false := by rfl)
    (ht : eval (.Call (.Attribute o m apos) (e :: es) [] pos) X.env = (do
      let ov ← eval o X.env
      standAt apos.atName
      let (f, first) ← holding [ov] (getMethod ov m pl)
      callWith pos f first (backTo pos (starEach (e :: es) X.env)) (backToKw pos (keywordEach [] X.env))) := by rfl) :
    PE X (.Call (.Attribute o m apos) (e :: es) [] pos) (tMethX C m sp E ta t) := pe_meth he c hm F hr hb .nil hx ha hst hpl ht
theorem pe_methX0 {pl : Sem Bool} (he : PE X o ta) (c : Cls X.K C) (hm : Meth X.K C m f) (F : FnOk X.prog X.w X.K X.mg X.base CX k f fd ps sp) (hr : Room k X.A) (hb : Binds X.K fd ps []) (hx : Passes CX X E)
    (ht : eval (.Call (.Attribute o m apos) [] [] pos) X.env = (do
      let ov ← eval o X.env
      standAt apos.atName
      let (f, first) ← holding [ov] (getMethod ov m pl)
      callWith pos f first [] []) := by rfl) :
    PE X (.Call (.Attribute o m apos) [] [] pos) (tMethX C m sp E ta tNil) := pe_meth0 he c hm F hr hb .nil hx ht
end
/-- data alone -/
def dCallPX (m : Nat) (P : DSp) (a : DA) (RX : XD) : DE := fun E C Q => a E C fun ws C1 => ws.length = m ∧ (vals ws).isSome = true ∧ P ws [] (fun w _ => Q w C1) fun c ds _ => RX c ds C1
instance ce_callPX {ct : Ct} {E : XK} {R : XD} {m : Nat} {P : DSp} {t : TA} {a : DA} [h : CA (ct.w E R) t a] : CE (ct.w E R) (tCallX (spD ct 0 m P) E t) (dCallPX m P a R) := ⟨fun B g σ H Ev C Q K Re k q => by
  refine h.run B g σ H Ev C _ _ Re (fun vs H1 ⟨g1, C1, ws, k1, R1, r1, q1⟩ => ?_) q
  obtain ⟨e1, e2, q2⟩ := q1
  rw [List.append_nil]
  refine ⟨⟨g1.F, [], []⟩, [], ws, _, _, by rw [← e1]; exact Paired.length r1, rfl, clz_nil R1.cs, rws_pure r1 e2, q2, fun v H' g' C' w k' f' c' l' r' q' => ?_, fun cls d H' g' C' c ds k' f' c' l' xv q' => ?_⟩
  · have e3 : C' = [] := List.eq_nil_of_length_eq_zero l'
    subst e3
    obtain ⟨k2, R2⟩ := R1.called k' f' c'
    refine k v H' ⟨_, C1, w, k1.trans k2, R2, ?_, q'⟩
    cases w with
    | val d => exact r'
    | ty n => exact r'
    | fn => exact r'
    | ref j =>
      obtain ⟨b, hb, _⟩ := r'
      have : g'.as.length = 0 := c'.la
      rw [List.eq_nil_of_length_eq_zero this] at hb
      simp at hb
  · have e3 : C' = [] := List.eq_nil_of_length_eq_zero l'
    subst e3
    obtain ⟨k2, R2⟩ := R1.called k' f' c'
    exact R2.xo _ _ _ cls d c ds R2.gg R2.fr R2.cs xv q'⟩
instance ce_callWX {ct : Ct} {E : XK} {R : XD} {n m : Nat} {P : DSp} {t : TA} {a : DA} [h : CA (ct.w E R) t a] : CE (ct.w E R) (tCallX (spD ct (n + 1) m P) E t) (dCallW (n + 1) m P a R) := ⟨fun B g σ H Ev C Q K Re k q => by
  refine h.run B g σ H Ev C _ _ Re (fun vs H1 ⟨g1, C1, ws, k1, R1, r1, q1⟩ => ?_) q
  unfold callK at q1
  dsimp only at q1
  split at q1
  · rename_i j e
    obtain ⟨e1, e2, e3, q2⟩ := q1
    rw [Bool.and_eq_true] at e3
    rw [List.append_nil]
    refine ⟨g1.wd j (n + 1), _, _, _, _, by rw [← e1]; exact Paired.length r1, ?_, R1.cs.wd j (n + 1) e3.2, r1.wd e3.1, q2, fun v H' g' C' w k' f' c' l' r' q' => ?_, fun cls d H' g' C' c ds k' f' c' l' xv q' => ?_⟩
    · rw [List.length_map, List.length_take, List.length_drop]
      omega
    · obtain ⟨k2, R2, h2⟩ := R1.calledW e2 k' f' c' l'
      exact k v H' ⟨_, _, _, k1.trans k2, R2, RW.un h2 r', q'⟩
    · obtain ⟨k2, R2, h2⟩ := R1.calledW e2 k' f' c' l'
      exact R2.xo _ _ _ cls d c ds R2.gg R2.fr R2.cs xv q'
  · exact q1.elim⟩
def dMethWX (c : Int) (mn : Str) (n m : Nat) (P : DSp) (a : DE) (t : DA) (RX : XD) : DE := fun E C Q => a E C fun x C1 => isOb c x C1 ∧ mn ∉ clsF c ∧ t E C1 fun ws C2 => callK n m P RX Q (x :: ws) C2 (firstRef (x :: ws))
instance ce_methWX {ct : Ct} {E : XK} {R : XD} {n m : Nat} {P : DSp} {Ca : Addr} {c : Int} {mn : Str} {te : TE} {t : TA} {e : DE} {a : DA} [h : CE (ct.w E R) te e] [h2 : CA (ct.w E R) t a] [hc : ClA ct Ca c] :
    CE (ct.w E R) (tMethX Ca mn (spD ct (n + 1) m P) E te t) (dMethWX c mn (n + 1) m P e a R) := ⟨fun B g σ H Ev C Q K Re k q => by
  refine h.run B g σ H Ev C _ _ Re (fun v H1 ⟨g1, C1, x, k1, R1, r1, q1⟩ => ?_) q
  obtain ⟨o1, o2, q1⟩ := q1
  obtain ⟨a0, dx, fs, rfl, ho, hn⟩ := isOb_ok (hc := hc) R1.cs r1 o1 o2
  refine ⟨a0, dx, fs, rfl, ho, hn, ?_⟩
  refine h2.run B g1 σ H1 Ev C1 _ _ R1 (fun vs H2 ⟨g2, C2, ws, k2, R2, r2, q2⟩ => ?_) q1
  unfold callK at q2
  dsimp only at q2
  split at q2
  · rename_i j e
    obtain ⟨e1, e2, e3, q3⟩ := q2
    rw [Bool.and_eq_true] at e3
    rw [List.append_nil]
    have rr : RWs ct g2 H2 (.ref a0 :: vs) (x :: ws) := .cons (RW.mono k2 r1) r2
    refine ⟨g2.wd j (n + 1), _, _, _, _, by rw [← e1]; exact Paired.length rr, ?_, R2.cs.wd j (n + 1) e3.2, rr.wd e3.1, q3, fun v H' g' C' w k' f' c' l' r' q' => ?_, fun cls d H' g' C' c ds k' f' c' l' xv q' => ?_⟩
    · rw [List.length_map, List.length_take, List.length_drop]
      omega
    · obtain ⟨k3, R3, h3⟩ := R2.calledW e2 k' f' c' l'
      exact k v H' ⟨_, _, _, k1.trans (k2.trans k3), R3, RW.un h3 r', q'⟩
    · obtain ⟨k3, R3, h3⟩ := R2.calledW e2 k' f' c' l'
      exact R3.xo _ _ _ cls d c ds R3.gg R3.fr R3.cs xv q'
  · exact q2.elim⟩
/-! ### raise C(..), C's own __init__ setting its fields; clsF: the last one first -/
def spXI (K : PySem.W.Frag) (ns : List Str) : Sp := fun vs H Q _ => ∃ (a C : Addr) (us : List V), vs = .ref a :: us ∧ us.length = ns.length ∧ H a = some (exo a C none) ∧ OexC K C ∧ (∀ f ∈ ns, PySem.W.findIn K (.ref C) f = some none) ∧
  ∀ dx, H dx = none → dx ≠ a → Q .non (upd (upd H dx (exd dx (ns.zip us.reverse))) a (exo a C (some dx)))
/-- what raising asks of a class -/
class ExA (K : PySem.W.Frag) (ct : Ct) (C : Addr) (c : outParam Int) : Prop where
  at_ : ct.cl.x c = some (C, clsF c)
  ox : OexC K C
  no : ∀ f ∈ clsF c, PySem.W.findIn K (.ref C) f = some none
instance {K : PySem.W.Frag} {ct : Ct} {C : Addr} {c : Int} {E : XK} {R : XD} [h : ExA K ct C c] : ExA K (ct.w E R) C c := ⟨h.at_, h.ox, h.no⟩
def tRaise (C : Addr) (sp : Sp) (ta : TA) (E : XK) : TS := fun _ σ H => tMkO C sp [] ta σ H fun cls d H' => E cls d H'
def raiK (R : XD) (c : Int) : Option (List D) → List Cell → Prop
  | some ds, C => ds.length = (clsF c).length ∧ R c ds.reverse C
  | none, _ => False
def dRaise (R : XD) (c : Int) (a : DA) : DS := fun _ E C => a E C fun ws C1 => raiK R c (vals ws) C1
theorem exd_x {dx : Addr} {fs gs : List (Str × V)} {H : Hp} (h : H dx = some (exd dx fs)) : H dx = some (exd dx fs) := h
instance cs_raise {K : PySem.W.Frag} {ct : Ct} {E : XK} {R : XD} {Ca : Addr} {c : Int} {t : TA} {a : DA} [h : CA (ct.w E R) t a] [hx : ExA K ct Ca c] : CS (ct.w E R) (tRaise Ca (spXI K (clsF c)) t E) (dRaise R c a) := ⟨fun B g σ H Ev C D DD Re e q => by
  refine h.run B g σ H Ev C _ _ Re (fun vs H1 ⟨g1, C1, ws, k1, R1, r1, q1⟩ => ?_) q
  unfold raiK at q1
  dsimp only at q1
  split at q1
  · rename_i ds ev
    obtain ⟨hl, q1⟩ := q1
    have hd := vals_ok r1 ev
    have hlv : vs.length = (clsF c).length := by rw [hd.length, hl]
    have hl4 : (clsF c).length ≤ 4 := by
      unfold clsF
      split <;> decide
    refine ⟨by omega, fun x nx => ?_⟩
    rw [List.append_nil]
    refine ⟨x, Ca, vs, rfl, hlv, upd_same, hx.ox, hx.no, fun dx ndx nex => ⟨rfl, dx, _, upd_same, by rw [upd_ne nex]; exact upd_same, ?_, ?_⟩⟩
    · rw [upd_ne nex] at ndx
      exact ndx
    · have ndx1 : H1 dx = none := by
        rw [upd_ne nex] at ndx
        exact ndx
      have eq : upd (del (upd (upd (upd H1 x (exo x Ca none)) dx (exd dx ((clsF c).zip vs.reverse))) x (exo x Ca (some dx))) x) dx (.xd ((clsF c).zip vs.reverse)) = upd H1 dx (.xd ((clsF c).zip vs.reverse)) := by
        funext b
        by_cases e1 : b = dx
        · rw [e1, upd_same, upd_same]
        · rw [upd_ne e1, upd_ne e1]
          by_cases e2 : b = x
          · rw [e2, del_same, nx]
          · rw [del_ne e2, upd_ne e2, upd_ne e1, upd_ne e2]
      rw [eq]
      obtain ⟨k2, R2⟩ := R1.new (o := .xd ((clsF c).zip vs.reverse)) false ndx1
      refine R2.xo _ _ _ (.ref Ca) (some dx) c ds.reverse R2.gg R2.fr R2.cs ⟨Ca, clsF c, hx.at_, rfl, .inr ⟨dx, vs.reverse, rfl, upd_same, ?_, RDs.mono k2.kp _ _ hd.rev⟩⟩ q1
      rw [List.length_reverse, hlv]
  · exact q1.elim⟩
/-- __init__ of an exception class, as the top has made it -/
structure Xni (K : PySem.W.Frag) (mg : Str → Option Value) (x : Str) (C : Addr) (q : Str) (st : Stmt) (ps : List Str) where
  f : Addr
  fd : FuncData
  F : Fun K "__init__" q st f fd
  b : Binds K fd ps []
  g : mg x = some (.ref C)
  ox : OexC K C
  iC : PySem.W.findIn K (.ref C) "__init__" = some (some (.ref f))
  tI : PySem.W.typeIn K (.ref f) = some (.type "function")
theorem ps_raiseX {P : Program} {w : World} {K : PySem.W.Frag} {mg : Str → Option Value} {base : Heap} {N : List Str} {q : Str} {sc : Scope} {f : Addr} {cd : Value} {A : Around} {outer : List Env} {s : Shared} {H : Hp} {E : XK} {x : Str} {C : Addr} {qq : Str} {st : Stmt} {ps : List Str} {k : Nat} {sp : Sp} {e : Expr} {es : List Expr} {ta : TA} {p pos pos' : Pos}
    (I : Xni K mg x C qq st ps) (F1 : FnOk P w K mg base CX0 k I.f I.fd ps sp) (hr : Room (k + 1) (cxOf (L2.CX P w) P w K mg base N q sc f cd A outer s H E).A) (hg : Gl (cxOf (L2.CX P w) P w K mg base N q sc f cd A outer s H E) x)
    (ha : PA (cxOf (L2.CX P w) P w K mg base N q sc f cd A outer s H E) (e :: es) ta) (hdb : (x == ("__debug__" : Str)) = false := by decide) (he : starEach (e :: es) (cxOf (L2.CX P w) P w K mg base N q sc f cd A outer s H E).env = (false, eval e (cxOf (L2.CX P w) P w K mg base N q sc f cd A outer s H E).env) :: starEach es (cxOf (L2.CX P w) P w K mg base N q sc f cd A outer s H E).env := by rfl)
    (hpl : (backTo pos (starEach es (cxOf (L2.CX P w) P w K mg base N q sc f cd A outer s H E).env)).any (·.1) = false := by rfl) :
    PS (cxOf (L2.CX P w) P w K mg base N q sc f cd A outer s H E) (.Raise (some (.Call (.Name x p) (e :: es) [] pos)) none pos') (tRaise C sp ta E) :=
  ps_raise rfl (takes_of rfl rfl rfl rfl) (pmk_oex I.ox I.iC I.tI F1 hr I.b .nil pass0 hg I.g ha hdb he hpl)
/-! ### a, b = x, y and a, b, c = x, y, z -/
section
variable {X : Cx} {pos : Pos}
def tPar3 (i j k : Nat) (ta : TA) : TS := fun D σ H => ta σ H fun vs H1 => ∃ u v w, vs = [u, v, w] ∧ D.nx (((σ.set i (some u)).set j (some v)).set k (some w)) H1
theorem ps_par3 {i j k : Nat} {x y z : Str} {a b c : Expr} {ta : TA} {px py pz pt : Pos} {kt k2 pt2} (hc : X.calm = true) (hN : X.N.Nodup) (hi : X.N[i]? = some x) (hj : X.N[j]? = some y) (hk : X.N[k]? = some z) (hij : i ≠ j) (hik : i ≠ k) (hjk : j ≠ k)
    (hx : X.env.scope.names.lookup x = some .local) (hy : X.env.scope.names.lookup y = some .local) (hz : X.env.scope.names.lookup z = some .local) (ha : PA X [a, b, c] ta)
    (hw : swappedStores [.Tuple [.Name x px, .Name y py, .Name z pz] kt pt] (.Tuple [a, b, c] k2 pt2) X.env = pure (some [x, y, z]))
    (hs : swapsWithSole [.Tuple [.Name x px, .Name y py, .Name z pz] kt pt] (.Tuple [a, b, c] k2 pt2) pos.line X.env = pure false := by rfl) :
    PS X (.Assign [.Tuple [.Name x px, .Name y py, .Name z pz] kt pt] (.Tuple [a, b, c] k2 pt2) pos) (tPar3 i j k ta) := by
  refine ⟨fun pins s σ H D I h => ?_⟩
  rw [exec_Assign_arm]
  refine wpAny_bind (wpAny_standAt ?_)
  rw [hs]
  refine wpAny_bind (wpAny_pure ?_)
  rw [if_neg (by decide)]
  refine wpAny_bind (Tuple_ (thn (ha.run _ pins s σ H _ I h) fun us s1 ⟨vs, H1, I1, r1, q1⟩ => ?_))
  obtain ⟨v0, v, w, e1, q1⟩ := q1
  subst e1
  obtain ⟨u0, u1, u2, rfl, r0, rv, rw'⟩ : ∃ u0 u1 u2, us = [u0, u1, u2] ∧ RelV v0 u0 ∧ RelV v u1 ∧ RelV w u2 := by
    cases r1 with
    | cons p q =>
      cases q with
      | cons p' q' =>
        cases q' with
        | cons p2 q2 =>
          cases q2
          exact ⟨_, _, _, rfl, p, p', p2⟩
  refine wpAny_newObj_type ?_ (by show 3 ≤ sizeLine; decide)
  have I2 : Inv X pins σ H1 { s1 with heap := s1.heap.push { cls := .type "tuple", data := .seq [u0, u1, u2].toArray } } := I1.kept (t' := s1.toks) fun b o e => Heap.get?_push_of_some _ e
  rw [hw]
  refine wpAny_bind (wpAny_pure ?_)
  show wpAny (model X.prog X.w) X.A (do rule "assign.swapped-stores"; let items ← unpackItems (.ref s1.heap.objs.size) 3 none; assignInOrder [fun v => bindName X.env z v, fun v => bindName X.env y v, fun v => bindName X.env x v] items.reverse; pure Flow.next) _ _ _
  refine wpAny_bind (wpAny_rule (wpAny_bind (unpackItems_tuple (items := #[u0, u1, u2]) (I.ok.hd hc) (IsTup.new s1.heap _) fun h' hx' => ?_)))
  have I3 := I2.kept (h' := h') (t' := s1.toks) fun b o e => hx' b o (Nat.ne_of_lt (Heap.lt_size e)) e
  show wpAny _ _ (assignInOrder [fun v => bindName X.env z v, fun v => bindName X.env y v, fun v => bindName X.env x v] [u2, u1, u0] >>= fun _ => pure Flow.next) _ _ _
  refine wpAny_bind (assignInOrder_cons (wpAny_bindName (store_ok I3 hN hk (.inl hz) rw' (fun s2 I4 => ?_) (.inr hz))))
  refine assignInOrder_cons (wpAny_bindName (store_ok I4 hN hj (.inl hy) rv (fun s3 I5 => ?_) (.inr hy)))
  refine assignInOrder_cons (wpAny_bindName (store_ok I5 hN hi (.inl hx) r0 (fun s4 I6 => assignInOrder_nil (wpAny_pure ?_)) (.inr hx)))
  have e : ((σ.set k (some w)).set j (some v)).set i (some v0) = ((σ.set i (some v0)).set j (some v)).set k (some w) := by
    rw [List.set_comm _ _ hjk.symm, List.set_comm _ _ hik.symm, List.set_comm _ _ hij.symm]
  rw [e] at I6
  exact ⟨_, H1, I6, q1⟩
end
def parK (i j : Nat) (D : DEnds) (E : Ev) : List W → List Cell → Prop
  | [u, v], C => D.nx ((E.set i (some u)).set j (some v)) C
  | _, _ => False
def dPar (i j : Nat) (a : DA) : DS := fun D E C => a E C fun ws C1 => parK i j D E ws C1
instance cs_par {ct : Ct} {i j : Nat} {t : TA} {a : DA} [h : CA ct t a] : CS ct (tPar i j t) (dPar i j a) := ⟨fun B g σ H E C D DD R e q => by
  refine h.run B g σ H E C _ _ R (fun vs H1 ⟨g1, C1, ws, k1, R1, r1, q1⟩ => ?_) q
  unfold parK at q1
  dsimp only at q1
  split at q1
  · obtain ⟨v, x, rfl, r2, r3⟩ := rws2 r1
    exact ⟨v, x, rfl, e.nx _ H1 g1 _ C1 k1 ((R1.set r2 i).set r3 j) q1⟩
  · exact q1.elim⟩
def parK3 (i j k : Nat) (D : DEnds) (E : Ev) : List W → List Cell → Prop
  | [u, v, w], C => D.nx (((E.set i (some u)).set j (some v)).set k (some w)) C
  | _, _ => False
def dPar3 (i j k : Nat) (a : DA) : DS := fun D E C => a E C fun ws C1 => parK3 i j k D E ws C1
theorem rws3 {ct : Cl} {g : Gh} {H : Hp} {vs : List V} {w u z : W} (h : RWs ct g H vs [w, u, z]) : ∃ v x y, vs = [v, x, y] ∧ RW ct g H v w ∧ RW ct g H x u ∧ RW ct g H y z := by
  cases h with
  | cons r rs =>
    obtain ⟨x, y, rfl, h2, h3⟩ := rws2 rs
    exact ⟨_, _, _, rfl, r, h2, h3⟩
instance cs_par3 {ct : Ct} {i j k : Nat} {t : TA} {a : DA} [h : CA ct t a] : CS ct (tPar3 i j k t) (dPar3 i j k a) := ⟨fun B g σ H E C D DD R e q => by
  refine h.run B g σ H E C _ _ R (fun vs H1 ⟨g1, C1, ws, k1, R1, r1, q1⟩ => ?_) q
  unfold parK3 at q1
  dsimp only at q1
  split at q1
  · obtain ⟨v, x, y, rfl, r2, r3, r4⟩ := rws3 r1
    exact ⟨v, x, y, rfl, e.nx _ H1 g1 _ C1 k1 (((R1.set r2 i).set r3 j).set r4 k) q1⟩
  · exact q1.elim⟩
theorem call_isiOC {X : Cx} {K : PySem.W.Frag} (h : X.K = K) : CallR X (.builtin "isinstance") (rIsiO K) := h ▸ call_isiO
/-! ### the first cells: nothing is shifted -/
theorem shW0 (ws : List W) : ws.map (shW 0) = ws := by
  induction ws with
  | nil => rfl
  | cons w r ih =>
    rw [List.map_cons, ih]
    cases w <;> rfl
theorem unW0 (ws : List W) : ws.map (unW 0) = ws := by
  induction ws with
  | nil => rfl
  | cons w r ih =>
    rw [List.map_cons, ih]
    cases w <;> rfl
theorem unW0' (w : W) : unW 0 w = w := by cases w <;> rfl
theorem shC0' (c : Cell) : shC 0 c = c := by
  cases c with
  | obj c ws => exact congrArg (Cell.obj c) (shW0 ws)
  | _ => rfl
theorem unC0' (c : Cell) : unC 0 c = c := by
  cases c with
  | obj c ws => exact congrArg (Cell.obj c) (unW0 ws)
  | _ => rfl
theorem unC0 (C : List Cell) : C.map (unC 0) = C := by
  induction C with
  | nil => rfl
  | cons c r ih => rw [List.map_cons, ih, unC0']
theorem shC0 (C : List Cell) : C.map (shC 0) = C := by
  induction C with
  | nil => rfl
  | cons c r ih => rw [List.map_cons, ih, shC0']
theorem inW_ok {n : Nat} {ws : List W} (h : ws.all (wOk n) = true) : ws.all (inW 0 n) = true := by
  rw [List.all_eq_true] at h ⊢
  intro w hw
  have := h w hw
  cases w with
  | ref j =>
    show (decide (0 ≤ j) && decide (j < 0 + n)) = true
    have h2 : decide (j < n) = true := this
    rw [Nat.zero_add, h2]
    rfl
  | _ => rfl
/-! ### a lambda of one parameter -/
section
open LamX
variable {X : Cx} {pins : List (Addr × Obj)} {σ : L2.St} {H : Hp} {s : Shared}
/-- one table grows, all else stays -/
structure LStep (P : Addr) (H H1 : Hp) : Prop where
  keep : ∀ b o, b ≠ P → H b = some o → H1 b = some o
  old : ∃ ps, H P = some (.tbl ps)
  new : ∃ qs, H1 P = some (.tbl qs)
theorem LStep.ext {P : Addr} {H H1 : Hp} (l : LStep P H H1) : ExtN H H1 := fun b o e n => l.keep b o (fun z => by
  obtain ⟨ps, q⟩ := l.old
  rw [z, q] at e
  exact n ps (Option.some.inj e).symm) e
/-- what is there once a lambda is made -/
structure Made (X : Cx) (pins : List (Addr × Obj)) (σ : L2.St) (T : List (Addr × Str)) (P : Addr) (params : Arguments) (body : Expr) (scope : Scope) (H : Hp) (f c' : Addr) (pm ctv : Value) (H1 : Hp) (s' : Shared) : Prop where
  inv : Inv X pins σ H1 s'
  st : LStep P H H1
  tabs : Tabs T H1
  ob : s'.heap.get? f = some (PySem.W.kla_obj "<lambda>" (X.env.qual ++ "<lambda>") params body scope (cloFrom X.env.cells scope.names []) pm c' ctv)
  fn : H1 f = none
  fr : f ∉ frs X.stack
  co : H1 c' = some (CodeO c' (X.env.qual ++ "<lambda>"))
theorem upd2 {U : Hp} {p q b : Addr} {o r : HO} (h1 : b ≠ p) (h2 : b ≠ q) : upd (upd U p o) q r b = U b := (upd_ne h2).trans (upd_ne h1)
theorem tabs_more {T : List (Addr × Str)} {P k : Addr} {nm : Str} {rows : Array Value} {U : Hp} {at_ : Pos} (old : Tabs T U) (here : U P = some (.tbl rows)) (tri : TriplesOk rows.toList) (own : ∀ (z : Pos) (x : Value), codeAmong z rows.toList = some x → ∃ e, x = .ref e ∧ U e = some (CodeO e nm))
    (one : ∀ p ∈ T, p.1 = P → p.2 = nm) (nk : U k = none) (ke : ExtN U (upd (upd U P (.tbl (rows ++ #[rawInt at_.line, rawInt at_.col, .ref k]))) k (CodeO k nm))) : Tabs T (upd (upd U P (.tbl (rows ++ #[rawInt at_.line, rawInt at_.col, .ref k]))) k (CodeO k nm)) := fun p mem => by
  have pk : P ≠ k := ne_of_none here nk
  have nt : ∀ {e : Addr} {y : Str} (u : Array Value), CodeO e y ≠ .tbl u := fun u z => by
    unfold CodeO at z
    exact HO.noConfusion z
  rcases Classical.em (p.1 = P) with same | other
  · refine ⟨rows ++ #[rawInt at_.line, rawInt at_.col, .ref k], by rw [same]; exact (upd_ne pk).trans upd_same, ?_, ?_⟩
    · have w := TriplesOk_snoc at_.line at_.col (.ref k) rows.toList tri
      simpa using w
    · intro z x hx
      have hx2 : codeAmong z (rows.toList ++ [rawInt at_.line, rawInt at_.col, .ref k]) = some x := by simpa using hx
      rw [one p mem same]
      exact (among_app _ tri hx2).elim (fun y => (own z x y).elim fun e w => ⟨e, w.1, ke _ _ w.2 nt⟩) (fun y => ⟨k, y, upd_same⟩)
  · obtain ⟨u, w1, w2, w3⟩ := old p mem
    exact ⟨u, (upd2 other (ne_of_none w1 nk)).trans w1, w2, fun z x hx => (w3 z x hx).elim fun e w => ⟨e, w.1, ke _ _ w.2 nt⟩⟩
theorem lam_new {T : List (Addr × Str)} {c P : Addr} {params : Arguments} {body : Expr} {scope : Scope} {at_ : Pos} {E : Value → Shared → Prop} {Q : Value → Shared → Prop} (J : Inv X pins σ H s) (tb : TabB X.base X.mg c P) (cc : X.env.code = .ref c)
    (inT : (P, X.env.qual ++ "<lambda>") ∈ T) (one : ∀ p ∈ T, p.1 = P → p.2 = X.env.qual ++ "<lambda>") (old : Tabs T H) (nodef : defaultsOf params X.env = ([], [])) (fre : ∀ y ∈ scope.names, y.2 = .free → ∃ c, X.env.cells.lookup y.1 = some c)
    (go : ∀ f c' pm ctv H1 s', Made X pins σ T P params body scope H f c' pm ctv H1 s' → Q (.ref f) s') : wpAny (model X.prog X.w) X.A (eval (.Lambda params body scope at_) X.env) Q E s := by
  obtain ⟨rows, here, tri, own⟩ := old _ inT
  have real : s.heap.get? P = some { cls := .none, data := .fields rows } := J.hok P _ here
  have far : ∀ f, s.heap.objs.size ≤ f → f ∉ frs X.stack := fun f big mem => (List.mem_cons.mp (J.stkSub _ mem)).elim
    (fun e => absurd (e ▸ J.lt : f < s.heap.objs.size) (Nat.not_lt.mpr big)) (J.nofs big)
  refine PySem.W.kla_eval nodef ?_
  rcases found : codeAmong at_ rows.toList with _ | x
  · refine PySem.W.kla_makeFunction (mg := X.mg) (ps := rows) (P := P) (c := c) (closure_ok fre) J.ok.glob (J.mod.glob.keeps J.bk) cc (tb.code.keeps J.bk) real tri found tb.gP (tb.bm.keeps J.bk) ?_
    rintro k cv g tk sub big les ⟨_, oc, vs, t, ek, w1, w2, w3⟩ wt
    cases ek
    have nk : H k = none := J.hok.fresh big
    have gs : s.heap.objs.size ≤ g.objs.size := Nat.le_of_lt (Nat.lt_of_le_of_lt big les)
    have ke : ExtN H (upd (upd H P (.tbl (rows ++ #[rawInt at_.line, rawInt at_.col, .ref k]))) k (CodeO k (X.env.qual ++ "<lambda>"))) := fun b o e n => (upd2 (fun z => n rows (Option.some.inj (e.symm.trans (by rw [z]; exact here)))) (ne_of_none e nk)).trans e
    have fP : g.objs.size ≠ P := Nat.ne_of_gt (Nat.lt_of_lt_of_le (Heap.lt_size real) gs)
    refine go g.objs.size k ((X.mg "__name__").getD .none) cv _ _ ⟨inv_table (more := #[rawInt at_.line, rawInt at_.col, .ref k]) (t' := tk) J here (fun b o nb e => Heap.get?_push_of_some _ (sub b o nb e)) (Heap.get?_push_of_some _ wt) big ⟨oc, vs, t, Heap.get?_push_of_some _ w1, w2, w3⟩,
      ⟨fun b o nb e => (upd2 nb (ne_of_none e nk)).trans e, ⟨rows, here⟩, ⟨_, (upd_ne (ne_of_none here nk)).trans upd_same⟩⟩, tabs_more old here tri own one nk ke, Heap.get?_push_size _ rfl, (upd2 fP (Nat.ne_of_gt les)).trans (J.hok.fresh gs), far _ gs, upd_same⟩
  · obtain ⟨k, rfl, wk⟩ := own at_ x found
    refine PySem.W.kla_makeFunctionHit (mg := X.mg) (ps := rows) (P := P) (c := c) (closure_ok fre) J.ok.glob (J.mod.glob.keeps J.bk) cc (tb.code.keeps J.bk) real tri found (tb.bm.keeps J.bk) ?_
    intro cv g tk sub big
    exact go g.objs.size k ((X.mg "__name__").getD .none) cv H _ ⟨J.kept fun b o e => Heap.get?_push_of_some _ (sub b o e), ⟨fun b o _ e => e, ⟨rows, here⟩, ⟨rows, here⟩⟩, old, Heap.get?_push_size _ rfl, J.hok.fresh big, far _ big, wk⟩
end
open LamX
/-! ### a lambda with a parameter: its names, its context -/
structure LamS1 (sc scope : Scope) (a : Str) : Prop where
  fn : scope.kind = .function
  nc : scope.isCoroutine = false
  ng : scope.isGenerator = false
  ce : ∀ y ∈ scope.names, y.2 ≠ .cell
  lo : ∀ y ∈ scope.names, y.2 = .local → y.1 = a
  pa : scope.names.lookup a = some .local
  fr : ∀ y ∈ scope.names, y.2 = .free → sc.names.lookup y.1 = some .cell ∨ sc.names.lookup y.1 = some .free
def lamS1B (sc scope : Scope) (a : Str) : Bool :=
  decide (scope.kind = .function) && !scope.isCoroutine && !scope.isGenerator && (scope.names.all fun y => !decide (y.2 = .cell) && (!decide (y.2 = .local) || y.1 == a) && (!decide (y.2 = .free) || decide (sc.names.lookup y.1 = some .cell) || decide (sc.names.lookup y.1 = some .free))) && decide (scope.names.lookup a = some .local)
theorem lamS1_by {sc scope : Scope} {a : Str} (h : lamS1B sc scope a = true) : LamS1 sc scope a := by
  unfold lamS1B at h
  simp only [Bool.and_eq_true, Bool.or_eq_true, Bool.not_eq_true', decide_eq_true_eq, decide_eq_false_iff_not, List.all_eq_true] at h
  obtain ⟨⟨⟨⟨w1, w2⟩, w3⟩, w4⟩, w5⟩ := h
  refine ⟨w1, w2, w3, fun y m => (w4 y m).1.1, fun y m e => ?_, w5, fun y m e => ?_⟩
  · exact (w4 y m).1.2.elim (fun z => absurd e z) (fun z => eq_of_beq z)
  · exact (w4 y m).2.elim (fun z => z.elim (fun z => absurd e z) .inl) .inr
theorem LamS1.all {X : Cx} {scope : Scope} {a : Str} (L : LamS1 X.env.scope scope a) (ok : X.Ok) : ∀ y ∈ scope.names, y.2 = .free → ∃ c, X.env.cells.lookup y.1 = some c :=
  fun y m e => ok.has _ (L.fr y m e)
abbrev lamCx1 (X : Cx) (A : Around) (outer : List Env) (s : Shared) (H : Hp) (E : XK) (scope : Scope) (f c' : Addr) (a : Str) : Cx := { lamCx X A outer s H E scope f c' with N := X.N ++ [a] }
section
variable {X : Cx} {pins : List (Addr × Obj)} {σ : L2.St} {H HZ : Hp} {s s1 : Shared}
theorem lam_in1 {A : Around} {outer : List Env} {E : XK} {scope : Scope} {f c' : Addr} {g : Heap} {tk : Nat} {a : Str} {v : V} {u : Value} (J : Inv X pins σ H s) (L : LamS1 X.env.scope scope a) (na : a ∉ X.N) (rv : RelV v u) (e0 : Env0 X.prog X.w X.K X.mg X.base A outer s1 HZ) (nh : A.handled = none)
    (un : Un (frs X.stack) [] H HZ s.heap s1.heap) (ns : g.Ns s1.heap.objs.size fun y => ([(a, u)] : List (Str × Value)).reverse.lookup y) (kp : ∀ b o, s1.heap.get? b = some o → g.get? b = some o) :
    Inv (lamCx1 X A outer s1 HZ E scope f c' a) [] (σ ++ [some v]) HZ { s1 with heap := g, toks := tk } := by
  have out : ∀ {y c}, (cloFrom X.env.cells scope.names []).lookup y = some c → X.env.cells.lookup y = some c := fun {y c} e => by
    rcases cloFrom_mem (PySem.mem_of_lookup e) with z | ⟨w1, w2⟩
    · exact absurd z (by simp)
    · obtain ⟨c1, k⟩ := L.all J.ok _ w1 rfl
      have k : X.env.cells.lookup y = some c1 := k
      rw [k, w2, k] <;> rfl
  have in_ : ∀ {y}, scope.names.lookup y = some .free → ∃ c, (cloFrom X.env.cells scope.names []).lookup y = some c := fun {y} e =>
    mem_lookup (cloFrom_has (cells := X.env.cells) (acc := []) (show (y, NameKind.free) ∈ scope.names from PySem.mem_of_lookup e))
  have still : ∀ {c : Addr} {x : Option Value}, H c = none → s.heap.IsCell c x → g.IsCell c x := fun {c x} n ⟨o, w1, w2⟩ => (un.any w1 n (by simp)).elim fun sl q => ⟨_, kp _ _ q, w2⟩
  have none_ : ∀ b : Addr, b ∉ (lamCx1 X A outer s1 HZ E scope f c' a).ex := fun b z => by cases (show b ∈ ([] : List Addr) from z)
  refine ⟨⟨e0.mod, L.fn, rfl, rfl, Nat.le_refl _, fun y z c p q => J.ok.inj y z c (out p) (out q), fun y k => ?_, fun y c z => (by cases (show false = true from z)), fun _ => nh, Around.frames_deeper e0.frames, .inr ⟨rfl, rfl⟩, fun b z => absurd z (none_ b), e0.bs, e0.bsz, fun b _ _ => none_ b, fun b z => absurd z (none_ b), e0.funs, e0.frf⟩,
    rfl, e0.bare, Un.kept kp, ⟨_, ns, fun i y x p q vis => ?_⟩, fun y c e => ?_, e0.hok.fresh (Nat.le_refl _), fun y c e => ?_, fun q k => (by cases (show q ∈ ([] : List (Addr × Obj)) from k)), e0.hok.kept kp, by
      show (σ ++ [some v]).length = (X.N ++ [a]).length
      rw [List.length_append, List.length_append, J.len]; rfl⟩
  · rcases (show scope.names.lookup y = some .cell ∨ scope.names.lookup y = some .free from k) with k | k
    · exact absurd rfl (L.ce _ (PySem.mem_of_lookup k))
    · exact in_ k
  · have p : (X.N ++ [a])[i]? = some y := p
    rcases Nat.lt_or_ge i X.N.length with lt | ge
    · rw [List.getElem?_append_left lt] at p
      rw [List.getElem?_append_left (by rw [J.len]; exact lt)] at q
      rcases (show Vis scope y from vis) with k | k | k
      · exact absurd (L.lo _ (PySem.mem_of_lookup k) rfl ▸ List.mem_of_getElem? p) na
      · exact absurd rfl (L.ce _ (PySem.mem_of_lookup k))
      · obtain ⟨m, _, lk⟩ := J.loc
        have far := L.fr _ (PySem.mem_of_lookup k) rfl
        obtain ⟨w, r, at_⟩ := lk i y x p q (far.elim (fun k => .inr (.inl k)) (fun k => .inr (.inr k)))
        obtain ⟨c2, k2⟩ := in_ k
        refine ⟨w, r, .inr ⟨.inr k, c2, k2, ?_⟩⟩
        rcases at_ with ⟨k', _⟩ | ⟨_, c3, e', z⟩
        · have k' : X.env.scope.names.lookup y = some .local := k'
          rcases far with k3 | k3 <;> (rw [show X.env.scope.names.lookup y = _ from k3] at k'; cases k')
        · rw [out k2] at e'
          cases e'
          exact still (J.freeC y _ (out k2)) z
    · rw [List.getElem?_append_right ge] at p
      rw [List.getElem?_append_right (by rw [J.len]; exact ge)] at q
      have hi : i - X.N.length = 0 := by
        rcases Nat.eq_zero_or_pos (i - X.N.length) with z | z
        · exact z
        · rw [List.getElem?_eq_none (show [a].length ≤ i - X.N.length from z)] at p
          cases p
      rw [hi] at p
      rw [J.len, hi] at q
      cases p
      cases q
      exact ⟨u, rv, .inl ⟨L.pa, by simp⟩⟩
  · obtain ⟨x, z⟩ := J.cell y c (out e)
    exact ⟨x, still (J.freeC y c (out e)) z⟩
  · obtain ⟨x, o, w1, w2⟩ := J.cell y c (out e)
    exact un.free c o w1 (J.freeC y c (out e)) (by simp)
/-- walk(x) in the def that got the lambda; Z: that def's context, entered at s -/
theorem pe_act1 {CXg : CXT} {Eg : XK} {Ng : List Str} {qg : Str} {sg : Scope} {g f c' : Addr} {cdg pm ctv : Value} {params : Arguments} {body : Expr} {scope : Scope} {k i j : Nat} {w b a : Str} {pn : List (Addr × Obj)} {xe : Value → Shared → Prop} {W : WX} {E : XK} {tb : TE} {p1 p2 p3 : Pos}
    (J : Inv X pins σ H s) (L : LamS1 X.env.scope scope a) (na : a ∉ X.N) (of_ : s.heap.get? f = some (PySem.W.kla_obj "<lambda>" (X.env.qual ++ "<lambda>") params body scope (cloFrom X.env.cells scope.names []) pm c' ctv)) (nf : H f = none) (ff : f ∉ frs X.stack)
    (bind : ∀ u : Value, bindArgs (PySem.W.kla_fn "<lambda>" (X.env.qual ++ "<lambda>") params body scope (cloFrom X.env.cells scope.names []) pm (.ref c') ctv) ⟨[u], []⟩ = pure [(a, u)])
    (tk : Takes ((cxOf CXg X.prog X.w X.K X.mg X.base Ng qg sg g cdg X.A X.stack s H Eg).tr pn xe) W) (sub : ∀ cls d σ' H', σ'.length = Ng.length → E cls d H' → W cls d σ' H') (hr : Room (k + 1) (X.A.deeper (envOfC qg sg s.heap.objs.size g cdg)))
    (run : ∀ (A : Around) (outer : List Env) (s : Shared) (H : Hp), Room k (A.deeper (lamEnv X scope s.heap.objs.size f c')) → PE (lamCx1 X A outer s H E scope f c' a) body tb)
    (hw : Ng[i]? = some w) (vw : Vis sg w) (hb : Ng[j]? = some b) (vb : Vis sg b) (d1 : (w == ("__debug__" : Str)) = false := by decide) (d2 : (w == ("__classdict__" : Str)) = false := by decide) (d3 : (b == ("__debug__" : Str)) = false := by decide) (d4 : (b == ("__classdict__" : Str)) = false := by decide) :
    PE ((cxOf CXg X.prog X.w X.K X.mg X.base Ng qg sg g cdg X.A X.stack s H Eg).tr pn xe) (.Call (.Name w p1) [.Name b p3] [] p2)
      (fun σZ HZ Q => ∃ v, σZ[i]? = some (some (.ref f)) ∧ σZ[j]? = some (some v) ∧ HZ c' = some (CodeO c' (X.env.qual ++ "<lambda>")) ∧ tb (σ ++ [some v]) HZ Q) := by
  refine ⟨fun pz sz σz HZ Q Jz hq => ?_⟩
  obtain ⟨v, at1, at2, co, ht⟩ := hq
  refine wpAny_Call_Name_kw (thn ((pe_var (pos := p1) hw vw d1 d2).run pz sz σz HZ (fun x H1 => x = .ref f ∧ H1 = HZ) Jz ⟨_, at1, rfl, rfl⟩) fun u1 s1 ⟨x1, H1, J1, r1, q1⟩ => ?_)
  obtain ⟨rfl, rfl⟩ := q1
  obtain rfl : u1 = Value.ref f := r1
  have there : ∀ {z : Shared}, Inv ((cxOf CXg X.prog X.w X.K X.mg X.base Ng qg sg g cdg X.A X.stack s H Eg).tr pn xe) pz σz H1 z → z.heap.get? f = some (PySem.W.kla_obj "<lambda>" (X.env.qual ++ "<lambda>") params body scope (cloFrom X.env.cells scope.names []) pm c' ctv) :=
    fun {z} Y => Y.base.keep f _ of_ nf ff (fun z => by cases (show f ∈ ([] : List Addr) from z))
  refine PySem.W.callWith_F ⟨_, _, _, _, there J1⟩ ?_
  refine Calls.spliced_cons (thn ((pe_var (pos := p3) hb vb d3 d4).run pz s1 σz H1 (fun x H2 => x = v ∧ H2 = H1) J1 ⟨_, at2, rfl, rfl⟩) fun u s2 ⟨x2, H2, J2, r2, q2⟩ => ?_)
  obtain ⟨rfl, rfl⟩ := q2
  refine Calls.spliced_nil ⟨⟨_, _, _, _, there J2⟩, ?_⟩
  have un : Un (frs X.stack) [] H H2 s.heap s2.heap := J2.base
  obtain ⟨⟨oc, vs, t, c1, c2, c3⟩, _, _⟩ := J2.hok c' _ co
  have rc : codeAny (model X.prog X.w) (X.A.deeper (envOfC qg sg s.heap.objs.size g cdg)) (.call (.ref f) ⟨[u], []⟩) (CR (L2.CX X.prog X.w) (envOfC qg sg s.heap.objs.size g cdg :: X.stack) X.prog X.w H2 s2 Q E) s2 := by
    refine PySem.W.kla_callFunE hr.depth (there J2) rfl L.nc L.ng rfl ⟨c', oc, vs, t, rfl, c1, c2, c3⟩ ?_
    rw [bind]
    refine wpAny_pure (wpAny_newFunctionEnv L.ce (fun y m => by rw [List.mem_singleton.mp m]; exact L.pa) (fun g0 ns same => ⟨J2.nolimit.fresh _ same, ?_⟩) L.fn)
    have kp : ∀ b o, s2.heap.get? b = some o → g0.get? b = some o := fun b o e => same.extBut b o (Nat.ne_of_lt (Heap.lt_size e)) (Heap.get?_push_of_some _ e)
    have In := lam_in1 (E := E) (f := f) (c' := c') (tk := s2.toks + ([(a, u)] : List (Str × Value)).length) J L na r2 J2.env0 hr.hd un ns kp
    refine PySem.W.kla_codeExpr (wpAny_mono ((run _ _ s2 H2 (hr.deeper _)).run [] _ _ H2 Q In ht) (fun u' s' fin => ?_) fun e s' fin => fin)
    obtain ⟨w', H', Y, rv, q⟩ := fin
    exact ⟨w', H', Y.os, Y.bare, Y.base, Y.hok, rv, q⟩
  refine wpAny_call (codeAny_mono rc fun r s' fin => ?_)
  rcases r with e | fl
  · exact tk e s' (XE.of_call J2 (fun cls d H' y => sub cls d σz H' J2.len y) fin)
  · rcases fl with _ | _ | _ | u'
    · exact False.elim fin
    · exact False.elim fin
    · exact False.elim fin
    · exact J2.after fin
end
open LamX
/-! ### a lambda handed to a def of four parameters -/
abbrev TL := XK → List V → Hp → VK → Prop
def tAct (f c' : Addr) (q : Str) (i j : Nat) (tl : TL) (E : XK) : TE := fun σ H Q => ∃ v, σ[i]? = some (some (.ref f)) ∧ σ[j]? = some (some v) ∧ H c' = some (CodeO c' q) ∧ tl E [v] H Q
/-- what the def does with the lambda that it got in its last parameter -/
def Gives4 (X : Cx) (k : Nat) (N : List Str) (x : Str) (sg : Scope) (g : Addr) (cd : Value) (bg : List Stmt) (w b : Str) (q : Str) (TT : TL → Addr → Addr → List V → Hp → VK → Prop) : Prop :=
  ∀ (f c' : Addr) (s : Shared) (H : Hp) (Q : VK) (tl : TL) (vs : List V), Room (k + 1) (X.A.deeper (envOfC x sg s.heap.objs.size g cd)) →
    (∀ (pn : List (Addr × Obj)) (xe : Value → Shared → Prop) (E : XK) (W : WX) (p1 p2 p3 : Pos), Takes ((cxOf CX0 X.prog X.w X.K X.mg X.base N x sg g cd X.A X.stack s H L2.E0).tr pn xe) W → (∀ cls d σ' H', σ'.length = N.length → E cls d H' → W cls d σ' H') →
      PE ((cxOf CX0 X.prog X.w X.K X.mg X.base N x sg g cd X.A X.stack s H L2.E0).tr pn xe) (.Call (.Name w p1) [.Name b p3] [] p2) (tAct f c' q 3 4 tl E)) →
    vs.length = 3 → H c' = some (CodeO c' q) → TT tl f c' vs H Q →
    ∃ t, PSs (cxOf CX0 X.prog X.w X.K X.mg X.base N x sg g cd X.A X.stack s H L2.E0).nox bg t ∧ t { nx := fun _ H' => Q .non H', rt := Q } (L2.start N (vs ++ [.ref f])) H
def tLam4 (T : List (Addr × Str)) (P : Addr) (q : Str) (TT : TL → Addr → Addr → List V → Hp → VK → Prop) (t1 t2 t3 : TE) (t : XK → TE) : TE := fun σ H Q => t1 σ H fun v1 H1 => t2 σ H1 fun v2 H2 => t3 σ H2 fun v3 H3 => Tabs T H3 ∧ ∀ f c' H4, LStep P H3 H4 → Tabs T H4 → H4 f = none → H4 c' = some (CodeO c' q) →
  TT (fun E us H' Q' => ∃ v, us = [v] ∧ t E (σ ++ [some v]) H' Q') f c' [v1, v2, v3] H4 Q
theorem pe_imp {X : Cx} {e : Expr} {t t' : TE} (h : PE X e t) (k : ∀ σ H Q, t' σ H Q → t σ H Q) : PE X e t' := ⟨fun pins s σ H Q J q => h.run pins s σ H Q J (k σ H Q q)⟩
section
variable {X : Cx}
theorem pe_lam4 {T : List (Addr × Str)} {TT : TL → Addr → Addr → List V → Hp → VK → Prop} {x w b a : Str} {g c P : Addr} {k : Nat} {st : Stmt} {fd : FuncData} {N ps : List Str} {params : Arguments} {body : Expr} {scope : Scope} {t : XK → TE} {t1 t2 t3 : TE} {e1 e2 e3 : Expr} {p lpos pos : Pos}
    (hg : Gl X x) (hm : X.mg x = some (.ref g)) (F : Fun X.K x x st g fd) (hb : Binds X.K fd ps []) (S : FnScope N ps (defScope st)) (l4 : ps.length = 4) (n3 : N[3]? = some w) (vw : Vis (defScope st) w) (n4 : N[4]? = some b) (vb : Vis (defScope st) b)
    (hG : ∀ cd, Gives4 X k N x (defScope st) g cd (defBody st) w b (X.env.qual ++ "<lambda>") TT)
    (TB : TabB X.base X.mg c P) (cc : X.env.code = .ref c) (inT : (P, X.env.qual ++ "<lambda>") ∈ T) (one : ∀ p ∈ T, p.1 = P → p.2 = X.env.qual ++ "<lambda>") (hr : Room (k + 2) X.A) (L : LamS1 X.env.scope scope a) (na : a ∉ X.N) (nodef : defaultsOf params X.env = ([], []))
    (bind : ∀ (q : Str) (cl : List (Str × Addr)) (pm cv ctv u : Value), bindArgs (PySem.W.kla_fn "<lambda>" q params body scope cl pm cv ctv) ⟨[u], []⟩ = pure [(a, u)])
    (run : ∀ (A : Around) (outer : List Env) (s : Shared) (H : Hp) (E : XK) (f c' : Addr), Room k (A.deeper (lamEnv X scope s.heap.objs.size f c')) → PE (lamCx1 X A outer s H E scope f c' a) body (t E))
    (h1 : PE X e1 t1) (h2 : PE X e2 t2) (h3 : PE X e3 t3) (hdb : (x == ("__debug__" : Str)) = false := by decide) (d1 : (w == ("__debug__" : Str)) = false := by decide) (d2 : (w == ("__classdict__" : Str)) = false := by decide) (d3 : (b == ("__debug__" : Str)) = false := by decide) (d4 : (b == ("__classdict__" : Str)) = false := by decide)
    (s1 : starEach [e1, e2, e3, .Lambda params body scope lpos] X.env = (false, eval e1 X.env) :: starEach [e2, e3, .Lambda params body scope lpos] X.env := by rfl) (s2 : starEach [e2, e3, .Lambda params body scope lpos] X.env = (false, eval e2 X.env) :: starEach [e3, .Lambda params body scope lpos] X.env := by rfl)
    (s3 : starEach [e3, .Lambda params body scope lpos] X.env = (false, eval e3 X.env) :: starEach [.Lambda params body scope lpos] X.env := by rfl) :
    PE X (.Call (.Name x p) [e1, e2, e3, .Lambda params body scope lpos] [] pos) (tLam4 T P (X.env.qual ++ "<lambda>") TT t1 t2 t3 t) := by
  refine ⟨fun pins s σ H Q J h => ?_⟩
  refine wpAny_Call_Name_kw (ld_glob J hg hm ?_ hdb)
  refine PySem.W.callWith_K (h₀ := X.base) J.ok.mod.kin F.kp ?_ s1 (by rw [s2, s3]; rfl)
  rw [s1, s2, s3]
  refine Calls.spliced_cons (thn (h1.run pins s σ H _ J h) fun u1 z1 ⟨v1, H1, J1, r1, q1⟩ => ?_)
  refine Calls.spliced_cons (thn (h2.run pins z1 σ H1 _ J1 q1) fun u2 z2 ⟨v2, H2, J2, r2, q2⟩ => ?_)
  refine Calls.spliced_cons (thn (h3.run pins z2 σ H2 _ J2 q2) fun u3 z3 ⟨v3, H3, J3, r3, q3⟩ => ?_)
  obtain ⟨hT, q3⟩ := q3
  refine Calls.spliced_cons (lam_new J3 TB cc inT one hT nodef (L.all J.ok) fun f c' pm ctv H4 z4 M => ?_)
  have J4 := M.inv
  refine Calls.spliced_nil ⟨J4.kIn, ?_⟩
  obtain ⟨oc, od, kV, doc, pm', an, cdv, ct, osl, rfl, lk, hcd⟩ := F.ex
  have rc : codeAny (model X.prog X.w) X.A (.call (.ref g) ⟨[u1, u2, u3, .ref f], []⟩) (CR CX0 X.stack X.prog X.w H4 z4 Q L2.E0) z4 := by
    refine run_ofS (N := N) (ps := ps) (us := [u1, u2, u3, .ref f]) (vs := [v1, v2, v3, .ref f]) lk hcd S hr J4.env0 (hb z4 [u1, u2, u3, .ref f] J4.kIn (by rw [l4]; rfl)) (.cons r1 (.cons r2 (.cons r3 (.cons rfl .nil)))) (by rw [l4]; rfl) fun hr' => ?_
    obtain ⟨tt, w1, w2⟩ := hG cdv f c' z4 H4 Q (fun E us H' Q' => ∃ v, us = [v] ∧ t E (σ ++ [some v]) H' Q') [v1, v2, v3] hr' (fun pn xe E W p1 p2 p3 tk sub => pe_imp (pe_act1 (i := 3) (j := 4) J4 L na M.ob M.fn M.fr (bind _ _ _ _ _) tk sub hr' (fun A outer s H hr2 => run A outer s H E f c' hr2) n3 vw n4 vb d1 d2 d3 d4) fun σz Hz Qz ⟨v, at1, at2, co, v', ev, ht⟩ => ⟨v, at1, at2, co, List.cons.inj ev |>.1 ▸ ht⟩) rfl M.co (q3 f c' H4 M.st M.tabs M.fn M.co)
    exact ⟨tt, w1.nox, w2⟩
  refine wpAny_call (codeAny_mono rc fun r s2 fin => ?_)
  rcases r with e | fl
  · exact (show False from fin).elim
  · rcases fl with _ | _ | _ | u'
    · exact False.elim fin
    · exact False.elim fin
    · exact False.elim fin
    · exact J4.after fin
end
open LamX
/-! ### lambdas over data -/
/-- the lambda keeps the promise PL, whatever has come since it was made -/
structure LamP (ct : Cl) (tl : TL) (F0 : Addr → Prop) (H0 : Hp) (PL : DSp) : Prop where
  run : ∀ (E : XK) (v : V) (H : Hp) (Q : VK) (g : Gh) (C : List Cell) (QD : DK) (RX : XD) (w : W), Kp F0 H0 g.F H → C.length = 2 → Clz ct g H C → RW ct g H v w → PL [w] C QD RX →
    (∀ v H' g' C' w, Gk g H g' H' → Fr0 (Bs.of g H) g' H' → Clz ct g' H' C' → C'.length = 2 → RW ct g' H' v w → QD w C' → Q v H') →
    (∀ cls d H' g' C' c ds, Gk g H g' H' → Fr0 (Bs.of g H) g' H' → Clz ct g' H' C' → C'.length = 2 → XV ct g' H' cls d c ds → RX c ds C' → E cls d H') → tl E [v] H Q
def pureE (E : Ev) : Prop := ∀ (i : Nat) (w : W), E[i]? = some (some w) → ∃ d, w = .val d
def dLam (d : XD → DE) (Ev : Ev) : DSp := fun ws C Q R => ∃ w, ws = [w] ∧ d (finX 2 R) (Ev ++ [some w]) C (fin 2 Q)
theorem lam_ok {ct : Cl} {t : XK → TE} {d : XD → DE} {σ : L2.St} {H : Hp} {g : Gh} {Ev : Ev} (c : ∀ E R, CE ⟨ct, E, R⟩ (t E) (d R)) (env : ∀ (i : Nat) (w : W), Ev[i]? = some (some w) → ∃ v, σ[i]? = some (some v) ∧ RW ct g H v w) (len : σ.length = Ev.length) (pu : pureE Ev) :
    LamP ct (fun E us H' Q' => ∃ v, us = [v] ∧ t E (σ ++ [some v]) H' Q') g.F H (dLam d Ev) := ⟨fun E v H2 Q g2 C QD RX w k hC hz rw_ hp hQ hX => by
  obtain ⟨w', e, hp⟩ := hp
  cases e
  have hga : g2.as.length = 2 := by rw [hz.la, hC]
  refine ⟨v, rfl, (c E (finX 2 RX)).run ⟨g2, H2⟩ g2 (σ ++ [some v]) H2 (Ev ++ [some w]) C _ Q ⟨fun i x hx => ?_, ?_, hz, Fr0.self g2 H2, Gk.refl _ _, ?_⟩ (fun u H' hu => ?_) hp⟩
  · rcases Nat.lt_or_ge i Ev.length with lt | ge
    · rw [List.getElem?_append_left lt] at hx
      obtain ⟨u, h1, h2⟩ := env i x hx
      refine ⟨u, by rw [List.getElem?_append_left (by rw [len]; exact lt)]; exact h1, ?_⟩
      obtain ⟨dd, rfl⟩ := pu i x hx
      exact RD.mono k dd _ h2
    · rw [List.getElem?_append_right ge] at hx
      have hi : i = Ev.length := by
        have : i - Ev.length < 1 := (List.getElem?_eq_some_iff.mp hx).1
        omega
      subst hi
      rw [Nat.sub_self] at hx
      cases hx
      exact ⟨v, by rw [List.getElem?_append_right (by rw [len]; exact Nat.le_refl _), len, Nat.sub_self]; rfl, rw_⟩
  · rw [List.length_append, List.length_append, len]
    rfl
  · rintro g' H' C' cls dd cc ds k2 f z x ⟨q1, q2, q3⟩
    exact hX cls dd H' (g'.tk 2) _ cc ds (k2.tk hga) f.tk (z.tk 2 q2) (by rw [List.length_take]; omega) x q3
  · obtain ⟨g', C', u', k2, R', r, q1, q2, q3⟩ := hu
    rw [Bool.and_eq_true] at q2
    exact hQ u H' (g'.tk 2) _ u' (k2.tk hga) (R'.fr.tk) (R'.cs.tk 2 q2.1) (by rw [List.length_take]; omega) (r.tk q2.2) q3⟩
/-- one table grows -/
theorem Rel.grow {ct : Ct} {B : Bs} {g : Gh} {σ : L2.St} {H H1 : Hp} {E : Ev} {P : Addr} (R : Rel ct B g σ H E []) (l : LStep P H H1) (hT : Tabs ct.cl.T H1) (hP : ¬ g.F P) : Gk g H g H1 ∧ Rel ct B g σ H1 E [] := by
  obtain ⟨ps, old⟩ := l.old
  have ne : ∀ {b : Addr} {o : HO}, H b = some o → (∀ qs, o ≠ .tbl qs) → b ≠ P := fun {b o} e n z => by
    rw [z, old] at e
    exact n ps (Option.some.inj e).symm
  have k : Gk g H g H1 := ⟨⟨fun a xs h => l.keep _ _ (ne h fun _ z => nomatch z) h, fun a h => ⟨h, by
    cases e : H a with
    | none => exact absurd e (R.cs.lv a h)
    | some o => exact l.keep _ _ (fun z => hP (z ▸ h)) e⟩⟩, fun _ _ h => h, fun c q h => l.keep _ _ (ne h codeO_ne) h⟩
  refine ⟨k, R.gk k ⟨R.cs.la, R.cs.lm, fun j x h => (by simp at h), R.cs.nd, R.cs.ap, fun a h => by rw [(k.kp.2 a h).2]; exact R.cs.lv a h, hT, R.cs.tf⟩
    ⟨fun a xs h => k.kp.1 a xs (R.fr.kt a xs h), fun a o h n m => l.keep _ _ (ne (R.fr.keep a o h n m) n) (R.fr.keep a o h n m), fun a qs h => ?_, R.fr.newF, R.fr.newM⟩⟩
  obtain ⟨q2, h2⟩ := R.fr.tl a qs h
  by_cases z : a = P
  · rw [z]
    exact l.new
  · exact ⟨q2, l.keep _ _ z h2⟩
/-- what is asked of the def that is handed the lambda -/
abbrev DOut := DSp → D → D → List D → DK → Prop
def ttOut (ct : Cl) (pO : DOut) : TL → Addr → Addr → List V → Hp → VK → Prop := fun tl f c' vs H Q => ∃ (F : Addr → Prop) (wd r : D) (cs : List D) (PL : DSp) (QD : DK), Clz ct ⟨F, [], []⟩ H [] ∧ RWs ct ⟨F, [], []⟩ H vs [.val wd, .val r, .val (.list cs)] ∧ LamP ct tl F H PL ∧ pO PL wd r cs QD ∧
  (∀ v H' g' w, Gk ⟨F, [], []⟩ H g' H' → Fr0 (Bs.of ⟨F, [], []⟩ H) g' H' → Clz ct g' H' [] → RW ct g' H' v w → QD w [] → Q v H')
def isDat (w : W) : Prop := ∃ d, w = .val d
def outK (pO : DOut) (PL : DSp) (w1 w2 w3 : W) (C : List Cell) (Q : DK) : Prop := C = [] ∧ ∃ wd r cs, w1 = .val wd ∧ w2 = .val r ∧ w3 = .val (.list cs) ∧ pO PL wd r cs (fun w _ => isDat w ∧ Q w [])
def dLam4 (pO : DOut) (a1 a2 a3 : DE) (d : XD → DE) : DE := fun E C Q => pureE E ∧ a1 E C fun w1 C1 => a2 E C1 fun w2 C2 => a3 E C2 fun w3 C3 => outK pO (dLam d E) w1 w2 w3 C3 Q
theorem ce_lam4 {ct : Ct} {P : Addr} {q : Str} {pO : DOut} {t1 t2 t3 : TE} {t : XK → TE} {a1 a2 a3 : DE} {d : XD → DE} [h1 : CE ct t1 a1] [h2 : CE ct t2 a2] [h3 : CE ct t3 a3] (hd : ∀ E R, CE ⟨ct.cl, E, R⟩ (t E) (d R)) (inT : (P, q) ∈ ct.cl.T) :
    CE ct (tLam4 ct.cl.T P q (ttOut ct.cl pO) t1 t2 t3 t) (dLam4 pO a1 a2 a3 d) := ⟨fun B g σ H E C Q K R k hq => by
  obtain ⟨pu, hq⟩ := hq
  refine h1.run B g σ H E C _ _ R (fun v1 H1 ⟨g1, C1, w1, k1, R1, r1, q1⟩ => ?_) hq
  refine h2.run B g1 σ H1 E C1 _ _ R1 (fun v2 H2 ⟨g2, C2, w2, k2, R2, r2, q2⟩ => ?_) q1
  refine h3.run B g2 σ H2 E C2 _ _ R2 (fun v3 H3 ⟨g3, C3, w3, k3, R3, r3, q3⟩ => ?_) q2
  obtain ⟨rfl, wd, r, cs, rfl, rfl, rfl, hp⟩ := q3
  refine ⟨R3.cs.tb, fun f c' H4 l hT nf co => ?_⟩
  obtain ⟨k4, R4⟩ := R3.grow l hT (R3.cs.tf _ inT)
  refine ⟨g3.F, wd, r, cs, dLam d E, _, clz_nil R4.cs, .cons ?_ (.cons ?_ (.cons ?_ .nil)), lam_ok (g := g3) hd R4.env R4.len pu, hp, fun v H' g' w k' f' c' r' hw => ?_⟩
  · exact RD.mono (k2.trans (k3.trans k4)).kp _ _ r1
  · exact RD.mono (k3.trans k4).kp _ _ r2
  · exact RD.mono k4.kp _ _ r3
  · obtain ⟨⟨dd, rfl⟩, hw⟩ := hw
    obtain ⟨k5, R5⟩ := R4.called k' f' c'
    have e3 : g3.as = [] := List.eq_nil_of_length_eq_zero R3.cs.la
    exact k v H' ⟨_, [], .val dd, k1.trans (k2.trans (k3.trans (k4.trans k5))), R5, r', hw⟩⟩
open LamX
/-! ### try: .. except C as e: return (word, e.word, e.number) -/
def tRfd (C : Addr) (i : Nat) (wd n1 n2 : Str) : Addr → Value → Option Addr → TS := fun a cls d => tRet (tTup (tCons (tC (.str wd)) (tCons (tXf a cls d C n1 (tVar i)) (tCons (tXf a cls d C n2 (tVar i)) tNil))))
def tTryR (K : PySem.W.Frag) (C : Addr) (i : Nat) (wd n1 n2 : Str) (tb : XK → TS) : TS := fun D σ H => ∃ Ech : XK, (∀ cls d σ' H', σ'.length = σ.length → Ech cls d H' → wAs K (.ref C) i (tRfd C i wd n1 n2) (fun _ _ _ _ => False) D cls d σ' H') ∧ tb Ech D σ H
theorem takesF {X : Cx} : Takes X (fun _ _ _ _ => False) := fun _ _ x => by
  obtain ⟨_, _, _, _, _, _, _, _, _, _, _, _, _, _, _, _, z⟩ := x
  exact z.elim
section
variable {X : Cx}
theorem ps_tryR {C : Addr} {x n : Str} {i : Nat} {body : List Stmt} {wd n1 n2 : Str} {tb : XK → TS} {j : Nat} {k} {p0 p1 p2 p3 p4 p5 p6 p7 p8 pos : Pos} (hs : X.stack = X.env :: X.outer) (hf : X.env.frame = some X.env.locals) (hN : X.N.Nodup) (hi : X.N[i]? = some n) (hln : X.env.kindOf n = some .local) (hc : Names X x (.ref C))
    (T : XfC X.K C) (f1 : PySem.W.findIn X.K (.ref C) n1 = some none) (f2 : PySem.W.findIn X.K (.ref C) n2 = some none)
    (hb : ∀ (W : WX) (pn : List (Addr × Obj)) (xe : Value → Shared → Prop) (Ech : XK), Takes (X.tr pn xe) W → (∀ cls d σ' H', σ'.length = X.N.length → Ech cls d H' → W cls d σ' H') → PSs (X.tr pn xe) body (tb Ech))
    (hd : (n == ("__debug__" : Str)) = false := by decide) (hcd : (n == ("__classdict__" : Str)) = false := by decide) (b1 : attributeBase (.Name n p2) n1 X.env (eval (.Name n p2) X.env) = eval (.Name n p2) X.env := by rfl) (b2 : attributeBase (.Name n p4) n2 X.env (eval (.Name n p4) X.env) = eval (.Name n p4) X.env := by rfl)
    (s1 : starEach [.Constant (.str wd) j p1, .Attribute (.Name n p2) n1 p3, .Attribute (.Name n p4) n2 p5] X.env = (false, eval (.Constant (.str wd) j p1) X.env) :: starEach [.Attribute (.Name n p2) n1 p3, .Attribute (.Name n p4) n2 p5] X.env := by rfl) (s2 : starEach [.Attribute (.Name n p2) n1 p3, .Attribute (.Name n p4) n2 p5] X.env = (false, eval (.Attribute (.Name n p2) n1 p3) X.env) :: starEach [.Attribute (.Name n p4) n2 p5] X.env := by rfl)
    (s3 : starEach [.Attribute (.Name n p4) n2 p5] X.env = (false, eval (.Attribute (.Name n p4) n2 p5) X.env) :: starEach [] X.env := by rfl) :
    PS X (.Try body [.ExceptHandler (some (.Name x p0)) (some n) [.Return (some (.Tuple [.Constant (.str wd) j p1, .Attribute (.Name n p2) n1 p3, .Attribute (.Name n p4) n2 p5] k p6)) p7] p8] [] [] pos) (tTryR X.K C i wd n1 n2 tb) := by
  refine ⟨fun pins s σ H D J q => ?_⟩
  refine (ps_try_as (c := .ref C) (i := i) (tb := fun W D σ H => ∃ Ech : XK, (∀ cls d σ' H', σ'.length = X.N.length → Ech cls d H' → W cls d σ' H') ∧ tb Ech D σ H) (ts := tRfd C i wd n1 n2) (Wout := fun _ _ _ _ => False) hs hf hN hi hln hc takesF (fun W pn xe tk _ => ?_) (fun a oe cls d pn hz hv => ?_)).run pins s σ H D J ?_
  · refine ⟨fun pins s σ H D J q => ?_⟩
    obtain ⟨Ech, sub, q⟩ := q
    exact (hb W pn xe Ech tk sub).run pins s σ H D J q
  · have vv : ∀ {p : Pos}, PE (X.suite a ((a, oe) :: pn)) (.Name n p) (tVar i) := fun {p} => pe_var hi (.inl hln) hd hcd
    exact pss_one (ps_ret (pe_tup (pa_cons pe_str (pa_cons (pe_xf T f1 hz hv vv b1) (pa_cons (pe_xf T f2 hz hv vv b2) pa_nil s3) s2) s1)))
  · obtain ⟨Ech, sub, q⟩ := q
    exact ⟨Ech, fun cls d σ' H' hl h => sub cls d σ' H' (by rw [hl, J.len]) h, q⟩
theorem ps_tryRC {K : PySem.W.Frag} (hK : X.K = K) {C : Addr} {x n : Str} {i : Nat} {body : List Stmt} {wd n1 n2 : Str} {tb : XK → TS} {j : Nat} {k} {p0 p1 p2 p3 p4 p5 p6 p7 p8 pos : Pos} (hs : X.stack = X.env :: X.outer) (hf : X.env.frame = some X.env.locals) (hN : X.N.Nodup) (hi : X.N[i]? = some n) (hln : X.env.kindOf n = some .local) (hc : Names X x (.ref C))
    (T : XfC K C) (f1 : PySem.W.findIn K (.ref C) n1 = some none) (f2 : PySem.W.findIn K (.ref C) n2 = some none)
    (hb : ∀ (W : WX) (pn : List (Addr × Obj)) (xe : Value → Shared → Prop) (Ech : XK), Takes (X.tr pn xe) W → (∀ cls d σ' H', σ'.length = X.N.length → Ech cls d H' → W cls d σ' H') → PSs (X.tr pn xe) body (tb Ech))
    (hd : (n == ("__debug__" : Str)) = false := by decide) (hcd : (n == ("__classdict__" : Str)) = false := by decide) (b1 : attributeBase (.Name n p2) n1 X.env (eval (.Name n p2) X.env) = eval (.Name n p2) X.env := by rfl) (b2 : attributeBase (.Name n p4) n2 X.env (eval (.Name n p4) X.env) = eval (.Name n p4) X.env := by rfl)
    (s1 : starEach [.Constant (.str wd) j p1, .Attribute (.Name n p2) n1 p3, .Attribute (.Name n p4) n2 p5] X.env = (false, eval (.Constant (.str wd) j p1) X.env) :: starEach [.Attribute (.Name n p2) n1 p3, .Attribute (.Name n p4) n2 p5] X.env := by rfl) (s2 : starEach [.Attribute (.Name n p2) n1 p3, .Attribute (.Name n p4) n2 p5] X.env = (false, eval (.Attribute (.Name n p2) n1 p3) X.env) :: starEach [.Attribute (.Name n p4) n2 p5] X.env := by rfl)
    (s3 : starEach [.Attribute (.Name n p4) n2 p5] X.env = (false, eval (.Attribute (.Name n p4) n2 p5) X.env) :: starEach [] X.env := by rfl) :
    PS X (.Try body [.ExceptHandler (some (.Name x p0)) (some n) [.Return (some (.Tuple [.Constant (.str wd) j p1, .Attribute (.Name n p2) n1 p3, .Attribute (.Name n p4) n2 p5] k p6)) p7] p8] [] [] pos) (tTryR K C i wd n1 n2 tb) := by 
  subst hK
  exact ps_tryR hs hf hN hi hln hc T f1 f2 hb hd hcd b1 b2 s1 s2 s3
end
class ExT (K : PySem.W.Frag) (ct : Ct) (C : Addr) : Prop where
  at_ : ct.cl.x 3 = some (C, clsF 3)
  me : PySem.W.exmOne K (.ref C) (.ref C) = some true
instance {K : PySem.W.Frag} {ct : Ct} {C : Addr} {E : XK} {R : XD} [h : ExT K ct C] : ExT K (ct.w E R) C := ⟨h.at_, h.me⟩
def dTry (i : Nat) (wd : Str) (b : XD → DS) : DS := fun D E C => i < E.length ∧ b (fun c ds C' => c = 3 ∧ ∃ d1 d2, ds = [d1, d2] ∧ D.rt (.val (.tuple [.str wd, d2, d1])) C') D E C
/-- behind a piece that starts anew -/
theorem Rel.anew {ct : Ct} {B : Bs} {g g' : Gh} {σ σ' : L2.St} {H H' : Hp} {E E' : Ev} {C C' : List Cell} {X : XK} {Y : XD} (R : Rel ct B g σ H E C) (R' : Rel (ct.w X Y) (Bs.of g H) g' σ' H' E' C') : Rel ct B g' σ' H' E' C' :=
  ⟨R'.env, R'.len, R'.cs, R.fr.comp R'.fr, R.gg.trans R'.gg, R.xo⟩
theorem cs_tryR {ct : Ct} {K : PySem.W.Frag} {C : Addr} {i : Nat} {wd : Str} {tb : XK → TS} {b : XD → DS} [hx : ExT K ct C] [h : ∀ E R, CS (ct.w E R) (tb E) (b R)] : CS ct (tTryR K C i wd "word" "number" tb) (dTry i wd b) := ⟨fun B g σ H E C0 D DD R e q => by
  obtain ⟨hi, q⟩ := q
  refine ⟨fun cls d H' => ∃ g' C' c ds, Gk g H g' H' ∧ Fr0 (Bs.of g H) g' H' ∧ Clz ct g' H' C' ∧ XV ct g' H' cls d c ds ∧ c = 3 ∧ ∃ d1 d2, ds = [d1, d2] ∧ DD.rt (.val (.tuple [.str wd, d2, d1])) C', fun cls d σ' H' hl w => ?_, ?_⟩
  · obtain ⟨g', C', c, ds, k, f, z, xv, rfl, d1, d2, rfl, fin⟩ := w
    obtain ⟨C1, ns, e1, rfl, e2⟩ := xv
    rw [hx.at_] at e1
    cases e1
    rcases e2 with ⟨e2, _⟩ | ⟨dx, vs, rfl, hdx, hlv, rd⟩
    · cases (show (["number", "word"] : List Str) = [] from e2)
    · obtain ⟨v1, v2, rfl, r1, r2⟩ : ∃ v1 v2, vs = [v1, v2] ∧ RD ct g'.F H' v1 d1 ∧ RD ct g'.F H' v2 d2 := by
        cases rd with
        | cons a as =>
          cases as with
          | cons b bs =>
            cases bs
            exact ⟨_, _, rfl, a, b⟩
      refine ⟨true, hx.me, fun _ a _ => ?_, fun z => nomatch z⟩
      have at_ : (σ'.set i (some (.ref a)))[i]? = some (some (V.ref a)) := List.getElem?_set_self (by rw [hl, R.len]; exact hi)
      refine ⟨.ref a, at_, rfl, rfl, dx, _, v2, rfl, hdx, rfl, .ref a, at_, rfl, rfl, dx, _, v1, rfl, hdx, rfl, by show 3 ≤ sizeLine; decide, fun p np => ?_⟩
      have R1 : Rel ct B g' [] H' [] C' := ⟨fun i w h => (by simp at h), rfl, z, R.fr.comp f, R.gg.trans k, R.xo⟩
      obtain ⟨k2, R2⟩ := R1.new (o := .tup [.str wd, v2, v1]) false np
      exact e.rt (.ref p) [] _ _ [] C' (.val (.tuple [.str wd, d2, d1])) (k.trans k2) R2 (RD.tup upd_same (.cons (.str _) (.cons (RD.mono k2.kp _ _ r2) (.cons (RD.mono k2.kp _ _ r1) .nil)))) fin
  · exact (h _ _).run (Bs.of g H) g σ H E C0 D DD ⟨R.env, R.len, R.cs, Fr0.self g H, Gk.refl _ _, fun g' H' C' cls d c ds k f z x w => ⟨g', C', c, ds, k, f, z, x, w⟩⟩
      ⟨fun σ' H' g' E' C' k R' => e.nx σ' H' g' E' C' k (R.anew R'), fun v σ' H' g' E' C' w k R' => e.rt v σ' H' g' E' C' w k (R.anew R'), fun σ' H' g' E' C' k R' => e.bk σ' H' g' E' C' k (R.anew R'), fun σ' H' g' E' C' k R' => e.ct σ' H' g' E' C' k (R.anew R')⟩ q⟩
instance cs_tryRw {ct : Ct} {E0 : XK} {R0 : XD} {K : PySem.W.Frag} {C : Addr} {i : Nat} {wd : Str} {tb : XK → TS} {b : XD → DS} [hx : ExT K ct C] [h : ∀ E R, CS (ct.w E R) (tb E) (b R)] : CS (ct.w E0 R0) (tTryR K C i wd "word" "number" tb) (dTry i wd b) := cs_tryR (ct := ct.w E0 R0) (h := h)
/-! ### the lambda is called -/
def dAct (i j : Nat) (f c' : Addr) (q : Str) (F0 : Addr → Prop) (H0 : Hp) (PL : DSp) (R : XD) : DE := fun E C Q => ∃ c0, C = [c0] ∧ E[i]? = some (some (.fn f c' q F0 H0)) ∧ E[j]? = some (some (.ref 0)) ∧ PL [.ref 0] [c0, .nil] (fun w C' => ∃ d c1, w = .val d ∧ C' = [c1, .nil] ∧ cellOk 1 c1 = true ∧ Q (.val d) [c1]) R
theorem ce_act {ct : Ct} {E : XK} {R : XD} {f c' : Addr} {q : Str} {i j : Nat} {tl : TL} {F0 : Addr → Prop} {H0 : Hp} {PL : DSp} (hl : LamP ct.cl tl F0 H0 PL) : CE (ct.w E R) (tAct f c' q i j tl E) (dAct i j f c' q F0 H0 PL R) := ⟨fun B g σ H Ev C Q K Re k hq => by
  obtain ⟨c0, rfl, at1, at2, hq⟩ := hq
  obtain ⟨v1, s1, rfl, co, kp⟩ := Re.env _ _ at1
  obtain ⟨v2, s2, a, ga, rfl⟩ := Re.env _ _ at2
  have hl1 : g.as.length = 1 := Re.cs.la
  have fl : (g.ms ++ [[]]).flatten = g.ms.flatten := by
    rw [List.flatten_append]
    simp
  have k2 : Gk g H ⟨g.F, g.as ++ [a], g.ms ++ [[]]⟩ H := ⟨Kp.refl _ _, fun n b h => by
    show (g.as ++ [a])[n]? = some b
    rw [List.getElem?_append_left (List.getElem?_eq_some_iff.mp h).1]
    exact h, fun _ _ h => h⟩
  have cz : Clz ct.cl ⟨g.F, g.as ++ [a], g.ms ++ [[]]⟩ H [c0, .nil] := by
    refine ⟨?_, ?_, fun n x h => ?_, by rw [fl]; exact Re.cs.nd, fun b hb => Re.cs.ap b (fl ▸ hb), Re.cs.lv, Re.cs.tb, Re.cs.tf⟩
    · show (g.as ++ [a]).length = 2
      rw [List.length_append, hl1]
      rfl
    · show (g.ms ++ [[]]).length = 2
      rw [List.length_append, show g.ms.length = 1 from Re.cs.lm]
      rfl
    · rcases n with _ | _ | n
      · obtain ⟨b, m, w1, w2, w3⟩ := Re.cs.at_ 0 x h
        refine ⟨b, m, k2.as _ _ w1, ?_, w3.keep k2 (.inl rfl)⟩
        show (g.ms ++ [[]])[0]? = some m
        rw [List.getElem?_append_left (List.getElem?_eq_some_iff.mp w2).1]
        exact w2
      · cases h
        refine ⟨a, [], ?_, ?_, rfl⟩
        · show (g.as ++ [a])[1]? = some a
          rw [List.getElem?_append_right (by rw [hl1]; exact Nat.le_refl _), hl1]
          rfl
        · show (g.ms ++ [[]])[1]? = some []
          rw [List.getElem?_append_right (by rw [show g.ms.length = 1 from Re.cs.lm]; exact Nat.le_refl _), show g.ms.length = 1 from Re.cs.lm]
          rfl
      · simp at h
  have back : ∀ {g' : Gh} {H' : Hp}, Fr0 (Bs.of ⟨g.F, g.as ++ [a], g.ms ++ [[]]⟩ H) g' H' → Fr0 (Bs.of g H) g' H' := fun {g' H'} f => by
    have e : (Bs.of ⟨g.F, g.as ++ [a], g.ms ++ [[]]⟩ H).M = (Bs.of g H).M := fl
    refine ⟨f.kt, fun b o h n m => f.keep b o h n (by rw [e]; exact m), f.tl, fun b h => ?_, fun b h => ?_⟩
    · have w := f.newF b h
      rw [e] at w
      exact w
    · have w := f.newM b h
      rw [e] at w
      exact w
  refine ⟨.ref a, s1, s2, co, hl.run E (.ref a) H K ⟨g.F, g.as ++ [a], g.ms ++ [[]]⟩ _ _ R (.ref 0) kp rfl cz ⟨a, k2.as _ _ ga, rfl⟩ hq (fun v H' g' C' w k' f' z' l' r' hw => ?_) (fun cls d H' g' C' c ds k' f' z' l' xv hr => ?_)⟩
  · obtain ⟨d, c1, rfl, rfl, ok, hw⟩ := hw
    have kk : Gk g H (g'.tk 1) H' := (k2.trans k').tk hl1
    exact k v H' ⟨_, [c1], .val d, kk, Re.gk kk (z'.tk 1 (by simp [ok])) (Re.fr.comp (back f')).tk, r', hw⟩
  · exact Re.xo g' H' C' cls d c ds (Re.gg.trans (k2.trans k')) (Re.fr.comp (back f')) z' xv hr⟩
/-! ### a reader is made -/
def spRdI (K : PySem.W.Frag) : Sp := fun vs H Q _ => ∃ (a C dx : Addr) (u w : V), vs = [.ref a, u, w] ∧ H a = some (.ins C dx []) ∧ Cls K C ∧ (∀ f ∈ clsF 2, NoAttr K C f) ∧ Q .non (upd H a (.ins C dx ((clsF 2).zip [u, w, .int 0])))
def rdrK (Q : DK) : Option (List D) → List Cell → Prop
  | some [d, e], C => Q (.ref C.length) (C ++ [.obj 2 [.val d, .val e, .val (.int 0)]])
  | _, _ => False
def dMakeRd (a : DA) : DE := fun E C Q => a E C fun ws C1 => rdrK Q (vals ws) C1
instance ce_makeRd {K : PySem.W.Frag} {ct : Ct} {Ca : Addr} {Ex : XK} {t : TA} {a : DA} [h : CA ct t a] [hk : CtOk K ct] [hc : ClA ct Ca 2] : CE ct (tMake Ca (spRdI K) [] Ex t) (dMakeRd a) := ⟨fun B g σ H E C Q K' R k q => by
  refine h.run B g σ H E C _ _ R (fun vs H1 ⟨g1, C1, ws, k1, R1, r1, q1⟩ => ?_) q
  unfold rdrK at q1
  dsimp only at q1
  split at q1
  · rename_i Cc o1 Cx d e0 e
    have hd := vals_ok r1 e
    obtain ⟨_, cls, no⟩ := hk.ok _ _ _ hc.at_
    obtain ⟨u, w, rfl, ru, rw_⟩ : ∃ u w, vs = [u, w] ∧ RD ct g1.F H1 u d ∧ RD ct g1.F H1 w e0 := by
      cases hd with
      | cons h1 h2 =>
        cases h2 with
        | cons h3 h4 =>
          cases h4
          exact ⟨_, _, rfl, h1, h3⟩
    intro x dx nx ndx nex
    rw [List.append_nil]
    refine ⟨x, Ca, dx, u, w, rfl, upd_same, cls, no, rfl, ?_⟩
    rw [upd_upd]
    obtain ⟨k2, R2⟩ := R1.new (o := .own x) false ndx
    have nx2 : upd H1 dx (.own x) x = none := by
      rw [upd_ne (Ne.symm nex)]
      exact nx
    obtain ⟨k3, R3, a3⟩ := R2.ad (o := .ins Ca dx ((clsF 2).zip [u, w, .int 0])) (c := .obj 2 [.val d, .val e0, .val (.int 0)]) nx2 fun kk => ⟨rfl, Ca, clsF 2, dx, [u, w, .int 0], hc.at_, upd_same, rfl, .cons (RD.mono (k2.trans kk).kp _ _ ru) (.cons (RD.mono (k2.trans kk).kp _ _ rw_) (.cons (.int 0) .nil))⟩
    exact k _ _ ⟨_, _, .ref Cc.length, k1.trans (k2.trans k3), R3, ⟨x, a3, rfl⟩, q1⟩
  · exact q1.elim⟩
theorem fld20 {α : Type} (a b c : α) : fldOf 2 "rule" [a, b, c] = some a := rfl
theorem fld21 {α : Type} (a b c : α) : fldOf 2 "certificate" [a, b, c] = some b := rfl
theorem fld22 {α : Type} (a b c : α) : fldOf 2 "position" [a, b, c] = some c := rfl
/-! ### a def that makes a lambda -/
/-- the rule for a def, its code told -/
theorem Fun.okC {P : Program} {w : World} {K : PySem.W.Frag} {mg : Str → Option Value} {base : Heap} {x qual : Str} {st : Stmt} {f : Addr} {fd : FuncData} {N ps : List Str} {k : Nat} {sp : Sp} (F : Fun K x qual st f fd) (S : FnScope N ps (defScope st)) (len : ∀ vs H Q E, sp vs H Q E → vs.length = ps.length)
    (bd : ∀ (cd : Value) (A : Around) (outer : List Env) (s : Shared) (H : Hp) (vs : List V) (Q : VK) (E : XK), fd.code = cd → Room k (A.deeper (envOfC qual (defScope st) s.heap.objs.size f cd)) → sp vs H Q E →
      ∃ t, PSs (cxOf L2.CX0 P w K mg base N qual (defScope st) f cd A outer s H E).nox (defBody st) t ∧ t { nx := fun _ H' => Q .non H', rt := Q } (start N vs) H) : FnOk P w K mg base L2.CX0 (k + 1) f fd ps sp := by
  obtain ⟨o1, o2, o3, o4, o5, o6, o7, o8, o9, e, lk, hc⟩ := F.ex
  subst e
  exact fn_of lk hc S len fun A outer s H vs Q E hr hs => (bd o7 A outer s H vs Q E rfl hr hs).imp fun t h => ⟨h.1.nox, h.2⟩
theorem passLam {X : Cx} {A : Around} {outer : List Env} {s : Shared} {H : Hp} {E : XK} {scope : Scope} {f c' : Addr} {a : Str} : Passes (L2.CX X.prog X.w) (lamCx1 X A outer s H E scope f c' a) E := passes_call (takes_of rfl rfl rfl rfl) (fun _ _ _ _ h => h)
/-- the table of a lambda's code -/
class LamT (ct : Ct) (P : Addr) (q : Str) : Prop where
  mem : (P, q) ∈ ct.cl.T
  one : ∀ p ∈ ct.cl.T, p.1 = P → p.2 = q
/-! ### a sign in a text -/
abbrev inS (i j : Str) : Bool := !(Builtin.Str.occurrences j i 0 j.length 1).isEmpty
theorem inS_one (c : Nat) (j : Str) : inS ⟨#[c]⟩ j = decide (c ∈ j.cps.toList) := PySem.StrLaws.found_one j c
def rInS : R2 := fun x y H Q => ∃ i j, x = .str i ∧ y = .str j ∧ Q (.bl (inS i j)) H
theorem op_inS {X : Cx} : OpR X (compareOp .In) rInS := op_in_str
def fInS : W → W → List Cell → DK → Prop
  | .val (.str i), .val (.str j), C, Q => Q (.val (.bool (inS i j))) C
  | _, _, _, _ => False
instance cr_inS {ct : Ct} : CR2 ct rInS fInS := ⟨fun B g σ H E C Q v u x y k R kk rx ry q => by
  unfold fInS at q
  try dsimp only at q
  split at q
  · exact ⟨_, _, rw_str rx, rw_str ry, post_val R (w := .val (.bool _)) (.bl _) kk q⟩
  · exact q.elim⟩
/-! ### x.f += n -/
def afW (f : Str) (c : Int) (k : Nat) (b : DE) (E : Ev) (N : List Cell → Prop) : Option W → List Cell → Prop
  | some (.val (.int i)), C => b E C fun y C2 => ∃ (j : Int) (ws : List W), y = .val (.int j) ∧ C2[k]? = some (.obj c ws) ∧ f ∈ clsF c ∧ N (C2.set k (.obj c (setAt c f (.val (.int (i + j))) ws)))
  | _, _ => False
def afC (f : Str) (k : Nat) (b : DE) (E : Ev) (N : List Cell → Prop) : Option Cell → List Cell → Prop
  | some (.obj c ws), C => afW f c k b E N (fldOf c f ws) C
  | _, _ => False
def afK (f : Str) (b : DE) (E : Ev) (N : List Cell → Prop) : W → List Cell → Prop
  | .ref k, C => afC f k b E N C[k]? C
  | _, _ => False
def dAugF (f : Str) (a b : DE) : DS := fun D E C => a E C fun x C1 => afK f b E (fun C3 => D.nx E C3) x C1
instance cs_augF {K : PySem.W.Frag} {ct : Ct} {ta tv : TE} {a b : DE} {f : Str} [ha : CE ct ta a] [hb : CE ct tv b] [hk : CtOk K ct] : CS ct (sFldAug K ta tv rAdd f) (dAugF f a b) := ⟨fun B g σ H E C D DD R e q => by
  refine ha.run B g σ H E C _ _ R (fun v H1 ⟨g1, C1, x, k1, R1, r1, q1⟩ => ?_) q
  unfold afK at q1
  try dsimp only at q1
  split at q1
  · rename_i k
    obtain ⟨a0, h0, rfl⟩ := r1
    unfold afC at q1
    try dsimp only at q1
    split at q1
    · rename_i c ws ec
      obtain ⟨a', m, z1, z2, z3, Ca, ns, dx, vs, hc, ho, hl, hs⟩ := R1.cs.at_ k _ ec
      rw [h0] at z1
      cases z1
      obtain ⟨rfl, cls, no⟩ := hk.ok _ _ _ hc
      unfold afW at q1
      try dsimp only at q1
      split at q1
      · rename_i i e2
        obtain ⟨n, h1, h2, h3⟩ := lookup_zip _ _ _ _ e2
        obtain ⟨u, hv, rv⟩ := Paired.at hs n _ h2
        obtain rfl : u = V.int i := rw_int rv
        refine ⟨a0, Ca, dx, _, _, rfl, ho, cls, no f (List.mem_of_getElem? h1), h3 _ _ hv, ?_⟩
        refine hb.run B g1 σ H1 E _ _ _ R1 (fun y H2 ⟨g2, C2, yw, k2, R2, r2, q2⟩ => ?_) q1
        obtain ⟨j, ws2, rfl, e3, hf, q2⟩ := q2
        obtain rfl : y = V.int j := rw_int r2
        obtain ⟨Ca2, dx2, fs2, ho2, cls2, no2, hl2, k3, R3⟩ := R2.setO (K := K) (hk := hk) (y := .int (i + j)) (w := .val (.int (i + j))) e3 (k2.as _ _ h0) (RD.int (i + j)) hf
        obtain ⟨a2, m2, y1, y2, y3, Ca3, ns3, dx3, vs3, hc3, ho3, _⟩ := R2.cs.at_ k _ e3
        rw [k2.as _ _ h0] at y1
        cases y1
        rw [hc] at hc3
        cases hc3
        rw [ho2] at ho3
        cases ho3
        exact ⟨i, j, rfl, rfl, dx2, _, ho2, hl2, e.nx _ _ _ _ _ (k1.trans (k2.trans k3)) R3 q2⟩
      · exact q1.elim
    · exact q1.elim
  · exact q1.elim⟩
theorem ps_fldaugC {X : Cx} {K : PySem.W.Frag} {o value : Expr} {f : Str} {pos tpos : Pos} {ta tv : TE} (h : X.K = K) (ha : PE X o ta) (hv : PE X value tv) : PS X (.AugAssign (.Attribute o f tpos) .Add value pos) (sFldAug K ta tv rAdd f) := h ▸ ps_fldaug ha hv in_add
/-! ### a sum of lists is a list of its own -/
def catF (Q : List D → List Cell → Prop) : Option (List D) → Option (List D) → List Cell → Prop
  | some xs, some ys, C => xs.length + ys.length ≤ sizeLine ∧ Q (xs ++ ys) C
  | _, _, _ => False
def dCatF (a b : DE) : DFl := fun E C Q => a E C fun x C1 => b E C1 fun y C2 => catF Q (rdL C2 x) (rdL C2 y) C2
instance cf_cat {ct : Ct} {K : PySem.W.Frag} {ta tb : TE} {a b : DE} [ha : CE ct ta a] [hb : CE ct tb b] : CF ct (tOp (rAddA K) ta tb) (dCatF a b) := ⟨fun B g σ H E C Q K' R k q => by
  refine ha.run B g σ H E C _ _ R (fun v H1 ⟨g1, C1, x, k1, R1, r1, q1⟩ => ?_) q
  refine hb.run B g1 σ H1 E C1 _ _ R1 (fun u H2 ⟨g2, C2, y, k2, R2, r2, q2⟩ => ?_) q1
  unfold catF at q2
  dsimp only at q2
  split at q2
  · rename_i xs ys e1 e2
    obtain ⟨a1, us, rfl, h1, h2⟩ := rdL_ok R2.cs (r1.mono k2) e1
    obtain ⟨b1, ws, rfl, h3, h4⟩ := rdL_ok R2.cs r2 e2
    refine .inr (.inr (.inr ⟨a1, b1, us, ws, rfl, rfl, h1, h3, by rw [h2.length, h4.length]; exact q2.1, fun p hp => ?_⟩))
    obtain ⟨k3, R3, s3⟩ := R2.newSide (xs := us ++ ws) hp
    exact k _ _ ⟨_, _, xs ++ ys, us ++ ws, p, (k1.trans k2).trans k3, R3, rfl, s3, RDs.mono k3.kp _ _ (h2.app h4), q2.2⟩
  · exact q2.elim⟩
/-- x in l, for data -/
def inK (f : Bool → Bool) : Option D → Option (List D) → List Cell → DK → Prop
  | some d, some ds, C, Q => okD d ∧ okD (.list ds) ∧ Q (.val (.bool (f (ds.any fun z => PyData.eqv z d)))) C
  | _, _, _, _ => False
def fInD (f : Bool → Bool) (x y : W) (C : List Cell) (Q : DK) : Prop := inK f (rdV C x) (rdL C y) C Q
theorem rdL_dp {ct : Cl} {g : Gh} {H : Hp} {C : List Cell} {v : V} {w : W} {ds : List D} {K : PySem.W.Frag} (c : Clz ct g H C) (r : RW ct g H v w) (h : rdL C w = some ds) (l : okD (.list ds)) : Dp K H v (.list ds) := by
  obtain ⟨a, xs, rfl, h1, h2⟩ := rdL_ok c r h
  exact .lst (SqL.of h1) (RDs.dp ds xs h2 l.lay)
instance cr_inD {ct : Ct} {K : PySem.W.Frag} : CR2 ct (rInD K) (fInD id) := ⟨fun B g σ H E C Q v u x y k R kk rx ry q => by
  unfold fInD inK at q
  try dsimp only at q
  split at q
  · rename_i d ds h1 h2
    exact ⟨d, ds, rdV_ok R.cs rx h1 (okD.lay q.1), rdL_dp R.cs ry h2 q.2.1, q.1, q.2.1, post_val R (w := .val (.bool _)) (.bl _) kk q.2.2⟩
  · exact q.elim⟩
instance cr_ninD {ct : Ct} {K : PySem.W.Frag} : CR2 ct (rNotInD K) (fInD not) := ⟨fun B g σ H E C Q v u x y k R kk rx ry q => by
  unfold fInD inK at q
  try dsimp only at q
  split at q
  · rename_i d ds h1 h2
    exact ⟨d, ds, rdV_ok R.cs rx h1 (okD.lay q.1), rdL_dp R.cs ry h2 q.2.1, q.1, q.2.1, post_val R (w := .val (.bool _)) (.bl _) kk q.2.2⟩
  · exact q.elim⟩
theorem hu65 {A : Around} {k : Nat} (hr : Room k A) : A.units + 65 < cLine := by
  have := hr.un
  omega
theorem get_end1 {α : Type} (c : α) (G : List α) (x : α) : (c :: (G ++ [x]))[G.length + 1]? = some x := get_end G x
theorem set_end1 {α : Type} (c : α) (G : List α) (x y : α) : (c :: (G ++ [x])).set (G.length + 1) y = c :: (G ++ [y]) := congrArg (c :: ·) (set_end G x y)
theorem at4 {α : Type} (x y z u v : α) (xs : List α) : atI (x :: y :: z :: u :: v :: xs) 4 = some v := atI_nat (j := 4) rfl
theorem at5 {α : Type} (x y z u v w : α) (xs : List α) : atI (x :: y :: z :: u :: v :: w :: xs) 5 = some w := atI_nat (j := 5) rfl
theorem at6 {α : Type} (x y z u v w s : α) (xs : List α) : atI (x :: y :: z :: u :: v :: w :: s :: xs) 6 = some s := atI_nat (j := 6) rfl
theorem at7 {α : Type} (x y z u v w s t : α) (xs : List α) : atI (x :: y :: z :: u :: v :: w :: s :: t :: xs) 7 = some t := atI_nat (j := 7) rfl
theorem at8 {α : Type} (x y z u v w s t r : α) (xs : List α) : atI (x :: y :: z :: u :: v :: w :: s :: t :: r :: xs) 8 = some r := atI_nat (j := 8) rfl
/-! ### l.pop(i) -/
theorem RDs.erase {ct : Cl} {F : Addr → Prop} {H : Hp} : ∀ {vs : List V} {ds : List D} (n : Nat), RDs ct F H vs ds → RDs ct F H (vs.eraseIdx n) (ds.eraseIdx n)
  | _, _, _, .nil => .nil
  | _, _, 0, .cons h hs => hs
  | _, _, n + 1, .cons h hs => .cons h (RDs.erase n hs)
def popAtK (k : Nat) (i : Int) (Q : DK) : Option Cell → List Cell → Prop
  | some (.lst ds), C => -(2 ^ 63) ≤ i ∧ i < 2 ^ 63 ∧ ∃ j d, seqIndex? i ds.length = some j ∧ ds[j]? = some d ∧ Q (.val d) (C.set k (.lst (ds.eraseIdx j)))
  | _, _ => False
def fPopAt : W → List W → List Cell → DK → Prop
  | .ref k, [.val (.int i)], C, Q => popAtK k i Q C[k]? C
  | _, _, _, _ => False
instance cm_popAt {ct : Ct} : CM ct rPopAt fPopAt := ⟨fun B g σ H E C Q v vs w ws K R kk r rs q => by
  unfold fPopAt at q
  split at q
  · rename_i k i
    obtain ⟨a, ha, rfl⟩ := r
    obtain ⟨y, rfl, r1⟩ := rws1 rs
    cases rw_int r1
    unfold popAtK at q
    split at q
    · rename_i ds e
      obtain ⟨q1, q2, j, d, h1, h2, q3⟩ := q
      obtain ⟨xs, hm, g1, g2, g3⟩ := cell_lst R.cs e ha
      obtain ⟨u, hu, ru⟩ := g2.get _ d h2
      obtain ⟨k3, R3⟩ := R.write e ha (g2.erase j)
      exact ⟨a, xs, i, j, u, rfl, rfl, g1, q1, q2, by rw [g2.length]; exact h1, hu, kk _ _ ⟨g, _, .val d, k3, R3, RD.mono k3.kp _ _ ru, q3⟩⟩
    · exact q.elim
  · exact q.elim⟩
section
variable {X : Cx} {K : PySem.W.Frag} (h : X.K = K)
include h
theorem op_inDC (hu : X.A.units + 65 < cLine) : OpR X (compareOp .In) (rInD K) := h ▸ op_inD hu
theorem op_notInDC (hu : X.A.units + 65 < cLine) : OpR X (compareOp .NotIn) (rNotInD K) := h ▸ op_notInD hu
end
def topS (i : Nat) : Stmt := PySem.Challenge.pw_rightrows_k14_whole_order_of_putting.main.body.getD i (.Pass ⟨0, 0, 0, 0⟩)
abbrev sDraw : Stmt := topS 49
/-! ### heaps -/
theorem same_new {H : Hp} {p : Addr} (h : H p = none) (o : HO) : Same H (upd H p o) := fun b u q => by
  rw [upd_ne (ne_of_none q h)]
  exact q
/-- all but the drawer's list stands as it was -/
def Le (st : Addr) (H H' : Hp) : Prop := ∀ b o, b ≠ st → H b = some o → H' b = some o
theorem Le.refl (st : Addr) (H : Hp) : Le st H H := fun _ _ _ h => h
theorem Le.trans {st : Addr} {H H1 H2 : Hp} (a : Le st H H1) (b : Le st H1 H2) : Le st H H2 := fun c o n h => b c o n (a c o n h)
theorem Le.of {st : Addr} {H H' : Hp} (a : Same H H') : Le st H H' := fun b o _ h => a b o h
theorem Le.st {st : Addr} {H : Hp} (o : HO) : Le st H (upd H st o) := fun b u n h => by
  rw [upd_ne n]
  exact h
/-- the drawer's list -/
def Good (st l : Addr) (H : Hp) : Prop := ∃ (a p c : Int) (ns : List Int), H st = some (.lst [.int a, .int p, .ref l, .int c]) ∧ 0 ≤ a ∧ 0 ≤ p ∧ 0 ≤ c ∧ c < 2147483647 ∧ l ≠ st ∧ H l = some (.lst (ns.map V.int))
theorem Good.same {st l : Addr} {H H' : Hp} (g : Good st l H) (s : Same H H') : Good st l H' := by
  obtain ⟨a, p, c, ns, h, h1, h2, h3, h4, h5, h6⟩ := g
  exact ⟨a, p, c, ns, s _ _ h, h1, h2, h3, h4, h5, s _ _ h6⟩
theorem Good.ne {st l D : Addr} {H : Hp} (g : Good st l H) (h : H D = none) : D ≠ st ∧ D ≠ l := by
  obtain ⟨a, p, c, ns, h1, _, _, _, _, _, h6⟩ := g
  refine ⟨fun e => ?_, fun e => ?_⟩
  · rw [e, h1] at h
    cases h
  · rw [e, h6] at h
    cases h
theorem Good.put {st l D : Addr} {H : Hp} {o : HO} (g : Good st l H) (h : D ≠ st ∧ D ≠ l) : Good st l (upd H D o) := by
  obtain ⟨a, p, c, ns, h1, h2, h3, h4, h5, h6, h7⟩ := g
  exact ⟨a, p, c, ns, by rw [upd_ne h.1.symm]; exact h1, h2, h3, h4, h5, h6, by rw [upd_ne h.2.symm]; exact h7⟩
theorem Le.mut {st D : Addr} {H H' : Hp} {o : HO} (le : Le st H H') (h : H D = none) : Le st H (upd H' D o) := fun b u n e => by
  rw [upd_ne (ne_of_none e h)]
  exact le b u n e
theorem small {n : Nat} (h : n ≤ 1000) : n ≤ sizeLine := Nat.le_of_lt (small1000 h)
/-- a def of the text as it stands behind the top -/
structure Def (K : PySem.W.Frag) (mg : Str → Option Value) (x : Str) (st : Stmt) (ps : List Str) where
  f : Addr
  fd : FuncData
  F : Fun K x x st f fd
  b : Binds K fd ps []
  m : mg x = some (.ref f)
def spDraw : Sp := fun vs H Q _ => ∃ (st l : Addr) (n : Int), vs = [.ref st, .int n] ∧ Good st l H ∧ 0 < n ∧ n.natAbs < 2 ^ 200 ∧ ∀ d H', 0 ≤ d → d < n → Le st H H' → Good st l H' → Q (.int d) H'
theorem scDraw : FnScope ["state", "limit", "position", "cell", "mixed", "digit"] ["state", "limit"] (defScope sDraw) := ⟨rfl, rfl, rfl, by decide +kernel, rfl, by decide +kernel, by decide +kernel⟩
section
variable {P : Program} {w : World} {K : PySem.W.Frag} {mg : Str → Option Value} {base : Heap}
theorem ok_draw (D : Def K mg "_law_draw" sDraw ["state", "limit"]) (ml : mg "len" = none) (mi : mg "int" = none) : FnOk P w K mg base CX0 1 D.f D.fd ["state", "limit"] spDraw := by
  refine D.F.ok scDraw (fun vs H Q E h => ?_) (fun cdv A outer s H vs Q E hr h => ?_)
  · obtain ⟨st, l, n, rfl, _⟩ := h
    rfl
  obtain ⟨st, l, n, rfl, g, hn0, hn, q⟩ := h
  refine ⟨_, C8.pss_cut (ps_if (pt_cmpR op_lt (pe_ix ix_list (pv 0) pe_int (fun _ _ => rfl)) (pv 1) (nomark _))
      (pss_cons (ps_set (i := 2) scDraw.nd rfl (.inl rfl) (pe_ix ix_list (pv 0) pe_int (fun _ _ => rfl)))
      (pss_cons (ps_asg (pe_op op_add (pv 2) pe_int) (pg_sub (pv 0) pe_int set_list))
      (pss_cons (ps_set (i := 3) scDraw.nd rfl (.inl rfl) pe_int)
      (C8.pss_cut (ps_if (pt_cmpR op_lt (pv 2) (pe_callB call_len_seq (by rfl) ml PySem.boot_len (pa_cons (pe_ix ix_list (pv 0) pe_int (fun _ _ => rfl)) pa_nil)) (nomark _))
        (pss_one (ps_set (i := 3) scDraw.nd rfl (.inl rfl) (pe_ix ix_list (pe_ix ix_list (pv 0) pe_int (fun _ _ => rfl)) (pv 2) (fun _ _ => rfl)))) pss_nil)
      (pss_one (ps_if (pt_cmpR op_ge (pv 3) (pe_op op_pow pe_int pe_int) (nomark _))
        (pss_one (ps_asg (pv 3) (pg_sub (pv 0) pe_int set_list)))
        (C8.pss_cut (ps_asg (pe_op op_modN (pe_callTy call_int1 (by rfl) mi (by decide +kernel) (pa_cons (pe_op op_mul (pe_op op_add (pe_op op_add (pe_op op_add (pe_ix ix_list (pv 0) pe_int (fun _ _ => rfl)) (pe_op op_modN (pe_callTy call_int1 (by rfl) mi (by decide +kernel) (pa_cons (pv 3) pa_nil)) pe_int)) (pv 2)) pe_int) pe_int) pa_nil)) pe_int) (pg_sub (pv 0) pe_int set_list))
        (C8.pss_cut (ps_set (i := 4) scDraw.nd rfl (.inl rfl) (pe_op op_modN (pe_callTy call_int1 (by rfl) mi (by decide +kernel) (pa_cons (pe_op op_add (pe_op op_mul (pe_ix ix_list (pv 0) pe_int (fun _ _ => rfl)) pe_int) pe_int) pa_nil)) pe_int))
        (pss_one (ps_asg (pe_op op_add (pe_op op_mul (pv 4) pe_int) (pe_op op_modN (pe_callTy call_int1 (by rfl) mi (by decide +kernel) (pa_cons (pe_op op_add (pe_op op_mul (pv 4) pe_int) (pe_ix ix_list (pv 0) pe_int (fun _ _ => rfl))) pa_nil)) pe_int)) (pg_sub (pv 0) pe_int set_list))))))))))) pss_nil)
    (pss_cons (ps_set (i := 5) scDraw.nd rfl (.inl rfl) (pe_op op_modN (pe_callTy call_int1 (by rfl) mi (by decide +kernel) (pa_cons (pe_ix ix_list (pv 0) pe_int (fun _ _ => rfl)) pa_nil)) (pv 1)))
    (pss_cons (ps_asg (pe_op op_fdivW (pe_ix ix_list (pv 0) pe_int (fun _ _ => rfl)) (pv 1)) (pg_sub (pv 0) pe_int set_list))
    (pss_one (ps_ret (pv 5))))), ?_⟩
  obtain ⟨a, p, c, ns, h, ha, hp, hc, hc2, hl, hns⟩ := g
  refine ⟨fun σ' H' => ∃ y2 y3 y4 y5, σ' = [some (.ref st), some (.int n), y2, y3, y4, y5] ∧ Le st H H' ∧ Good st l H', ?_, ?_⟩
  · refine ⟨_, rfl, st, _, 0, _, rfl, rfl, SqL.of h, atI_nat (j := 0) rfl, _, rfl, _, _, rfl, rfl, _, rfl, ite2 (fun _ => ?_) (fun _ => ?_)⟩
    · refine ⟨_, rfl, st, _, 1, _, rfl, rfl, SqL.of h, atI_nat (j := 1) rfl, ?_⟩
      refine ⟨_, rfl, _, _, rfl, rfl, _, rfl, st, _, 1, 1, rfl, rfl, h, rfl, ?_⟩
      have h1 : upd H st (.lst ([.int a, .int p, .ref l, .int c].set 1 (.int (p + 1)))) st = some (.lst [.int a, .int (p + 1), .ref l, .int c]) := upd_same
      have hns1 : upd H st (.lst ([.int a, .int p, .ref l, .int c].set 1 (.int (p + 1)))) l = some (.lst (ns.map V.int)) := by
        rw [upd_ne hl]
        exact hns
      refine ⟨fun σ' H' => ∃ cell : Int, σ' = [some (.ref st), some (.int n), some (.int p), some (.int cell), none, none] ∧ H' = upd H st (.lst ([.int a, .int p, .ref l, .int c].set 1 (.int (p + 1)))), ?_, ?_⟩
      · refine ⟨_, rfl, _, rfl, st, _, 2, _, rfl, rfl, SqL.of h1, atI_nat (j := 2) rfl, l, _, rfl, .inl (SqL.of hns1), _, _, rfl, rfl, _, rfl, ite2 (fun hlt => ?_) (fun _ => ?_)⟩
        · have hlt2 : p < (((ns.map V.int).length : Nat) : Int) := of_decide_eq_true hlt
          rw [List.length_map] at hlt2
          have hk : p.toNat < ns.length := by omega
          have hg : atI (ns.map V.int) p = some (.int ns[p.toNat]) := by
            have e : ((p.toNat : Nat) : Int) = p := by omega
            have z : atI (ns.map V.int) ((p.toNat : Nat) : Int) = some (.int ns[p.toNat]) := atI_nat (by rw [List.getElem?_map, List.getElem?_eq_getElem hk]; rfl)
            rw [e] at z
            exact z
          refine ⟨_, rfl, st, _, 2, _, rfl, rfl, SqL.of h1, atI_nat (j := 2) rfl, _, rfl, l, _, p, _, rfl, rfl, SqL.of hns1, hg, ?_⟩
          exact ⟨_, rfl, rfl⟩
        · exact ⟨_, rfl, rfl⟩
      · rintro σ' H' ⟨cell, rfl, rfl⟩
        refine ⟨_, rfl, 10, 18, rfl, rfl, ⟨by decide, by decide, by decide⟩, _, _, rfl, rfl, _, rfl, ite2 (fun hge => ?_) (fun _ => ?_)⟩
        · have hge2 : cell ≥ 10 ^ 18 := of_decide_eq_true hge
          refine ⟨_, rfl, _, rfl, st, _, 0, 0, rfl, rfl, h1, rfl, ?_⟩
          refine ⟨_, _, _, _, rfl, fun b o nb e => by rw [upd_ne nb, upd_ne nb]; exact e, cell, p + 1, c, ns, upd_same, by omega, by omega, hc, hc2, hl, ?_⟩
          rw [upd_ne hl]
          exact hns1
        · have le1 : Le st H (upd H st (.lst ([.int a, .int p, .ref l, .int c].set 1 (.int (p + 1))))) := Le.st _
          refine ⟨fun σ' H' => ∃ x : Int, σ' = [some (.ref st), some (.int n), some (.int p), some (.int cell), none, none] ∧ 0 ≤ x ∧ x < 2147483647 ∧ H' st = some (.lst [.int a, .int (p + 1), .ref l, .int x]) ∧ H' l = some (.lst (ns.map V.int)) ∧ Le st H H', ?_, ?_⟩
          · refine ⟨_, rfl, st, _, 3, _, rfl, rfl, SqL.of h1, atI_nat (j := 3) rfl, _, rfl, .inl ⟨_, rfl, _, _, rfl, rfl, (by show (2147483629 : Int) ≠ 0; decide), _, _, rfl, rfl, ?_⟩⟩
            refine ⟨_, rfl, _, _, rfl, rfl, _, _, rfl, rfl, _, _, rfl, rfl, .inr (by decide), .inl ⟨_, rfl, _, _, rfl, rfl, (by show (2147483647 : Int) ≠ 0; decide), ?_⟩⟩
            refine ⟨_, rfl, st, _, 3, 3, rfl, rfl, h1, rfl, ?_⟩
            exact ⟨_, rfl, Int.fmod_nonneg_of_pos _ (by decide), Int.fmod_lt_of_pos _ (by decide), upd_same, by rw [upd_ne hl]; exact hns1, le1.trans (Le.st _)⟩
          · rintro σ' H2 ⟨x, rfl, hx0, hx1, h2, hns2, le2⟩
            refine ⟨fun σ' H' => ∃ m : Int, σ' = [some (.ref st), some (.int n), some (.int p), some (.int cell), some (.int m), none] ∧ 0 ≤ m ∧ H' = H2, ?_, ?_⟩
            · refine ⟨_, rfl, st, _, 3, _, rfl, rfl, SqL.of h2, atI_nat (j := 3) rfl, _, _, rfl, rfl, .inr (by decide), _, _, rfl, rfl, .inl ⟨_, rfl, _, _, rfl, rfl, (by show (2147483629 : Int) ≠ 0; decide), ?_⟩⟩
              exact ⟨_, rfl, Int.fmod_nonneg_of_pos _ (by decide), rfl⟩
            · rintro σ' H3 ⟨m, rfl, hm0, rfl⟩
              refine ⟨_, rfl, _, _, rfl, rfl, .inr (by decide), _, rfl, _, _, rfl, rfl, .inr (by decide), _, rfl, st, _, 3, _, rfl, rfl, SqL.of h2, atI_nat (j := 3) rfl, _, _, rfl, rfl, .inl ⟨_, rfl, _, _, rfl, rfl, (by show (2147483587 : Int) ≠ 0; decide), _, _, rfl, rfl, ?_⟩⟩
              refine ⟨_, rfl, st, _, 0, 0, rfl, rfl, h2, rfl, ?_⟩
              have hk0 : 0 ≤ Int.fmod (m * 30011 + x) 2147483587 := Int.fmod_nonneg_of_pos _ (by decide)
              refine ⟨_, _, _, _, rfl, le2.trans (Le.st _), m * 2147483647 + Int.fmod (m * 30011 + x) 2147483587, p + 1, x, ns, upd_same, by omega, by omega, hx0, hx1, hl, ?_⟩
              rw [upd_ne hl]
              exact hns2
    · exact ⟨_, _, _, _, rfl, Le.refl _ _, a, p, c, ns, h, ha, hp, hc, hc2, hl, hns⟩
  · rintro σ' H' ⟨y2, y3, y4, y5, rfl, le, a, p, c, ns, h, ha, hp, hc, hc2, hl, hns⟩
    refine ⟨_, rfl, st, _, 0, _, rfl, rfl, SqL.of h, atI_nat (j := 0) rfl, .inl ⟨_, rfl, ?_⟩⟩
    refine ⟨_, rfl, _, _, rfl, rfl, (by omega), ?_⟩
    refine ⟨_, rfl, st, _, 0, _, rfl, rfl, SqL.of h, atI_nat (j := 0) rfl, _, rfl, _, _, rfl, rfl, wide_div hn0 hn (by decide) (by decide), ?_⟩
    refine ⟨_, rfl, st, _, 0, 0, rfl, rfl, h, rfl, ?_⟩
    refine ⟨_, rfl, ?_⟩
    refine q _ _ (Int.fmod_nonneg_of_pos _ hn0) (Int.fmod_lt_of_pos _ hn0) (fun b o nb e => by rw [upd_ne nb]; exact le _ _ nb e) ⟨a / n, p, c, ns, upd_same, Int.ediv_nonneg ha (by omega), hp, hc, hc2, hl, by rw [upd_ne hl]; exact hns⟩
end

abbrev sKey : Stmt := topS 54
abbrev sRow : Stmt := topS 55
/-! ### data that never changes -/
/-- tuples stand as they stood -/
def Tk (H H' : Hp) : Prop := ∀ a xs, H a = some (.tup xs) → H' a = some (.tup xs)
theorem Tk.refl (H : Hp) : Tk H H := fun _ _ h => h
theorem Tk.trans {H H1 H2 : Hp} (a : Tk H H1) (b : Tk H1 H2) : Tk H H2 := fun c o h => b c o (a c o h)
theorem Tk.same {H H' : Hp} (s : Same H H') : Tk H H' := fun _ _ h => s _ _ h
theorem Tk.le {st l : Addr} {H H' : Hp} (g : Good st l H) (s : Le st H H') : Tk H H' := fun a xs h => s a _ (fun e => by
  obtain ⟨i, p, c, ns, h2, _⟩ := g
  rw [e, h2] at h
  cases h) h
/-- a store to what is no tuple -/
theorem Tk.put {H : Hp} {p : Addr} (o : HO) (h : ∀ xs, H p ≠ some (.tup xs)) : Tk H (upd H p o) := fun a xs e => by
  rw [upd_ne (fun z => h xs (by rw [← z]; exact e))]
  exact e
theorem Tk.new {H : Hp} {p : Addr} (h : H p = none) (o : HO) : Tk H (upd H p o) := Tk.same (same_new h o)
mutual
inductive TD (H : Hp) : V → PyData → Prop
  | non : TD H .non .none
  | int (i : Int) : TD H (.int i) (.int i)
  | str (x : Str) : TD H (.str x) (.str x)
  | bl (b : Bool) : TD H (.bl b) (.bool b)
  | tup {a : Addr} {xs : List V} {ds : List PyData} : H a = some (.tup xs) → TDs H xs ds → TD H (.ref a) (.tuple ds)
inductive TDs (H : Hp) : List V → List PyData → Prop
  | nil : TDs H [] []
  | cons {v : V} {vs : List V} {d : PyData} {ds : List PyData} : TD H v d → TDs H vs ds → TDs H (v :: vs) (d :: ds)
end
mutual
theorem TD.mono {H H' : Hp} (k : Tk H H') : ∀ (d : PyData) (v : V), TD H v d → TD H' v d
  | _, _, .non => .non
  | _, _, .int i => .int i
  | _, _, .str x => .str x
  | _, _, .bl b => .bl b
  | .tuple ds, .ref a, .tup (xs := xs) h hs => .tup (k _ _ h) (TDs.mono k ds xs hs)
theorem TDs.mono {H H' : Hp} (k : Tk H H') : ∀ (ds : List PyData) (vs : List V), TDs H vs ds → TDs H' vs ds
  | _, _, .nil => .nil
  | d :: ds, v :: vs, .cons h hs => .cons (TD.mono k d v h) (TDs.mono k ds vs hs)
end
mutual
theorem TD.dp {K : PySem.W.Frag} {H : Hp} : ∀ (d : PyData) (v : V), TD H v d → Dp K H v d
  | _, _, .non => .non
  | _, _, .int i => .int i
  | _, _, .str x => .str x
  | _, _, .bl b => .bl b
  | .tuple ds, .ref a, .tup (xs := xs) h hs => .tup (SqT.of h) (TDs.dp ds xs hs)
theorem TDs.dp {K : PySem.W.Frag} {H : Hp} : ∀ (ds : List PyData) (vs : List V), TDs H vs ds → DpAll K H vs ds
  | _, _, .nil => .nil
  | d :: ds, v :: vs, .cons h hs => .cons (TD.dp d v h) (TDs.dp ds vs hs)
end
theorem TDs.length {H : Hp} : ∀ {vs : List V} {ds : List PyData}, TDs H vs ds → vs.length = ds.length
  | _, _, .nil => rfl
  | _, _, .cons _ h => congrArg Nat.succ (TDs.length h)
theorem TDs.get {H : Hp} : ∀ {vs : List V} {ds : List PyData}, TDs H vs ds → ∀ (i : Nat) (v : V), vs[i]? = some v → ∃ d, ds[i]? = some d ∧ TD H v d
  | _, _, .nil, i, v, h => by simp at h
  | _, _, .cons h1 h, 0, v, e => ⟨_, rfl, by
      have e2 := Option.some.inj e
      rw [← e2]
      exact h1⟩
  | _, _, .cons h1 h, i + 1, v, e => TDs.get h i v e
theorem TDs.app {H : Hp} : ∀ {vs ws : List V} {ds es : List PyData}, TDs H vs ds → TDs H ws es → TDs H (vs ++ ws) (ds ++ es)
  | _, _, _, _, .nil, h => h
  | _, _, _, _, .cons h1 h2, h => .cons h1 (TDs.app h2 h)
theorem TDs.ints {H : Hp} : ∀ ns : List Int, TDs H (ns.map V.int) (ns.map PyData.int)
  | [] => .nil
  | n :: r => .cons (.int n) (TDs.ints r)
def rowD (ns : List Int) : PyData := .tuple (ns.map PyData.int)
def pairD (p : Str × List Int) : PyData := .tuple [.str p.1, rowD p.2]
/-! ### keys, rows -/
def letS : Str := "abcdefghijklmnopqrstuvwxyz0123456789"
def KeyOk (s : Str) : Prop := 1 ≤ s.length ∧ s.length ≤ 8 ∧ ∀ c ∈ s.cps.toList, c ∈ letS.cps.toList
def RowOk (ns : List Int) : Prop := 1 ≤ ns.length ∧ ns.length ≤ 3 ∧ ∀ n ∈ ns, 0 ≤ n ∧ n ≤ 65535
theorem pick {z : Str} {d : Int} (h0 : 0 ≤ d) (h1 : d < (z.cps.toList.length : Int)) : ∃ c, atI z.cps.toList d = some c ∧ c ∈ z.cps.toList := by
  have hk : d.toNat < z.cps.toList.length := by omega
  have e : ((d.toNat : Nat) : Int) = d := by omega
  have q : atI z.cps.toList ((d.toNat : Nat) : Int) = some z.cps.toList[d.toNat] := atI_nat (List.getElem?_eq_getElem hk)
  rw [e] at q
  exact ⟨_, q, List.getElem_mem hk⟩
def spKey : Sp := fun vs H Q _ => ∃ st l : Addr, vs = [.ref st] ∧ Good st l H ∧ ∀ s H', KeyOk s → Le st H H' → Good st l H' → Q (.str s) H'
def spRow : Sp := fun vs H Q _ => ∃ st l : Addr, vs = [.ref st] ∧ Good st l H ∧ ∀ r ns H', RowOk ns → Le st H H' → Good st l H' → H' r = some (.tup (ns.map V.int)) → Q (.ref r) H'
theorem scKey : FnScope ["state", "letters", "choice", "key", "k"] ["state"] (defScope sKey) := ⟨rfl, rfl, rfl, by decide +kernel, rfl, by decide +kernel, by decide +kernel⟩
theorem scRow : FnScope ["state", "k"] ["state"] (defScope sRow) := ⟨rfl, rfl, rfl, by decide +kernel, rfl, by decide +kernel, by decide +kernel⟩
theorem sub1 : ∀ c ∈ ("abcdefghij" : Str).cps.toList, c ∈ letS.cps.toList := by decide +kernel
theorem sub2 : ∀ c ∈ ("ab0z" : Str).cps.toList, c ∈ letS.cps.toList := by decide +kernel
theorem sub3 : ∀ c ∈ ("ab9" : Str).cps.toList, c ∈ letS.cps.toList := by decide +kernel
theorem len1 : (("abcdefghij" : Str).cps.toList.length : Int) = 10 := by decide +kernel
theorem len2 : (("ab0z" : Str).cps.toList.length : Int) = 4 := by decide +kernel
theorem len3 : (("ab9" : Str).cps.toList.length : Int) = 3 := by decide +kernel
theorem lenL : (letS.cps.toList.length : Int) = 36 := by decide +kernel
theorem app_list (a b : Str) : (a ++ b).cps.toList = a.cps.toList ++ b.cps.toList := Array.toList_append
theorem str_len (a : Str) : a.length = a.cps.toList.length := (Array.length_toList).symm
theorem app_len (a b : Str) : (a ++ b).length = a.length + b.length := by
  rw [str_len, str_len, str_len, app_list, List.length_append]
theorem KeyOk.app {s : Str} {c : Nat} (h : s.length < 8) (hs : ∀ c ∈ s.cps.toList, c ∈ letS.cps.toList) (hc : c ∈ letS.cps.toList) : KeyOk (s ++ ⟨#[c]⟩) := by
  refine ⟨?_, ?_, fun x hx => ?_⟩
  · rw [app_len]
    show 1 ≤ s.length + 1
    omega
  · rw [app_len]
    show s.length + 1 ≤ 8
    omega
  · rw [app_list, List.mem_append] at hx
    rcases hx with hx | hx
    · exact hs x hx
    · have e : x = c := by simpa using hx
      rw [e]
      exact hc
theorem pow7 {n : Nat} (h : n ≤ 100000) : n < 2 ^ 200 := Nat.lt_of_le_of_lt h (by decide)
section
variable {P : Program} {w : World} {K : PySem.W.Frag} {mg : Str → Option Value} {base : Heap}
theorem ok_key (D : Def K mg "_law_key" sKey ["state"]) (DD : Def K mg "_law_draw" sDraw ["state", "limit"]) (mr : mg "range" = none) (GD : FnOk P w K mg base CX0 1 DD.f DD.fd ["state", "limit"] spDraw) : FnOk P w K mg base CX0 2 D.f D.fd ["state"] spKey := by
  refine D.F.ok scKey (fun vs H Q E h => ?_) (fun cdv A outer s H vs Q E hr h => ?_)
  · obtain ⟨st, l, rfl, _⟩ := h
    rfl
  obtain ⟨st, l, rfl, g, q⟩ := h
  refine ⟨_, pss_cons (ps_set (i := 1) scKey.nd rfl (.inl rfl) pe_str)
    (pss_cons (ps_set (i := 2) scKey.nd rfl (.inl rfl) (pe_call GD hr (by rfl) DD.m DD.F.kp DD.b .nil pass0 (pa_cons (pv 0) (pa_cons pe_int pa_nil))))
    (pss_cons (ps_if (pt_cmpR op_eq (pv 2) pe_int (nomark _))
      (pss_one (ps_ret (pe_ix ix_str pe_str (pe_call GD hr (by rfl) DD.m DD.F.kp DD.b .nil pass0 (pa_cons (pv 0) (pa_cons pe_int pa_nil))) (fun _ _ => rfl)))) pss_nil)
    (pss_cons (ps_if (pt_cmpR op_eq (pv 2) pe_int (nomark _))
      (pss_one (ps_ret (pe_op op_add_str (pe_ix ix_str pe_str (pe_call GD hr (by rfl) DD.m DD.F.kp DD.b .nil pass0 (pa_cons (pv 0) (pa_cons pe_int pa_nil))) (fun _ _ => rfl)) (pe_ix ix_str pe_str (pe_call GD hr (by rfl) DD.m DD.F.kp DD.b .nil pass0 (pa_cons (pv 0) (pa_cons pe_int pa_nil))) (fun _ _ => rfl))))) pss_nil)
    (pss_cons (ps_set (i := 3) scKey.nd rfl (.inl rfl) pe_str)
    (pss_cons (ps_for PassesOwn.never rfl (pi_range1 (by rfl) mr (pa_cons (pe_op op_add pe_int (pe_call GD hr (by rfl) DD.m DD.F.kp DD.b .nil pass0 (pa_cons (pv 0) (pa_cons pe_int pa_nil)))) pa_nil)) (pg_name (i := 4) scKey.nd rfl (.inl rfl))
      (pss_one (ps_set (i := 3) scKey.nd rfl (.inl rfl) (pe_op op_add_str (pv 3) (pe_ix ix_str (pv 1) (pe_call GD hr (by rfl) DD.m DD.F.kp DD.b .nil pass0 (pa_cons (pv 0) (pa_cons pe_int pa_nil))) (fun _ _ => rfl))))))
    (pss_one (ps_ret (pv 3)))))))), ?_⟩
  refine ⟨_, rfl, st, l, 3, rfl, g, by decide, by decide, fun d H1 d0 d1 le1 g1 => ?_⟩
  refine ⟨_, rfl, rfl, _, rfl, ite2 (fun _ => ?_) (fun _ => ?_)⟩
  · refine ⟨_, rfl, st, l, 10, rfl, g1, by decide, by decide, fun d2 H2 d20 d21 le2 g2 => ?_⟩
    obtain ⟨c, hc, hm⟩ := pick (z := "abcdefghij") d20 (by rw [len1]; exact d21)
    refine ⟨_, _, c, rfl, rfl, by decide, hc, ?_⟩
    refine q _ _ ⟨by show 1 ≤ 1; decide, by show 1 ≤ 8; decide, fun x hx => ?_⟩ (le1.trans le2) g2
    have e : x = c := by simpa using hx
    rw [e]
    exact sub1 c hm
  refine ⟨_, rfl, rfl, _, rfl, ite2 (fun _ => ?_) (fun _ => ?_)⟩
  · refine ⟨_, rfl, st, l, 4, rfl, g1, by decide, by decide, fun d2 H2 d20 d21 le2 g2 => ?_⟩
    obtain ⟨c, hc, hm⟩ := pick (z := "ab0z") d20 (by rw [len2]; exact d21)
    refine ⟨_, _, c, rfl, rfl, by decide, hc, ?_⟩
    refine ⟨_, rfl, st, l, 3, rfl, g2, by decide, by decide, fun d3 H3 d30 d31 le3 g3 => ?_⟩
    obtain ⟨c3, hc3, hm3⟩ := pick (z := "ab9") d30 (by rw [len3]; exact d31)
    refine ⟨_, _, c3, rfl, rfl, by decide, hc3, ?_⟩
    refine ⟨_, _, rfl, rfl, by show 2 ≤ sizeLine; decide, ?_⟩
    refine q _ _ (KeyOk.app (by show 1 < 8; decide) (fun x hx => ?_) (sub3 c3 hm3)) ((le1.trans le2).trans le3) g3
    have e : x = c := by simpa using hx
    rw [e]
    exact sub2 c hm
  refine ⟨_, rfl, st, l, 8, rfl, g1, by decide, by decide, fun d2 H2 d20 d21 le2 g2 => ?_⟩
  refine ⟨_, _, rfl, rfl, _, rfl, by omega, by omega, for_range (lo := 0) (n := (1 + d2).toNat) (fun i σ H' => ∃ s y, σ = [some (.ref st), some (.str letS), some (.int d), some (.str s), y] ∧ s.length = i ∧ (∀ c ∈ s.cps.toList, c ∈ letS.cps.toList) ∧ Le st H H' ∧ Good st l H') ?_ ?_ ?_⟩
  · exact ⟨_, _, rfl, rfl, fun c hc => (by cases hc), le1.trans le2, g2⟩
  · rintro i σ H' hi ⟨s, y, rfl, hl, hs, le, g3⟩
    refine ⟨_, rfl, _, rfl, _, rfl, st, l, 36, rfl, g3, by decide, by decide, fun d3 H3 d30 d31 le3 g3 => ?_⟩
    obtain ⟨c, hc, hm⟩ := pick (z := letS) d30 (by rw [lenL]; exact d31)
    refine ⟨_, _, c, rfl, rfl, by decide +kernel, hc, ?_⟩
    have hl8 : s.length < 8 := by omega
    refine ⟨_, _, rfl, rfl, by show s.length + 1 ≤ sizeLine; exact small (by omega), ?_⟩
    refine ⟨_, _, rfl, ?_, (KeyOk.app hl8 hs hm).2.2, le.trans le3, g3⟩
    rw [app_len, hl]
    rfl
  · rintro σ H' ⟨s, y, rfl, hl, hs, le, g3⟩
    exact ⟨_, rfl, q _ _ ⟨by omega, by omega, hs⟩ le g3⟩
theorem ok_row (D : Def K mg "_law_row" sRow ["state"]) (DD : Def K mg "_law_draw" sDraw ["state", "limit"]) (mr : mg "range" = none) (mt : mg "tuple" = none) (GD : FnOk P w K mg base CX0 1 DD.f DD.fd ["state", "limit"] spDraw) : FnOk P w K mg base CX0 2 D.f D.fd ["state"] spRow := by
  refine D.F.ok scRow (fun vs H Q E h => ?_) (fun cdv A outer s H vs Q E hr h => ?_)
  · obtain ⟨st, l, rfl, _⟩ := h
    rfl
  obtain ⟨st, l, rfl, g, q⟩ := h
  refine ⟨_, pss_one (ps_ret (pe_callTy call_tuple_of (by rfl) mt (by decide +kernel) (pa_cons (pe_lc (own := [("k", 1)]) (g := gName 1) (by rfl) scRow.nd
      (pi_range1 (by rfl) mr (pa_cons (pe_op op_add pe_int (pe_call GD hr (by rfl) DD.m DD.F.kp DD.b .nil pass0 (pa_cons (pv 0) (pa_cons pe_int pa_nil)))) pa_nil))
      (blkOk_by (own := [("k", 1)]) (N := ["state", "k"]) (sc := defScope sRow) (by decide +kernel))
      (fun _ _ _ _ _ => pg_name (i := 1) scRow.nd rfl (Or.inl rfl)) (fun _ _ _ _ _ => pts_nil)
      (fun _ _ _ _ _ => pe_call GD hr (by rfl) DD.m DD.F.kp DD.b .nil pass0 (pa_cons (pv 0) (pa_cons (pe_ix (r := rIxL K) ix_list (pe_lst (pa_cons pe_int (pa_cons pe_int pa_nil))) (pe_call GD hr (by rfl) DD.m DD.F.kp DD.b .nil pass0 (pa_cons (pv 0) (pa_cons pe_int pa_nil))) (fun _ _ => rfl)) pa_nil)))) pa_nil))), ?_⟩
  refine ⟨_, rfl, st, l, 3, rfl, g, by decide, by decide, fun d H1 d0 d1 le1 g1 => ?_⟩
  refine ⟨_, _, rfl, rfl, _, rfl, by omega, by omega, fun D hD => ?_⟩
  refine lc_range (lo := 0) (n := (1 + d).toNat) (fun i H' => ∃ ns : List Int, H' D = some (.lst (ns.map V.int)) ∧ ns.length = i ∧ (∀ n ∈ ns, 0 ≤ n ∧ n ≤ 65535) ∧ Le st H1 H' ∧ Good st l H') ?_ ?_ ?_
  · exact ⟨[], upd_same, rfl, fun n hn => (by cases hn), Le.of (same_new hD _), g1.same (same_new hD _)⟩
  · rintro i H2 hi ⟨ns, hns, hl, hb, le2, g2⟩
    refine ⟨rfl, ?_⟩
    refine ⟨_, rfl, by show 2 ≤ sizeLine; decide, fun z hz => ?_⟩
    have nDz : D ≠ z := ne_of_none hns hz
    have g3 := g2.same (same_new hz (.lst [.int 4, .int 65536]))
    refine ⟨_, rfl, st, l, 2, rfl, g3, by decide, by decide, fun d3 H3 d30 d31 le3 g3 => ?_⟩
    have hz3 : H3 z = some (.lst [.int 4, .int 65536]) := le3 z _ (g2.ne hz).1 upd_same
    have hD3 : H3 D = some (.lst (ns.map V.int)) := le3 D _ (g1.ne hD).1 (by rw [upd_ne nDz]; exact hns)
    obtain ⟨m, hm, m0, m1⟩ : ∃ m : Int, atI [V.int 4, .int 65536] d3 = some (.int m) ∧ 0 < m ∧ m ≤ 65536 := by
      rcases (by omega : d3 = 0 ∨ d3 = 1) with e | e
      · exact ⟨4, by rw [e]; rfl, by decide, by decide⟩
      · exact ⟨65536, by rw [e]; rfl, by decide, by decide⟩
    refine ⟨z, _, d3, _, rfl, rfl, SqL.of hz3, hm, ?_⟩
    refine ⟨st, l, m, rfl, g3, m0, pow7 (by omega), fun d4 H4 d40 d41 le4 g4 => ?_⟩
    have hD4 : H4 D = some (.lst (ns.map V.int)) := le4 D _ (g1.ne hD).1 hD3
    refine ⟨_, hD4, ?_, ns ++ [d4], ?_, ?_, ?_, ?_, g4.put (g1.ne hD)⟩
    · rw [List.length_map]
      exact small1000 (by omega)
    · rw [upd_same, List.map_append]
      rfl
    · rw [List.length_append, hl]
      rfl
    · intro n hn
      rw [List.mem_append] at hn
      rcases hn with hn | hn
      · exact hb n hn
      · have e : n = d4 := by simpa using hn
        omega
    · exact (((le2.trans (Le.of (same_new hz _))).trans le3).trans le4).mut hD
  · rintro H2 ⟨ns, hns, hl, hb, le2, g2⟩
    refine ⟨D, _, rfl, .inl ⟨SqL.of hns, fun r hr2 => ?_⟩⟩
    refine q r ns _ ⟨by omega, by omega, hb⟩ ((le1.trans le2).trans (Le.of (same_new hr2 _))) (g2.same (same_new hr2 _)) upd_same
end

abbrev sTable : Stmt := topS 56
/-! ### order of keys -/
def Lt (a b : Str) : Prop := a.cps.toList < b.cps.toList
theorem tri : ∀ a b : List Nat, a < b ∨ a = b ∨ b < a
  | [], [] => .inr (.inl rfl)
  | [], _ :: _ => .inl (by simp)
  | _ :: _, [] => .inr (.inr (by simp))
  | x :: a, y :: b => by
    rcases Nat.lt_trichotomy x y with h | h | h
    · exact .inl (List.cons_lt_cons_iff.mpr (.inl h))
    · subst h
      rcases tri a b with q | q | q
      · exact .inl (List.cons_lt_cons_iff.mpr (.inr ⟨rfl, q⟩))
      · exact .inr (.inl (by rw [q]))
      · exact .inr (.inr (List.cons_lt_cons_iff.mpr (.inr ⟨rfl, q⟩)))
    · exact .inr (.inr (List.cons_lt_cons_iff.mpr (.inl h)))
theorem ltr : ∀ {a b c : List Nat}, a < b → b < c → a < c
  | _, [], _, h, _ => absurd h (by simp)
  | _, _ :: _, [], _, h => absurd h (by simp)
  | [], _ :: _, _ :: _, _, _ => by simp
  | x :: a, y :: b, z :: c, h, k => by
    rw [List.cons_lt_cons_iff] at h k ⊢
    rcases h with h | ⟨rfl, h⟩
    · rcases k with k | ⟨rfl, k⟩
      · exact .inl (Nat.lt_trans h k)
      · exact .inl h
    · rcases k with k | ⟨rfl, k⟩
      · exact .inl k
      · exact .inr ⟨rfl, ltr h k⟩
theorem lirr : ∀ {a : List Nat}, ¬ a < a
  | [], h => absurd h (by simp)
  | x :: a, h => by
    rw [List.cons_lt_cons_iff] at h
    rcases h with h | ⟨_, h⟩
    · exact Nat.lt_irrefl _ h
    · exact lirr h
theorem Lt.trans {a b c : Str} (h : Lt a b) (k : Lt b c) : Lt a c := ltr h k
theorem Lt.irrefl {a : Str} : ¬ Lt a a := lirr
theorem str_ext {a b : Str} (h : a.cps.toList = b.cps.toList) : a = b := by
  cases a
  cases b
  exact congrArg Str.mk (Array.toList_inj.mp h)
theorem Lt.tri (a b : Str) : Lt a b ∨ a = b ∨ Lt b a := by
  rcases RR.tri a.cps.toList b.cps.toList with h | h | h
  · exact .inl h
  · exact .inr (.inl (str_ext h))
  · exact .inr (.inr h)
theorem asc_of : ∀ (r : List Str) (p : Str), risingS p r = true → (p :: r).Nodup → (p :: r).Pairwise Lt
  | [], p, _, _ => List.pairwise_singleton _ _
  | x :: r, p, h, n => by
    have h1 : (!ltCps x.cps.toList p.cps.toList && risingS x r) = true := h
    rw [Bool.and_eq_true] at h1
    have h2 := h1.1
    rw [ltCps_eq] at h2
    have n2 := List.nodup_cons.mp n
    have hx : Lt p x := by
      rcases Lt.tri p x with k | k | k
      · exact k
      · exact absurd (by rw [k]; exact List.mem_cons_self) n2.1
      · rw [decide_eq_true (show x.cps.toList < p.cps.toList from k)] at h2
        cases h2
    have ih := asc_of r x h1.2 n2.2
    refine List.pairwise_cons.mpr ⟨fun y hy => ?_, ih⟩
    rcases List.mem_cons.mp hy with e | e
    · rw [e]
      exact hx
    · exact hx.trans (List.rel_of_pairwise_cons ih e)
theorem asc {ys : List Str} (h : sortedS ys = true) (n : ys.Nodup) : ys.Pairwise Lt := by
  cases ys with
  | nil => exact List.Pairwise.nil
  | cons x r => exact asc_of r x h n
def TabOk (tb : List (Str × List Int)) : Prop := (tb.map (·.1)).Pairwise Lt ∧ ∀ p ∈ tb, KeyOk p.1 ∧ RowOk p.2
/-! ### dicts -/
theorem mem_put {kvs : List (Key × V)} {k : Key} {v : V} {e : Key × V} (h : e ∈ putK kvs k v) : e = (k, v) ∨ e ∈ kvs := by
  unfold putK at h
  split at h
  · obtain ⟨a, ha, rfl⟩ := List.mem_map.mp h
    by_cases q : a.1 = k
    · rw [if_pos q, q]
      exact .inl rfl
    · rw [if_neg q]
      exact .inr ha
  · rcases List.mem_append.mp h with h | h
    · exact .inr h
    · exact .inl (by simpa using h)
theorem put_keys (kvs : List (Key × V)) (k : Key) (v : V) : (k ∈ kvs.map (·.1) ∧ (putK kvs k v).map (·.1) = kvs.map (·.1)) ∨ (k ∉ kvs.map (·.1) ∧ (putK kvs k v).map (·.1) = kvs.map (·.1) ++ [k]) := by
  have ha : (kvs.any fun kv => decide (kv.1 = k)) = true ↔ k ∈ kvs.map (·.1) := by
    rw [List.any_eq_true, List.mem_map]
    constructor
    · rintro ⟨x, hx, e⟩
      exact ⟨x, hx, of_decide_eq_true e⟩
    · rintro ⟨x, hx, e⟩
      exact ⟨x, hx, decide_eq_true e⟩
  unfold putK
  by_cases h : k ∈ kvs.map (·.1)
  · refine .inl ⟨h, ?_⟩
    rw [if_pos (ha.mpr h), List.map_map]
    refine List.map_congr_left fun x _ => ?_
    show (if x.1 = k then (x.1, v) else x).1 = x.1
    split <;> rfl
  · refine .inr ⟨h, ?_⟩
    rw [if_neg (fun z => h (ha.mp z)), List.map_append]
    rfl
theorem val_mem {kvs : List (Key × V)} {k : Key} (h : k ∈ kvs.map (·.1)) : ∃ v, valV kvs k = some v ∧ (k, v) ∈ kvs := by
  induction kvs with
  | nil => cases h
  | cons p r ih =>
    by_cases e : p.1 = k
    · exact ⟨p.2, valV_pos e, by rw [← e]; exact List.mem_cons_self⟩
    · rw [List.map_cons, List.mem_cons] at h
      rcases h with h | h
      · exact absurd h.symm e
      · obtain ⟨v, hv, hm⟩ := ih h
        exact ⟨v, by rw [valV_neg e]; exact hv, List.mem_cons_of_mem _ hm⟩
def RowsOk (H : Hp) (kvs : List (Key × V)) : Prop := (kvs.map (·.1)).Nodup ∧ ∀ e ∈ kvs, ∃ s ns, e.1 = .inr s ∧ KeyOk s ∧ RowOk ns ∧ TD H e.2 (rowD ns)
theorem RowsOk.mono {H H' : Hp} {kvs : List (Key × V)} (k : Tk H H') (h : RowsOk H kvs) : RowsOk H' kvs := ⟨h.1, fun e he => by
  obtain ⟨s, ns, h1, h2, h3, h4⟩ := h.2 e he
  exact ⟨s, ns, h1, h2, h3, TD.mono k _ _ h4⟩⟩
theorem RowsOk.put {H : Hp} {kvs : List (Key × V)} {s : Str} {v : V} {ns : List Int} (h : RowsOk H kvs) (hs : KeyOk s) (hn : RowOk ns) (hv : TD H v (rowD ns)) : RowsOk H (putK kvs (.inr s) v) := by
  refine ⟨?_, fun e he => ?_⟩
  · rcases put_keys kvs (.inr s) v with ⟨hk, q⟩ | ⟨hk, q⟩
    · rw [q]
      exact h.1
    · rw [q]
      refine List.nodup_append.mpr ⟨h.1, by simp, fun a ha b hb => ?_⟩
      have e : b = Sum.inr s := by simpa using hb
      intro z
      rw [z, e] at ha
      exact hk ha
  · rcases mem_put he with e | e
    · rw [e]
      exact ⟨s, ns, rfl, hs, hn, hv⟩
    · exact h.2 _ e
theorem put_len (kvs : List (Key × V)) (k : Key) (v : V) : (putK kvs k v).length ≤ kvs.length + 1 := by
  rcases put_keys kvs k v with ⟨hk, q⟩ | ⟨hk, q⟩
  · have h := congrArg List.length q
    rw [List.length_map, List.length_map] at h
    omega
  · have h := congrArg List.length q
    rw [List.length_map, List.length_append, List.length_map, List.length_singleton] at h
    omega
theorem RowsOk.strs {H : Hp} {kvs : List (Key × V)} (h : RowsOk H kvs) : ∃ ks : List Str, kvs.map (·.1) = ks.map Sum.inr ∧ ks.Nodup := by
  obtain ⟨h1, h2⟩ := h
  induction kvs with
  | nil => exact ⟨[], rfl, List.nodup_nil⟩
  | cons p r ih =>
    rw [List.map_cons, List.nodup_cons] at h1
    obtain ⟨ks, e, n⟩ := ih h1.2 fun e he => h2 e (List.mem_cons_of_mem _ he)
    obtain ⟨s, ns, e1, _⟩ := h2 p List.mem_cons_self
    refine ⟨s :: ks, by rw [List.map_cons, List.map_cons, e, e1], List.nodup_cons.mpr ⟨fun hs => ?_, n⟩⟩
    refine h1.1 ?_
    rw [e, e1]
    exact List.mem_map.mpr ⟨s, hs, rfl⟩
theorem Le.free {st l : Addr} {H H' : Hp} {D : Addr} (le : Le st H H') (g : Good st l H') (h : H' D = none) : H D = none := by
  cases e : H D with
  | none => rfl
  | some o =>
    rw [le D o (g.ne h).1 e] at h
    cases h
def spTable : Sp := fun vs H Q _ => ∃ (st l : Addr) (most : Int), vs = [.ref st, .int most] ∧ Good st l H ∧ 0 ≤ most ∧ most ≤ 30 ∧
  ∀ t vs tb H', TabOk tb → (tb.length : Int) ≤ most → H t = none → Le st H H' → Good st l H' → H' t = some (.lst vs) → TDs H' vs (tb.map pairD) → Q (.ref t) H'
theorem scTable : FnScope ["state", "most", "rows", "k", "key"] ["state", "most"] (defScope sTable) := ⟨rfl, rfl, rfl, by decide +kernel, rfl, by decide +kernel, by decide +kernel⟩
section
variable {P : Program} {w : World} {K : PySem.W.Frag} {mg : Str → Option Value} {base : Heap}
theorem ok_table (D : Def K mg "_law_table" sTable ["state", "most"]) (DD : Def K mg "_law_draw" sDraw ["state", "limit"]) (DK : Def K mg "_law_key" sKey ["state"]) (DR : Def K mg "_law_row" sRow ["state"]) (mr : mg "range" = none) (ms : mg "sorted" = none)
    (GD : FnOk P w K mg base CX0 1 DD.f DD.fd ["state", "limit"] spDraw) (GK : FnOk P w K mg base CX0 2 DK.f DK.fd ["state"] spKey) (GR : FnOk P w K mg base CX0 2 DR.f DR.fd ["state"] spRow) : FnOk P w K mg base CX0 3 D.f D.fd ["state", "most"] spTable := by
  refine D.F.ok scTable (fun vs H Q E h => ?_) (fun cdv A outer s H vs Q E hr h => ?_)
  · obtain ⟨st, l, most, rfl, _⟩ := h
    rfl
  obtain ⟨st, l, most, rfl, g, hm0, hm1, q⟩ := h
  refine ⟨_, pss_cons (ps_set (i := 2) scTable.nd rfl (.inr rfl) pe_dnewK)
    (pss_cons (ps_for PassesOwn.never rfl (pi_range1 (by rfl) mr (pa_cons (pe_call GD (hr.mono (by decide)) (by rfl) DD.m DD.F.kp DD.b .nil pass0 (pa_cons (pv 0) (pa_cons (pe_op op_add (pv 1) pe_int) pa_nil))) pa_nil)) (pg_name (i := 3) scTable.nd rfl (.inl rfl))
      (pss_cons (ps_set (i := 4) scTable.nd rfl (.inl rfl) (pe_call GK hr (by rfl) DK.m DK.F.kp DK.b .nil pass0 (pa_cons (pv 0) pa_nil)))
      (pss_one (ps_dput (hu_of hr) (pv 2) (pv 4) (pe_call GR hr (by rfl) DR.m DR.F.kp DR.b .nil pass0 (pa_cons (pv 0) pa_nil)) rfl))))
    (pss_one (ps_ret (pe_lc (own := [("key", 4)]) (g := gName 4) (by rfl) scTable.nd
      (pi_list (pe_callB (call_sortedD rfl) (by rfl) ms (by decide +kernel) (pa_cons (pv 2) pa_nil)))
      (blkOk_by (own := [("key", 4)]) (N := ["state", "most", "rows", "k", "key"]) (sc := defScope sTable) (by decide +kernel))
      (fun _ _ _ _ _ => pg_name (i := 4) scTable.nd rfl (Or.inl rfl)) (fun _ _ _ _ _ => pts_nil)
      (fun _ _ _ _ _ => pe_tup (pa_cons (pv 4) (pa_cons (pe_dget (hu_of hr) (pv 2) (pv 4) (fun _ _ => rfl)) pa_nil))))))), ?_⟩
  intro d hd
  have g0 := g.same (same_new hd (.dK []))
  refine ⟨_, rfl, _, rfl, _, _, rfl, rfl, st, l, most + 1, rfl, g0, by omega, pow7 (by omega), fun n H1 n0 n1 le1 g1 => ?_⟩
  have hd1 : H1 d = some (.dK []) := le1 d _ (g.ne hd).1 upd_same
  have le1' : Le st H H1 := (Le.of (same_new hd _)).trans le1
  refine ⟨n, rfl, by omega, by omega, for_range (lo := 0) (n := n.toNat) (fun i σ H' => ∃ kvs y3 y4, σ = [some (.ref st), some (.int most), some (.ref d), y3, y4] ∧ H' d = some (.dK kvs) ∧ kvs.length ≤ i ∧ RowsOk H' kvs ∧ Le st H H' ∧ Good st l H') ?_ ?_ ?_⟩
  · exact ⟨[], _, _, rfl, hd1, Nat.le_refl _, ⟨List.nodup_nil, fun e he => (by cases he)⟩, le1', g1⟩
  · rintro i σ H2 hi ⟨kvs, y3, y4, rfl, hd2, hl, hk, le2, g2⟩
    refine ⟨_, rfl, st, l, rfl, g2, fun s H3 hs le3 g3 => ?_⟩
    refine ⟨_, rfl, st, l, rfl, g3, fun r ns H4 hn le4 g4 hr4 => ?_⟩
    have hd4 : H4 d = some (.dK kvs) := le4 d _ (g.ne hd).1 (le3 d _ (g.ne hd).1 hd2)
    have hk4 : RowsOk H4 kvs := (hk.mono (Tk.le g2 le3)).mono (Tk.le g3 le4)
    refine ⟨_, rfl, _, rfl, d, _, rfl, DPut.k (k := Sum.inr s) hd4 (small1000 (by omega)), ?_⟩
    have tk : Tk H4 (upd H4 d (.dK (putK kvs (Sum.inr s) (.ref r)))) := Tk.put _ fun xs e => by
      rw [hd4] at e
      cases e
    refine ⟨putK kvs (Sum.inr s) (.ref r), _, _, rfl, upd_same, Nat.le_trans (put_len _ _ _) (by omega), (hk4.put hs hn ?_).mono tk, ((le2.trans le3).trans le4).mut hd, g4.put (g.ne hd)⟩
    exact .tup hr4 (TDs.ints ns)
  · rintro σ H2 ⟨kvs, y3, y4, rfl, hd2, hl, hk, le2, g2⟩
    obtain ⟨ks, eks, nks⟩ := hk.strs
    have lks : ks.length = kvs.length := by
      have h := congrArg List.length eks
      rw [List.length_map, List.length_map] at h
      exact h.symm
    refine ⟨_, rfl, d, kvs, ks, rfl, .inl hd2, eks, by omega, fun ys p hp hsort hpn => ?_⟩
    refine ⟨p, rfl, ⟨_, SqL.of upd_same⟩, fun D hD => ?_⟩
    have npd : d ≠ p := ne_of_none hd2 hpn
    have npD : p ≠ D := ne_of_none upd_same hD
    have hHD : H2 D = none := by
      rw [upd_ne npD.symm] at hD
      exact hD
    have ndD : d ≠ D := ne_of_none hd2 hHD
    have s3 : Same H2 (upd (upd H2 p (.lst (ys.map V.str))) D (.lst [])) := (same_new hpn _).trans (same_new hD _)
    refine lc_list (K := K) (a := p) (xs := ys.map V.str) (fun i H' => ∃ (vs : List V) (tb : List (Str × List Int)), H' D = some (.lst vs) ∧ TDs H' vs (tb.map pairD) ∧ tb.map (·.1) = ys.take i ∧ (∀ p ∈ tb, KeyOk p.1 ∧ RowOk p.2) ∧ Le st H H' ∧ Good st l H' ∧ H' d = some (.dK kvs) ∧ RowsOk H' kvs ∧ H' p = some (.lst (ys.map V.str))) ?_ ?_ ?_ ?_
    · exact ⟨[], [], upd_same, .nil, rfl, fun p hp => (by cases hp), le2.trans (Le.of s3), g2.same s3, s3 _ _ hd2, hk.mono (Tk.same s3), by rw [upd_ne npD]; exact upd_same⟩
    · rintro i H' hi ⟨vs, tb, _, _, _, _, _, _, _, _, h⟩
      exact SqL.of h
    · rintro i x H' hi ⟨vs, tb, hD', hT, et, hok, le', g', hd', hk', hp'⟩
      obtain ⟨y, hy, rfl⟩ : ∃ y, ys[i]? = some y ∧ x = .str y := by
        rw [List.getElem?_map] at hi
        cases e : ys[i]? with
        | none =>
          rw [e] at hi
          cases hi
        | some y =>
          rw [e] at hi
          exact ⟨y, rfl, (Option.some.inj hi).symm⟩
      have hyk : (Sum.inr y : Key) ∈ kvs.map (·.1) := by
        rw [eks]
        exact List.mem_map.mpr ⟨y, hp.mem_iff.mp (List.mem_of_getElem? hy), rfl⟩
      obtain ⟨v, hv, hm⟩ := val_mem hyk
      obtain ⟨s0, ns, e1, h2, h3, h4⟩ := hk'.2 _ hm
      have e1' : y = s0 := Sum.inr.inj e1
      subst e1'
      refine ⟨rfl, ?_⟩
      refine ⟨_, rfl, _, rfl, _, rfl, d, v, rfl, (by rw [← hv]; exact DGet.k (k := Sum.inr y) hd'), by show 2 ≤ sizeLine; decide, fun t ht => ?_⟩
      have nDt : D ≠ t := ne_of_none hD' ht
      have s5 := same_new ht (.tup [.str y, v])
      have hlen : vs.length = tb.length := by
        have h := TDs.length hT
        rw [List.length_map] at h
        exact h
      have htb : tb.length ≤ 30 := by
        have h := congrArg List.length et
        rw [List.length_map, List.length_take] at h
        have h9 := hp.length_eq
        omega
      refine ⟨vs, by rw [upd_ne nDt]; exact hD', small1000 (by omega), ?_⟩
      have tk : Tk H' (upd (upd H' t (.tup [.str y, v])) D (.lst (vs ++ [.ref t]))) := (Tk.same s5).trans (Tk.put _ fun xs e => by
        rw [upd_ne nDt, hD'] at e
        cases e)
      have nDst : D ≠ st ∧ D ≠ l := g2.ne hHD
      refine ⟨vs ++ [.ref t], tb ++ [(y, ns)], upd_same, ?_, ?_, ?_, (le'.trans (Le.of s5)).mut (le2.free g2 hHD), (g'.same s5).put nDst, ?_, hk'.mono tk, ?_⟩
      · rw [List.map_append]
        refine TDs.app (TDs.mono tk _ _ hT) (.cons ?_ .nil)
        refine .tup (xs := [.str y, v]) ?_ (.cons (.str y) (.cons (TD.mono tk _ _ h4) .nil))
        rw [upd_ne nDt.symm]
        exact upd_same
      · rw [List.map_append, et, List.take_add_one, hy]
        rfl
      · intro p hp
        rw [List.mem_append] at hp
        rcases hp with hp | hp
        · exact hok p hp
        · have e : p = (y, ns) := by simpa using hp
          rw [e]
          exact ⟨h2, h3⟩
      · rw [upd_ne ndD]
        exact s5 _ _ hd'
      · rw [upd_ne npD]
        exact s5 _ _ hp'
    · rintro H' ⟨vs, tb, hD', hT, et, hok, le', g', hd', hk', hp'⟩
      rw [List.length_map, List.take_length] at et
      have hlen : tb.length = ys.length := by
        have h := congrArg List.length et
        rw [List.length_map] at h
        exact h
      have h9 := hp.length_eq
      refine q D vs tb H' ⟨by rw [et]; exact asc hsort (hp.nodup_iff.mpr nks), hok⟩ (by omega) (le2.free g2 hHD) le' g' hD' hT
end

def Sh (n : Nat) (d : PyData) : Prop := d.canLay0 = true ∧ d.depth ≤ n
theorem all_lay : ∀ xs : List PyData, (∀ x ∈ xs, x.canLay0 = true) → PyData.canLayAll0 xs = true
  | [], _ => rfl
  | x :: xs, h => by
    show (x.canLay0 && PyData.canLayAll0 xs) = true
    rw [h x List.mem_cons_self, all_lay xs fun y hy => h y (List.mem_cons_of_mem _ hy)]
    rfl
theorem all_depth {n : Nat} : ∀ xs : List PyData, (∀ x ∈ xs, x.depth ≤ n) → PyData.depthAll xs ≤ n
  | [], _ => Nat.zero_le _
  | x :: xs, h => by
    show max x.depth (PyData.depthAll xs) ≤ n
    exact Nat.max_le.mpr ⟨h x List.mem_cons_self, all_depth xs fun y hy => h y (List.mem_cons_of_mem _ hy)⟩
theorem Sh.list {n : Nat} {xs : List PyData} (h : ∀ x ∈ xs, Sh n x) : Sh (n + 1) (.list xs) := ⟨all_lay xs fun x hx => (h x hx).1, Nat.succ_le_succ (all_depth xs fun x hx => (h x hx).2)⟩
theorem Sh.tuple {n : Nat} {xs : List PyData} (h : ∀ x ∈ xs, Sh n x) : Sh (n + 1) (.tuple xs) := ⟨all_lay xs fun x hx => (h x hx).1, Nat.succ_le_succ (all_depth xs fun x hx => (h x hx).2)⟩
theorem Sh.int {n : Nat} (i : Int) : Sh n (.int i) := ⟨rfl, Nat.zero_le _⟩
theorem Sh.non {n : Nat} : Sh n .none := ⟨rfl, Nat.zero_le _⟩
theorem let_ok : ∀ c ∈ letS.cps.toList, c < 128 := by decide +kernel
theorem Sh.str {n : Nat} {s : Str} (h : ∀ c ∈ s.cps.toList, c < 128) : Sh n (.str s) := by
  refine ⟨?_, Nat.zero_le _⟩
  show s.cps.all (· < 0x110000) = true
  rw [← Array.all_toList, List.all_eq_true]
  intro x hx
  exact decide_eq_true (Nat.lt_trans (h x hx) (by decide))
theorem Sh.key {n : Nat} {s : Str} (h : KeyOk s) : Sh n (.str s) := Sh.str fun c hc => let_ok c (h.2.2 c hc)
theorem Sh.row (n : Nat) (ns : List Int) : Sh (n + 1) (rowD ns) := Sh.tuple fun x hx => by
  obtain ⟨i, _, rfl⟩ := List.mem_map.mp hx
  exact Sh.int i
theorem Sh.pair {n : Nat} {p : Str × List Int} (h : KeyOk p.1) : Sh (n + 2) (pairD p) := Sh.tuple fun x hx => by
  rcases List.mem_cons.mp hx with e | e
  · rw [e]
    exact Sh.key h
  · have e2 : x = rowD p.2 := by simpa using e
    rw [e2]
    exact Sh.row n _
theorem Sh.tab {n : Nat} {tb : List (Str × List Int)} (h : ∀ p ∈ tb, KeyOk p.1) : Sh (n + 3) (.list (tb.map pairD)) := Sh.list fun x hx => by
  obtain ⟨p, hp, rfl⟩ := List.mem_map.mp hx
  exact Sh.pair (h p hp)
theorem Sh.mono {n m : Nat} {d : PyData} (h : Sh n d) (k : n ≤ m) : Sh m d := ⟨h.1, Nat.le_trans h.2 k⟩
theorem Sh.ok {n : Nat} {d : PyData} (h : Sh n d) (k : n ≤ 64) : SeqAt.shaped d = true := by
  unfold SeqAt.shaped
  rw [h.1, decide_eq_true (Nat.le_trans h.2 k)]
  rfl
theorem Sh.refl {n : Nat} {d : PyData} (h : Sh n d) : PyData.eqv d d = true := SeqAt.eqv_refl d h.1
theorem TD.un {H : Hp} {v : V} {ds : List PyData} (h : TD H v (.tuple ds)) : ∃ a xs, v = .ref a ∧ H a = some (.tup xs) ∧ TDs H xs ds := by
  cases h with
  | tup h1 h2 => exact ⟨_, _, rfl, h1, h2⟩
theorem TD.str_eq {H : Hp} {v : V} {s : Str} (h : TD H v (.str s)) : v = .str s := by
  cases h with
  | str => rfl
theorem TD.int_eq {H : Hp} {v : V} {i : Int} (h : TD H v (.int i)) : v = .int i := by
  cases h with
  | int => rfl
theorem TDs.un {H : Hp} {vs : List V} {d : PyData} {ds : List PyData} (h : TDs H vs (d :: ds)) : ∃ v ws, vs = v :: ws ∧ TD H v d ∧ TDs H ws ds := by
  cases h with
  | cons h1 h2 => exact ⟨_, _, rfl, h1, h2⟩
theorem TDs.un0 {H : Hp} {vs : List V} (h : TDs H vs []) : vs = [] := by
  cases h with
  | nil => rfl
theorem TD.pair {H : Hp} {v : V} {p : Str × List Int} (h : TD H v (pairD p)) : ∃ a r, v = .ref a ∧ H a = some (.tup [.str p.1, r]) ∧ TD H r (rowD p.2) := by
  obtain ⟨a, xs, rfl, h1, h2⟩ := TD.un h
  obtain ⟨x, ys, rfl, h3, h4⟩ := h2.un
  obtain ⟨r, zs, rfl, h5, h6⟩ := h4.un
  have e := h6.un0
  subst e
  have e2 := h3.str_eq
  subst e2
  exact ⟨a, r, rfl, h1, h5⟩
def below (k : Str) (tb : List (Str × List Int)) : List (Str × List Int) := tb.filter fun p => decide (p.1.cps.toList < k.cps.toList)
def above (k : Str) (tb : List (Str × List Int)) : List (Str × List Int) := tb.filter fun p => decide (k.cps.toList < p.1.cps.toList)
theorem lt_asym {a b : List Nat} (h : a < b) : ¬ b < a := fun k => lirr (ltr h k)
theorem parts_len (k : Str) : ∀ tb : List (Str × List Int), (below k tb).length + (above k tb).length ≤ tb.length
  | [] => Nat.le_refl _
  | p :: r => by
    have ih := parts_len k r
    unfold below above at ih ⊢
    rw [List.filter_cons, List.filter_cons]
    by_cases h1 : p.1.cps.toList < k.cps.toList
    · rw [if_pos (decide_eq_true h1), if_neg (by rw [decide_eq_false (lt_asym h1)]; decide)]
      simp only [List.length_cons]
      omega
    · rw [if_neg (by rw [decide_eq_false h1]; decide)]
      split <;> simp only [List.length_cons] <;> omega
/-- [x for x in xs if test]: a test that makes nothing -/
theorem lc_filt {K : PySem.W.Frag} {a D : Addr} {vs : List V} {tb : List (Str × List Int)} {i : Nat} {tt : TT} {ws : List Nat} {σ : L2.St} {H1 : Hp} {Qd : Hp → Prop} (f : Str × List Int → Bool)
    (hS : H1 a = some (.lst vs)) (hT : TDs H1 vs (tb.map pairD)) (hD : H1 D = none) (hlen : vs.length ≤ 1000)
    (hw : ∀ v, wipe ((wipe σ ws).set i (some v)) ws = wipe σ ws) (hi : ∀ v, ((wipe σ ws).set i (some v))[i]? = some (some v))
    (ht : ∀ (p : Str × List Int) (c : Addr) (r : V) (H' : Hp), p ∈ tb → H' c = some (.tup [.str p.1, r]) → TD H' r (rowD p.2) → Same H1 H' → ∀ Q : Bool → Hp → Prop, Q (f p) H' → tt ((wipe σ ws).set i (some (.ref c))) H' Q)
    (hd : ∀ us H', Same H1 H' → H' D = some (.lst us) → TDs H' us ((tb.filter f).map pairD) → Qd H') :
    ∃ W : Nat → Nat → Hp → Prop, (∃ m, W 0 m (upd H1 D (.lst []))) ∧ ∀ j m H, W j m H →
      ((Itl K a).stop j H ∧ Qd H) ∨ ((Itl K a).go j H ∧ ∃ Nx : Hp → Prop, (∀ H', Nx H' → ∃ m', m' < m ∧ W (j + 1) m' H') ∧ ∀ x H', (Itl K a).yld j H x H' → gName i x (wipe σ ws) H' fun σ2 H2 => wipe σ2 ws = wipe σ ws ∧ tt σ2 H2 fun b H3 =>
        if b = true then tVar i σ2 H3 fun y H4 => ∃ acc, H4 D = some (.lst acc) ∧ acc.length < sizeLine ∧ Nx (upd H4 D (.lst (acc ++ [y]))) else Nx H3) := by
  have hl := hT.length
  rw [List.length_map] at hl
  refine lc_list (K := K) (a := a) (xs := vs) (fun j H' => ∃ us, H' D = some (.lst us) ∧ TDs H' us (((tb.take j).filter f).map pairD) ∧ Same H1 H') ?_ ?_ ?_ ?_
  · exact ⟨[], upd_same, .nil, same_new hD _⟩
  · rintro j H' _ ⟨us, _, _, s⟩
    exact SqL.of (s _ _ hS)
  · rintro j x H' hx ⟨us, hus, hU, s⟩
    have hj : j < vs.length := (List.getElem?_eq_some_iff.mp hx).1
    obtain ⟨d, hd1, hd2⟩ := TDs.get hT j x hx
    rw [List.getElem?_map] at hd1
    obtain ⟨p, hp, rfl⟩ : ∃ p, tb[j]? = some p ∧ d = pairD p := by
      cases e : tb[j]? with
      | none =>
        rw [e] at hd1
        cases hd1
      | some p =>
        rw [e] at hd1
        exact ⟨p, rfl, (Option.some.inj hd1).symm⟩
    have hm : p ∈ tb := List.mem_of_getElem? hp
    obtain ⟨c, r, rfl, hc, hr⟩ := (TD.mono (Tk.same s) _ _ hd2).pair
    have etake : tb.take (j + 1) = tb.take j ++ [p] := by
      rw [List.take_add_one, hp]
      rfl
    refine ⟨hw _, ht p c r H' hm hc hr s _ ?_⟩
    cases e : f p with
    | true =>
      refine iteT ?_
      have hul : us.length ≤ vs.length := by
        have h := hU.length
        rw [List.length_map] at h
        have h2 := List.length_filter_le f (tb.take j)
        rw [List.length_take] at h2
        omega
      have tk : Tk H' (upd H' D (.lst (us ++ [.ref c]))) := Tk.put _ fun xs e => by
        rw [hus] at e
        cases e
      refine ⟨_, hi _, us, hus, small1000 (by omega), us ++ [.ref c], upd_same, ?_, fun b o e => ?_⟩
      · rw [etake, List.filter_append, List.filter_cons, e, if_pos rfl, List.map_append]
        exact TDs.app (TDs.mono tk _ _ hU) (.cons (TD.mono (tk) _ _ (TD.mono (Tk.same s) _ _ hd2)) .nil)
      · rw [upd_ne (ne_of_none e hD)]
        exact s _ _ e
    | false =>
      refine iteF ?_
      refine ⟨us, hus, ?_, s⟩
      rw [etake, List.filter_append, List.filter_cons, e, if_neg Bool.false_ne_true, List.filter_nil, List.append_nil]
      exact hU
  · rintro H' ⟨us, hus, hU, s⟩
    rw [hl, List.take_length] at hU
    exact hd us H' s hus hU
abbrev Tab := List (Str × List Int)
def inR (lo hi k : Str) : Bool := !decide (k.cps.toList < lo.cps.toList) && decide (k.cps.toList < hi.cps.toList)
def within (lo hi : Str) (tb : Tab) : Tab := tb.filter fun p => inR lo hi p.1
def colOf (ns : List Int) (c : Int) : Int := if c < (ns.length : Int) then ns.getD c.toNat 0 else 0
def look (tb : Tab) (k : Str) : Option (List Int) := (tb.find? fun p => decide (p.1 = k)).map (·.2)
def optD : Option (List Int) → PyData
  | none => .none
  | some r => rowD r
def pairO : Option (Str × List Int) → PyData
  | none => .none
  | some p => pairD p
inductive Qry where
  | get (k : Str)
  | range (lo hi : Str)
  | next (k : Str) (n : Int)
  | count (lo hi : Str)
  | sum (c : Int) (lo hi : Str)
  | place (k : Str)
  | at_ (n : Int)
def qryD : Qry → PyData
  | .get k => .tuple [.str "get", .str k]
  | .range lo hi => .tuple [.str "range", .str lo, .str hi]
  | .next k n => .tuple [.str "next", .str k, .int n]
  | .count lo hi => .tuple [.str "count", .str lo, .str hi]
  | .sum c lo hi => .tuple [.str "sum", .int c, .str lo, .str hi]
  | .place k => .tuple [.str "place", .str k]
  | .at_ n => .tuple [.str "at", .int n]
def BndOk (s : Str) : Prop := s.length ≤ 9 ∧ ∀ c ∈ s.cps.toList, c ∈ letS.cps.toList
def Qry.Ok : Qry → Prop
  | .get k => KeyOk k
  | .range lo hi => BndOk lo ∧ BndOk hi
  | .next k n => BndOk k ∧ 0 ≤ n ∧ n ≤ 100
  | .count lo hi => BndOk lo ∧ BndOk hi
  | .sum c lo hi => (0 ≤ c ∧ c ≤ 2) ∧ BndOk lo ∧ BndOk hi
  | .place k => BndOk k
  | .at_ n => 0 ≤ n ∧ n ≤ 100000
inductive Res where
  | dat (d : PyData)
  | lst (tb : Tab)
def ansOf (tb : Tab) : Qry → Res
  | .get k => .dat (optD (look tb k))
  | .range lo hi => .lst (within lo hi tb)
  | .next k n => .lst ((above k tb).take n.toNat)
  | .count lo hi => .dat (.int ((within lo hi tb).length : Int))
  | .sum c lo hi => .dat (.int ((within lo hi tb).map fun p => colOf p.2 c).sum)
  | .place k => .dat (.int ((below k tb).length : Int))
  | .at_ n => .dat (pairO tb[n.toNat]?)
def ResAt (H H' : Hp) (v : V) : Res → Prop
  | .dat d => TD H' v d
  | .lst tb => ∃ p ws, v = .ref p ∧ H p = none ∧ H' p = some (.lst ws) ∧ TDs H' ws (tb.map pairD)
theorem tab_pairs {K : PySem.W.Frag} {H : Hp} : ∀ {vs : List V} {tb : Tab}, TDs H vs (tb.map pairD) → ∃ (ps : List Addr) (kvs : List (Key × V)), vs = ps.map V.ref ∧ Paired (fun p kv => SqT K H p [kV kv.1, kv.2]) ps kvs ∧ kvs.map (·.1) = tb.map (fun p => (Sum.inr p.1 : Key)) ∧ TDs H (kvs.map (·.2)) (tb.map fun p => rowD p.2)
  | vs, [], h => by
    have e := h.un0
    subst e
    exact ⟨[], [], rfl, .nil, rfl, .nil⟩
  | vs, p :: tb, h => by
    obtain ⟨v, ws, rfl, h1, h2⟩ := h.un
    obtain ⟨ps, kvs, rfl, h3, h4, h5⟩ := tab_pairs h2
    obtain ⟨a, r, rfl, h6, h7⟩ := h1.pair
    exact ⟨a :: ps, (Sum.inr p.1, r) :: kvs, rfl, .cons (SqT.of h6) h3, by rw [List.map_cons, List.map_cons, h4], .cons h7 h5⟩
theorem merge_app (acc more : List (Key × V)) (h : ((acc ++ more).map (·.1)).Nodup) : mergeK acc more = acc ++ more := by
  induction more generalizing acc with
  | nil =>
    rw [List.append_nil]
    rfl
  | cons p r ih =>
    have e : putK acc p.1 p.2 = acc ++ [p] := by
      rcases put_keys acc p.1 p.2 with ⟨hk, _⟩ | ⟨hk, _⟩
      · rw [List.map_append, List.nodup_append] at h
        exact absurd rfl (h.2.2 p.1 hk p.1 (by simp))
      · refine putK_new p.2 ?_
        cases e : valV acc p.1 with
        | none => rfl
        | some v => exact absurd (valV_in e) hk
    show mergeK (putK acc p.1 p.2) r = acc ++ p :: r
    rw [e, ih (acc ++ [p]) (by rw [List.append_assoc]; exact h), List.append_assoc]
    rfl
theorem keys_nodup {tb : Tab} (h : (tb.map (·.1)).Pairwise Lt) : (tb.map fun p => (Sum.inr p.1 : Key)).Nodup := by
  have h1 : (tb.map (·.1)).Nodup := List.Pairwise.imp (R := Lt) (fun {a b} q e => by
    rw [e] at q
    exact Lt.irrefl q) h
  have h2 : (tb.map fun p => (Sum.inr p.1 : Key)) = (tb.map (·.1)).map Sum.inr := by
    rw [List.map_map]
    rfl
  rw [h2]
  exact List.Pairwise.map _ (fun a b q e => q (Sum.inr.inj e)) h1
theorem val_look {H : Hp} (k : Str) : ∀ {tb : Tab} {kvs : List (Key × V)}, kvs.map (·.1) = tb.map (fun p => (Sum.inr p.1 : Key)) → TDs H (kvs.map (·.2)) (tb.map fun p => rowD p.2) → TD H ((valV kvs (.inr k)).getD .non) (optD (look tb k))
  | [], [], _, _ => .non
  | [], _ :: _, h, _ => by cases h
  | _ :: _, [], h, _ => by cases h
  | p :: tb, kv :: kvs, h, h2 => by
    rw [List.map_cons, List.map_cons] at h
    have e1 := (List.cons.inj h).1
    have e2 := (List.cons.inj h).2
    obtain ⟨v, ws, e3, h3, h4⟩ := h2.un
    rw [List.map_cons] at e3
    have e4 := (List.cons.inj e3).1
    have e5 := (List.cons.inj e3).2
    rw [← e5] at h4
    by_cases hk : p.1 = k
    · have hv : valV (kv :: kvs) (.inr k) = some kv.2 := valV_pos (by rw [e1, hk])
      have hl : look (p :: tb) k = some p.2 := by
        unfold look
        rw [List.find?_cons, decide_eq_true hk]
        rfl
      rw [hv, hl, e4]
      exact h3
    · have hv : valV (kv :: kvs) (.inr k) = valV kvs (.inr k) := valV_neg (by rw [e1]; exact fun e => hk (Sum.inr.inj e))
      have hl : look (p :: tb) k = look tb k := by
        unfold look
        rw [List.find?_cons, decide_eq_false hk]
      rw [hv, hl]
      exact val_look k e2 h4
theorem small_len {n : Nat} (h : n ≤ 1000) : n < sizeLine := small1000 h
theorem row_un {H : Hp} {v : V} {ns : List Int} (h : TD H v (rowD ns)) : ∃ a, v = .ref a ∧ H a = some (.tup (ns.map V.int)) := by
  obtain ⟨a, xs, rfl, h1, h2⟩ := h.un
  refine ⟨a, rfl, ?_⟩
  have e : ∀ {vs : List V} {ns : List Int}, TDs H vs (ns.map PyData.int) → vs = ns.map V.int := by
    intro vs ns
    induction ns generalizing vs with
    | nil => exact fun h => h.un0
    | cons n r ih =>
      intro h
      obtain ⟨v, ws, rfl, h3, h4⟩ := h.un
      rw [h3.int_eq, ih h4]
      rfl
  rw [h1, e h2]
theorem at_of {α : Type} {xs : List α} {n : Int} (h0 : 0 ≤ n) {x : α} (h : xs[n.toNat]? = some x) : atI xs n = some x := by
  have e : ((n.toNat : Nat) : Int) = n := by omega
  have q : atI xs ((n.toNat : Nat) : Int) = some x := atI_nat h
  rw [e] at q
  exact q
theorem TDs.take {H : Hp} : ∀ {vs : List V} {ds : List PyData} (n : Nat), TDs H vs ds → TDs H (vs.take n) (ds.take n)
  | _, _, 0, _ => .nil
  | _, _, n + 1, .nil => .nil
  | _, _, n + 1, .cons h1 h2 => .cons h1 (TDs.take n h2)
theorem cut_to (xs : List V) {m : Int} (h : 0 ≤ m) : cutV xs none (some m) = xs.take m.toNat := by
  have e : ((m.toNat : Nat) : Int) = m := by omega
  unfold cutV
  rw [HT.sIx_none, ← e, HT.sIx_nat, List.drop_zero, Nat.sub_zero]
  rw [show ((m.toNat : Nat) : Int).toNat = m.toNat by omega]
  by_cases hm : m.toNat ≤ xs.length
  · rw [Nat.min_eq_left hm]
  · rw [Nat.min_eq_right (by omega), List.take_length, List.take_of_length_le (by omega)]
theorem q_un2 {H : Hp} {v : V} {z k : Str} (h : TD H v (.tuple [.str z, .str k])) : ∃ a, v = .ref a ∧ H a = some (.tup [.str z, .str k]) := by
  obtain ⟨a, xs, rfl, h1, h2⟩ := h.un
  obtain ⟨x, ys, rfl, h3, h4⟩ := h2.un
  obtain ⟨y, zs, rfl, h5, h6⟩ := h4.un
  rw [h3.str_eq, h5.str_eq, h6.un0] at h1
  exact ⟨a, rfl, h1⟩
theorem q_un2i {H : Hp} {v : V} {z : Str} {n : Int} (h : TD H v (.tuple [.str z, .int n])) : ∃ a, v = .ref a ∧ H a = some (.tup [.str z, .int n]) := by
  obtain ⟨a, xs, rfl, h1, h2⟩ := h.un
  obtain ⟨x, ys, rfl, h3, h4⟩ := h2.un
  obtain ⟨y, zs, rfl, h5, h6⟩ := h4.un
  rw [h3.str_eq, h5.int_eq, h6.un0] at h1
  exact ⟨a, rfl, h1⟩
theorem q_un3 {H : Hp} {v : V} {z k l : Str} (h : TD H v (.tuple [.str z, .str k, .str l])) : ∃ a, v = .ref a ∧ H a = some (.tup [.str z, .str k, .str l]) := by
  obtain ⟨a, xs, rfl, h1, h2⟩ := h.un
  obtain ⟨x, ys, rfl, h3, h4⟩ := h2.un
  obtain ⟨y, zs, rfl, h5, h6⟩ := h4.un
  obtain ⟨w, us, rfl, h7, h8⟩ := h6.un
  rw [h3.str_eq, h5.str_eq, h7.str_eq, h8.un0] at h1
  exact ⟨a, rfl, h1⟩
theorem q_un3i {H : Hp} {v : V} {z k : Str} {n : Int} (h : TD H v (.tuple [.str z, .str k, .int n])) : ∃ a, v = .ref a ∧ H a = some (.tup [.str z, .str k, .int n]) := by
  obtain ⟨a, xs, rfl, h1, h2⟩ := h.un
  obtain ⟨x, ys, rfl, h3, h4⟩ := h2.un
  obtain ⟨y, zs, rfl, h5, h6⟩ := h4.un
  obtain ⟨w, us, rfl, h7, h8⟩ := h6.un
  rw [h3.str_eq, h5.str_eq, h7.int_eq, h8.un0] at h1
  exact ⟨a, rfl, h1⟩
theorem q_un4 {H : Hp} {v : V} {z k l : Str} {n : Int} (h : TD H v (.tuple [.str z, .int n, .str k, .str l])) : ∃ a, v = .ref a ∧ H a = some (.tup [.str z, .int n, .str k, .str l]) := by
  obtain ⟨a, xs, rfl, h1, h2⟩ := h.un
  obtain ⟨x, ys, rfl, h3, h4⟩ := h2.un
  obtain ⟨y, zs, rfl, h5, h6⟩ := h4.un
  obtain ⟨w, us, rfl, h7, h8⟩ := h6.un
  obtain ⟨w2, us2, rfl, h9, h10⟩ := h8.un
  rw [h3.str_eq, h5.int_eq, h7.str_eq, h9.str_eq, h10.un0] at h1
  exact ⟨a, rfl, h1⟩
def keyAt (tb : Tab) (i : Nat) : Str := (tb.map (·.1)).getD i ""
theorem key_at {tb : Tab} {i : Nat} {p : Str × List Int} (h : tb[i]? = some p) : keyAt tb i = p.1 := by
  unfold keyAt
  rw [List.getD_eq_getElem?_getD, List.getElem?_map, h]
  rfl
/-- a pair of a table, by its index -/
theorem pair_at {H : Hp} {us : List V} {tb : Tab} (hT : TDs H us (tb.map pairD)) {i : Nat} {p : Str × List Int} (h : tb[i]? = some p) : ∃ c r, us[i]? = some (.ref c) ∧ H c = some (.tup [.str p.1, r]) ∧ TD H r (rowD p.2) := by
  have hl := hT.length
  rw [List.length_map] at hl
  have hi : i < tb.length := (List.getElem?_eq_some_iff.mp h).1
  have hu : us[i]? = some us[i] := List.getElem?_eq_getElem (by omega)
  obtain ⟨d, hd, ht⟩ := TDs.get hT i _ hu
  rw [List.getElem?_map, h] at hd
  have e : pairD p = d := Option.some.inj hd
  rw [← e] at ht
  obtain ⟨c, r, ec, hc, hr⟩ := ht.pair
  exact ⟨c, r, by rw [hu, ec], hc, hr⟩
theorem KeyOk.bnd {s : Str} (h : KeyOk s) : BndOk s := ⟨by have := h.2.1; omega, h.2.2⟩
/-- the pair at a drawn place -/
theorem pair_got {H : Hp} {us : List V} {tb : Tab} {d : Int} (hT : TDs H us (tb.map pairD)) (h0 : 0 ≤ d) (h1 : d < (us.length : Int)) : ∃ c r p, atI us d = some (.ref c) ∧ H c = some (.tup [.str p.1, r]) ∧ p ∈ tb := by
  have hj : d.toNat < us.length := by omega
  obtain ⟨dd, hd1, hd2⟩ := TDs.get hT _ _ (List.getElem?_eq_getElem hj)
  rw [List.getElem?_map] at hd1
  cases e : tb[d.toNat]? with
  | none =>
    rw [e] at hd1
    cases hd1
  | some p =>
    rw [e] at hd1
    have e2 : pairD p = dd := Option.some.inj hd1
    rw [← e2] at hd2
    obtain ⟨c, r, ec, hc, _⟩ := hd2.pair
    refine ⟨c, r, p, ?_, hc, List.mem_of_getElem? e⟩
    rw [← ec]
    exact at_of h0 (List.getElem?_eq_getElem hj)
def spColumnOf : Sp := fun vs H Q _ => ∃ (r : Addr) (ns : List Int) (c : Int), vs = [.ref r, .int c] ∧ H r = some (.tup (ns.map V.int)) ∧ 0 ≤ c ∧ ns.length ≤ 1000 ∧ Q (.int (colOf ns c)) H
def spWithin : Sp := fun vs H Q _ => ∃ (t : Addr) (lo hi : Str) (us : List V) (tb : Tab), vs = [.ref t, .str lo, .str hi] ∧ H t = some (.lst us) ∧ TDs H us (tb.map pairD) ∧ tb.length ≤ 1000 ∧
  ∀ p ws H', H p = none → Same H H' → H' p = some (.lst ws) → TDs H' ws ((within lo hi tb).map pairD) → Q (.ref p) H'
def spAns : Sp := fun vs H Q _ => ∃ (t : Addr) (c : V) (qy : Qry) (us : List V) (tb : Tab), vs = [.ref t, c] ∧ TD H c (qryD qy) ∧ qy.Ok ∧ H t = some (.lst us) ∧ TDs H us (tb.map pairD) ∧ tb.length ≤ 100 ∧ (tb.map (·.1)).Pairwise Lt ∧ (∀ p ∈ tb, p.2.length ≤ 1000) ∧
  ∀ v H', Same H H' → ResAt H H' v (ansOf tb qy) → Q v H'

/-! ### from the drawer's promises to the data layer's -/
def StL (l : List D) : Prop := ∃ (a p c : Int) (ns : List Int), l = [.int a, .int p, .list (ns.map .int), .int c] ∧ 0 ≤ a ∧ 0 ≤ p ∧ 0 ≤ c ∧ c < 2147483647
theorem st0_ok (ns : List Int) : StL [.int 0, .int 0, .list (ns.map .int), .int 1] := ⟨0, 0, 1, ns, rfl, by decide, by decide, by decide, by decide⟩
mutual
def noL : D → Bool
  | .tuple ds => noLs ds
  | .list _ => false
  | .dict _ => false
  | _ => true
def noLs : List D → Bool
  | [] => true
  | d :: ds => noL d && noLs ds
end
mutual
theorem TD.rd {ct : Cl} {F : Addr → Prop} {H : Hp} : ∀ (d : D) (v : V), TD H v d → RD ct F H v d
  | _, _, .non => .non
  | _, _, .int i => .int i
  | _, _, .str x => .str x
  | _, _, .bl b => .bl b
  | .tuple ds, .ref a, .tup (xs := xs) h hs => .tup h (TDs.rds ds xs hs)
theorem TDs.rds {ct : Cl} {F : Addr → Prop} {H : Hp} : ∀ (ds : List D) (vs : List V), TDs H vs ds → RDs ct F H vs ds
  | _, _, .nil => .nil
  | d :: ds, v :: vs, .cons h hs => .cons (TD.rd d v h) (TDs.rds ds vs hs)
end
mutual
theorem RD.td {ct : Cl} {F : Addr → Prop} {H : Hp} : ∀ (d : D) (v : V), RD ct F H v d → noL d = true → TD H v d
  | _, _, .non, _ => .non
  | _, _, .int i, _ => .int i
  | _, _, .str x, _ => .str x
  | _, _, .bl b, _ => .bl b
  | .tuple ds, .ref a, .tup (xs := xs) h hs, n => .tup h (RDs.tds ds xs hs n)
  | .list ds, _, .lst _ _ _, n => nomatch n
  | .dict _, _, .obj _ _ _ _ _, n => nomatch n
theorem RDs.tds {ct : Cl} {F : Addr → Prop} {H : Hp} : ∀ (ds : List D) (vs : List V), RDs ct F H vs ds → noLs ds = true → TDs H vs ds
  | _, _, .nil, _ => .nil
  | d :: ds, v :: vs, .cons h hs, n => by
    have n' : (noL d && noLs ds) = true := n
    rw [Bool.and_eq_true] at n'
    exact .cons (RD.td d v h n'.1) (RDs.tds ds vs hs n'.2)
end
theorem noLs_ints (ns : List Int) : noLs (ns.map .int) = true := by
  induction ns with
  | nil => rfl
  | cons n r ih => exact ih
theorem noL_pair (p : Str × List Int) : noL (pairD p) = true := by
  show (true && (noLs (p.2.map .int) && true)) = true
  rw [noLs_ints]
  rfl
theorem noLs_tab (tb : List (Str × List Int)) : noLs (tb.map pairD) = true := by
  induction tb with
  | nil => rfl
  | cons p r ih =>
    show (noL (pairD p) && noLs (r.map pairD)) = true
    rw [noL_pair, ih]
    rfl
/-- the state's cell, in the heap -/
theorem st_in {ct : Cl} {g : Gh} {H : Hp} {l : List D} (c : Clz ct g H [.lst l]) (s : StL l) : ∃ st lA, g.as = [st] ∧ g.ms = [[st]] ∧ g.F lA ∧ ¬ g.F st ∧ Good st lA H := by
  obtain ⟨a, p, cc, ns, rfl, h1, h2, h3, h4⟩ := s
  obtain ⟨st, m, q1, q2, q3, xs, q4, q5⟩ := c.at_ 0 _ rfl
  subst q3
  have ea : g.as = [st] := by
    have := c.la
    match e : g.as, this, q1 with
    | [x], _, q => simpa using q
  have em : g.ms = [[st]] := by
    have := c.lm
    match e : g.ms, this, q2 with
    | [x], _, q => simpa using q
  have nF : ¬ g.F st := c.ap st (by rw [em]; simp)
  obtain ⟨x1, xs1, rfl, r1, q6⟩ : ∃ x r, xs = x :: r ∧ RD ct g.F H x (.int a) ∧ RDs ct g.F H r [.int p, .list (ns.map .int), .int cc] := by
    cases q5 with
    | cons h hs => exact ⟨_, _, rfl, h, hs⟩
  obtain ⟨x2, xs2, rfl, r2, q7⟩ : ∃ x r, xs1 = x :: r ∧ RD ct g.F H x (.int p) ∧ RDs ct g.F H r [.list (ns.map .int), .int cc] := by
    cases q6 with
    | cons h hs => exact ⟨_, _, rfl, h, hs⟩
  obtain ⟨x3, xs3, rfl, r3, q8⟩ : ∃ x r, xs2 = x :: r ∧ RD ct g.F H x (.list (ns.map .int)) ∧ RDs ct g.F H r [.int cc] := by
    cases q7 with
    | cons h hs => exact ⟨_, _, rfl, h, hs⟩
  obtain ⟨x4, xs4, rfl, r4, q9⟩ : ∃ x r, xs3 = x :: r ∧ RD ct g.F H x (.int cc) ∧ RDs ct g.F H r [] := by
    cases q8 with
    | cons h hs => exact ⟨_, _, rfl, h, hs⟩
  cases q9
  cases r1
  cases r2
  cases r4
  cases r3 with
  | lst f hl hns =>
    rename_i lA ys
    rw [hns.ints_eq] at hl
    exact ⟨st, lA, ea, em, f, nF, a, p, cc, ns, q4, h1, h2, h3, h4, fun e => nF (by rw [← e]; exact f), hl⟩
/-- .. and back -/
theorem st_out {ct : Cl} {g : Gh} {H H' : Hp} {l : List D} {st lA : Addr} (c : Clz ct g H [.lst l]) (ea : g.as = [st]) (em : g.ms = [[st]]) (f : g.F lA) (nF : ¬ g.F st) (G : Good st lA H) (le : Le st H H') (G' : Good st lA H') :
    ∃ l', StL l' ∧ Gk g H g H' ∧ Fr0 (Bs.of g H) g H' ∧ Clz ct g H' [.lst l'] := by
  have hst : ∀ xs, H st ≠ some (.tup xs) := fun xs e => by
    obtain ⟨_, _, _, _, h, _⟩ := G
    rw [h] at e
    cases e
  obtain ⟨a, p, cc, ns, h1, h2, h3, h4, h5, h6, h7⟩ := G'
  have hT : LamX.Tabs ct.T H' := tabs_ext2 c.tb fun b o h n1 n2 => le b o (fun z => by rw [z] at h; obtain ⟨_, _, _, _, h', _⟩ := G; rw [h'] at h; exact n1 _ (Option.some.inj h).symm) h
  have kF : ∀ b, g.F b → H' b = H b := fun b hb => by
    cases e : H b with
    | none => exact absurd e (c.lv b hb)
    | some o => exact le b o (fun z => nF (by rw [← z]; exact hb)) e
  have kp : Gk g H g H' := ⟨⟨fun b xs h => le b _ (fun z => hst xs (by rw [← z]; exact h)) h, fun b hb => ⟨hb, kF b hb⟩⟩, fun _ _ h => h, fun c q h => le c _ (fun z => by rw [z] at h; obtain ⟨_, _, _, _, h', _⟩ := G; rw [h'] at h; exact codeO_lst (Option.some.inj h).symm) h⟩
  refine ⟨[.int a, .int p, .list (ns.map .int), .int cc], ⟨a, p, cc, ns, rfl, h2, h3, h4, h5⟩, kp, ⟨kp.kp.1, fun b o h hu hm => le b o (fun z => hm (by rw [z]; show st ∈ g.ms.flatten; rw [em]; simp)) h, fun b ps h => ⟨ps, le b _ (fun z => by rw [z] at h; obtain ⟨_, _, _, _, h', _⟩ := G; rw [show (Bs.of g H).H st = H st from rfl, h'] at h; cases h) h⟩, fun b h => .inl h, fun b h => .inl h⟩, by rw [ea]; rfl, by rw [em]; rfl, fun k x h => ?_, c.nd, c.ap, fun b hb => by rw [kF b hb]; exact c.lv b hb, hT, c.tf⟩
  cases k with
  | zero =>
    cases h
    exact ⟨st, [st], by rw [ea]; rfl, by rw [em]; rfl, rfl, _, h1, .cons (.int _) (.cons (.int _) (.cons (.lst f h7 (RDs.ints ns)) (.cons (.int _) .nil)))⟩
  | succ k => simp at h
/-- a new list behind it -/
theorem st_new {ct : Cl} {g : Gh} {H H' : Hp} {C : List Cell} {t : Addr} {us : List V} {ds : List D} (k : Gk g H g H') (f : Fr0 (Bs.of g H) g H') (c : Clz ct g H' C) {C0 : List Cell} (c0 : Clz ct g H C0) (hn : H t = none) (ht : H' t = some (.lst us)) (hT : RDs ct g.F H' us ds) :
    Gk g H (g.fz true t) H' ∧ Fr0 (Bs.of g H) (g.fz true t) H' ∧ Clz ct (g.fz true t) H' C ∧ RD ct (g.fz true t).F H' (.ref t) (.list ds) := by
  have k2 : Gk g H' (g.fz true t) H' := ⟨⟨fun _ _ h => h, fun a h => ⟨.inl h, rfl⟩⟩, fun _ _ h => h, fun _ _ h => h⟩
  refine ⟨k.trans k2, ⟨f.kt, f.keep, f.tl, fun a h => ?_, f.newM⟩, ⟨c.la, c.lm, fun j x h => ?_, c.nd, fun a ha h => ?_, fun a h => ?_, c.tb, fun q hq h => ?_⟩, .lst (.inr ⟨rfl, rfl⟩) ht (RDs.mono k2.kp _ _ hT)⟩
  · rcases h with h | ⟨_, h⟩
    · exact f.newF a h
    · rw [h]
      exact .inr (.inl hn)
  · obtain ⟨a, m, h1, h2, h3⟩ := c.at_ j x h
    exact ⟨a, m, h1, h2, h3.keep k2 (.inl rfl)⟩
  · rcases h with h | ⟨_, h⟩
    · exact c.ap a ha h
    · exact c0.mutSome a ha (by rw [h]; exact hn)
  · rcases h with h | ⟨_, h⟩
    · exact c.lv a h
    · rw [h, ht]
      exact fun z => nomatch z
  · rcases h with h | ⟨_, h⟩
    · exact c.tf q hq h
    · obtain ⟨ps, e⟩ := tab_some c.tb q hq
      rw [h, ht] at e
      cases e

/-! ### the drawer, keys, rows, tables -/
def pLDraw : DSp := fun ws C Q _ => ∃ (n : Int) (l : List D), ws = [.ref 0, .val (.int n)] ∧ C = [.lst l] ∧ StL l ∧ 0 < n ∧ n.natAbs < 2 ^ 200 ∧ ∀ d l', 0 ≤ d → d < n → StL l' → Q (.val (.int d)) [.lst l']
def pLKey : DSp := fun ws C Q _ => ∃ (l : List D), ws = [.ref 0] ∧ C = [.lst l] ∧ StL l ∧ ∀ s l', KeyOk s → StL l' → Q (.val (.str s)) [.lst l']
def pLRow : DSp := fun ws C Q _ => ∃ (l : List D), ws = [.ref 0] ∧ C = [.lst l] ∧ StL l ∧ ∀ ns l', RowOk ns → StL l' → Q (.val (rowD ns)) [.lst l']
abbrev tabD (tb : List (Str × List Int)) : D := .list (tb.map pairD)
def pLTable : DSp := fun ws C Q _ => ∃ (n : Int) (l : List D), ws = [.ref 0, .val (.int n)] ∧ C = [.lst l] ∧ StL l ∧ 0 ≤ n ∧ n ≤ 30 ∧ ∀ tb l', TabOk tb → (tb.length : Int) ≤ n → StL l' → Q (.val (tabD tb)) [.lst l']
/-- what an old promise about the state is asked: all but results that are data -/
theorem st_bridge {ct : Ct} {m : Nat} {P : DSp} {vs : List V} {H : Hp} {Q : VK} {E : XK} (h : spD ct 1 m P vs H Q E) (hc : ∀ ws C QD RX, P ws C QD RX → ∃ l, C = [.lst l] ∧ StL l) :
    ∃ (g : Gh) (l : List D) (ws : List W) (QD : DK) (RX : XD) (st lA : Addr), Clz ct g H [.lst l] ∧ RWs ct g H vs ws ∧ g.as = [st] ∧ Good st lA H ∧ P ws [.lst l] QD RX ∧
      (∀ v d H', Le st H H' → Good st lA H' → TD H' v d → (∀ l', StL l' → QD (.val d) [.lst l']) → Q v H') ∧
      (∀ t us ds H', Le st H H' → Good st lA H' → H t = none → H' t = some (.lst us) → TDs H' us ds → (∀ l', StL l' → QD (.val (.list ds)) [.lst l']) → Q (.ref t) H') := by
  obtain ⟨g, C, ws, QD, RX, h1, h2, h3, h4, h5, h6, h7⟩ := h
  obtain ⟨l, rfl, s⟩ := hc _ _ _ _ h5
  obtain ⟨st, lA, ea, em, f, nF, G⟩ := st_in h3 s
  refine ⟨g, l, ws, QD, RX, st, lA, h3, h4, ea, G, h5, fun v d H' le G' r q => ?_, fun t us ds H' le G' hn ht hT q => ?_⟩
  · obtain ⟨l', s', k, fr, c⟩ := st_out h3 ea em f nF G le G'
    exact h6 v H' g _ (.val d) k fr c rfl (TD.rd _ _ r) (q l' s')
  · obtain ⟨l', s', k, fr, c⟩ := st_out h3 ea em f nF G le G'
    obtain ⟨k2, fr2, c2, r2⟩ := st_new k fr c h3 hn ht (TDs.rds _ _ hT)
    exact h6 _ H' _ _ (.val (.list ds)) k2 fr2 c2 rfl r2 (q l' s')
theorem st_ref {ct : Cl} {g : Gh} {H : Hp} {v : V} {st : Addr} (r : RW ct g H v (.ref 0)) (ea : g.as = [st]) : v = .ref st := by
  obtain ⟨a, h1, rfl⟩ := r
  rw [ea] at h1
  cases h1
  rfl
section
variable {P : Program} {w : World} {K : PySem.W.Frag} {mg : Str → Option Value} {base : Heap} {ct : Ct} {k : Nat} {f : Addr} {fd : FuncData}
theorem br_draw (F : FnOk P w K mg base CX0 k f fd ["state", "limit"] spDraw) : FnOk P w K mg base CX0 k f fd ["state", "limit"] (spD ct 1 2 pLDraw) := F.imp fun vs H Q E h => by
  obtain ⟨g, l, ws, QD, RX, st, lA, c, r, ea, G, ⟨n, l0, rfl, hl, s, h1, h2, q⟩, out, _⟩ := st_bridge h (fun ws C QD RX ⟨n, l, _, h, s, _⟩ => ⟨l, h, s⟩)
  obtain ⟨v, u, rfl, r1, r2⟩ := rws2 r
  rw [st_ref r1 ea, rw_int r2]
  exact ⟨st, lA, n, rfl, G, h1, h2, fun d H' d0 d1 le G' => out _ (.int d) H' le G' (.int d) fun l' s' => q d l' d0 d1 s'⟩
theorem br_key (F : FnOk P w K mg base CX0 k f fd ["state"] spKey) : FnOk P w K mg base CX0 k f fd ["state"] (spD ct 1 1 pLKey) := F.imp fun vs H Q E h => by
  obtain ⟨g, l, ws, QD, RX, st, lA, c, r, ea, G, ⟨l0, rfl, hl, s, q⟩, out, _⟩ := st_bridge h (fun ws C QD RX ⟨l, _, h, s, _⟩ => ⟨l, h, s⟩)
  obtain ⟨v, rfl, r1⟩ := rws1 r
  rw [st_ref r1 ea]
  exact ⟨st, lA, rfl, G, fun s H' hs le G' => out _ (.str s) H' le G' (.str s) fun l' s' => q s l' hs s'⟩
theorem br_row (F : FnOk P w K mg base CX0 k f fd ["state"] spRow) : FnOk P w K mg base CX0 k f fd ["state"] (spD ct 1 1 pLRow) := F.imp fun vs H Q E h => by
  obtain ⟨g, l, ws, QD, RX, st, lA, c, r, ea, G, ⟨l0, rfl, hl, s, q⟩, out, _⟩ := st_bridge h (fun ws C QD RX ⟨l, _, h, s, _⟩ => ⟨l, h, s⟩)
  obtain ⟨v, rfl, r1⟩ := rws1 r
  rw [st_ref r1 ea]
  exact ⟨st, lA, rfl, G, fun a ns H' hs le G' ha => out _ (rowD ns) H' le G' (.tup ha (TDs.ints ns)) fun l' s' => q ns l' hs s'⟩
theorem br_table (F : FnOk P w K mg base CX0 k f fd ["state", "most"] spTable) : FnOk P w K mg base CX0 k f fd ["state", "most"] (spD ct 1 2 pLTable) := F.imp fun vs H Q E h => by
  obtain ⟨g, l, ws, QD, RX, st, lA, c, r, ea, G, ⟨n, l0, rfl, hl, s, h1, h2, q⟩, _, out⟩ := st_bridge h (fun ws C QD RX ⟨n, l, _, h, s, _⟩ => ⟨l, h, s⟩)
  obtain ⟨v, u, rfl, r1, r2⟩ := rws2 r
  rw [st_ref r1 ea, rw_int r2]
  exact ⟨st, lA, n, rfl, G, h1, h2, fun t us tb H' hok hn ht le G' hu hT => out t us _ H' le G' ht hu hT fun l' s' => q tb l' hok hn s'⟩
end

abbrev sLDraw : Stmt := sDraw
abbrev sLKey : Stmt := sKey
abbrev sLRow : Stmt := sRow
abbrev sLTable : Stmt := sTable
theorem spD_none {P : Program} {w : World} {K : PySem.W.Frag} {mg : Str → Option Value} {base : Heap} {CX : CXT} {k : Nat} {f : Addr} {fd : FuncData} {ps : List Str} {ct : Ct} {n m : Nat} {p : DSp} (no : ∀ ws C Q R, ¬ p ws C Q R) : FnOk P w K mg base CX k f fd ps (spD ct n m p) := by
  have no' : ∀ vs H Q E, ¬ spD ct n m p vs H Q E := fun vs H Q E ⟨g, C, ws, QD, RX, _, _, _, _, h, _⟩ => no _ _ _ _ h
  exact ⟨fun vs H Q E h => absurd h (no' vs H Q E), fun A outer s H args us vs Q E _ _ _ _ h => absurd h (no' vs H Q E)⟩

/-! ### encodings -/
mutual
def enc : PyData → List Int
  | .int i => [0, i]
  | .str s => 1 :: (s.length : Int) :: s.cps.toList.map (fun c => ((c : Nat) : Int))
  | .tuple ds => 2 :: (ds.length : Int) :: encs ds
  | _ => []
def encs : List PyData → List Int
  | [] => []
  | d :: ds => enc d ++ encs ds
end
mutual
def isV : PyData → Bool
  | .int _ => true
  | .str _ => true
  | .tuple ds => areV ds
  | _ => false
def areV : List PyData → Bool
  | [] => true
  | d :: ds => isV d && areV ds
end
theorem encs_app : ∀ xs ys : List PyData, encs (xs ++ ys) = encs xs ++ encs ys
  | [], ys => rfl
  | x :: xs, ys => by
    show enc x ++ encs (xs ++ ys) = (enc x ++ encs xs) ++ encs ys
    rw [encs_app xs ys, List.append_assoc]
theorem areV_app : ∀ xs ys : List PyData, areV (xs ++ ys) = (areV xs && areV ys)
  | [], ys => rfl
  | x :: xs, ys => by
    show (isV x && areV (xs ++ ys)) = ((isV x && areV xs) && areV ys)
    rw [areV_app xs ys, Bool.and_assoc]
theorem areV_rev (xs : List PyData) : areV xs.reverse = areV xs := by
  induction xs with
  | nil => rfl
  | cons x xs ih =>
    rw [List.reverse_cons, areV_app, ih]
    show (areV xs && (isV x && true)) = (isV x && areV xs)
    rw [Bool.and_true, Bool.and_comm]
theorem enc_two {d : PyData} (h : isV d = true) : 2 ≤ (enc d).length := by
  cases d with
  | int i => exact Nat.le_refl _
  | str s =>
    show 2 ≤ (s.cps.toList.map _).length + 1 + 1
    omega
  | tuple ds =>
    show 2 ≤ (encs ds).length + 1 + 1
    omega
  | none => cases h
  | bool b => cases h
  | list ds => cases h
  | dict kvs => cases h
theorem encs_len : ∀ {ds : List PyData}, areV ds = true → 2 * ds.length ≤ (encs ds).length
  | [], _ => Nat.zero_le _
  | d :: ds, h => by
    have h1 : (isV d && areV ds) = true := h
    rw [Bool.and_eq_true] at h1
    have h2 := enc_two h1.1
    have h3 := encs_len h1.2
    show 2 * (ds.length + 1) ≤ (enc d ++ encs ds).length
    rw [List.length_append]
    omega
theorem big {n : Nat} (h : n ≤ 1000000) : n ≤ sizeLine := Nat.le_trans h (by decide)
theorem bigL {n : Nat} (h : n ≤ 1000000) : n < sizeLine := Nat.lt_of_le_of_lt h (by decide)
/-! ### digests -/
def RuleOk (b m : Int) : Prop := 1 ≤ b ∧ b ≤ 10 ^ 18 ∧ 2 ≤ m ∧ m ≤ 10 ^ 18
def digF (b m : Int) (ns : List Int) : Int := ns.foldl (fun r n => Int.fmod (r * b + n + 1) m) 1
def dig (b m : Int) (ns : List Int) : Int := Int.fmod (digF b m ns * b + (ns.length : Int)) m
theorem digF_snoc (b m n : Int) (ns : List Int) : digF b m (ns ++ [n]) = Int.fmod (digF b m ns * b + n + 1) m := by
  unfold digF
  rw [List.foldl_append]
  rfl

theorem last_get {α : Type} (xs : List α) (x : α) : (xs ++ [x])[(xs ++ [x]).length - 1]? = some x := by
  rw [List.length_append]
  exact List.getElem?_concat_length
theorem isEmpty_concat {α : Type} (xs : List α) (x : α) : (xs ++ [x]).isEmpty = false := by
  cases xs <;> rfl
theorem concat_cases {α : Type} (xs : List α) : xs = [] ∨ ∃ ys y, xs = ys ++ [y] := by
  rcases List.eq_nil_or_concat xs with h | ⟨ys, y, h⟩
  · exact .inl h
  · exact .inr ⟨ys, y, by rw [h, List.concat_eq_append]⟩
def intsD (ns : List Int) : List D := ns.map .int
theorem intsD_app (a b : List Int) : intsD (a ++ b) = intsD a ++ intsD b := List.map_append
theorem intsD_len (a : List Int) : (intsD a).length = a.length := List.length_map ..
theorem big2 {n : Nat} (h : n ≤ 1000000) : n ≤ sizeLine := Nat.le_trans h (by decide)

def codesI (s : Str) : List Int := s.cps.toList.map fun c => ((c : Nat) : Int)
def rkF (ns : List Int) : Int := ns.foldl (fun r n => Int.fmod (r * 131 + n) 1000003) 7
def rk (s : Str) : Int := rkF (codesI s)
theorem rkF_snoc (ns : List Int) (n : Int) : rkF (ns ++ [n]) = Int.fmod (rkF ns * 131 + n) 1000003 := by
  unfold rkF
  rw [List.foldl_append]
  rfl
/-- the index of the highest of the first n -/
def topI (tb : Tab) : Nat → Nat
  | 0 => 0
  | n + 1 => if rk (keyAt tb (topI tb n)) < rk (keyAt tb n) then n else topI tb n
theorem topI_lt (tb : Tab) : ∀ n, topI tb (n + 1) ≤ n
  | 0 => by
    show (if _ then 0 else 0) ≤ 0
    split <;> exact Nat.le_refl 0
  | n + 1 => by
    have h := topI_lt tb n
    show (if _ then n + 1 else topI tb (n + 1)) ≤ n + 1
    split
    · exact Nat.le_refl _
    · omega
theorem topI_in {tb : Tab} (h : tb ≠ []) : topI tb tb.length < tb.length := by
  cases tb with
  | nil => exact absurd rfl h
  | cons p r => exact Nat.lt_succ_of_le (topI_lt (p :: r) r.length)
structure Lnk where
  d : Int
  c : Int
  s0 : Int
  s1 : Int
  s2 : Int
deriving DecidableEq
def Lnk.s (l : Lnk) : Nat → Int
  | 0 => l.s0
  | 1 => l.s1
  | _ => l.s2
def sumsD (l : Lnk) : PyData := .tuple [.int l.s0, .int l.s1, .int l.s2]
def linkD (l : Lnk) : PyData := .tuple [.int l.d, .int l.c, sumsD l]
structure Ent where
  key : Str
  row : List Int
  l : Lnk
  r : Lnk
deriving DecidableEq
def entDs (e : Ent) : List PyData := [.str e.key, rowD e.row, linkD e.l, linkD e.r]
def entD (e : Ent) : PyData := .tuple (entDs e)
def nodeD (e : Ent) : PyData := .tuple (.str "node" :: entDs e)
def lnkOf (b m : Int) (e : Ent) : Lnk := ⟨dig b m (enc (nodeD e)), 1 + e.l.c + e.r.c, colOf e.row 0 + e.l.s0 + e.r.s0, colOf e.row 1 + e.l.s1 + e.r.s1, colOf e.row 2 + e.l.s2 + e.r.s2⟩
def lnk0 (b m : Int) : Lnk := ⟨dig b m (enc (.tuple [.str "empty"])), 0, 0, 0, 0⟩
def Ent.Fit (e : Ent) : Prop := e.key.length ≤ 1000 ∧ e.row.length ≤ 1000
theorem areV_ints : ∀ ns : List Int, areV (ns.map PyData.int) = true
  | [] => rfl
  | _ :: r => areV_ints r
theorem depth_ints : ∀ ns : List Int, PyData.depthAll (ns.map PyData.int) = 0
  | [] => rfl
  | n :: r => by
    show max 0 (PyData.depthAll (r.map PyData.int)) = 0
    rw [depth_ints r]
    rfl
theorem encs_ints : ∀ ns : List Int, (encs (ns.map PyData.int)).length = 2 * ns.length
  | [] => rfl
  | n :: r => by
    show (encs (r.map PyData.int)).length + 1 + 1 = 2 * (r.length + 1)
    rw [encs_ints r]
    omega
theorem enc_str_len (s : Str) : (enc (.str s)).length = s.length + 2 := by
  show (s.cps.toList.map _).length + 1 + 1 = s.length + 2
  rw [List.length_map, str_len]
theorem node_fit {e : Ent} (h : e.Fit) : isV (nodeD e) = true ∧ (nodeD e).depth < 8 ∧ (enc (nodeD e)).length ≤ 100000 := by
  refine ⟨?_, ?_, ?_⟩
  · show (true && (true && (areV (e.row.map PyData.int) && (true && (true && true))))) = true
    rw [areV_ints]
    rfl
  · show max 0 (max 0 (max (PyData.depthAll (e.row.map PyData.int) + 1) (max 2 (max 2 0)))) + 1 < 8
    rw [depth_ints]
    decide
  · have h1 := enc_str_len e.key
    have h2 := encs_ints e.row
    obtain ⟨k1, k2⟩ := h
    show (enc (.str "node") ++ (enc (.str e.key) ++ ((2 :: _ :: encs (e.row.map PyData.int)) ++ (enc (linkD e.l) ++ (enc (linkD e.r) ++ []))))).length + 1 + 1 ≤ 100000
    rw [List.length_append, List.length_append, List.length_append, List.length_append, List.length_append, List.length_cons, List.length_cons, h1, h2]
    show 6 + (_ + (_ + (14 + (14 + 0)))) + 1 + 1 ≤ 100000
    omega
inductive Tree where
  | nil
  | node (k : Str) (r : List Int) (x y : Tree)
def Tree.lnk (b m : Int) : Tree → Lnk
  | .nil => lnk0 b m
  | .node k r x y => lnkOf b m ⟨k, r, x.lnk b m, y.lnk b m⟩
def treeN : Nat → Tab → Tree
  | 0, _ => .nil
  | n + 1, tb => match tb[topI tb tb.length]? with
    | none => .nil
    | some p => .node p.1 p.2 (treeN n (tb.take (topI tb tb.length))) (treeN n (tb.drop (topI tb tb.length + 1)))
def treeOf (tb : Tab) : Tree := treeN tb.length tb
theorem treeN_same : ∀ (n m : Nat) (tb : Tab), tb.length ≤ n → tb.length ≤ m → treeN n tb = treeN m tb := by
  intro n
  induction n with
  | zero =>
    intro m tb h _
    have e : tb = [] := List.eq_nil_of_length_eq_zero (by omega)
    subst e
    cases m <;> rfl
  | succ n ih =>
    intro m tb h k
    cases m with
    | zero =>
      have e : tb = [] := List.eq_nil_of_length_eq_zero (by omega)
      subst e
      rfl
    | succ m =>
      show (match tb[topI tb tb.length]? with | none => Tree.nil | some p => _) = (match tb[topI tb tb.length]? with | none => Tree.nil | some p => _)
      cases e : tb[topI tb tb.length]? with
      | none => rfl
      | some p =>
        have hi : topI tb tb.length < tb.length := (List.getElem?_eq_some_iff.mp e).1
        show Tree.node _ _ _ _ = Tree.node _ _ _ _
        rw [ih m _ (by rw [List.length_take]; omega) (by rw [List.length_take]; omega), ih m _ (by rw [List.length_drop]; omega) (by rw [List.length_drop]; omega)]
theorem treeOf_nil : treeOf [] = .nil := rfl
theorem treeOf_node {tb : Tab} {p : Str × List Int} (h : tb[topI tb tb.length]? = some p) : treeOf tb = .node p.1 p.2 (treeOf (tb.take (topI tb tb.length))) (treeOf (tb.drop (topI tb tb.length + 1))) := by
  have hi : topI tb tb.length < tb.length := (List.getElem?_eq_some_iff.mp h).1
  have e : treeOf tb = treeN (tb.length - 1 + 1) tb := treeN_same _ _ _ (Nat.le_refl _) (by omega)
  rw [e]
  show (match tb[topI tb tb.length]? with | none => Tree.nil | some p => _) = _
  rw [h]
  show Tree.node _ _ _ _ = Tree.node _ _ _ _
  unfold treeOf
  rw [treeN_same (tb.length - 1) _ (tb.take (topI tb tb.length)) (by rw [List.length_take]; omega) (Nat.le_refl _), treeN_same (tb.length - 1) _ (tb.drop (topI tb tb.length + 1)) (by rw [List.length_drop]; omega) (Nat.le_refl _)]
def TabFit (tb : Tab) : Prop := ∀ p ∈ tb, p.1.length ≤ 1000 ∧ p.2.length ≤ 1000
theorem TabOk.fit {tb : Tab} (h : TabOk tb) : TabFit tb := fun p hp => by
  obtain ⟨⟨_, k1, _⟩, _, k2, _⟩ := h.2 p hp
  exact ⟨by omega, by omega⟩
theorem empty_fit : isV (.tuple [.str "empty"]) = true ∧ (PyData.tuple [.str "empty"]).depth < 8 ∧ (enc (.tuple [.str "empty"])).length ≤ 100000 := by
  decide +kernel
inductive Chg where
  | put (k : Str) (r : List Int)
  | rem (k : Str)
def Chg.key : Chg → Str
  | .put k _ => k
  | .rem k => k
def Chg.own : Chg → List (Str × List Int)
  | .put k r => [(k, r)]
  | .rem _ => []
def Chg.Ok : Chg → Prop
  | .put k r => KeyOk k ∧ RowOk r
  | .rem k => KeyOk k
def chgD : Chg → PyData
  | .put k r => .tuple [.str "put", .str k, rowD r]
  | .rem k => .tuple [.str "remove", .str k]
def changed (tb : List (Str × List Int)) (ch : Chg) : List (Str × List Int) := below ch.key tb ++ ch.own ++ above ch.key tb
theorem Chg.key_ok {ch : Chg} (h : ch.Ok) : KeyOk ch.key := by
  cases ch with
  | put k r => exact h.1
  | rem k => exact h
theorem changed_ok {tb : List (Str × List Int)} {ch : Chg} (h : ∀ p ∈ tb, KeyOk p.1 ∧ RowOk p.2) (hc : ch.Ok) : ∀ p ∈ changed tb ch, KeyOk p.1 ∧ RowOk p.2 := by
  intro p hp
  rcases List.mem_append.mp hp with hp | hp
  · rcases List.mem_append.mp hp with hp | hp
    · exact h p (List.mem_filter.mp hp).1
    · cases ch with
      | put k r =>
        have e : p = (k, r) := by simpa [Chg.own] using hp
        rw [e]
        exact hc
      | rem k => cases hp
  · exact h p (List.mem_filter.mp hp).1
theorem changed_len (tb : List (Str × List Int)) (ch : Chg) : (changed tb ch).length ≤ tb.length + 1 := by
  have h := parts_len ch.key tb
  unfold changed
  rw [List.length_append, List.length_append]
  have h2 : ch.own.length ≤ 1 := by
    cases ch with
    | put k r => exact Nat.le_refl _
    | rem k => exact Nat.zero_le _
  omega
def slt (a b : Str) : Bool := decide (a.cps.toList < b.cps.toList)
def Tree.size : Tree → Nat
  | .nil => 0
  | .node _ _ x y => x.size + y.size + 1
def entOf (b m : Int) (k : Str) (r : List Int) (x y : Tree) : Ent := ⟨k, r, x.lnk b m, y.lnk b m⟩
def wGet (b m : Int) (key : Str) : Tree → List Ent
  | .nil => []
  | .node k r x y => entOf b m k r x y :: (if slt key k = true then wGet b m key x else if slt k key = true then wGet b m key y else [])
def wPlace (b m : Int) (key : Str) : Tree → List Ent
  | .nil => []
  | .node k r x y => entOf b m k r x y :: (if slt k key = true then wPlace b m key y else wPlace b m key x)
def wAt (b m : Int) : Tree → Int → List Ent
  | .nil, _ => []
  | .node k r x y, p => if ((Tree.node k r x y).lnk b m).c ≤ p then [] else
      entOf b m k r x y :: (if p < (x.lnk b m).c then wAt b m x p else if (x.lnk b m).c < p then wAt b m y (p - (x.lnk b m).c - 1) else [])
def wRange (b m : Int) (lo hi : Str) : Tree → List Ent
  | .nil => []
  | .node k r x y => entOf b m k r x y :: ((if slt lo k = true then wRange b m lo hi x else []) ++ (if slt k hi = true then wRange b m lo hi y else []))
def wNext (b m : Int) (key : Str) (cnt : Int) : Tree → Int → Int × List Ent
  | .nil, g => (g, [])
  | .node k r x y, g => if cnt ≤ g then (g, []) else
      if slt key k = true then
        ((wNext b m key cnt y (if (wNext b m key cnt x g).1 < cnt then (wNext b m key cnt x g).1 + 1 else (wNext b m key cnt x g).1)).1,
          entOf b m k r x y :: ((wNext b m key cnt x g).2 ++ (wNext b m key cnt y (if (wNext b m key cnt x g).1 < cnt then (wNext b m key cnt x g).1 + 1 else (wNext b m key cnt x g).1)).2))
      else ((wNext b m key cnt y g).1, entOf b m k r x y :: (wNext b m key cnt y g).2)
def aboveB (lo : Str) : Option Str → Bool
  | none => false
  | some ab => !slt ab lo
def inside (lo hi : Str) (ab be : Option Str) : Bool :=
  match be with
  | none => false
  | some be => !slt hi be && (decide (lo = "") || aboveB lo ab)
def wSum (b m : Int) (lo hi : Str) : Tree → Option Str → Option Str → List Ent
  | .nil, _, _ => []
  | .node k r x y, ab, be => if inside lo hi ab be = true then [] else
      entOf b m k r x y :: ((if slt lo k = true then wSum b m lo hi x ab (some k) else []) ++ (if slt k hi = true then wSum b m lo hi y (some k) be else []))
/-- the walk of a query -/
def certOf (b m : Int) (t : Tree) : Qry → List Ent
  | .get k => wGet b m k t
  | .range lo hi => wRange b m lo hi t
  | .next k n => (wNext b m k n t 0).2
  | .count lo hi => wSum b m lo hi t none none
  | .sum _ lo hi => wSum b m lo hi t none none
  | .place k => wPlace b m k t
  | .at_ n => wAt b m t n
theorem wGet_len (b m : Int) (key : Str) : ∀ t : Tree, (wGet b m key t).length ≤ t.size
  | .nil => Nat.le_refl _
  | .node k r x y => by
    have h1 := wGet_len b m key x
    have h2 := wGet_len b m key y
    show (if _ then _ else if _ then _ else _ : List Ent).length + 1 ≤ x.size + y.size + 1
    split
    · omega
    · split
      · omega
      · show 0 + 1 ≤ _
        omega
theorem wPlace_len (b m : Int) (key : Str) : ∀ t : Tree, (wPlace b m key t).length ≤ t.size
  | .nil => Nat.le_refl _
  | .node k r x y => by
    have h1 := wPlace_len b m key x
    have h2 := wPlace_len b m key y
    show (if _ then _ else _ : List Ent).length + 1 ≤ x.size + y.size + 1
    split <;> omega
theorem wAt_len (b m : Int) : ∀ (t : Tree) (p : Int), (wAt b m t p).length ≤ t.size
  | .nil, _ => Nat.le_refl _
  | .node k r x y, p => by
    have h1 := wAt_len b m x p
    have h2 := wAt_len b m y (p - (x.lnk b m).c - 1)
    unfold wAt
    split
    · exact Nat.zero_le _
    · show (if _ then _ else if _ then _ else _ : List Ent).length + 1 ≤ x.size + y.size + 1
      split
      · omega
      · split
        · omega
        · show 0 + 1 ≤ _
          omega
theorem wRange_len (b m : Int) (lo hi : Str) : ∀ t : Tree, (wRange b m lo hi t).length ≤ t.size
  | .nil => Nat.le_refl _
  | .node k r x y => by
    have h1 := wRange_len b m lo hi x
    have h2 := wRange_len b m lo hi y
    show (_ ++ _ : List Ent).length + 1 ≤ x.size + y.size + 1
    rw [List.length_append]
    have e : ([] : List Ent).length = 0 := rfl
    split <;> split <;> omega
theorem wSum_len (b m : Int) (lo hi : Str) : ∀ (t : Tree) (ab be : Option Str), (wSum b m lo hi t ab be).length ≤ t.size
  | .nil, _, _ => Nat.le_refl _
  | .node k r x y, ab, be => by
    have h1 := wSum_len b m lo hi x ab (some k)
    have h2 := wSum_len b m lo hi y (some k) be
    unfold wSum
    split
    · exact Nat.zero_le _
    · show (_ ++ _ : List Ent).length + 1 ≤ x.size + y.size + 1
      rw [List.length_append]
      have e : ([] : List Ent).length = 0 := rfl
      split <;> split <;> omega
theorem wNext_len (b m : Int) (key : Str) (cnt : Int) : ∀ (t : Tree) (g : Int), (wNext b m key cnt t g).2.length ≤ t.size
  | .nil, _ => Nat.le_refl _
  | .node k r x y, g => by
    have h1 := wNext_len b m key cnt x g
    have h2 := wNext_len b m key cnt y
    unfold wNext
    split
    · exact Nat.zero_le _
    · split
      · have h3 := h2 (if (wNext b m key cnt x g).1 < cnt then (wNext b m key cnt x g).1 + 1 else (wNext b m key cnt x g).1)
        show (_ ++ _ : List Ent).length + 1 ≤ x.size + y.size + 1
        rw [List.length_append]
        omega
      · have h3 := h2 g
        show (wNext b m key cnt y g).2.length + 1 ≤ x.size + y.size + 1
        omega
theorem certOf_len (b m : Int) (t : Tree) (q : Qry) : (certOf b m t q).length ≤ t.size := by
  cases q with
  | get k => exact wGet_len ..
  | range lo hi => exact wRange_len ..
  | next k n => exact wNext_len ..
  | count lo hi => exact wSum_len ..
  | sum c lo hi => exact wSum_len ..
  | place k => exact wPlace_len ..
  | at_ n => exact wAt_len ..
theorem treeN_size : ∀ (n : Nat) (tb : Tab), (treeN n tb).size ≤ tb.length
  | 0, _ => Nat.zero_le _
  | n + 1, tb => by
    show (match tb[topI tb tb.length]? with | none => Tree.nil | some p => _ : Tree).size ≤ _
    cases e : tb[topI tb tb.length]? with
    | none => exact Nat.zero_le _
    | some p =>
      have hi : topI tb tb.length < tb.length := (List.getElem?_eq_some_iff.mp e).1
      have h1 := treeN_size n (tb.take (topI tb tb.length))
      have h2 := treeN_size n (tb.drop (topI tb tb.length + 1))
      rw [List.length_take] at h1
      rw [List.length_drop] at h2
      show (treeN n (tb.take (topI tb tb.length))).size + (treeN n (tb.drop (topI tb tb.length + 1))).size + 1 ≤ tb.length
      omega
theorem treeOf_size (tb : Tab) : (treeOf tb).size ≤ tb.length := treeN_size _ _




def entsD (es : List Ent) : List PyData := es.map entD
def spAnswered : Sp := fun vs H Q _ => ∃ (r t : Addr) (c : V) (b m : Int) (us : List V) (tb : Tab) (qy : Qry), vs = [.ref r, .ref t, c] ∧ H r = some (.tup [.int b, .int m]) ∧ RuleOk b m ∧ H t = some (.lst us) ∧ TDs H us (tb.map pairD) ∧ TabOk tb ∧ tb.length ≤ 100 ∧ TD H c (qryD qy) ∧ qy.Ok ∧
  ∀ p v f ws H', H f = none → Same H H' → H' p = some (.tup [v, .ref f]) → ResAt H H' v (ansOf tb qy) → H' f = some (.lst ws) → TDs H' ws ((certOf b m (treeOf tb) qy).map entD) → Q (.ref p) H'
/-! ### what stands in a tree -/
def Tree.All (P : Str → List Int → Prop) : Tree → Prop
  | .nil => True
  | .node k r x y => P k r ∧ x.All P ∧ y.All P
theorem treeN_all {P : Str → List Int → Prop} : ∀ (n : Nat) (tb : Tab), (∀ p ∈ tb, P p.1 p.2) → (treeN n tb).All P
  | 0, _, _ => trivial
  | n + 1, tb, h => by
    show (match tb[topI tb tb.length]? with | none => Tree.nil | some p => _ : Tree).All P
    cases e : tb[topI tb tb.length]? with
    | none => trivial
    | some p => exact ⟨h p (List.mem_of_getElem? e), treeN_all n _ fun q hq => h q (List.mem_of_mem_take hq), treeN_all n _ fun q hq => h q (List.mem_of_mem_drop hq)⟩
theorem treeOf_all {P : Str → List Int → Prop} {tb : Tab} (h : ∀ p ∈ tb, P p.1 p.2) : (treeOf tb).All P := treeN_all _ _ h
theorem wGet_all {P : Str → List Int → Prop} (b m : Int) (key : Str) : ∀ t : Tree, t.All P → ∀ e ∈ wGet b m key t, P e.key e.row
  | .nil, _, e, he => by cases he
  | .node k r x y, h, e, he => by
    rcases List.mem_cons.mp he with z | z
    · rw [z]
      exact h.1
    · split at z
      · exact wGet_all b m key x h.2.1 e z
      · split at z
        · exact wGet_all b m key y h.2.2 e z
        · cases z
theorem wPlace_all {P : Str → List Int → Prop} (b m : Int) (key : Str) : ∀ t : Tree, t.All P → ∀ e ∈ wPlace b m key t, P e.key e.row
  | .nil, _, e, he => by cases he
  | .node k r x y, h, e, he => by
    rcases List.mem_cons.mp he with z | z
    · rw [z]
      exact h.1
    · split at z
      · exact wPlace_all b m key y h.2.2 e z
      · exact wPlace_all b m key x h.2.1 e z
theorem wAt_all {P : Str → List Int → Prop} (b m : Int) : ∀ (t : Tree) (p : Int), t.All P → ∀ e ∈ wAt b m t p, P e.key e.row
  | .nil, _, _, e, he => by cases he
  | .node k r x y, p, h, e, he => by
    unfold wAt at he
    split at he
    · cases he
    · rcases List.mem_cons.mp he with z | z
      · rw [z]
        exact h.1
      · split at z
        · exact wAt_all b m x _ h.2.1 e z
        · split at z
          · exact wAt_all b m y _ h.2.2 e z
          · cases z
theorem wRange_all {P : Str → List Int → Prop} (b m : Int) (lo hi : Str) : ∀ t : Tree, t.All P → ∀ e ∈ wRange b m lo hi t, P e.key e.row
  | .nil, _, e, he => by cases he
  | .node k r x y, h, e, he => by
    rcases List.mem_cons.mp he with z | z
    · rw [z]
      exact h.1
    · rcases List.mem_append.mp z with z | z
      · split at z
        · exact wRange_all b m lo hi x h.2.1 e z
        · cases z
      · split at z
        · exact wRange_all b m lo hi y h.2.2 e z
        · cases z
theorem wSum_all {P : Str → List Int → Prop} (b m : Int) (lo hi : Str) : ∀ (t : Tree) (ab be : Option Str), t.All P → ∀ e ∈ wSum b m lo hi t ab be, P e.key e.row
  | .nil, _, _, _, e, he => by cases he
  | .node k r x y, ab, be, h, e, he => by
    unfold wSum at he
    split at he
    · cases he
    · rcases List.mem_cons.mp he with z | z
      · rw [z]
        exact h.1
      · rcases List.mem_append.mp z with z | z
        · split at z
          · exact wSum_all b m lo hi x _ _ h.2.1 e z
          · cases z
        · split at z
          · exact wSum_all b m lo hi y _ _ h.2.2 e z
          · cases z
theorem wNext_all {P : Str → List Int → Prop} (b m : Int) (key : Str) (cnt : Int) : ∀ (t : Tree) (g : Int), t.All P → ∀ e ∈ (wNext b m key cnt t g).2, P e.key e.row
  | .nil, _, _, e, he => by cases he
  | .node k r x y, g, h, e, he => by
    unfold wNext at he
    split at he
    · cases he
    · split at he
      · rcases List.mem_cons.mp he with z | z
        · rw [z]
          exact h.1
        · rcases List.mem_append.mp z with z | z
          · exact wNext_all b m key cnt x _ h.2.1 e z
          · exact wNext_all b m key cnt y _ h.2.2 e z
      · rcases List.mem_cons.mp he with z | z
        · rw [z]
          exact h.1
        · exact wNext_all b m key cnt y _ h.2.2 e z
theorem certOf_all {P : Str → List Int → Prop} (b m : Int) {t : Tree} (h : t.All P) (q : Qry) : ∀ e ∈ certOf b m t q, P e.key e.row := by
  cases q with
  | get k => exact wGet_all _ _ _ _ h
  | range lo hi => exact wRange_all _ _ _ _ _ h
  | next k n => exact wNext_all _ _ _ _ _ _ h
  | count lo hi => exact wSum_all _ _ _ _ _ _ _ h
  | sum c lo hi => exact wSum_all _ _ _ _ _ _ _ h
  | place k => exact wPlace_all _ _ _ _ h
  | at_ n => exact wAt_all _ _ _ _ h
theorem cert_ok {b m : Int} {tb : Tab} (h : ∀ p ∈ tb, KeyOk p.1 ∧ RowOk p.2) (q : Qry) : ∀ e ∈ certOf b m (treeOf tb) q, KeyOk e.key ∧ RowOk e.row :=
  certOf_all (P := fun k r => KeyOk k ∧ RowOk r) b m (treeOf_all h) q
theorem KeyOk.asc {s : Str} (h : KeyOk s) : ∀ c ∈ s.cps.toList, c < 128 := fun c hc => let_ok c (h.2.2 c hc)

/-! ### entries among values -/
def Lnk.Ok (l : Lnk) : Prop := 0 ≤ l.d ∧ 0 ≤ l.c ∧ 0 ≤ l.s0 ∧ 0 ≤ l.s1 ∧ 0 ≤ l.s2
def Ent.Ok (e : Ent) : Prop := KeyOk e.key ∧ RowOk e.row ∧ e.l.Ok ∧ e.r.Ok
theorem Ent.Ok.fit {e : Ent} (h : e.Ok) : e.Fit := by
  obtain ⟨⟨_, h1, _⟩, ⟨_, h2, _⟩, _⟩ := h
  exact ⟨by omega, by omega⟩
theorem ints_inj : ∀ {xs ys : List Int}, xs.map PyData.int = ys.map PyData.int → xs = ys
  | [], [], _ => rfl
  | [], _ :: _, h => by cases h
  | _ :: _, [], h => by cases h
  | x :: xs, y :: ys, h => by
    rw [List.map_cons, List.map_cons, List.cons.injEq] at h
    rw [PyData.int.inj h.1, ints_inj h.2]
theorem linkD_inj {a b : Lnk} (h : linkD a = linkD b) : a = b := by
  cases a
  cases b
  simp only [linkD, sumsD, PyData.tuple.injEq, List.cons.injEq, PyData.int.injEq, and_true] at h
  obtain ⟨h1, h2, h3, h4, h5⟩ := h
  subst h1 h2 h3 h4 h5
  rfl
theorem entD_inj {a b : Ent} (h : entD a = entD b) : a = b := by
  cases a
  cases b
  simp only [entD, entDs, rowD, PyData.tuple.injEq, List.cons.injEq, PyData.str.injEq, and_true] at h
  obtain ⟨h1, h2, h3, h4⟩ := h
  rw [h1, ints_inj h2, linkD_inj h3, linkD_inj h4]
open Classical in
noncomputable def asEnt (d : PyData) : Option Ent := if h : ∃ e : Ent, d = entD e ∧ e.Ok then some h.choose else none
theorem asEnt_some {d : PyData} {e : Ent} (h : asEnt d = some e) : d = entD e ∧ e.Ok := by
  unfold asEnt at h
  split at h
  · rename_i k
    have e2 : k.choose = e := Option.some.inj h
    rw [← e2]
    exact k.choose_spec
  · cases h
theorem asEnt_ent {e : Ent} (h : e.Ok) : asEnt (entD e) = some e := by
  have k : ∃ e' : Ent, entD e = entD e' ∧ e'.Ok := ⟨e, rfl, h⟩
  unfold asEnt
  rw [dif_pos k]
  exact congrArg some (entD_inj k.choose_spec.1).symm
theorem asEnt_none {d : PyData} (h : asEnt d = none) (e : Ent) (he : e.Ok) : d ≠ entD e := fun z => by
  rw [z, asEnt_ent he] at h
  cases h
/-! ### a reader: what it asks for, what it is given -/
inductive Out (α : Type) where
  | ref (w : Str) (n : Nat)
  | got (a : α)
  | end_
/-- a walk by links; `out` where the fuel ends -/
inductive Wm (α : Type) where
  | out : Wm α
  | ret : α → Wm α
  | ask : Lnk → (Ent → Wm α) → Wm α
def Wm.bind {α β : Type} : Wm α → (α → Wm β) → Wm β
  | .out, _ => .out
  | .ret a, f => f a
  | .ask l k, f => .ask l fun e => (k e).bind f
/-- the word at an entry -/
noncomputable def judge (b m : Int) (l : Lnk) (d : PyData) : Str ⊕ Ent :=
  match asEnt d with
  | none => .inl "form"
  | some e => if (lnkOf b m e).d ≠ l.d then .inl "digest" else if lnkOf b m e ≠ l then .inl "sums" else .inr e
noncomputable def Wm.run {α : Type} (b m : Int) : Wm α → List PyData → Nat → Out α
  | .out => fun _ _ => .end_
  | .ret a => fun ds n => match ds with
    | [] => .got a
    | _ :: _ => .ref "long" n
  | .ask l k => fun ds n => match ds with
    | [] => .ref "short" n
    | d :: ds => match judge b m l d with
      | .inl w => .ref w n
      | .inr e => (k e).run b m ds (n + 1)
theorem run_ask {α : Type} {b m : Int} (l : Lnk) (k : Ent → Wm α) (d : PyData) (ds : List PyData) (n : Nat) : (Wm.ask l k).run b m (d :: ds) n = (match judge b m l d with | .inl w => Out.ref w n | .inr e => (k e).run b m ds (n + 1)) := by
  rw [Wm.run]
theorem run_ask0 {α : Type} {b m : Int} (l : Lnk) (k : Ent → Wm α) (n : Nat) : (Wm.ask l k).run b m [] n = .ref "short" n := by
  rw [Wm.run]
theorem run_ret0 {α : Type} {b m : Int} (a : α) (n : Nat) : (Wm.ret a).run b m [] n = .got a := by
  rw [Wm.run]
theorem run_ret {α : Type} {b m : Int} (a : α) (d : PyData) (ds : List PyData) (n : Nat) : (Wm.ret a).run b m (d :: ds) n = .ref "long" n := by
  rw [Wm.run]
/-- what a walk comes to with the right entries -/
inductive Hon {α : Type} (b m : Int) : Wm α → List Ent → α → Prop
  | ret (a : α) : Hon b m (.ret a) [] a
  | ask {l : Lnk} {k : Ent → Wm α} {e : Ent} {es : List Ent} {a : α} : lnkOf b m e = l → e.Ok → Hon b m (k e) es a → Hon b m (.ask l k) (e :: es) a
theorem Hon.bind {α β : Type} {b m : Int} {w : Wm α} {es fs : List Ent} {a : α} {c : β} {f : α → Wm β} (h : Hon b m w es a) (k : Hon b m (f a) fs c) : Hon b m (w.bind f) (es ++ fs) c := by
  induction h with
  | ret a => exact k
  | ask h1 h2 _ ih => exact .ask h1 h2 (ih k)
theorem judge_right {b m : Int} {e : Ent} (h : e.Ok) : judge b m (lnkOf b m e) (entD e) = .inr e := by
  unfold judge
  rw [asEnt_ent h]
  simp
/-- the right entries are taken -/
theorem Hon.run {α : Type} {b m : Int} {w : Wm α} {es : List Ent} {a : α} (h : Hon b m w es a) : ∀ n, w.run b m (es.map entD) n = .got a := by
  induction h with
  | ret a => exact fun n => run_ret0 a n
  | @ask l k e es a h1 h2 _ ih =>
    intro n
    rw [List.map_cons, run_ask, ← h1, judge_right h2]
    exact ih (n + 1)
/-! ### the verdict beside the right entries -/
inductive Verdict where
  | taken
  | clash (e g : Ent)
  | ref (w : Str) (n : Nat)
noncomputable def verdict (b m : Int) : List Ent → List PyData → Nat → Verdict
  | [], [], _ => .taken
  | [], _ :: _, n => .ref "long" n
  | _ :: _, [], n => .ref "short" n
  | e :: es, d :: ds, n => match asEnt d with
    | none => .ref "form" n
    | some g => if (lnkOf b m e).d ≠ (lnkOf b m g).d then .ref "digest" n
      else if lnkOf b m e ≠ lnkOf b m g then .ref "sums" n
      else if e ≠ g then .clash e g else verdict b m es ds (n + 1)
/-- a verdict that is none of a clash is the reader's -/
theorem Hon.verdict {α : Type} {b m : Int} {w : Wm α} {es : List Ent} {a : α} (h : Hon b m w es a) : ∀ (ds : List PyData) (n : Nat),
    (verdict b m es ds n = .taken → w.run b m ds n = .got a) ∧ (∀ v k, verdict b m es ds n = .ref v k → w.run b m ds n = .ref v k) := by
  induction h with
  | ret a =>
    intro ds n
    cases ds with
    | nil => exact ⟨fun _ => run_ret0 a n, fun v k h => (by cases h)⟩
    | cons d ds => exact ⟨fun h => (by cases h), fun v k h => (by cases h; exact run_ret a d ds n)⟩
  | @ask l k e es a h1 h2 _ ih =>
    intro ds n
    cases ds with
    | nil => exact ⟨fun h => (by cases h), fun v k' h => (by cases h; exact run_ask0 l k n)⟩
    | cons d ds =>
      rw [run_ask]
      unfold RR.verdict judge
      cases ea : asEnt d with
      | none => exact ⟨fun h => (by cases h), fun v k h => (by cases h; rfl)⟩
      | some g =>
        subst h1
        dsimp only
        by_cases hd : (lnkOf b m e).d ≠ (lnkOf b m g).d
        · rw [if_pos hd, if_pos (Ne.symm hd)]
          exact ⟨fun h => (by cases h), fun v k h => (by cases h; rfl)⟩
        · rw [if_neg hd, if_neg (fun z => hd (Ne.symm z))]
          by_cases hs : lnkOf b m e ≠ lnkOf b m g
          · rw [if_pos hs, if_pos (Ne.symm hs)]
            exact ⟨fun h => (by cases h), fun v k h => (by cases h; rfl)⟩
          · rw [if_neg hs, if_neg (fun z => hs (Ne.symm z))]
            by_cases hg : e ≠ g
            · rw [if_pos hg]
              exact ⟨fun h => (by cases h), fun v k h => (by cases h)⟩
            · rw [if_neg hg]
              have e2 : e = g := Classical.not_not.mp hg
              subst e2
              exact ih ds (n + 1)
theorem verdict_clash {b m : Int} : ∀ {es : List Ent} {ds : List PyData} {n : Nat} {e g : Ent}, verdict b m es ds n = .clash e g → e ≠ g ∧ lnkOf b m e = lnkOf b m g ∧ entD g ∈ ds ∧ e ∈ es ∧ g.Ok
  | [], [], _, _, _, h => by cases h
  | [], _ :: _, _, _, _, h => by cases h
  | _ :: _, [], _, _, _, h => by cases h
  | e0 :: es, d :: ds, n, e, g, h => by
    unfold verdict at h
    cases ea : asEnt d with
    | none =>
      rw [ea] at h
      cases h
    | some g0 =>
      rw [ea] at h
      obtain ⟨hd, hok⟩ := asEnt_some ea
      simp only at h
      split at h
      · cases h
      · split at h
        · cases h
        · rename_i hs
          split at h
          · rename_i hg
            cases h
            exact ⟨hg, Classical.not_not.mp hs, by rw [hd]; exact List.mem_cons_self, List.mem_cons_self, hok⟩
          · obtain ⟨h1, h2, h3, h4, h5⟩ := verdict_clash h
            exact ⟨h1, h2, List.mem_cons_of_mem _ h3, List.mem_cons_of_mem _ h4, h5⟩
/-! ### fuel -/
/-- asks at least n times ahead of an end of the fuel -/
def Wm.Deep {α : Type} : Nat → Wm α → Prop
  | 0, _ => True
  | _ + 1, .out => False
  | _ + 1, .ret _ => True
  | n + 1, .ask _ k => ∀ e, Wm.Deep n (k e)
theorem Deep.ret {α : Type} (n : Nat) (a : α) : Wm.Deep n (.ret a) := by
  cases n <;> trivial
theorem Deep.ask {α : Type} {n : Nat} {l : Lnk} {k : Ent → Wm α} (h : ∀ e, Wm.Deep (n - 1) (k e)) : Wm.Deep n (.ask l k) := by
  cases n with
  | zero => trivial
  | succ n => exact h
theorem Deep.less {α : Type} : ∀ {n m : Nat} {w : Wm α}, Wm.Deep n w → m ≤ n → Wm.Deep m w
  | _, 0, _, _, _ => trivial
  | 0, m + 1, _, _, h => absurd h (by omega)
  | n + 1, m + 1, .out, h, _ => h
  | n + 1, m + 1, .ret _, _, _ => trivial
  | n + 1, m + 1, .ask _ k, h, hm => fun e => Deep.less (h e) (by omega)
theorem Deep.bind {α β : Type} : ∀ {n : Nat} {w : Wm α} {f : α → Wm β}, Wm.Deep n w → (∀ a, Wm.Deep n (f a)) → Wm.Deep n (w.bind f)
  | 0, _, _, _, _ => trivial
  | n + 1, .out, _, h, _ => h
  | n + 1, .ret a, _, _, hf => hf a
  | n + 1, .ask _ k, _, h, hf => fun e => Deep.bind (h e) fun a => Deep.less (hf a) (by omega)
/-- the same walk, with less fuel -/
inductive Wm.Le {α : Type} : Wm α → Wm α → Prop
  | out (w : Wm α) : Wm.Le .out w
  | ret (a : α) : Wm.Le (.ret a) (.ret a)
  | ask {l : Lnk} {k k' : Ent → Wm α} : (∀ e, Wm.Le (k e) (k' e)) → Wm.Le (.ask l k) (.ask l k')
theorem Wm.Le.refl {α : Type} : ∀ w : Wm α, Wm.Le w w
  | .out => .out _
  | .ret a => .ret a
  | .ask _ k => .ask fun e => Wm.Le.refl (k e)
theorem Wm.Le.bind {α β : Type} {w w' : Wm α} {f f' : α → Wm β} (h : Wm.Le w w') (hf : ∀ a, Wm.Le (f a) (f' a)) : Wm.Le (w.bind f) (w'.bind f') := by
  induction h with
  | out w => exact .out _
  | ret a => exact hf a
  | ask _ ih => exact .ask ih
theorem Wm.Le.run {α : Type} {b m : Int} : ∀ {w w' : Wm α}, Wm.Le w w' → ∀ (ds : List PyData) (n : Nat), Wm.Deep (ds.length + 1) w → w.run b m ds n = w'.run b m ds n := by
  intro w w' h
  induction h with
  | out w =>
    intro ds n hd
    cases hd
  | ret a =>
    intro ds n hd
    rfl
  | @ask l k k' h ih =>
    intro ds n hd
    cases ds with
    | nil => rw [run_ask0, run_ask0]
    | cons d ds =>
      rw [run_ask, run_ask]
      cases judge b m l d with
      | inl w => rfl
      | inr e => exact ih e ds (n + 1) (hd e)

/-! ### rows of trees -/
def Tree.rows : Tree → Tab
  | .nil => []
  | .node k r x y => x.rows ++ (k, r) :: y.rows
theorem treeN_rows : ∀ (n : Nat) (tb : Tab), tb.length ≤ n → (treeN n tb).rows = tb
  | 0, tb, h => by
    have e : tb = [] := List.eq_nil_of_length_eq_zero (by omega)
    subst e
    rfl
  | n + 1, tb, h => by
    show (match tb[topI tb tb.length]? with | none => Tree.nil | some p => _ : Tree).rows = tb
    cases e : tb[topI tb tb.length]? with
    | none =>
      have h1 : tb.length ≤ topI tb tb.length := List.getElem?_eq_none_iff.mp e
      have e0 : tb = [] := by
        cases tb with
        | nil => rfl
        | cons p r =>
          have := topI_in (tb := p :: r) (by intro z; cases z)
          omega
      rw [e0]
      rfl
    | some p =>
      have hi : topI tb tb.length < tb.length := (List.getElem?_eq_some_iff.mp e).1
      show (treeN n (tb.take (topI tb tb.length))).rows ++ (p.1, p.2) :: (treeN n (tb.drop (topI tb tb.length + 1))).rows = tb
      rw [treeN_rows n _ (by rw [List.length_take]; omega), treeN_rows n _ (by rw [List.length_drop]; omega)]
      have h2 := List.take_append_drop (topI tb tb.length) tb
      have h3 : tb.drop (topI tb tb.length) = p :: tb.drop (topI tb tb.length + 1) := by
        have h4 := List.getElem?_eq_some_iff.mp e
        rw [← h4.2]
        exact List.drop_eq_getElem_cons hi
      rw [h3] at h2
      exact h2
theorem treeOf_rows (tb : Tab) : (treeOf tb).rows = tb := treeN_rows _ _ (Nat.le_refl _)
theorem rows_len : ∀ t : Tree, t.rows.length = t.size
  | .nil => rfl
  | .node k r x y => by
    show (x.rows ++ (k, r) :: y.rows).length = x.size + y.size + 1
    rw [List.length_append, List.length_cons, rows_len x, rows_len y]
    omega
def Tree.Bst (t : Tree) : Prop := (t.rows.map (·.1)).Pairwise Lt
structure BstN (k : Str) (x y : Tree) : Prop where
  left : x.Bst
  right : y.Bst
  lo : ∀ p ∈ x.rows, Lt p.1 k
  hi : ∀ p ∈ y.rows, Lt k p.1
theorem Tree.Bst.node {k : Str} {r : List Int} {x y : Tree} (h : (Tree.node k r x y).Bst) : BstN k x y := by
  unfold Tree.Bst at h
  rw [show (Tree.node k r x y).rows = x.rows ++ (k, r) :: y.rows from rfl, List.map_append, List.map_cons, List.pairwise_append] at h
  obtain ⟨h1, h2, h3⟩ := h
  rw [List.pairwise_cons] at h2
  exact ⟨h1, h2.2, fun p hp => h3 _ (List.mem_map.mpr ⟨p, hp, rfl⟩) _ List.mem_cons_self, fun p hp => h2.1 _ (List.mem_map.mpr ⟨p, hp, rfl⟩)⟩
theorem treeOf_bst {tb : Tab} (h : (tb.map (·.1)).Pairwise Lt) : (treeOf tb).Bst := by
  unfold Tree.Bst
  rw [treeOf_rows]
  exact h
theorem Lt.asym {a b : Str} (h : Lt a b) : ¬ Lt b a := fun k => Lt.irrefl (h.trans k)
theorem Lt.ne {a b : Str} (h : Lt a b) : a ≠ b := fun e => by
  rw [e] at h
  exact Lt.irrefl h
theorem slt_iff {a b : Str} : slt a b = true ↔ Lt a b := ⟨fun h => of_decide_eq_true (p := a.cps.toList < b.cps.toList) h, fun h => decide_eq_true (p := a.cps.toList < b.cps.toList) h⟩
theorem slt_no {a b : Str} : ¬ slt a b = true ↔ ¬ Lt a b := not_congr slt_iff
/-! ### the numbers of a tree -/
structure Tot where
  c : Int
  s0 : Int
  s1 : Int
  s2 : Int
deriving DecidableEq
def tot0 : Tot := ⟨0, 0, 0, 0⟩
def Tot.add (a b : Tot) : Tot := ⟨a.c + b.c, a.s0 + b.s0, a.s1 + b.s1, a.s2 + b.s2⟩
def tot1 (r : List Int) : Tot := ⟨1, colOf r 0, colOf r 1, colOf r 2⟩
def Lnk.tot (l : Lnk) : Tot := ⟨l.c, l.s0, l.s1, l.s2⟩
def totOf : Tab → Tot
  | [] => tot0
  | p :: r => (tot1 p.2).add (totOf r)
theorem Tot.ext {a b : Tot} (h : a.c = b.c) (h0 : a.s0 = b.s0) (h1 : a.s1 = b.s1) (h2 : a.s2 = b.s2) : a = b := by
  cases a
  cases b
  cases h
  cases h0
  cases h1
  cases h2
  rfl
theorem add_assoc (a b c : Tot) : (a.add b).add c = a.add (b.add c) := Tot.ext (Int.add_assoc ..) (Int.add_assoc ..) (Int.add_assoc ..) (Int.add_assoc ..)
theorem add_comm (a b : Tot) : a.add b = b.add a := Tot.ext (Int.add_comm ..) (Int.add_comm ..) (Int.add_comm ..) (Int.add_comm ..)
theorem zero_add (a : Tot) : tot0.add a = a := Tot.ext (Int.zero_add _) (Int.zero_add _) (Int.zero_add _) (Int.zero_add _)
theorem add_zero (a : Tot) : a.add tot0 = a := Tot.ext (Int.add_zero _) (Int.add_zero _) (Int.add_zero _) (Int.add_zero _)
theorem totOf_app : ∀ a b : Tab, totOf (a ++ b) = (totOf a).add (totOf b)
  | [], b => (zero_add _).symm
  | p :: r, b => by
    show (tot1 p.2).add (totOf (r ++ b)) = ((tot1 p.2).add (totOf r)).add (totOf b)
    rw [totOf_app r b, add_assoc]
theorem lnk_tot (b m : Int) : ∀ t : Tree, (t.lnk b m).tot = totOf t.rows
  | .nil => rfl
  | .node k r x y => by
    have h1 := lnk_tot b m x
    have h2 := lnk_tot b m y
    show _ = totOf (x.rows ++ (k, r) :: y.rows)
    rw [totOf_app]
    show _ = (totOf x.rows).add ((tot1 r).add (totOf y.rows))
    rw [← h1, ← h2]
    refine Tot.ext ?_ ?_ ?_ ?_
    · show 1 + (x.lnk b m).c + (y.lnk b m).c = (x.lnk b m).c + (1 + (y.lnk b m).c)
      omega
    · show colOf r 0 + (x.lnk b m).s0 + (y.lnk b m).s0 = (x.lnk b m).s0 + (colOf r 0 + (y.lnk b m).s0)
      omega
    · show colOf r 1 + (x.lnk b m).s1 + (y.lnk b m).s1 = (x.lnk b m).s1 + (colOf r 1 + (y.lnk b m).s1)
      omega
    · show colOf r 2 + (x.lnk b m).s2 + (y.lnk b m).s2 = (x.lnk b m).s2 + (colOf r 2 + (y.lnk b m).s2)
      omega
theorem totOf_c : ∀ tb : Tab, (totOf tb).c = (tb.length : Int)
  | [] => rfl
  | p :: r => by
    have h := totOf_c r
    show 1 + (totOf r).c = ((r.length + 1 : Nat) : Int)
    omega
theorem lnk_c (b m : Int) (t : Tree) : (t.lnk b m).c = (t.size : Int) := by
  have h := congrArg Tot.c (lnk_tot b m t)
  rw [totOf_c, rows_len] at h
  exact h
def Tot.col (t : Tot) (c : Int) : Int := if c = 0 then t.s0 else if c = 1 then t.s1 else t.s2
theorem totOf_col {c : Int} (h0 : 0 ≤ c) (h2 : c ≤ 2) : ∀ tb : Tab, (totOf tb).col c = (tb.map fun p => colOf p.2 c).sum
  | [] => by
    unfold Tot.col
    split
    · rfl
    · split <;> rfl
  | p :: r => by
    have ih := totOf_col h0 h2 r
    rw [List.map_cons, List.sum_cons, ← ih]
    rcases (by omega : c = 0 ∨ c = 1 ∨ c = 2) with e | e | e <;> rw [e] <;> rfl
/-! ### links and entries of trees are such -/
theorem colOf_pos {r : List Int} (h : RowOk r) (c : Int) : 0 ≤ colOf r c := by
  unfold colOf
  split
  · rename_i hc
    rw [List.getD_eq_getElem?_getD]
    cases e : r[c.toNat]? with
    | none => exact Int.le_refl _
    | some n => exact (h.2.2 n (List.mem_of_getElem? e)).1
  · exact Int.le_refl _
def TreeOk (t : Tree) : Prop := t.All fun k r => KeyOk k ∧ RowOk r
theorem dig_pos {b m : Int} (h : RuleOk b m) (ns : List Int) : 0 ≤ dig b m ns := Int.fmod_nonneg_of_pos _ (by have := h.2.2.1; omega)
theorem lnk_ok {b m : Int} (h : RuleOk b m) : ∀ t : Tree, TreeOk t → (t.lnk b m).Ok
  | .nil, _ => ⟨dig_pos h _, Int.le_refl _, Int.le_refl _, Int.le_refl _, Int.le_refl _⟩
  | .node k r x y, ht => by
    obtain ⟨⟨_, hr⟩, hx, hy⟩ := ht
    obtain ⟨_, x1, x2, x3, x4⟩ := lnk_ok h x hx
    obtain ⟨_, y1, y2, y3, y4⟩ := lnk_ok h y hy
    have c0 := colOf_pos hr 0
    have c1 := colOf_pos hr 1
    have c2 := colOf_pos hr 2
    refine ⟨dig_pos h _, ?_, ?_, ?_, ?_⟩
    · show 0 ≤ 1 + (x.lnk b m).c + (y.lnk b m).c
      omega
    · show 0 ≤ colOf r 0 + (x.lnk b m).s0 + (y.lnk b m).s0
      omega
    · show 0 ≤ colOf r 1 + (x.lnk b m).s1 + (y.lnk b m).s1
      omega
    · show 0 ≤ colOf r 2 + (x.lnk b m).s2 + (y.lnk b m).s2
      omega
theorem ent_ok {b m : Int} (h : RuleOk b m) {k : Str} {r : List Int} {x y : Tree} (ht : TreeOk (.node k r x y)) : (entOf b m k r x y).Ok := ⟨ht.1.1, ht.1.2, lnk_ok h x ht.2.1, lnk_ok h y ht.2.2⟩

/-! ### the readers' walks -/
def headL (b m : Int) (tb : Tab) : Lnk := (treeOf tb).lnk b m
def rGet : Nat → Str → Lnk → Wm (Option (List Int))
  | 0, _, _ => .out
  | f + 1, key, l => if l.c = 0 then .ret none else .ask l fun e => if e.key = key then .ret (some e.row) else if slt e.key key = true then rGet f key e.r else rGet f key e.l
def rPlace : Nat → Str → Lnk → Int → Wm Int
  | 0, _, _, _ => .out
  | f + 1, key, l, a => if l.c = 0 then .ret a else .ask l fun e => if slt e.key key = true then rPlace f key e.r (a + 1 + e.l.c) else rPlace f key e.l a
def rAt : Nat → Lnk → Int → Wm (Option (Str × List Int))
  | 0, _, _ => .out
  | f + 1, l, p => if l.c ≤ p then .ret none else .ask l fun e => if p = e.l.c then .ret (some (e.key, e.row)) else if p < e.l.c then rAt f e.l p else rAt f e.r (p - e.l.c - 1)
def optW {α : Type} (c : Bool) (z : α) (w : Wm α) : Wm α := if c = true then w else .ret z
def ownR (c : Bool) (e : Ent) : Tab := if c = true then [(e.key, e.row)] else []
def rRange : Nat → Str → Str → Lnk → Wm Tab
  | 0, _, _, _ => .out
  | f + 1, lo, hi, l => if l.c = 0 then .ret [] else .ask l fun e =>
      (optW (slt lo e.key) [] (rRange f lo hi e.l)).bind fun a => (optW (slt e.key hi) [] (rRange f lo hi e.r)).bind fun c => .ret (a ++ (ownR (inR lo hi e.key) e ++ c))
def rNext : Nat → Str → Int → Lnk → Wm Tab
  | 0, _, _, _ => .out
  | f + 1, key, n, l => if l.c = 0 ∨ n ≤ 0 then .ret [] else .ask l fun e =>
      if slt key e.key = true then (rNext f key n e.l).bind fun a => (rNext f key (n - ((a ++ ownR (decide ((a.length : Int) < n)) e).length : Int)) e.r).bind fun c => .ret ((a ++ ownR (decide ((a.length : Int) < n)) e) ++ c)
      else rNext f key n e.r
def rSum : Nat → Str → Str → Lnk → Option Str → Option Str → Wm Tot
  | 0, _, _, _, _, _ => .out
  | f + 1, lo, hi, l, ab, be => if l.c = 0 then .ret tot0 else if inside lo hi ab be = true then .ret l.tot else .ask l fun e =>
      (optW (slt lo e.key) tot0 (rSum f lo hi e.l ab (some e.key))).bind fun a => (optW (slt e.key hi) tot0 (rSum f lo hi e.r (some e.key) be)).bind fun c => .ret ((totOf (ownR (inR lo hi e.key) e)).add (a.add c))
def Wm.map {α β : Type} (f : α → β) (w : Wm α) : Wm β := w.bind fun a => .ret (f a)
def rWalk (f : Nat) (l : Lnk) : Qry → Wm Res
  | .get k => (rGet f k l).map fun o => .dat (optD o)
  | .range lo hi => (rRange f lo hi l).map .lst
  | .next k n => (rNext f k n l).map .lst
  | .count lo hi => (rSum f lo hi l none none).map fun t => .dat (.int t.c)
  | .sum c lo hi => (rSum f lo hi l none none).map fun t => .dat (.int (t.col c))
  | .place k => (rPlace f k l 0).map fun n => .dat (.int n)
  | .at_ n => (rAt f l n).map fun o => .dat (pairO o)
/-! ### depth and fuel -/
theorem optW_deep {α : Type} {n : Nat} {c : Bool} {z : α} {w : Wm α} (h : Wm.Deep n w) : Wm.Deep n (optW c z w) := by
  unfold optW
  split
  · exact h
  · exact Deep.ret _ _
theorem optW_le {α : Type} {c : Bool} {z : α} {w w' : Wm α} (h : Wm.Le w w') : Wm.Le (optW c z w) (optW c z w') := by
  unfold optW
  split
  · exact h
  · exact .ret _
theorem rGet_deep : ∀ (f : Nat) (key : Str) (l : Lnk), Wm.Deep f (rGet f key l)
  | 0, _, _ => trivial
  | f + 1, key, l => by
    unfold rGet
    split
    · trivial
    · intro e
      dsimp only
      split
      · exact Deep.ret _ _
      · split <;> exact rGet_deep f _ _
theorem rPlace_deep : ∀ (f : Nat) (key : Str) (l : Lnk) (a : Int), Wm.Deep f (rPlace f key l a)
  | 0, _, _, _ => trivial
  | f + 1, key, l, a => by
    unfold rPlace
    split
    · trivial
    · intro e
      dsimp only
      split <;> exact rPlace_deep f _ _ _
theorem rAt_deep : ∀ (f : Nat) (l : Lnk) (p : Int), Wm.Deep f (rAt f l p)
  | 0, _, _ => trivial
  | f + 1, l, p => by
    unfold rAt
    split
    · trivial
    · intro e
      dsimp only
      split
      · exact Deep.ret _ _
      · split <;> exact rAt_deep f _ _
theorem rRange_deep : ∀ (f : Nat) (lo hi : Str) (l : Lnk), Wm.Deep f (rRange f lo hi l)
  | 0, _, _, _ => trivial
  | f + 1, lo, hi, l => by
    unfold rRange
    split
    · trivial
    · intro e
      exact Deep.bind (optW_deep (rRange_deep f _ _ _)) fun a => Deep.bind (optW_deep (rRange_deep f _ _ _)) fun c => Deep.ret _ _
theorem rNext_deep : ∀ (f : Nat) (key : Str) (n : Int) (l : Lnk), Wm.Deep f (rNext f key n l)
  | 0, _, _, _ => trivial
  | f + 1, key, n, l => by
    unfold rNext
    split
    · trivial
    · intro e
      dsimp only
      split
      · exact Deep.bind (rNext_deep f _ _ _) fun a => Deep.bind (rNext_deep f _ _ _) fun c => Deep.ret _ _
      · exact rNext_deep f _ _ _
theorem rSum_deep : ∀ (f : Nat) (lo hi : Str) (l : Lnk) (ab be : Option Str), Wm.Deep f (rSum f lo hi l ab be)
  | 0, _, _, _, _, _ => trivial
  | f + 1, lo, hi, l, ab, be => by
    unfold rSum
    split
    · trivial
    · split
      · trivial
      · intro e
        exact Deep.bind (optW_deep (rSum_deep f _ _ _ _ _)) fun a => Deep.bind (optW_deep (rSum_deep f _ _ _ _ _)) fun c => Deep.ret _ _
theorem map_deep {α β : Type} {n : Nat} {w : Wm α} {f : α → β} (h : Wm.Deep n w) : Wm.Deep n (w.map f) := Deep.bind h fun _ => Deep.ret _ _
theorem rWalk_deep (f : Nat) (l : Lnk) (q : Qry) : Wm.Deep f (rWalk f l q) := by
  cases q with
  | get k => exact map_deep (rGet_deep _ _ _)
  | range lo hi => exact map_deep (rRange_deep _ _ _ _)
  | next k n => exact map_deep (rNext_deep _ _ _ _)
  | count lo hi => exact map_deep (rSum_deep _ _ _ _ _ _)
  | sum c lo hi => exact map_deep (rSum_deep _ _ _ _ _ _)
  | place k => exact map_deep (rPlace_deep _ _ _ _)
  | at_ n => exact map_deep (rAt_deep _ _ _)
theorem rGet_le : ∀ (f : Nat) (key : Str) (l : Lnk), Wm.Le (rGet f key l) (rGet (f + 1) key l)
  | 0, _, _ => .out _
  | f + 1, key, l => by
    rw [rGet, rGet]
    split
    · exact .ret _
    · refine .ask fun e => ?_
      split
      · exact .ret _
      · split <;> exact rGet_le f _ _
theorem rPlace_le : ∀ (f : Nat) (key : Str) (l : Lnk) (a : Int), Wm.Le (rPlace f key l a) (rPlace (f + 1) key l a)
  | 0, _, _, _ => .out _
  | f + 1, key, l, a => by
    rw [rPlace, rPlace]
    split
    · exact .ret _
    · refine .ask fun e => ?_
      split <;> exact rPlace_le f _ _ _
theorem rAt_le : ∀ (f : Nat) (l : Lnk) (p : Int), Wm.Le (rAt f l p) (rAt (f + 1) l p)
  | 0, _, _ => .out _
  | f + 1, l, p => by
    rw [rAt, rAt]
    split
    · exact .ret _
    · refine .ask fun e => ?_
      split
      · exact .ret _
      · split <;> exact rAt_le f _ _
theorem rRange_le : ∀ (f : Nat) (lo hi : Str) (l : Lnk), Wm.Le (rRange f lo hi l) (rRange (f + 1) lo hi l)
  | 0, _, _, _ => .out _
  | f + 1, lo, hi, l => by
    rw [rRange, rRange]
    split
    · exact .ret _
    · exact .ask fun e => Wm.Le.bind (optW_le (rRange_le f _ _ _)) fun a => Wm.Le.bind (optW_le (rRange_le f _ _ _)) fun c => .ret _
theorem rNext_le : ∀ (f : Nat) (key : Str) (n : Int) (l : Lnk), Wm.Le (rNext f key n l) (rNext (f + 1) key n l)
  | 0, _, _, _ => .out _
  | f + 1, key, n, l => by
    rw [rNext, rNext]
    split
    · exact .ret _
    · refine .ask fun e => ?_
      split
      · exact Wm.Le.bind (rNext_le f _ _ _) fun a => Wm.Le.bind (rNext_le f _ _ _) fun c => .ret _
      · exact rNext_le f _ _ _
theorem rSum_le : ∀ (f : Nat) (lo hi : Str) (l : Lnk) (ab be : Option Str), Wm.Le (rSum f lo hi l ab be) (rSum (f + 1) lo hi l ab be)
  | 0, _, _, _, _, _ => .out _
  | f + 1, lo, hi, l, ab, be => by
    rw [rSum, rSum]
    split
    · exact .ret _
    · split
      · exact .ret _
      · exact .ask fun e => Wm.Le.bind (optW_le (rSum_le f _ _ _ _ _)) fun a => Wm.Le.bind (optW_le (rSum_le f _ _ _ _ _)) fun c => .ret _
theorem map_le {α β : Type} {w w' : Wm α} {f : α → β} (h : Wm.Le w w') : Wm.Le (w.map f) (w'.map f) := Wm.Le.bind h fun _ => .ret _
theorem rWalk_le1 (f : Nat) (l : Lnk) (q : Qry) : Wm.Le (rWalk f l q) (rWalk (f + 1) l q) := by
  cases q with
  | get k => exact map_le (rGet_le _ _ _)
  | range lo hi => exact map_le (rRange_le _ _ _ _)
  | next k n => exact map_le (rNext_le _ _ _ _)
  | count lo hi => exact map_le (rSum_le _ _ _ _ _ _)
  | sum c lo hi => exact map_le (rSum_le _ _ _ _ _ _)
  | place k => exact map_le (rPlace_le _ _ _ _)
  | at_ n => exact map_le (rAt_le _ _ _)
/-- more fuel than entries does not matter -/
theorem rWalk_fuel {b m : Int} {l : Lnk} {q : Qry} {ds : List PyData} {n : Nat} : ∀ (f : Nat), ds.length + 1 ≤ f → (rWalk f l q).run b m ds n = (rWalk (ds.length + 1) l q).run b m ds n := by
  intro f h
  induction f with
  | zero => omega
  | succ f ih =>
    by_cases e : ds.length + 1 = f + 1
    · rw [e]
    · rw [← ih (by omega)]
      exact ((rWalk_le1 f l q).run ds n (Deep.less (rWalk_deep f l q) (by omega))).symm
/-- what read has to give -/
noncomputable def readM (b m : Int) (l : Lnk) (q : Qry) (ds : List PyData) : Out Res := (rWalk (ds.length + 1) l q).run b m ds 0
/-! ### the right entries -/
theorem within_app (lo hi : Str) (a b : Tab) : within lo hi (a ++ b) = within lo hi a ++ within lo hi b := List.filter_append ..
theorem within_cons (lo hi : Str) (p : Str × List Int) (b : Tab) : within lo hi (p :: b) = (if inR lo hi p.1 = true then [p] else []) ++ within lo hi b := by
  unfold within
  rw [List.filter_cons]
  split <;> rfl
theorem within_none {lo hi : Str} {tb : Tab} (h : ∀ p ∈ tb, inR lo hi p.1 = false) : within lo hi tb = [] := List.filter_eq_nil_iff.mpr fun p hp => by
  rw [h p hp]
  decide
theorem inR_iff {lo hi k : Str} : inR lo hi k = true ↔ ¬ Lt k lo ∧ Lt k hi := by
  unfold inR
  rw [Bool.and_eq_true]
  refine and_congr ?_ ⟨fun h => of_decide_eq_true (p := k.cps.toList < hi.cps.toList) h, fun h => decide_eq_true (p := k.cps.toList < hi.cps.toList) h⟩
  constructor
  · intro h k2
    rw [decide_eq_true (show k.cps.toList < lo.cps.toList from k2)] at h
    cases h
  · intro h
    rw [decide_eq_false (show ¬ k.cps.toList < lo.cps.toList from h)]
    rfl
theorem inR_no {lo hi k : Str} (h : ¬ (¬ Lt k lo ∧ Lt k hi)) : inR lo hi k = false := Bool.eq_false_iff.mpr fun z => h (inR_iff.mp z)
theorem hon_opt {α : Type} {b m : Int} {c : Bool} {z a : α} {w : Wm α} {es : List Ent} (h1 : c = true → Hon b m w es a) (h2 : ¬ c = true → a = z) : Hon b m (optW c z w) (if c = true then es else []) a := by
  unfold optW
  by_cases h : c = true
  · rw [if_pos h, if_pos h]
    exact h1 h
  · rw [if_neg h, if_neg h, h2 h]
    exact .ret _
theorem hon_range {b m : Int} (hr : RuleOk b m) (lo hi : Str) : ∀ (t : Tree), TreeOk t → t.Bst → ∀ f, t.size < f → Hon b m (rRange f lo hi (t.lnk b m)) (wRange b m lo hi t) (within lo hi t.rows)
  | .nil, _, _, f, hf => by
    obtain ⟨g, rfl⟩ : ∃ g, f = g + 1 := ⟨f - 1, by omega⟩
    exact .ret _
  | .node k r x y, ht, hb, f, hf => by
    obtain ⟨g, rfl⟩ : ∃ g, f = g + 1 := ⟨f - 1, by omega⟩
    have hs : x.size + y.size + 1 < g + 1 := hf
    have bn := hb.node
    have hx := hon_range hr lo hi x ht.2.1 bn.left g (by omega)
    have hy := hon_range hr lo hi y ht.2.2 bn.right g (by omega)
    unfold rRange
    rw [if_neg (by rw [lnk_c]; show ¬ ((x.size + y.size + 1 : Nat) : Int) = 0; omega)]
    refine .ask rfl (ent_ok hr ht) ?_
    show Hon b m _ ((if slt lo k = true then wRange b m lo hi x else []) ++ (if slt k hi = true then wRange b m lo hi y else [])) (within lo hi (x.rows ++ (k, r) :: y.rows))
    rw [within_app, within_cons]
    refine Hon.bind (a := within lo hi x.rows) (hon_opt (c := slt lo k) (fun _ => hx) fun z => within_none fun p hp => inR_no fun c => c.1 ?_) ?_
    · rcases Lt.tri lo k with h | h | h
      · exact absurd h (slt_no.mp z)
      · rw [h]
        exact bn.lo p hp
      · exact (bn.lo p hp).trans h
    · rw [← List.append_nil (if slt k hi = true then wRange b m lo hi y else [])]
      exact Hon.bind (a := within lo hi y.rows) (hon_opt (c := slt k hi) (fun _ => hy) fun z => within_none fun p hp => inR_no fun c => slt_no.mp z ((bn.hi p hp).trans c.2)) (.ret _)
/-! get -/
theorem look_none {tb : Tab} {k : Str} (h : ∀ p ∈ tb, p.1 ≠ k) : look tb k = none := by
  unfold look
  rw [List.find?_eq_none.mpr fun p hp => by rw [decide_eq_false (h p hp)]; decide]
  rfl
theorem look_app (a c : Tab) (k : Str) : look (a ++ c) k = (look a k).or (look c k) := by
  unfold look
  rw [List.find?_append]
  cases a.find? _ <;> rfl
theorem look_cons (p : Str × List Int) (c : Tab) (k : Str) : look (p :: c) k = if p.1 = k then some p.2 else look c k := by
  unfold look
  rw [List.find?_cons]
  by_cases h : p.1 = k
  · rw [decide_eq_true h, if_pos h]
    rfl
  · rw [decide_eq_false h, if_neg h]
theorem hon_get {b m : Int} (hr : RuleOk b m) (key : Str) : ∀ (t : Tree), TreeOk t → t.Bst → ∀ f, t.size < f → Hon b m (rGet f key (t.lnk b m)) (wGet b m key t) (look t.rows key)
  | .nil, _, _, f, hf => by
    obtain ⟨g, rfl⟩ : ∃ g, f = g + 1 := ⟨f - 1, by omega⟩
    exact .ret _
  | .node k r x y, ht, hb, f, hf => by
    obtain ⟨g, rfl⟩ : ∃ g, f = g + 1 := ⟨f - 1, by omega⟩
    have hs : x.size + y.size + 1 < g + 1 := hf
    have bn := hb.node
    have hx := hon_get hr key x ht.2.1 bn.left g (by omega)
    have hy := hon_get hr key y ht.2.2 bn.right g (by omega)
    unfold rGet
    rw [if_neg (by rw [lnk_c]; show ¬ ((x.size + y.size + 1 : Nat) : Int) = 0; omega)]
    refine .ask rfl (ent_ok hr ht) ?_
    show Hon b m (if k = key then _ else if slt k key = true then rGet g key (y.lnk b m) else rGet g key (x.lnk b m)) (if slt key k = true then wGet b m key x else if slt k key = true then wGet b m key y else []) (look (x.rows ++ (k, r) :: y.rows) key)
    rw [look_app, look_cons]
    by_cases e : k = key
    · have n1 : ¬ slt key k = true := slt_no.mpr (by rw [e]; exact Lt.irrefl)
      have n2 : ¬ slt k key = true := slt_no.mpr (by rw [e]; exact Lt.irrefl)
      rw [if_pos e, if_neg n1, if_neg n2, if_pos e, look_none fun p hp z => (bn.lo p hp).ne (z.trans e.symm)]
      exact .ret _
    · rw [if_neg e, if_neg e]
      rcases Lt.tri k key with h | h | h
      · rw [if_pos (slt_iff.mpr h), if_neg (slt_no.mpr h.asym), if_pos (slt_iff.mpr h), look_none (tb := x.rows) fun p hp => ((bn.lo p hp).trans h).ne]
        exact hy
      · exact absurd h e
      · rw [if_neg (slt_no.mpr h.asym), if_pos (slt_iff.mpr h), look_none (tb := y.rows) fun p hp => (h.trans (bn.hi p hp)).ne.symm, Option.or_none]
        exact hx
/-! place -/
theorem below_app (k : Str) (a c : Tab) : below k (a ++ c) = below k a ++ below k c := List.filter_append ..
theorem below_cons (k : Str) (p : Str × List Int) (c : Tab) : below k (p :: c) = (if slt p.1 k = true then [p] else []) ++ below k c := by
  unfold below slt
  rw [List.filter_cons]
  split <;> rfl
theorem below_all {k : Str} {tb : Tab} (h : ∀ p ∈ tb, Lt p.1 k) : below k tb = tb := List.filter_eq_self.mpr fun p hp => decide_eq_true (show p.1.cps.toList < k.cps.toList from h p hp)
theorem below_none {k : Str} {tb : Tab} (h : ∀ p ∈ tb, ¬ Lt p.1 k) : below k tb = [] := List.filter_eq_nil_iff.mpr fun p hp => by
  rw [decide_eq_false (show ¬ p.1.cps.toList < k.cps.toList from h p hp)]
  decide
theorem hon_place {b m : Int} (hr : RuleOk b m) (key : Str) : ∀ (t : Tree), TreeOk t → t.Bst → ∀ (f : Nat) (a : Int), t.size < f → Hon b m (rPlace f key (t.lnk b m) a) (wPlace b m key t) (a + ((below key t.rows).length : Int))
  | .nil, _, _, f, a, hf => by
    obtain ⟨g, rfl⟩ : ∃ g, f = g + 1 := ⟨f - 1, by omega⟩
    rw [show a + ((below key Tree.nil.rows).length : Int) = a from Int.add_zero a]
    exact .ret _
  | .node k r x y, ht, hb, f, a, hf => by
    obtain ⟨g, rfl⟩ : ∃ g, f = g + 1 := ⟨f - 1, by omega⟩
    have hs : x.size + y.size + 1 < g + 1 := hf
    have bn := hb.node
    unfold rPlace
    rw [if_neg (by rw [lnk_c]; show ¬ ((x.size + y.size + 1 : Nat) : Int) = 0; omega)]
    refine .ask rfl (ent_ok hr ht) ?_
    show Hon b m (if slt k key = true then rPlace g key (y.lnk b m) (a + 1 + (x.lnk b m).c) else rPlace g key (x.lnk b m) a) (if slt k key = true then wPlace b m key y else wPlace b m key x) (a + ((below key (x.rows ++ (k, r) :: y.rows)).length : Int))
    rw [below_app, below_cons]
    by_cases z : slt k key = true
    · have h := slt_iff.mp z
      rw [if_pos z, if_pos z, if_pos z, below_all fun p hp => (bn.lo p hp).trans h]
      have hy := hon_place hr key y ht.2.2 bn.right g (a + 1 + (x.lnk b m).c) (by omega)
      rw [lnk_c, ← rows_len x] at hy
      rw [lnk_c, ← rows_len x]
      rw [show a + (((x.rows ++ ([(k, r)] ++ below key y.rows)).length : Nat) : Int) = a + 1 + (x.rows.length : Int) + ((below key y.rows).length : Int) by
        rw [List.length_append, List.length_append, List.length_singleton]
        omega]
      exact hy
    · have h := slt_no.mp z
      rw [if_neg z, if_neg z, if_neg z, below_none fun p hp c => h ((bn.hi p hp).trans c)]
      rw [List.nil_append, List.append_nil]
      exact hon_place hr key x ht.2.1 bn.left g a (by omega)
/-! at -/
theorem hon_at {b m : Int} (hr : RuleOk b m) : ∀ (t : Tree), TreeOk t → t.Bst → ∀ (f : Nat) (p : Int), 0 ≤ p → t.size < f → Hon b m (rAt f (t.lnk b m) p) (wAt b m t p) t.rows[p.toNat]?
  | .nil, _, _, f, p, hp, hf => by
    obtain ⟨g, rfl⟩ : ∃ g, f = g + 1 := ⟨f - 1, by omega⟩
    unfold rAt
    rw [if_pos (show (Tree.lnk b m .nil).c ≤ p from hp)]
    exact .ret _
  | .node k r x y, ht, hb, f, p, hp, hf => by
    obtain ⟨g, rfl⟩ : ∃ g, f = g + 1 := ⟨f - 1, by omega⟩
    have hs : x.size + y.size + 1 < g + 1 := hf
    have bn := hb.node
    unfold rAt wAt
    by_cases z : ((Tree.node k r x y).lnk b m).c ≤ p
    · rw [if_pos z, if_pos z]
      rw [lnk_c, ← rows_len] at z
      rw [List.getElem?_eq_none (by omega)]
      exact .ret _
    rw [if_neg z, if_neg z]
    refine .ask rfl (ent_ok hr ht) ?_
    show Hon b m (if p = (x.lnk b m).c then .ret (some (k, r)) else if p < (x.lnk b m).c then rAt g (x.lnk b m) p else rAt g (y.lnk b m) (p - (x.lnk b m).c - 1)) (if p < (x.lnk b m).c then wAt b m x p else if (x.lnk b m).c < p then wAt b m y (p - (x.lnk b m).c - 1) else []) (x.rows ++ (k, r) :: y.rows)[p.toNat]?
    rw [lnk_c, ← rows_len x]
    rcases (by omega : p < (x.rows.length : Int) ∨ p = (x.rows.length : Int) ∨ (x.rows.length : Int) < p) with h | h | h
    · rw [if_neg (by omega), if_pos h, if_pos h, List.getElem?_append_left (by omega)]
      exact hon_at hr x ht.2.1 bn.left g p hp (by omega)
    · rw [if_pos h, if_neg (by omega), if_neg (by omega), h]
      rw [Int.toNat_natCast, List.getElem?_append_right (Nat.le_refl _), Nat.sub_self]
      exact .ret _
    · rw [if_neg (by omega), if_neg (by omega), if_neg (by omega), if_pos h, List.getElem?_append_right (by omega)]
      have hy := hon_at hr y ht.2.2 bn.right g (p - (x.rows.length : Int) - 1) (by omega) (by omega)
      have e : p.toNat - x.rows.length = (p - (x.rows.length : Int) - 1).toNat + 1 := by omega
      rw [e, List.getElem?_cons_succ]
      exact hy
/-! next -/
theorem above_app (k : Str) (a c : Tab) : above k (a ++ c) = above k a ++ above k c := List.filter_append ..
theorem above_cons (k : Str) (p : Str × List Int) (c : Tab) : above k (p :: c) = (if slt k p.1 = true then [p] else []) ++ above k c := by
  unfold above slt
  rw [List.filter_cons]
  split <;> rfl
theorem above_none {k : Str} {tb : Tab} (h : ∀ p ∈ tb, ¬ Lt k p.1) : above k tb = [] := List.filter_eq_nil_iff.mpr fun p hp => by
  rw [decide_eq_false (show ¬ k.cps.toList < p.1.cps.toList from h p hp)]
  decide
theorem take_three {α : Type} (A C : List α) (p : α) {n : Int} (hn : 0 < n) : (A ++ ([p] ++ C)).take n.toNat = (A.take n.toNat ++ (if ((A.take n.toNat).length : Int) < n then [p] else [])) ++ C.take (n - ((A.take n.toNat ++ (if ((A.take n.toNat).length : Int) < n then [p] else [])).length : Int)).toNat := by
  by_cases h : (A.length : Int) < n
  · have e : A.take n.toNat = A := List.take_of_length_le (by omega)
    rw [e, if_pos h]
    have e2 : (n - ((A ++ [p]).length : Int)).toNat = n.toNat - A.length - 1 := by
      rw [List.length_append, List.length_singleton]
      omega
    rw [e2, List.take_append, e]
    have e3 : n.toNat - A.length = (n.toNat - A.length - 1) + 1 := by omega
    rw [e3]
    show A ++ (p :: C).take (_ + 1) = _
    rw [List.take_succ_cons, List.append_assoc]
    simp
  · have l : (A.take n.toNat).length = n.toNat := by
      rw [List.length_take]
      omega
    rw [if_neg (by omega), List.append_nil, l]
    have e2 : (n - (n.toNat : Int)).toNat = 0 := by omega
    rw [e2, List.take_zero, List.append_nil, List.take_append]
    have e3 : n.toNat - A.length = 0 := by omega
    rw [e3, List.take_zero, List.append_nil]
theorem own_eq {c : Prop} [Decidable c] (e : Ent) : ownR (decide c) e = if c then [(e.key, e.row)] else [] := by
  unfold ownR
  by_cases h : c
  · rw [if_pos (decide_eq_true h), if_pos h]
  · rw [if_neg (fun z => h (of_decide_eq_true z)), if_neg h]
theorem hon_next {b m : Int} (hr : RuleOk b m) (key : Str) (cnt : Int) : ∀ (t : Tree), TreeOk t → t.Bst → ∀ (f : Nat) (g : Int), t.size < f →
    Hon b m (rNext f key (cnt - g) (t.lnk b m)) (wNext b m key cnt t g).2 ((above key t.rows).take (cnt - g).toNat) ∧ (wNext b m key cnt t g).1 = g + (((above key t.rows).take (cnt - g).toNat).length : Int)
  | .nil, _, _, f, g, hf => by
    obtain ⟨f, rfl⟩ : ∃ f', f = f' + 1 := ⟨f - 1, by omega⟩
    have e : (above key Tree.nil.rows).take (cnt - g).toNat = [] := List.take_nil
    rw [e]
    refine ⟨?_, (Int.add_zero g).symm⟩
    unfold rNext
    rw [if_pos (Or.inl (show (Tree.lnk b m .nil).c = 0 from rfl))]
    exact .ret _
  | .node k r x y, ht, hb, f, g, hf => by
    obtain ⟨f, rfl⟩ : ∃ f', f = f' + 1 := ⟨f - 1, by omega⟩
    have hs : x.size + y.size + 1 < f + 1 := hf
    have bn := hb.node
    have hx := hon_next hr key cnt x ht.2.1 bn.left f
    have hy := hon_next hr key cnt y ht.2.2 bn.right f
    unfold rNext wNext
    by_cases hg : cnt ≤ g
    · rw [if_pos hg, if_pos (Or.inr (by omega))]
      have e : (cnt - g).toNat = 0 := by omega
      rw [e, List.take_zero]
      exact ⟨.ret _, (Int.add_zero g).symm⟩
    rw [if_neg hg, if_neg (by rw [lnk_c]; show ¬ (((x.size + y.size + 1 : Nat) : Int) = 0 ∨ _); omega)]
    have er : above key (Tree.node k r x y).rows = above key x.rows ++ ((if slt key k = true then [(k, r)] else []) ++ above key y.rows) := by
      show above key (x.rows ++ (k, r) :: y.rows) = _
      rw [above_app, above_cons]
    rw [er]
    by_cases z : slt key k = true
    · rw [if_pos z, if_pos z]
      obtain ⟨hx1, hx2⟩ := hx g (by omega)
      rw [take_three _ _ _ (show (0 : Int) < cnt - g by omega)]
      generalize eA : (above key x.rows).take (cnt - g).toNat = A at hx1 hx2
      have eg : (if (wNext b m key cnt x g).1 < cnt then (wNext b m key cnt x g).1 + 1 else (wNext b m key cnt x g).1) = g + ((A ++ (if (A.length : Int) < cnt - g then [(k, r)] else [])).length : Int) := by
        rw [hx2]
        by_cases h : (A.length : Int) < cnt - g
        · rw [if_pos (show g + (A.length : Int) < cnt by omega), if_pos h, List.length_append, List.length_singleton]
          omega
        · rw [if_neg (show ¬ g + (A.length : Int) < cnt by omega), if_neg h, List.append_nil]
      rw [eg]
      generalize eF : A ++ (if (A.length : Int) < cnt - g then [(k, r)] else []) = F
      obtain ⟨hy1, hy2⟩ := hy (g + (F.length : Int)) (by omega)
      have en : cnt - (g + (F.length : Int)) = cnt - g - (F.length : Int) := by omega
      rw [en] at hy1 hy2
      refine ⟨.ask rfl (ent_ok hr ht) ?_, ?_⟩
      · show Hon b m (if slt key k = true then (rNext f key (cnt - g) (x.lnk b m)).bind _ else _) _ _
        rw [if_pos z]
        refine Hon.bind hx1 ?_
        rw [← List.append_nil (wNext b m key cnt y (g + (F.length : Int))).2]
        have eo : A ++ ownR (decide ((A.length : Int) < cnt - g)) (entOf b m k r x y) = F := by
          rw [own_eq, ← eF]
          rfl
        rw [eo]
        exact Hon.bind hy1 (.ret _)
      · rw [hy2, List.length_append]
        omega
    · rw [if_neg z, if_neg z]
      have h0 : above key x.rows = [] := above_none fun p hp c => slt_no.mp z (c.trans (bn.lo p hp))
      rw [h0, List.nil_append, List.nil_append]
      obtain ⟨hy1, hy2⟩ := hy g (by omega)
      refine ⟨.ask rfl (ent_ok hr ht) ?_, hy2⟩
      show Hon b m (if slt key k = true then _ else rNext f key (cnt - g) (y.lnk b m)) _ _
      rw [if_neg z]
      exact hy1
/-! sum -/
def Between (ab be : Option Str) (k : Str) : Prop := (∀ a, ab = some a → Lt a k) ∧ (∀ e, be = some e → Lt k e)
theorem not_lt_empty (k : Str) : ¬ Lt k "" := fun h => List.not_lt_nil _ h
theorem le_lt {a c d : Str} (h : ¬ Lt c a) (k : Lt c d) : Lt a d := by
  rcases Lt.tri a c with z | z | z
  · exact z.trans k
  · rw [z]
    exact k
  · exact absurd z h
theorem lt_le {a c d : Str} (h : Lt a c) (k : ¬ Lt d c) : Lt a d := by
  rcases Lt.tri c d with z | z | z
  · exact h.trans z
  · rw [← z]
    exact h
  · exact absurd z k
theorem inside_all {lo hi : Str} {ab be : Option Str} (h : inside lo hi ab be = true) {k : Str} (hk : Between ab be k) : inR lo hi k = true := by
  cases be with
  | none => cases h
  | some e =>
    have h2 : (!slt hi e && (decide (lo = "") || aboveB lo ab)) = true := h
    rw [Bool.and_eq_true] at h2
    have n1 : ¬ Lt hi e := slt_no.mp fun z => by
      rw [z] at h2
      cases h2.1
    refine inR_iff.mpr ⟨?_, lt_le (hk.2 e rfl) n1⟩
    rw [Bool.or_eq_true] at h2
    rcases h2.2 with z | z
    · rw [of_decide_eq_true z]
      exact not_lt_empty k
    · cases ab with
      | none => cases z
      | some a =>
        have z2 : (!slt a lo) = true := z
        have n2 : ¬ Lt a lo := slt_no.mp fun y => by
          rw [y] at z2
          cases z2
        exact fun y => n2 ((hk.1 a rfl).trans y)
theorem within_all {lo hi : Str} {tb : Tab} (h : ∀ p ∈ tb, inR lo hi p.1 = true) : within lo hi tb = tb := List.filter_eq_self.mpr h
theorem hon_sum {b m : Int} (hr : RuleOk b m) (lo hi : Str) : ∀ (t : Tree), TreeOk t → t.Bst → ∀ (f : Nat) (ab be : Option Str), (∀ p ∈ t.rows, Between ab be p.1) → t.size < f →
    Hon b m (rSum f lo hi (t.lnk b m) ab be) (wSum b m lo hi t ab be) (totOf (within lo hi t.rows))
  | .nil, _, _, f, ab, be, _, hf => by
    obtain ⟨g, rfl⟩ : ∃ g, f = g + 1 := ⟨f - 1, by omega⟩
    exact .ret _
  | .node k r x y, ht, hb, f, ab, be, hk, hf => by
    obtain ⟨g, rfl⟩ : ∃ g, f = g + 1 := ⟨f - 1, by omega⟩
    have hs : x.size + y.size + 1 < g + 1 := hf
    have bn := hb.node
    have hm1 : ∀ p ∈ x.rows, p ∈ (Tree.node k r x y).rows := fun p hp => List.mem_append.mpr (.inl hp)
    have hm2 : ∀ p ∈ y.rows, p ∈ (Tree.node k r x y).rows := fun p hp => List.mem_append.mpr (.inr (List.mem_cons_of_mem _ hp))
    have hx := hon_sum hr lo hi x ht.2.1 bn.left g ab (some k) (fun p hp => ⟨(hk p (hm1 p hp)).1, fun e h => by rw [← Option.some.inj h]; exact bn.lo p hp⟩) (by omega)
    have hy := hon_sum hr lo hi y ht.2.2 bn.right g (some k) be (fun p hp => ⟨fun a h => by rw [← Option.some.inj h]; exact bn.hi p hp, (hk p (hm2 p hp)).2⟩) (by omega)
    unfold rSum wSum
    rw [if_neg (by rw [lnk_c]; show ¬ ((x.size + y.size + 1 : Nat) : Int) = 0; omega)]
    by_cases hi2 : inside lo hi ab be = true
    · rw [if_pos hi2, if_pos hi2, within_all fun p hp => inside_all hi2 (hk p hp), ← lnk_tot b m]
      exact .ret _
    rw [if_neg hi2, if_neg hi2]
    refine .ask rfl (ent_ok hr ht) ?_
    have er : totOf (within lo hi (Tree.node k r x y).rows) = (totOf (ownR (inR lo hi k) (entOf b m k r x y))).add ((totOf (within lo hi x.rows)).add (totOf (within lo hi y.rows))) := by
      show totOf (within lo hi (x.rows ++ (k, r) :: y.rows)) = _
      rw [within_app, within_cons, totOf_app, totOf_app, ← add_assoc, add_comm (totOf (within lo hi x.rows)), add_assoc]
      rfl
    rw [er]
    refine Hon.bind (a := totOf (within lo hi x.rows)) (hon_opt (c := slt lo k) (fun _ => hx) fun z => ?_) ?_
    · rw [within_none fun p hp => inR_no fun c => c.1 ?_]
      · rfl
      · rcases Lt.tri lo k with h | h | h
        · exact absurd h (slt_no.mp z)
        · rw [h]
          exact bn.lo p hp
        · exact (bn.lo p hp).trans h
    · rw [← List.append_nil (if slt k hi = true then wSum b m lo hi y (some k) be else [])]
      refine Hon.bind (a := totOf (within lo hi y.rows)) (hon_opt (c := slt k hi) (fun _ => hy) fun z => ?_) (.ret _)
      rw [within_none fun p hp => inR_no fun c => slt_no.mp z ((bn.hi p hp).trans c.2)]
      rfl
theorem Hon.map {α β : Type} {b m : Int} {w : Wm α} {es : List Ent} {a : α} (h : Hon b m w es a) (f : α → β) : Hon b m (w.map f) es (f a) := by
  rw [← List.append_nil es]
  exact Hon.bind h (.ret _)
/-- the right certificate of a query leads to the table's answer -/
theorem hon_walk {b m : Int} (hr : RuleOk b m) {tb : Tab} (ht : TabOk tb) {q : Qry} (hq : q.Ok) {f : Nat} (hf : tb.length < f) : Hon b m (rWalk f (headL b m tb) q) (certOf b m (treeOf tb) q) (ansOf tb q) := by
  have h1 : TreeOk (treeOf tb) := treeOf_all (P := fun k r => KeyOk k ∧ RowOk r) ht.2
  have h2 := treeOf_bst ht.1
  have h3 := treeOf_rows tb
  have h4 : (treeOf tb).size < f := by rw [← rows_len, h3]; exact hf
  unfold headL
  cases q with
  | get k =>
    have h := (hon_get hr k _ h1 h2 f h4).map fun o => Res.dat (optD o)
    rw [h3] at h
    exact h
  | range lo hi =>
    have h := (hon_range hr lo hi _ h1 h2 f h4).map Res.lst
    rw [h3] at h
    exact h
  | next k n =>
    have h := (hon_next hr k n _ h1 h2 f 0 h4).1.map Res.lst
    rw [h3, Int.sub_zero] at h
    exact h
  | count lo hi =>
    have h := (hon_sum hr lo hi _ h1 h2 f none none (fun p _ => ⟨fun a h => (by cases h), fun a h => (by cases h)⟩) h4).map fun t => Res.dat (.int t.c)
    rw [h3, totOf_c] at h
    exact h
  | sum c lo hi =>
    have h := (hon_sum hr lo hi _ h1 h2 f none none (fun p _ => ⟨fun a h => (by cases h), fun a h => (by cases h)⟩) h4).map fun t => Res.dat (.int (t.col c))
    rw [h3, totOf_col hq.1.1 hq.1.2] at h
    exact h
  | place k =>
    have h := (hon_place hr k _ h1 h2 f 0 h4).map fun n => Res.dat (.int n)
    rw [h3, Int.zero_add] at h
    exact h
  | at_ n =>
    have h := (hon_at hr _ h1 h2 f n hq.1 h4).map fun o => Res.dat (pairO o)
    rw [h3] at h
    exact h
/-- read beside the right certificate -/
theorem readM_verdict {b m : Int} (hr : RuleOk b m) {tb : Tab} (ht : TabOk tb) {q : Qry} (hq : q.Ok) (ds : List PyData) :
    (verdict b m (certOf b m (treeOf tb) q) ds 0 = .taken → readM b m (headL b m tb) q ds = .got (ansOf tb q)) ∧ (∀ v k, verdict b m (certOf b m (treeOf tb) q) ds 0 = .ref v k → readM b m (headL b m tb) q ds = .ref v k) := by
  have h := hon_walk hr ht hq (f := ds.length + 1 + tb.length) (by omega)
  unfold readM
  rw [← rWalk_fuel (ds.length + 1 + tb.length) (by omega)]
  exact h.verdict ds 0
theorem readM_right {b m : Int} (hr : RuleOk b m) {tb : Tab} (ht : TabOk tb) {q : Qry} (hq : q.Ok) : readM b m (headL b m tb) q ((certOf b m (treeOf tb) q).map entD) = .got (ansOf tb q) := by
  have h := hon_walk hr ht hq (f := ((certOf b m (treeOf tb) q).map entD).length + 1 + tb.length) (by omega)
  unfold readM
  rw [← rWalk_fuel (((certOf b m (treeOf tb) q).map entD).length + 1 + tb.length) (by omega)]
  exact h.run 0

set_option hygiene false in
local macro_rules | `(tactic| walk_at "d") => `(tactic| simp -implicitDefEqProofs only [dSeqS, dNext, dDrop, dRet, dRetN, dIfS, dAsg, dAsgC, dgName, dgTup.eq_1, dgTup.eq_2, dgCons.eq_1, dgCons.eq_2, dgNil, dgSub, subK.eq_1, subK.eq_2, dVar, dVarF, dC, dOp, fII.eq_1, fII.eq_2, fIIc.eq_1, fIIc.eq_2, fAdd.eq_1, fAdd.eq_2, fAdd.eq_3, fAdd.eq_4, fAdd.eq_5, fAdd.eq_6, fCmp.eq_1, fCmp.eq_2, fCmp.eq_3, fEqD, fIsN.eq_1, fIsN.eq_2, isNon.eq_1, isNon.eq_2, rdV.eq_1, rdV.eq_2, rdV.eq_3, rdL.eq_1, rdL.eq_2, rdL.eq_3, dB, dAnd, dOr, dNot, dTru, dIf, dAndV, dOrV, dNotV, dChain, dNil, dCons, vals.eq_1, vals.eq_2, vals.eq_3, dTup, dLst, fIx.eq_1, fIx.eq_2, fIx.eq_3, fIx.eq_4, fIx.eq_5, dSl, dPart, dNoPart, dCB, fLen.eq_1, fLen.eq_2, fLen.eq_3, fLen.eq_4, fLen.eq_5, fInt.eq_1, fInt.eq_2, fInt.eq_3, fList.eq_1, fList.eq_2, rdS.eq_1, rdS.eq_2, rdS.eq_3, rdS.eq_4, fTup.eq_1, fTup.eq_2, fOrd.eq_1, fOrd.eq_2, fIsi.eq_1, fIsi.eq_2, tyD.eq_1, tyD.eq_2, tyD.eq_3, tyD.eq_4, tyD.eq_5, tyD.eq_6, tyD.eq_7, kb1, kb2, kb3, kb4, kb5, kb6, kb7, kb8, kb9, kb10, kb11, kb12, kb13, kb14, kb15, kb16, kb17, kb18, kb19, kb20, kb21, kb22, kb23, kb24, dSeq, seqK.eq_1, seqK.eq_2, seqK.eq_3, seqK.eq_4, seqK.eq_5, dRng1, dRng2, dRev, lstK.eq_1, lstK.eq_2, lstK.eq_3, dEnum, dZip, dBM, dBM0, fAppend.eq_1, fAppend.eq_2, fExtend.eq_1, fExtend.eq_2, fExtA.eq_1, fExtA.eq_2, fPop.eq_1, fPop.eq_2, dRevT, dRevL, f2I.eq_1, f2I.eq_2, bK.eq_1, bK.eq_2, truK.eq_1, truK.eq_2, truK.eq_3, truK.eq_4, truK.eq_5, truK.eq_6, truK.eq_7, truL.eq_1, truL.eq_2, dispK.eq_1, dispK.eq_2, ixK.eq_1, ixK.eq_2, ixS.eq_1, ixS.eq_2, ixL.eq_1, ixL.eq_2, partK.eq_1, partK.eq_2, slK.eq_1, slK.eq_2, slK.eq_3, slK.eq_4, slK.eq_5, slL.eq_1, slL.eq_2, lenLK.eq_1, lenLK.eq_2, mkL.eq_1, mkL.eq_2, isiB.eq_1, isiB.eq_2, isiK.eq_1, isiK.eq_2, frzK.eq_1, frzK.eq_2, frzK.eq_3, rng1K.eq_1, rng1K.eq_2, rng2K.eq_1, rng2K.eq_2, lst1K.eq_1, lst1K.eq_2, zipK.eq_1, zipK.eq_2, sub1K.eq_1, sub1K.eq_2, sub2K.eq_1, sub2K.eq_2, appK.eq_1, appK.eq_2, extK.eq_1, extK.eq_2, pop2K.eq_1, pop2K.eq_2, popK.eq_1, popK.eq_2, lstFK.eq_1, lstFK.eq_2, lisFK.eq_1, lisFK.eq_2, lisF2K.eq_1, lisF2K.eq_2, accK.eq_1, accK.eq_2, dVal, revTK.eq_1, revTK.eq_2, callK.eq_1, callK.eq_2, eqK.eq_1, eqK.eq_2, catK.eq_1, catK.eq_2, cellL.eq_1, cellL.eq_2, cellL.eq_3, okDi, okDb, okDn, eqvi, eqvs, dLstF, dListF, dLc, dYes, wipeE.eq_1, wipeE.eq_2, dFor, fin, finD, wOk.eq_1, wOk.eq_2, cellOk.eq_1, cellOk.eq_2, E0D, dCallP, dCallW, putW, firstRef.eq_1, firstRef.eq_2, firstRef.eq_3, shW.eq_1, shW.eq_2, unW.eq_1, unW.eq_2, inW.eq_1, inW.eq_2, shC.eq_1, shC.eq_2, unC.eq_1, unC.eq_2, inC.eq_1, inC.eq_2, dBreak, at0, at1, at2, at3, atI_last, List.getElem?_cons_zero, List.getElem?_cons_succ, List.getElem?_nil, List.set_cons_zero, List.set_cons_succ, List.map_cons, List.map_nil, List.length_cons, List.length_nil, List.replicate_succ, List.replicate_zero, List.cons_append, List.nil_append, List.append_nil, Option.map_some, Option.map_none, Option.isSome_some, if_true, if_false, ite_true, ite_false, Bool.and_true, Bool.true_and, Bool.and_false, Bool.false_and, Bool.or_true, Bool.or_false, Bool.true_or, Bool.false_or, Bool.not_true, Bool.not_false, true_and, and_true, List.take_succ_cons, List.take_zero, List.take_nil, List.drop_zero, List.drop_succ_cons, List.drop_nil, List.all_cons, List.all_nil, List.any_cons, List.any_nil, List.contains_cons, List.elem_nil, Nat.zero_add, Nat.add_zero, Nat.le_refl, Nat.reduceAdd, Nat.reduceSub, Nat.reduceLT, Nat.reduceLeDiff, Nat.sub_self, Nat.sub_zero, Nat.zero_le, decide_true, decide_false, beq_self_eq_true, Bool.false_eq_true, reduceCtorEq, List.isEmpty_cons, List.isEmpty_nil, List.dropLast_concat, dUn, unK.eq_1, unK.eq_2, dFld, fldK.eq_1, fldK.eq_2, fldK.eq_3, fldC.eq_1, fldC.eq_2, fldW.eq_1, fldW.eq_2, dMake, makK.eq_1, makK.eq_2, fld00, fld01, fld02, lenF0, lenF1, lenF2, get_end, set_end, dMethP, dMethW, isOb.eq_1, isOb.eq_2, isOb.eq_3, isObC.eq_1, isObC.eq_2, dSetF, sfK.eq_1, sfK.eq_2, sfC.eq_1, sfC.eq_2, dFz, fzK.eq_1, fzK.eq_2, fzK.eq_3, fzC.eq_1, fzC.eq_2, fzC.eq_3, dMakeRec, recK.eq_1, recK.eq_2, fld10, fld11, dMatch, dMCase.eq_1, dMCase.eq_2, dMNil, fillE.eq_1, fillE.eq_2, dAug, aug0.eq_1, aug0.eq_2, augK.eq_1, augK.eq_2, fIsiO.eq_1, fIsiO.eq_2, dCallPX, dMethWX, dRaise, raiK.eq_1, raiK.eq_2, dPar, parK.eq_1, parK.eq_2, dPar3, parK3.eq_1, parK3.eq_2, shW0, unW0, unC0, shC0, id])
set_option hygiene false in
local macro_rules | `(tactic| walk_at "s") => `(tactic| simp -implicitDefEqProofs only [dNext, dDrop, dRet, dRetN, dIfS, dAsg, dAsgC, dgName, dgTup.eq_1, dgTup.eq_2, dgCons.eq_1, dgCons.eq_2, dgNil, dgSub, subK.eq_1, subK.eq_2, dVar, dVarF, dC, dOp, fII.eq_1, fII.eq_2, fIIc.eq_1, fIIc.eq_2, fAdd.eq_1, fAdd.eq_2, fAdd.eq_3, fAdd.eq_4, fAdd.eq_5, fAdd.eq_6, fCmp.eq_1, fCmp.eq_2, fCmp.eq_3, fEqD, fIsN.eq_1, fIsN.eq_2, isNon.eq_1, isNon.eq_2, rdV.eq_1, rdV.eq_2, rdV.eq_3, rdL.eq_1, rdL.eq_2, rdL.eq_3, dB, dAnd, dOr, dNot, dTru, dIf, dAndV, dOrV, dNotV, dChain, dNil, dCons, vals.eq_1, vals.eq_2, vals.eq_3, dTup, dLst, fIx.eq_1, fIx.eq_2, fIx.eq_3, fIx.eq_4, fIx.eq_5, dSl, dPart, dNoPart, dCB, fLen.eq_1, fLen.eq_2, fLen.eq_3, fLen.eq_4, fLen.eq_5, fInt.eq_1, fInt.eq_2, fInt.eq_3, fList.eq_1, fList.eq_2, rdS.eq_1, rdS.eq_2, rdS.eq_3, rdS.eq_4, fTup.eq_1, fTup.eq_2, fOrd.eq_1, fOrd.eq_2, fIsi.eq_1, fIsi.eq_2, tyD.eq_1, tyD.eq_2, tyD.eq_3, tyD.eq_4, tyD.eq_5, tyD.eq_6, tyD.eq_7, kb1, kb2, kb3, kb4, kb5, kb6, kb7, kb8, kb9, kb10, kb11, kb12, kb13, kb14, kb15, kb16, kb17, kb18, kb19, kb20, kb21, kb22, kb23, kb24, dSeq, seqK.eq_1, seqK.eq_2, seqK.eq_3, seqK.eq_4, seqK.eq_5, dRng1, dRng2, dRev, lstK.eq_1, lstK.eq_2, lstK.eq_3, dEnum, dZip, dBM, dBM0, fAppend.eq_1, fAppend.eq_2, fExtend.eq_1, fExtend.eq_2, fExtA.eq_1, fExtA.eq_2, fPop.eq_1, fPop.eq_2, dRevT, dRevL, f2I.eq_1, f2I.eq_2, bK.eq_1, bK.eq_2, truK.eq_1, truK.eq_2, truK.eq_3, truK.eq_4, truK.eq_5, truK.eq_6, truK.eq_7, truL.eq_1, truL.eq_2, dispK.eq_1, dispK.eq_2, ixK.eq_1, ixK.eq_2, ixS.eq_1, ixS.eq_2, ixL.eq_1, ixL.eq_2, partK.eq_1, partK.eq_2, slK.eq_1, slK.eq_2, slK.eq_3, slK.eq_4, slK.eq_5, slL.eq_1, slL.eq_2, lenLK.eq_1, lenLK.eq_2, mkL.eq_1, mkL.eq_2, isiB.eq_1, isiB.eq_2, isiK.eq_1, isiK.eq_2, frzK.eq_1, frzK.eq_2, frzK.eq_3, rng1K.eq_1, rng1K.eq_2, rng2K.eq_1, rng2K.eq_2, lst1K.eq_1, lst1K.eq_2, zipK.eq_1, zipK.eq_2, sub1K.eq_1, sub1K.eq_2, sub2K.eq_1, sub2K.eq_2, appK.eq_1, appK.eq_2, extK.eq_1, extK.eq_2, pop2K.eq_1, pop2K.eq_2, popK.eq_1, popK.eq_2, lstFK.eq_1, lstFK.eq_2, lisFK.eq_1, lisFK.eq_2, lisF2K.eq_1, lisF2K.eq_2, accK.eq_1, accK.eq_2, dVal, revTK.eq_1, revTK.eq_2, callK.eq_1, callK.eq_2, eqK.eq_1, eqK.eq_2, catK.eq_1, catK.eq_2, cellL.eq_1, cellL.eq_2, cellL.eq_3, okDi, okDb, okDn, eqvi, eqvs, dLstF, dListF, dLc, dYes, wipeE.eq_1, wipeE.eq_2, dFor, fin, finD, wOk.eq_1, wOk.eq_2, cellOk.eq_1, cellOk.eq_2, E0D, dCallP, dCallW, putW, firstRef.eq_1, firstRef.eq_2, firstRef.eq_3, shW.eq_1, shW.eq_2, unW.eq_1, unW.eq_2, inW.eq_1, inW.eq_2, shC.eq_1, shC.eq_2, unC.eq_1, unC.eq_2, inC.eq_1, inC.eq_2, dBreak, at0, at1, at2, at3, atI_last, List.getElem?_cons_zero, List.getElem?_cons_succ, List.getElem?_nil, List.set_cons_zero, List.set_cons_succ, List.map_cons, List.map_nil, List.length_cons, List.length_nil, List.replicate_succ, List.replicate_zero, List.cons_append, List.nil_append, List.append_nil, Option.map_some, Option.map_none, Option.isSome_some, if_true, if_false, ite_true, ite_false, Bool.and_true, Bool.true_and, Bool.and_false, Bool.false_and, Bool.or_true, Bool.or_false, Bool.true_or, Bool.false_or, Bool.not_true, Bool.not_false, true_and, and_true, List.take_succ_cons, List.take_zero, List.take_nil, List.drop_zero, List.drop_succ_cons, List.drop_nil, List.all_cons, List.all_nil, List.any_cons, List.any_nil, List.contains_cons, List.elem_nil, Nat.zero_add, Nat.add_zero, Nat.le_refl, Nat.reduceAdd, Nat.reduceSub, Nat.reduceLT, Nat.reduceLeDiff, Nat.sub_self, Nat.sub_zero, Nat.zero_le, decide_true, decide_false, beq_self_eq_true, Bool.false_eq_true, reduceCtorEq, List.isEmpty_cons, List.isEmpty_nil, List.dropLast_concat, dUn, unK.eq_1, unK.eq_2, dFld, fldK.eq_1, fldK.eq_2, fldK.eq_3, fldC.eq_1, fldC.eq_2, fldW.eq_1, fldW.eq_2, dMake, makK.eq_1, makK.eq_2, fld00, fld01, fld02, lenF0, lenF1, lenF2, get_end, set_end, dMethP, dMethW, isOb.eq_1, isOb.eq_2, isOb.eq_3, isObC.eq_1, isObC.eq_2, dSetF, sfK.eq_1, sfK.eq_2, sfC.eq_1, sfC.eq_2, dFz, fzK.eq_1, fzK.eq_2, fzK.eq_3, fzC.eq_1, fzC.eq_2, fzC.eq_3, dMakeRec, recK.eq_1, recK.eq_2, fld10, fld11, dMatch, dMCase.eq_1, dMCase.eq_2, dMNil, fillE.eq_1, fillE.eq_2, dAug, aug0.eq_1, aug0.eq_2, augK.eq_1, augK.eq_2, fIsiO.eq_1, fIsiO.eq_2, dCallPX, dMethWX, dRaise, raiK.eq_1, raiK.eq_2, dPar, parK.eq_1, parK.eq_2, dPar3, parK3.eq_1, parK3.eq_2, shW0, unW0, unC0, shC0, id])
set_option hygiene false in
local macro_rules | `(tactic| walk_at "o") => `(tactic| simp -implicitDefEqProofs only [dSeqS, dNext, dDrop, dRet, dRetN, dIfS, dAsg, dAsgC, dgName, dgTup.eq_1, dgTup.eq_2, dgCons.eq_1, dgCons.eq_2, dgNil, dgSub, subK.eq_1, subK.eq_2, dVar, dVarF, dC, dOp, fII.eq_1, fII.eq_2, fIIc.eq_1, fIIc.eq_2, fAdd.eq_1, fAdd.eq_2, fAdd.eq_3, fAdd.eq_4, fAdd.eq_5, fAdd.eq_6, fCmp.eq_1, fCmp.eq_2, fCmp.eq_3, fEqD, fIsN.eq_1, fIsN.eq_2, isNon.eq_1, isNon.eq_2, rdV.eq_1, rdV.eq_2, rdV.eq_3, rdL.eq_1, rdL.eq_2, rdL.eq_3, dB, dAnd, dOr, dNot, dTru, dIf, dAndV, dOrV, dNotV, dChain, dNil, dCons, vals.eq_1, vals.eq_2, vals.eq_3, dTup, dLst, fIx.eq_1, fIx.eq_2, fIx.eq_3, fIx.eq_4, fIx.eq_5, dSl, dPart, dNoPart, dCB, fLen.eq_1, fLen.eq_2, fLen.eq_3, fLen.eq_4, fLen.eq_5, fInt.eq_1, fInt.eq_2, fInt.eq_3, fList.eq_1, fList.eq_2, rdS.eq_1, rdS.eq_2, rdS.eq_3, rdS.eq_4, fTup.eq_1, fTup.eq_2, fOrd.eq_1, fOrd.eq_2, fIsi.eq_1, fIsi.eq_2, tyD.eq_1, tyD.eq_2, tyD.eq_3, tyD.eq_4, tyD.eq_5, tyD.eq_6, tyD.eq_7, kb1, kb2, kb3, kb4, kb5, kb6, kb7, kb8, kb9, kb10, kb11, kb12, kb13, kb14, kb15, kb16, kb17, kb18, kb19, kb20, kb21, kb22, kb23, kb24, dSeq, seqK.eq_1, seqK.eq_2, seqK.eq_3, seqK.eq_4, seqK.eq_5, dRng1, dRng2, dRev, lstK.eq_1, lstK.eq_2, lstK.eq_3, dEnum, dZip, dBM, dBM0, fAppend.eq_1, fAppend.eq_2, fExtend.eq_1, fExtend.eq_2, fExtA.eq_1, fExtA.eq_2, fPop.eq_1, fPop.eq_2, dRevT, dRevL, f2I.eq_1, f2I.eq_2, bK.eq_1, bK.eq_2, truK.eq_1, truK.eq_2, truK.eq_3, truK.eq_4, truK.eq_5, truK.eq_6, truK.eq_7, truL.eq_1, truL.eq_2, dispK.eq_1, dispK.eq_2, ixK.eq_1, ixK.eq_2, ixS.eq_1, ixS.eq_2, ixL.eq_1, ixL.eq_2, partK.eq_1, partK.eq_2, slK.eq_1, slK.eq_2, slK.eq_3, slK.eq_4, slK.eq_5, slL.eq_1, slL.eq_2, lenLK.eq_1, lenLK.eq_2, mkL.eq_1, mkL.eq_2, isiB.eq_1, isiB.eq_2, isiK.eq_1, isiK.eq_2, frzK.eq_1, frzK.eq_2, frzK.eq_3, rng1K.eq_1, rng1K.eq_2, rng2K.eq_1, rng2K.eq_2, lst1K.eq_1, lst1K.eq_2, zipK.eq_1, zipK.eq_2, sub1K.eq_1, sub1K.eq_2, sub2K.eq_1, sub2K.eq_2, appK.eq_1, appK.eq_2, extK.eq_1, extK.eq_2, pop2K.eq_1, pop2K.eq_2, popK.eq_1, popK.eq_2, lstFK.eq_1, lstFK.eq_2, lisFK.eq_1, lisFK.eq_2, lisF2K.eq_1, lisF2K.eq_2, accK.eq_1, accK.eq_2, dVal, revTK.eq_1, revTK.eq_2, callK.eq_1, callK.eq_2, eqK.eq_1, eqK.eq_2, catK.eq_1, catK.eq_2, cellL.eq_1, cellL.eq_2, cellL.eq_3, okDi, okDb, okDn, eqvi, eqvs, dLstF, dListF, dLc, dYes, wipeE.eq_1, wipeE.eq_2, dFor, fin, finD, wOk.eq_1, wOk.eq_2, cellOk.eq_1, cellOk.eq_2, E0D, dCallP, dCallW, putW, firstRef.eq_1, firstRef.eq_2, firstRef.eq_3, shW.eq_1, shW.eq_2, unW.eq_1, unW.eq_2, inW.eq_1, inW.eq_2, shC.eq_1, shC.eq_2, unC.eq_1, unC.eq_2, inC.eq_1, inC.eq_2, dBreak, at0, at1, at2, at3, atI_last, List.getElem?_cons_zero, List.getElem?_cons_succ, List.getElem?_nil, List.set_cons_zero, List.set_cons_succ, List.map_cons, List.map_nil, List.length_cons, List.length_nil, List.replicate_succ, List.replicate_zero, List.cons_append, List.nil_append, List.append_nil, Option.map_some, Option.map_none, Option.isSome_some, if_true, if_false, ite_true, ite_false, Bool.and_true, Bool.true_and, Bool.and_false, Bool.false_and, Bool.or_true, Bool.or_false, Bool.true_or, Bool.false_or, Bool.not_true, Bool.not_false, true_and, and_true, List.take_succ_cons, List.take_zero, List.take_nil, List.drop_zero, List.drop_succ_cons, List.drop_nil, List.all_cons, List.all_nil, List.any_cons, List.any_nil, List.contains_cons, List.elem_nil, Nat.zero_add, Nat.add_zero, Nat.le_refl, Nat.reduceAdd, Nat.reduceSub, Nat.reduceLT, Nat.reduceLeDiff, Nat.sub_self, Nat.sub_zero, Nat.zero_le, decide_true, decide_false, beq_self_eq_true, Bool.false_eq_true, reduceCtorEq, List.isEmpty_cons, List.isEmpty_nil, List.dropLast_concat, dUn, unK.eq_1, unK.eq_2, dFld, fldK.eq_1, fldK.eq_2, fldK.eq_3, fldC.eq_1, fldC.eq_2, fldW.eq_1, fldW.eq_2, dMake, makK.eq_1, makK.eq_2, fld00, fld01, fld02, lenF0, lenF1, lenF2, get_end, set_end, dMethP, dMethW, isOb.eq_1, isOb.eq_2, isOb.eq_3, isObC.eq_1, isObC.eq_2, dSetF, sfK.eq_1, sfK.eq_2, sfC.eq_1, sfC.eq_2, dFz, fzK.eq_1, fzK.eq_2, fzK.eq_3, fzC.eq_1, fzC.eq_2, fzC.eq_3, dMakeRec, recK.eq_1, recK.eq_2, fld10, fld11, dMatch, dMCase.eq_1, dMCase.eq_2, dMNil, fillE.eq_1, fillE.eq_2, dAug, aug0.eq_1, aug0.eq_2, augK.eq_1, augK.eq_2, fIsiO.eq_1, fIsiO.eq_2, dCallPX, dMethWX, dRaise, raiK.eq_1, raiK.eq_2, dPar, parK.eq_1, parK.eq_2, dPar3, parK3.eq_1, parK3.eq_2, shW0, unW0, unC0, shC0, Opn.win, Opn.ain, Opn.wok, Opn.aok, Opn.rule, id])
set_option hygiene false in
local macro_rules | `(tactic| walk_at "t") => `(tactic| simp -implicitDefEqProofs only [dNext, dDrop, dRet, dRetN, dIfS, dAsg, dAsgC, dgName, dgTup.eq_1, dgTup.eq_2, dgCons.eq_1, dgCons.eq_2, dgNil, dgSub, subK.eq_1, subK.eq_2, dVar, dVarF, dC, dOp, fII.eq_1, fII.eq_2, fIIc.eq_1, fIIc.eq_2, fAdd.eq_1, fAdd.eq_2, fAdd.eq_3, fAdd.eq_4, fAdd.eq_5, fAdd.eq_6, fCmp.eq_1, fCmp.eq_2, fCmp.eq_3, fEqD, fIsN.eq_1, fIsN.eq_2, isNon.eq_1, isNon.eq_2, rdV.eq_1, rdV.eq_2, rdV.eq_3, rdL.eq_1, rdL.eq_2, rdL.eq_3, dB, dAnd, dOr, dNot, dTru, dIf, dAndV, dOrV, dNotV, dChain, dNil, dCons, vals.eq_1, vals.eq_2, vals.eq_3, dTup, dLst, fIx.eq_1, fIx.eq_2, fIx.eq_3, fIx.eq_4, fIx.eq_5, dSl, dPart, dNoPart, dCB, fLen.eq_1, fLen.eq_2, fLen.eq_3, fLen.eq_4, fLen.eq_5, fInt.eq_1, fInt.eq_2, fInt.eq_3, fList.eq_1, fList.eq_2, rdS.eq_1, rdS.eq_2, rdS.eq_3, rdS.eq_4, fTup.eq_1, fTup.eq_2, fOrd.eq_1, fOrd.eq_2, fIsi.eq_1, fIsi.eq_2, tyD.eq_1, tyD.eq_2, tyD.eq_3, tyD.eq_4, tyD.eq_5, tyD.eq_6, tyD.eq_7, kb1, kb2, kb3, kb4, kb5, kb6, kb7, kb8, kb9, kb10, kb11, kb12, kb13, kb14, kb15, kb16, kb17, kb18, kb19, kb20, kb21, kb22, kb23, kb24, dSeq, seqK.eq_1, seqK.eq_2, seqK.eq_3, seqK.eq_4, seqK.eq_5, dRng1, dRng2, dRev, lstK.eq_1, lstK.eq_2, lstK.eq_3, dEnum, dZip, dBM, dBM0, fAppend.eq_1, fAppend.eq_2, fExtend.eq_1, fExtend.eq_2, fExtA.eq_1, fExtA.eq_2, fPop.eq_1, fPop.eq_2, dRevT, dRevL, f2I.eq_1, f2I.eq_2, bK.eq_1, bK.eq_2, truK.eq_1, truK.eq_2, truK.eq_3, truK.eq_4, truK.eq_5, truK.eq_6, truK.eq_7, truL.eq_1, truL.eq_2, dispK.eq_1, dispK.eq_2, ixK.eq_1, ixK.eq_2, ixS.eq_1, ixS.eq_2, ixL.eq_1, ixL.eq_2, partK.eq_1, partK.eq_2, slK.eq_1, slK.eq_2, slK.eq_3, slK.eq_4, slK.eq_5, slL.eq_1, slL.eq_2, lenLK.eq_1, lenLK.eq_2, mkL.eq_1, mkL.eq_2, isiB.eq_1, isiB.eq_2, isiK.eq_1, isiK.eq_2, frzK.eq_1, frzK.eq_2, frzK.eq_3, rng1K.eq_1, rng1K.eq_2, rng2K.eq_1, rng2K.eq_2, lst1K.eq_1, lst1K.eq_2, zipK.eq_1, zipK.eq_2, sub1K.eq_1, sub1K.eq_2, sub2K.eq_1, sub2K.eq_2, appK.eq_1, appK.eq_2, extK.eq_1, extK.eq_2, pop2K.eq_1, pop2K.eq_2, popK.eq_1, popK.eq_2, lstFK.eq_1, lstFK.eq_2, lisFK.eq_1, lisFK.eq_2, lisF2K.eq_1, lisF2K.eq_2, accK.eq_1, accK.eq_2, dVal, revTK.eq_1, revTK.eq_2, callK.eq_1, callK.eq_2, eqK.eq_1, eqK.eq_2, catK.eq_1, catK.eq_2, cellL.eq_1, cellL.eq_2, cellL.eq_3, okDi, okDb, okDn, eqvi, eqvs, dLstF, dListF, dLc, dYes, wipeE.eq_1, wipeE.eq_2, dFor, fin, finD, wOk.eq_1, wOk.eq_2, cellOk.eq_1, cellOk.eq_2, E0D, dCallP, dCallW, putW, firstRef.eq_1, firstRef.eq_2, firstRef.eq_3, shW.eq_1, shW.eq_2, unW.eq_1, unW.eq_2, inW.eq_1, inW.eq_2, shC.eq_1, shC.eq_2, unC.eq_1, unC.eq_2, inC.eq_1, inC.eq_2, dBreak, at0, at1, at2, at3, atI_last, List.getElem?_cons_zero, List.getElem?_cons_succ, List.getElem?_nil, List.set_cons_zero, List.set_cons_succ, List.map_cons, List.map_nil, List.length_cons, List.length_nil, List.replicate_succ, List.replicate_zero, List.cons_append, List.nil_append, List.append_nil, Option.map_some, Option.map_none, Option.isSome_some, if_true, if_false, ite_true, ite_false, Bool.and_true, Bool.true_and, Bool.and_false, Bool.false_and, Bool.or_true, Bool.or_false, Bool.true_or, Bool.false_or, Bool.not_true, Bool.not_false, true_and, and_true, List.take_succ_cons, List.take_zero, List.take_nil, List.drop_zero, List.drop_succ_cons, List.drop_nil, List.all_cons, List.all_nil, List.any_cons, List.any_nil, List.contains_cons, List.elem_nil, Nat.zero_add, Nat.add_zero, Nat.le_refl, Nat.reduceAdd, Nat.reduceSub, Nat.reduceLT, Nat.reduceLeDiff, Nat.sub_self, Nat.sub_zero, Nat.zero_le, decide_true, decide_false, beq_self_eq_true, Bool.false_eq_true, reduceCtorEq, List.isEmpty_cons, List.isEmpty_nil, List.dropLast_concat, dUn, unK.eq_1, unK.eq_2, dFld, fldK.eq_1, fldK.eq_2, fldK.eq_3, fldC.eq_1, fldC.eq_2, fldW.eq_1, fldW.eq_2, dMake, makK.eq_1, makK.eq_2, fld00, fld01, fld02, lenF0, lenF1, lenF2, get_end, set_end, dMethP, dMethW, isOb.eq_1, isOb.eq_2, isOb.eq_3, isObC.eq_1, isObC.eq_2, dSetF, sfK.eq_1, sfK.eq_2, sfC.eq_1, sfC.eq_2, dFz, fzK.eq_1, fzK.eq_2, fzK.eq_3, fzC.eq_1, fzC.eq_2, fzC.eq_3, dMakeRec, recK.eq_1, recK.eq_2, fld10, fld11, dMatch, dMCase.eq_1, dMCase.eq_2, dMNil, fillE.eq_1, fillE.eq_2, dAug, aug0.eq_1, aug0.eq_2, augK.eq_1, augK.eq_2, fIsiO.eq_1, fIsiO.eq_2, dCallPX, dMethWX, dRaise, raiK.eq_1, raiK.eq_2, dPar, parK.eq_1, parK.eq_2, dPar3, parK3.eq_1, parK3.eq_2, shW0, unW0, unC0, shC0, Opn.win, Opn.ain, Opn.wok, Opn.aok, Opn.rule, id])
abbrev sPEncode : Stmt := topS 13
theorem scPEncode : FnScope ["value", "numbers", "waiting", "part", "sign"] ["value"] (defScope sPEncode) := ⟨rfl, rfl, rfl, by decide +kernel, rfl, by decide +kernel, by decide +kernel⟩
def pPEncode : DSp := fun ws C Q _ => ∃ d, ws = [.val d] ∧ isV d = true ∧ (enc d).length ≤ 1000000 ∧ Q (.val (.list (intsD (enc d)))) C
section
variable {P : Program} {w : World} {K : PySem.W.Frag} {mg : Str → Option Value} {base : Heap} {ct : Ct}
theorem ok_PEncode  (D : Def K mg "encode" sPEncode ["value"]) (m_int : mg "int" = none) (m_isinstance : mg "isinstance" = none) (m_len : mg "len" = none) (m_ord : mg "ord" = none) (m_str : mg "str" = none)
    : FnOk P w K mg base CX0 1 D.f D.fd ["value"] (spD ct 0 1 pPEncode) := by
  refine D.F.ok scPEncode (fun vs H Q E h => spD_len h) (fun cdv A outer s H vs Q E hr h => ⟨_, (pss_cons (psC (ps_set (i := 1) scPEncode.nd rfl (.inl rfl) (pe_lst pa_nil))) <|
    pss_cons (psC (ps_set (i := 2) scPEncode.nd rfl (.inl rfl) (pe_lst (pa_cons (pv 0) pa_nil)))) <|
    pss_cons (ps_while PassesOwn.never (pt_truA (pv 2))
      (pss_cons (ps_set (i := 3) scPEncode.nd rfl (.inl rfl) (pe_bm0 PySem.F.plainAttrs_list PySem.F.slot_list_pop PySem.F.type_list_pop mt_pop (pv 2))) <|
        pss_one (ps_if (pt_truA (pe_callB call_isi (by rfl) m_isinstance (by decide +kernel) (pa_cons (pv 3) (pa_cons (pe_bltn (v := .ty "int") (by rfl) m_int (by decide +kernel) rfl) pa_nil))))
          (pss_one (ps_expr (pe_bm PySem.F.plainAttrs_list PySem.F.slot_list_extend PySem.F.type_list_extend mt_extA (pv 1) (pa_cons (pe_lst (pa_cons pe_int (pa_cons (pv 3) pa_nil))) pa_nil)))) (pss_one (ps_if (pt_truA (pe_callB call_isi (by rfl) m_isinstance (by decide +kernel) (pa_cons (pv 3) (pa_cons (pe_bltn (v := .ty "str") (by rfl) m_str (by decide +kernel) rfl) pa_nil))))
              (pss_cons (ps_expr (pe_bm PySem.F.plainAttrs_list PySem.F.slot_list_extend PySem.F.type_list_extend mt_extA (pv 1) (pa_cons (pe_lst (pa_cons pe_int (pa_cons (pe_callB call_lenA (by rfl) m_len (by decide +kernel) (pa_cons (pv 3) pa_nil)) pa_nil))) pa_nil))) <|
                pss_one (ps_expr (pe_bm PySem.F.plainAttrs_list PySem.F.slot_list_extend PySem.F.type_list_extend mt_extA (pv 1) (pa_cons (pe_lc (own := [("sign", 4)]) (g := (gName 4)) (by rfl) scPEncode.nd (pi_seqA (pv 3))
        (blkOk_by (own := [("sign", 4)]) (N := ["value", "numbers", "waiting", "part", "sign"]) (sc := defScope sPEncode) (by decide +kernel))
        (fun _ _ _ _ _ => (pg_name (i := 4) scPEncode.nd rfl (Or.inl rfl))) (fun _ _ _ _ _ => pts_nil)
        (fun _ _ _ _ _ => (pe_callB call_ordA (by rfl) m_ord (by decide +kernel) (pa_cons (pv 4) pa_nil)))) pa_nil)))) (pss_cons (ps_expr (pe_bm PySem.F.plainAttrs_list PySem.F.slot_list_extend PySem.F.type_list_extend mt_extA (pv 1) (pa_cons (pe_lst (pa_cons pe_int (pa_cons (pe_callB call_lenA (by rfl) m_len (by decide +kernel) (pa_cons (pv 3) pa_nil)) pa_nil))) pa_nil))) <|
                pss_one (ps_expr (pe_bm PySem.F.plainAttrs_list PySem.F.slot_list_extend PySem.F.type_list_extend mt_extA (pv 2) (pa_cons (RX.pe_revT (pv 3)) pa_nil))))))))) <|
    pss_one (ps_ret (pvF 1))), body_ok _ (fun R => inferInstance) (by decide) (fun ws C Q R hw hC hP => ?_) h⟩)
  obtain rfl := List.eq_nil_of_length_eq_zero hC
  obtain ⟨d, rfl, hv, hl, q⟩ := hP
  walk_at "d"
  refine ⟨by decide, dWhile_by (α := List Int × List PyData) (fun a E C => ∃ x3, E = [some (.val d), some (.ref 0), some (.ref 1), x3, none] ∧ C = [.lst (intsD a.1), .lst a.2] ∧ areV a.2 = true ∧ a.1 ++ encs a.2.reverse = enc d) (fun a => (enc d).length - a.1.length) ([], [d]) ⟨none, rfl, rfl, ?_, ?_⟩ ?_⟩
  · show (isV d && true) = true
    rw [hv]
    rfl
  · show enc d ++ [] = enc d
    rw [List.append_nil]
  rintro ⟨ns, wt⟩ E C ⟨x3, rfl, rfl, ha, he⟩
  dsimp only at ha he
  rcases concat_cases wt with rfl | ⟨wt, x, rfl⟩
  · walk_at "d"
    rw [List.reverse_nil] at he
    have he2 : ns = enc d := (List.append_nil _).symm.trans he
    rw [he2]
    exact q
  · rw [areV_app, Bool.and_eq_true] at ha
    have hx : isV x = true := by
      have := ha.2
      change (isV x && true) = true at this
      rw [Bool.and_true] at this
      exact this
    rw [List.reverse_append] at he
    have he : ns ++ (enc x ++ encs wt.reverse) = enc d := he
    have hlen := congrArg List.length he
    rw [List.length_append, List.length_append] at hlen
    have h2 := enc_two hx
    walk_at "d"
    simp only [isEmpty_concat, last_get, List.dropLast_concat]
    walk_at "d"
    cases x with
    | none => cases hx
    | bool b => cases hx
    | list ds => cases hx
    | dict kvs => cases hx
    | int i =>
      walk_at "d"
      refine ⟨by decide, ?_, (ns ++ [0, i], wt), ?_, _, rfl, by rw [intsD_app]; rfl, ha.1, ?_⟩
      · rw [intsD_len]
        exact big2 (by omega)
      · rw [List.length_append]
        show _ - (ns.length + 2) < _
        omega
      · show (ns ++ [0, i]) ++ encs wt.reverse = _
        rw [List.append_assoc]
        exact he
    | str z =>
      walk_at "d"
      have hz : (enc (.str z)).length = z.length + 2 := by
        show (z.cps.toList.map _).length + 1 + 1 = _
        rw [List.length_map, Array.length_toList]
        rfl
      have hc : (chars z).map (fun x => match x with | .str y => PyData.int (y.cps.getD 0 0 : Nat) | x => x) = intsD (z.cps.toList.map fun c => ((c : Nat) : Int)) := by
        unfold chars intsD
        rw [List.map_map, List.map_map]
        rfl
      refine ⟨big2 (by omega), by decide, by rw [intsD_len]; exact big2 (by omega), dLcGo_map (fun x => match x with | .str y => PyData.int (y.cps.getD 0 0 : Nat) | x => x) _ (by rw [chars_len]; exact big2 (by show z.length ≤ _; omega)) (fun x hx K k => ?_) ?_⟩
      · obtain ⟨c, _, rfl⟩ := List.mem_map.mp hx
        walk_at "d"
        exact ⟨rfl, k⟩
      · rw [hc]
        walk_at "d"
        have e3 : intsD ns ++ [PyData.int 1, .int z.length] ++ intsD (z.cps.toList.map fun c => ((c : Nat) : Int)) = intsD (ns ++ enc (.str z)) := by
          rw [intsD_app, List.append_assoc]
          rfl
        refine ⟨?_, (ns ++ enc (.str z), wt), ?_, _, rfl, by rw [e3], ha.1, ?_⟩
        · rw [List.length_append, intsD_len, intsD_len, List.length_map, Array.length_toList]
          exact big2 (by show ns.length + 2 + z.length ≤ _; omega)
        · rw [List.length_append]
          omega
        · rw [List.append_assoc]
          exact he
    | tuple ds =>
      walk_at "d"
      have hz : (enc (.tuple ds)).length = (encs ds).length + 2 := rfl
      have hds : areV ds = true := hx
      have h3 := encs_len hds
      have h4 : areV wt.reverse = true := by
        rw [areV_rev]
        exact ha.1
      have h5 := encs_len h4
      rw [List.length_reverse] at h5
      refine ⟨by decide, by rw [intsD_len]; exact big2 (by omega), by rw [List.length_reverse]; exact big2 (by omega), (ns ++ [2, (ds.length : Int)], wt ++ ds.reverse), ?_, _, rfl, by rw [intsD_app]; rfl, ?_, ?_⟩
      · rw [List.length_append]
        show _ - (ns.length + 2) < _
        omega
      · show areV (wt ++ ds.reverse) = true
        rw [areV_app, areV_rev, ha.1, hds]
        rfl
      · show (ns ++ [2, (ds.length : Int)]) ++ encs (wt ++ ds.reverse).reverse = _
        rw [List.reverse_append, List.reverse_reverse, encs_app, List.append_assoc]
        exact he
end
abbrev sPDigest : Stmt := topS 14
theorem scPDigest : FnScope ["rule", "value", "base", "modulus", "numbers", "result", "number"] ["rule", "value"] (defScope sPDigest) := ⟨rfl, rfl, rfl, by decide +kernel, rfl, by decide +kernel, by decide +kernel⟩
abbrev ruleD (b m : Int) : PyData := .tuple [.int b, .int m]
def pPDigest : DSp := fun ws C Q _ => ∃ b m d, ws = [.val (ruleD b m), .val d] ∧ RuleOk b m ∧ isV d = true ∧ (enc d).length ≤ 1000000 ∧ Q (.val (.int (dig b m (enc d)))) C
theorem digF_in {b m : Int} (h : RuleOk b m) (ns : List Int) : 0 ≤ digF b m ns ∧ digF b m ns < m := by
  rcases concat_cases ns with rfl | ⟨ns, n, rfl⟩
  · exact ⟨by show (0 : Int) ≤ 1; decide, by show (1 : Int) < m; have := h.2.2.1; omega⟩
  · rw [digF_snoc]
    exact ⟨Int.fmod_nonneg_of_pos _ (by have := h.2.2.1; omega), Int.fmod_lt_of_pos _ (by have := h.2.2.1; omega)⟩
theorem rule_mul {b m r : Int} (h : RuleOk b m) (h0 : 0 ≤ r) (h1 : r < m) : CMulW r b := by
  refine wide_mul (a := 64) (b := 64) ?_ ?_ (by decide) (by decide) (by decide)
  · have := h.2.2.2
    omega
  · have := h.1
    have := h.2.1
    omega
section
variable {P : Program} {w : World} {K : PySem.W.Frag} {mg : Str → Option Value} {base : Heap} {ct : Ct}
theorem ok_PDigest  (D : Def K mg "digest" sPDigest ["rule", "value"]) (D_PEncode : Def K mg "encode" sPEncode ["value"]) (m_len : mg "len" = none)
    (G_PEncode : FnOk P w K mg base CX0 1 D_PEncode.f D_PEncode.fd ["value"] (spD ct 0 1 pPEncode)) : FnOk P w K mg base CX0 2 D.f D.fd ["rule", "value"] (spD ct 0 2 pPDigest) := by
  refine D.F.ok scPDigest (fun vs H Q E h => spD_len h) (fun cdv A outer s H vs Q E hr h => ⟨_, (pss_cons (ps_asg (pv 0) (pg_tup (n := 2) (by rfl) (pgs_cons (pg_name (i := 2) scPDigest.nd rfl (Or.inl rfl)) (pgs_cons (pg_name (i := 3) scPDigest.nd rfl (Or.inl rfl)) pgs_nil)))) <|
    pss_cons (ps_set (i := 4) scPDigest.nd rfl (.inl rfl) (pe_call G_PEncode (hr.mono (by omega)) (by rfl) D_PEncode.m D_PEncode.F.kp D_PEncode.b .nil pass0 (pa_cons (pv 1) pa_nil))) <|
    pss_cons (ps_set (i := 5) scPDigest.nd rfl (.inl rfl) pe_int) <|
    pss_cons (ps_for PassesOwn.never rfl (pi_seqA (pv 4)) (pg_name (i := 6) scPDigest.nd rfl (Or.inl rfl))
      (pss_one (ps_set (i := 5) scPDigest.nd rfl (.inl rfl) (pe_op op_modN (pe_op op_addA (pe_op op_addA (pe_op op_mulW (pv 5) (pv 2)) (pv 6)) pe_int) (pv 3))))) <|
    pss_one (ps_ret (pe_op op_modN (pe_op op_addA (pe_op op_mulW (pv 5) (pv 2)) (pe_callB call_lenA (by rfl) m_len (by decide +kernel) (pa_cons (pv 4) pa_nil))) (pv 3)))), body_ok _ (fun R => inferInstance) (by decide) (fun ws C Q R hw hC hP => ?_) h⟩)
  obtain rfl := List.eq_nil_of_length_eq_zero hC
  obtain ⟨b, m, d, rfl, hrm, hv, hl, q⟩ := hP
  have hm0 : m ≠ 0 := by have := hrm.2.2.1; omega
  walk_at "d"
  refine ⟨d, rfl, hv, hl, ?_⟩
  walk_at "d"
  refine dForGo_ind (fun ds E C => C = [] ∧ ∃ (pre rest : List Int) (y : Option W), ds = intsD rest ∧ pre ++ rest = enc d ∧ E = [some (.val (ruleD b m)), some (.val d), some (.val (.int b)), some (.val (.int m)), some (.val (.list (intsD (enc d)))), some (.val (.int (digF b m pre))), y]) ?_ ?_ _ _ _ ⟨rfl, [], enc d, none, rfl, rfl, rfl⟩
  · rintro E C ⟨rfl, pre, rest, y, h1, h2, rfl⟩
    have h3 : rest = [] := by
      cases rest with
      | nil => rfl
      | cons x r => cases h1
    subst h3
    rw [List.append_nil] at h2
    subst h2
    obtain ⟨r0, r1⟩ := digF_in hrm (enc d)
    walk_at "d"
    refine ⟨rule_mul hrm r0 r1, hm0, ?_⟩
    rw [intsD_len]
    exact q
  · rintro x xs E C ⟨rfl, pre, rest, y, h1, h2, rfl⟩ N hN
    cases rest with
    | nil => cases h1
    | cons n rest =>
      cases h1
      obtain ⟨r0, r1⟩ := digF_in hrm pre
      walk_at "d"
      refine ⟨rule_mul hrm r0 r1, hm0, hN _ _ ⟨rfl, pre ++ [n], rest, some (.val (.int n)), rfl, by rw [List.append_assoc]; exact h2, ?_⟩⟩
      rw [digF_snoc]
end

abbrev sLCodes : Stmt := topS 51
theorem scLCodes : FnScope ["text", "letter"] ["text"] (defScope sLCodes) := ⟨rfl, rfl, rfl, by decide +kernel, rfl, by decide +kernel, by decide +kernel⟩
def pLCodes : DSp := fun ws C Q _ => ∃ z, ws = [.val (.str z)] ∧ z.length ≤ 1000000 ∧ Q (.val (.list (intsD (codesI z)))) C
theorem chars_codes (z : Str) : (chars z).map (fun x => match x with | .str y => PyData.int (y.cps.getD 0 0 : Nat) | x => x) = intsD (codesI z) := by
  unfold chars intsD codesI
  rw [List.map_map, List.map_map]
  rfl
section
variable {P : Program} {w : World} {K : PySem.W.Frag} {mg : Str → Option Value} {base : Heap} {ct : Ct}
theorem ok_LCodes  (D : Def K mg "_law_codes" sLCodes ["text"]) (m_ord : mg "ord" = none)
    : FnOk P w K mg base CX0 1 D.f D.fd ["text"] (spD ct 0 1 pLCodes) := by
  refine D.F.ok scLCodes (fun vs H Q E h => spD_len h) (fun cdv A outer s H vs Q E hr h => ⟨_, (pss_one (ps_ret (pe_lc (own := [("letter", 1)]) (g := (gName 1)) (by rfl) scLCodes.nd (pi_seqA (pv 0))
        (blkOk_by (own := [("letter", 1)]) (N := ["text", "letter"]) (sc := defScope sLCodes) (by decide +kernel))
        (fun _ _ _ _ _ => (pg_name (i := 1) scLCodes.nd rfl (Or.inl rfl))) (fun _ _ _ _ _ => pts_nil)
        (fun _ _ _ _ _ => (pe_callB call_ordA (by rfl) m_ord (by decide +kernel) (pa_cons (pv 1) pa_nil)))))), body_ok _ (fun R => inferInstance) (by decide) (fun ws C Q R hw hC hP => ?_) h⟩)
  obtain rfl := List.eq_nil_of_length_eq_zero hC
  obtain ⟨z, rfl, hl, q⟩ := hP
  walk_at "d"
  refine dLcGo_map (fun x => match x with | .str y => PyData.int (y.cps.getD 0 0 : Nat) | x => x) _ (by rw [chars_len]; exact big2 hl) (fun x hx K k => ?_) ?_
  · obtain ⟨c, _, rfl⟩ := List.mem_map.mp hx
    walk_at "d"
    exact ⟨rfl, k⟩
  · rw [chars_codes]
    exact q
end
abbrev sLEncode : Stmt := topS 52
theorem scLEncode : FnScope ["value", "made", "one"] ["value"] (defScope sLEncode) := ⟨rfl, rfl, rfl, by decide +kernel, rfl, by decide +kernel, by decide +kernel⟩
def pLEncode (n : Nat) : DSp := fun ws C Q _ => ∃ d, ws = [.val d] ∧ isV d = true ∧ d.depth < n ∧ (enc d).length ≤ 1000000 ∧ Q (.val (.list (intsD (enc d)))) C
theorem no_LEncode : ∀ ws C Q R, ¬ pLEncode 0 ws C Q R := fun ws C Q R ⟨d, _, _, h, _⟩ => absurd h (Nat.not_lt_zero _)
theorem depth_in {ds : List PyData} : ∀ d ∈ ds, d.depth ≤ PyData.depthAll ds := by
  induction ds with
  | nil => exact fun d h => by cases h
  | cons x xs ih =>
    intro d h
    show d.depth ≤ max x.depth (PyData.depthAll xs)
    rcases List.mem_cons.mp h with rfl | h
    · exact Nat.le_max_left _ _
    · exact Nat.le_trans (ih d h) (Nat.le_max_right _ _)
theorem areV_in : ∀ {ds : List PyData}, areV ds = true → ∀ d ∈ ds, isV d = true
  | x :: xs, hv, d, h => by
    have h' : (isV x && areV xs) = true := hv
    rw [Bool.and_eq_true] at h'
    rcases List.mem_cons.mp h with rfl | h
    · exact h'.1
    · exact areV_in h'.2 d h
section
variable {P : Program} {w : World} {K : PySem.W.Frag} {mg : Str → Option Value} {base : Heap} {ct : Ct}
theorem step_LEncode {n : Nat}  (D : Def K mg "_law_encode" sLEncode ["value"]) (D_LCodes : Def K mg "_law_codes" sLCodes ["text"]) (m_isinstance : mg "isinstance" = none) (m_len : mg "len" = none) (m_str : mg "str" = none) (m_tuple : mg "tuple" = none)
    (G_LCodes : FnOk P w K mg base CX0 1 D_LCodes.f D_LCodes.fd ["text"] (spD ct 0 1 pLCodes)) (G : FnOk P w K mg base CX0 (n + 1) D.f D.fd ["value"] (spD ct 0 1 (pLEncode n))) : FnOk P w K mg base CX0 (n + 1 + 1) D.f D.fd ["value"] (spD ct 0 1 (pLEncode (n + 1))) := by
  refine D.F.ok scLEncode (fun vs H Q E h => spD_len h) (fun cdv A outer s H vs Q E hr h => ⟨_, (pss_cons (ps_if (pt_truA (pe_callB call_isi (by rfl) m_isinstance (by decide +kernel) (pa_cons (pv 0) (pa_cons (pe_bltn (v := .ty "str") (by rfl) m_str (by decide +kernel) rfl) pa_nil))))
      (pss_one (ps_ret (pe_op op_addA (pe_lst (pa_cons pe_int (pa_cons (pe_callB call_lenA (by rfl) m_len (by decide +kernel) (pa_cons (pv 0) pa_nil)) pa_nil))) (pe_call G_LCodes (hr.mono (by omega)) (by rfl) D_LCodes.m D_LCodes.F.kp D_LCodes.b .nil pass0 (pa_cons (pv 0) pa_nil))))) pss_nil) <|
    pss_cons (ps_if (pt_truA (pe_callB call_isi (by rfl) m_isinstance (by decide +kernel) (pa_cons (pv 0) (pa_cons (pe_bltn (v := .ty "tuple") (by rfl) m_tuple (by decide +kernel) rfl) pa_nil))))
      (pss_cons (ps_set (i := 1) scLEncode.nd rfl (.inl rfl) (pe_lst (pa_cons pe_int (pa_cons (pe_callB call_lenA (by rfl) m_len (by decide +kernel) (pa_cons (pv 0) pa_nil)) pa_nil)))) <|
        pss_cons (ps_for PassesOwn.never rfl (pi_seqA (pv 0)) (pg_name (i := 2) scLEncode.nd rfl (Or.inl rfl))
          (pss_one (ps_set (i := 1) scLEncode.nd rfl (.inl rfl) (pe_op op_addA (pv 1) (pe_call G (hr.mono (by omega)) (by rfl) D.m D.F.kp D.b .nil pass0 (pa_cons (pv 2) pa_nil)))))) <|
        pss_one (ps_ret (pv 1))) pss_nil) <|
    pss_one (ps_ret (pe_lst (pa_cons pe_int (pa_cons (pv 0) pa_nil))))), body_ok _ (fun R => inferInstance) (by decide) (fun ws C Q R hw hC hP => ?_) h⟩)
  obtain rfl := List.eq_nil_of_length_eq_zero hC
  obtain ⟨d, rfl, hv, hd, hl, q⟩ := hP
  walk_at "d"
  cases d with
  | none => cases hv
  | bool b => cases hv
  | list ds => cases hv
  | dict kvs => cases hv
  | int i =>
    walk_at "d"
    exact ⟨by decide, q⟩
  | str z =>
    have hz : (enc (.str z)).length = z.length + 2 := enc_str_len z
    walk_at "d"
    refine ⟨big2 (by omega), by decide, z, rfl, by omega, ?_⟩
    walk_at "d"
    refine ⟨?_, q⟩
    rw [intsD_len]
    unfold codesI
    rw [List.length_map, Array.length_toList]
    exact big2 (by show 2 + z.length ≤ _; omega)
  | tuple ds =>
    have hz : (enc (.tuple ds)).length = (encs ds).length + 2 := rfl
    have hds : areV ds = true := hv
    have hdd : PyData.depthAll ds + 1 < n + 1 := hd
    walk_at "d"
    refine ⟨by decide, ?_⟩
    refine dForGo_ind (fun rest E C => C = [] ∧ ∃ (pre : List PyData) (y : Option W), pre ++ rest = ds ∧ E = [some (.val (.tuple ds)), some (.val (.list (intsD (2 :: (ds.length : Int) :: encs pre)))), y]) ?_ ?_ _ _ _ ⟨rfl, [], _, rfl, rfl⟩
    · rintro E C ⟨rfl, pre, y, h1, rfl⟩
      rw [List.append_nil] at h1
      subst h1
      walk_at "d"
      exact q
    · rintro x xs E C ⟨rfl, pre, y, h1, rfl⟩ N hN
      have hx : x ∈ ds := by rw [← h1]; exact List.mem_append_right _ List.mem_cons_self
      have e2 : encs ds = encs pre ++ (enc x ++ encs xs) := by rw [← h1, encs_app]; rfl
      have e3 := congrArg List.length e2
      rw [List.length_append, List.length_append] at e3
      walk_at "d"
      refine ⟨x, rfl, areV_in hds x hx, by have := depth_in x hx; omega, by omega, ?_⟩
      walk_at "d"
      refine ⟨?_, hN _ _ ⟨rfl, pre ++ [x], some (W.val x), by rw [List.append_assoc]; exact h1, ?_⟩⟩
      · rw [intsD_len, intsD_len]
        show (encs pre).length + 1 + 1 + _ ≤ _
        exact big2 (by omega)
      · rw [← intsD_app, encs_app]
        show _ = [_, some (W.val (.list (intsD (2 :: (ds.length : Int) :: (encs pre ++ (enc x ++ [])))))), _]
        rw [List.append_nil]
        rfl
theorem ok_LEncode  (D : Def K mg "_law_encode" sLEncode ["value"]) (D_LCodes : Def K mg "_law_codes" sLCodes ["text"]) (m_isinstance : mg "isinstance" = none) (m_len : mg "len" = none) (m_str : mg "str" = none) (m_tuple : mg "tuple" = none)
    (G_LCodes : FnOk P w K mg base CX0 1 D_LCodes.f D_LCodes.fd ["text"] (spD ct 0 1 pLCodes)) : ∀ n : Nat, FnOk P w K mg base CX0 (n + 1) D.f D.fd ["value"] (spD ct 0 1 (pLEncode n))
  | 0 => spD_none no_LEncode
  | n + 1 => (step_LEncode D D_LCodes m_isinstance m_len m_str m_tuple G_LCodes (ok_LEncode D D_LCodes m_isinstance m_len m_str m_tuple G_LCodes n)).mono (by omega)

end
abbrev sLDigest : Stmt := topS 53
theorem scLDigest : FnScope ["rule", "value", "found", "numbers", "number"] ["rule", "value"] (defScope sLDigest) := ⟨rfl, rfl, rfl, by decide +kernel, rfl, by decide +kernel, by decide +kernel⟩
def pLDigest : DSp := fun ws C Q _ => ∃ b m d, ws = [.val (.tuple [.int b, .int m]), .val d] ∧ RuleOk b m ∧ isV d = true ∧ d.depth < 8 ∧ (enc d).length ≤ 1000000 ∧ Q (.val (.int (dig b m (enc d)))) C
theorem digF_inL {b m : Int} (h : RuleOk b m) (ns : List Int) : 0 ≤ digF b m ns ∧ digF b m ns < m := by
  rcases concat_cases ns with rfl | ⟨ns, n, rfl⟩
  · exact ⟨by show (0 : Int) ≤ 1; decide, by show (1 : Int) < m; have := h.2.2.1; omega⟩
  · rw [digF_snoc]
    exact ⟨Int.fmod_nonneg_of_pos _ (by have := h.2.2.1; omega), Int.fmod_lt_of_pos _ (by have := h.2.2.1; omega)⟩
theorem rule_mulL {b m r : Int} (h : RuleOk b m) (h0 : 0 ≤ r) (h1 : r < m) : CMulW r b := by
  refine wide_mul (a := 64) (b := 64) ?_ ?_ (by decide) (by decide) (by decide)
  · have := h.2.2.2
    omega
  · have := h.1
    have := h.2.1
    omega
section
variable {P : Program} {w : World} {K : PySem.W.Frag} {mg : Str → Option Value} {base : Heap} {ct : Ct}
theorem ok_LDigest  (D : Def K mg "_law_digest" sLDigest ["rule", "value"]) (D_LEncode : Def K mg "_law_encode" sLEncode ["value"]) (m_int : mg "int" = none) (m_len : mg "len" = none)
    (G_LEncode : ∀ n, FnOk P w K mg base CX0 (n + 1) D_LEncode.f D_LEncode.fd ["value"] (spD ct 0 1 (pLEncode n))) : FnOk P w K mg base CX0 10 D.f D.fd ["rule", "value"] (spD ct 0 2 pLDigest) := by
  refine D.F.ok scLDigest (fun vs H Q E h => spD_len h) (fun cdv A outer s H vs Q E hr h => ⟨_, (pss_cons (ps_set (i := 2) scLDigest.nd rfl (.inl rfl) pe_int) <|
    pss_cons (ps_set (i := 3) scLDigest.nd rfl (.inl rfl) (pe_call (G_LEncode 8) (hr.mono (by omega)) (by rfl) D_LEncode.m D_LEncode.F.kp D_LEncode.b .nil pass0 (pa_cons (pv 1) pa_nil))) <|
    pss_cons (ps_for PassesOwn.never rfl (pi_seqA (pv 3)) (pg_name (i := 4) scLDigest.nd rfl (Or.inl rfl))
      (pss_one (ps_set (i := 2) scLDigest.nd rfl (.inl rfl) (pe_op op_modN (pe_callTy call_intA (by rfl) m_int (by decide +kernel) (pa_cons (pe_op op_addA (pe_op op_addA (pe_op op_mulW (pv 2) (pe_ix ix_seq (pv 0) pe_int (fun _ _ => rfl))) (pv 4)) pe_int) pa_nil)) (pe_ix ix_seq (pv 0) pe_int (fun _ _ => rfl)))))) <|
    pss_one (ps_ret (pe_op op_modN (pe_callTy call_intA (by rfl) m_int (by decide +kernel) (pa_cons (pe_op op_addA (pe_op op_mulW (pv 2) (pe_ix ix_seq (pv 0) pe_int (fun _ _ => rfl))) (pe_callB call_lenA (by rfl) m_len (by decide +kernel) (pa_cons (pv 3) pa_nil))) pa_nil)) (pe_ix ix_seq (pv 0) pe_int (fun _ _ => rfl))))), body_ok _ (fun R => inferInstance) (by decide) (fun ws C Q R hw hC hP => ?_) h⟩)
  obtain rfl := List.eq_nil_of_length_eq_zero hC
  obtain ⟨b, m, d, rfl, hrm, hv, hdp, hl, q⟩ := hP
  have hm0 : m ≠ 0 := by have := hrm.2.2.1; omega
  walk_at "d"
  refine ⟨d, rfl, hv, hdp, hl, ?_⟩
  walk_at "d"
  refine dForGo_ind (fun ds E C => C = [] ∧ ∃ (pre rest : List Int) (y : Option W), ds = intsD rest ∧ pre ++ rest = enc d ∧ E = [some (.val (.tuple [.int b, .int m])), some (.val d), some (.val (.int (digF b m pre))), some (.val (.list (intsD (enc d)))), y]) ?_ ?_ _ _ _ ⟨rfl, [], enc d, none, rfl, rfl, rfl⟩
  · rintro E C ⟨rfl, pre, rest, y, h1, h2, rfl⟩
    have h3 : rest = [] := by
      cases rest with
      | nil => rfl
      | cons x r => cases h1
    subst h3
    rw [List.append_nil] at h2
    subst h2
    obtain ⟨r0, r1⟩ := digF_inL hrm (enc d)
    walk_at "d"
    refine ⟨rule_mulL hrm r0 r1, hm0, ?_⟩
    rw [intsD_len]
    exact q
  · rintro x xs E C ⟨rfl, pre, rest, y, h1, h2, rfl⟩ N hN
    cases rest with
    | nil => cases h1
    | cons n rest =>
      cases h1
      obtain ⟨r0, r1⟩ := digF_inL hrm pre
      walk_at "d"
      refine ⟨rule_mulL hrm r0 r1, hm0, hN _ _ ⟨rfl, pre ++ [n], rest, some (.val (.int n)), rfl, by rw [List.append_assoc]; exact h2, ?_⟩⟩
      rw [digF_snoc]
end

theorem rule_ok {x y : Int} (h0 : 0 ≤ x) (h1 : x < 10 ^ 18) (k0 : 0 ≤ y) (k1 : y < 10 ^ 18 - 1) : RuleOk (1 + x) (2 + y) := ⟨by omega, by omega, by omega, by omega⟩
theorem at_map {α : Type} (f : α → PyData) {xs : List α} {i : Nat} {x : α} (h : xs[i]? = some x) : atI (xs.map f) (i : Int) = some (f x) := atI_nat (by rw [List.getElem?_map, h]; rfl)
theorem nat_of {d : Int} {n : Nat} (h0 : 0 ≤ d) (h1 : d < (n : Int)) : ∃ j : Nat, d = (j : Int) ∧ j < n := ⟨d.toNat, by omega, by omega⟩
theorem get_of {α : Type} {xs : List α} {i : Nat} (h : i < xs.length) : ∃ x, xs[i]? = some x ∧ x ∈ xs := ⟨xs[i], List.getElem?_eq_getElem h, List.getElem_mem h⟩
/-- a drawn one of a list -/
theorem draw_in {α : Type} {xs : List α} {d : Int} (h0 : 0 ≤ d) (h1 : d < (xs.length : Int)) : ∃ (j : Nat) (x : α), d = (j : Int) ∧ xs[j]? = some x ∧ x ∈ xs := by
  obtain ⟨j, rfl, hj⟩ := nat_of h0 h1
  obtain ⟨x, h, hm⟩ := get_of hj
  exact ⟨j, x, rfl, h, hm⟩
def KeysOk (tb : Tab) : Prop := ∀ p ∈ tb, KeyOk p.1 ∧ RowOk p.2
theorem TabOk.keys {tb : Tab} (h : TabOk tb) : KeysOk tb := h.2
theorem KeysOk.fit {tb : Tab} (h : KeysOk tb) : TabFit tb := fun p hp => by
  obtain ⟨⟨_, k1, _⟩, _, k2, _⟩ := h p hp
  exact ⟨by omega, by omega⟩
theorem okD_put : okD (.str "put") := okDs_of (by decide +kernel)
theorem okD_rem : okD (.str "remove") := okDs_of (by decide +kernel)
def Chg.kind : Chg → Str
  | .put _ _ => "put"
  | .rem _ => "remove"
def Chg.rest : Chg → List PyData
  | .put _ r => [rowD r]
  | .rem _ => []
theorem chgD_eq (ch : Chg) : chgD ch = .tuple (.str ch.kind :: .str ch.key :: ch.rest) := by
  cases ch <;> rfl
theorem TabFit.take {tb : Tab} (h : TabFit tb) (n : Nat) : TabFit (tb.take n) := fun p hp => h p (List.mem_of_mem_take hp)
theorem TabFit.drop {tb : Tab} (h : TabFit tb) (n : Nat) : TabFit (tb.drop n) := fun p hp => h p (List.mem_of_mem_drop hp)
def treeD (b m : Int) : Tree → PyData
  | .nil => .list [linkD (lnk0 b m), .none, .none, .none]
  | .node k r x y => .list [linkD ((Tree.node k r x y).lnk b m), entD (entOf b m k r x y), treeD b m x, treeD b m y]
theorem treeD_head (b m : Int) (t : Tree) : ∃ r, treeD b m t = .list (linkD (t.lnk b m) :: r) := by
  cases t with
  | nil => exact ⟨_, rfl⟩
  | node k r x y => exact ⟨_, rfl⟩
/-! ### versions -/
structure Ver where
  n : Int
  h : Lnk
  p : Int
deriving DecidableEq
def verDs (v : Ver) : List PyData := [.int v.n, linkD v.h, .int v.p]
def verD (v : Ver) : PyData := .tuple [.int v.n, linkD v.h, .int v.p]
def vD (v : Ver) : PyData := .tuple [.str "version", .int v.n, linkD v.h, .int v.p]
def vdig (b m : Int) (v : Ver) : Int := dig b m (enc (vD v))
theorem vD_fit (v : Ver) : isV (vD v) = true ∧ (vD v).depth < 8 ∧ (enc (vD v)).length ≤ 1000000 := ⟨rfl, show 3 < 8 by decide, show 29 ≤ 1000000 by decide⟩
def nextV (b m : Int) (v : Ver) (h : Lnk) : Ver := ⟨v.n + 1, h, vdig b m v⟩
def hstF (b m : Int) (h0 : Lnk) (hs : List Lnk) : List Ver × Ver := hs.foldl (fun s h => (s.1 ++ [s.2], nextV b m s.2 h)) ([], ⟨0, h0, 0⟩)
theorem hstF_snoc (b m : Int) (h0 h : Lnk) (hs : List Lnk) : hstF b m h0 (hs ++ [h]) = ((hstF b m h0 hs).1 ++ [(hstF b m h0 hs).2], nextV b m (hstF b m h0 hs).2 h) := by
  unfold hstF
  rw [List.foldl_append]
  rfl
def hist (b m : Int) (h0 : Lnk) (hs : List Lnk) : List Ver := (hstF b m h0 hs).1 ++ [(hstF b m h0 hs).2]
theorem hstF_len (b m : Int) (h0 : Lnk) (hs : List Lnk) : (hstF b m h0 hs).1.length = hs.length := by
  have key : ∀ (hs : List Lnk) (s : List Ver × Ver), (hs.foldl (fun s h => (s.1 ++ [s.2], nextV b m s.2 h)) s).1.length = s.1.length + hs.length := by
    intro hs
    induction hs with
    | nil => intro s; rfl
    | cons h hs ih =>
      intro s
      rw [List.foldl_cons]
      rw [ih]
      show (s.1 ++ [s.2]).length + hs.length = s.1.length + (hs.length + 1)
      rw [List.length_append]
      show s.1.length + 1 + hs.length = _
      omega
  have := key hs ([], ⟨0, h0, 0⟩)
  unfold hstF
  rw [this]
  show 0 + _ = _
  omega
theorem hist_len (b m : Int) (h0 : Lnk) (hs : List Lnk) : (hist b m h0 hs).length = hs.length + 1 := by
  unfold hist
  rw [List.length_append, hstF_len]
  rfl
def lead1 (b m : Int) (a c : Ver) : Bool := decide (c.n = a.n + 1) && decide (c.p = vdig b m a)
def leads (b m : Int) (row : List Ver) : Bool := (row.zip (row.drop 1)).all fun p => lead1 b m p.1 p.2
theorem leads_iff {b m : Int} {row : List Ver} : leads b m row = true ↔ ∀ i a c, row[i]? = some a → row[i + 1]? = some c → lead1 b m a c = true := by
  unfold leads
  rw [List.all_eq_true]
  constructor
  · intro h i a c h1 h2
    refine h (a, c) (List.mem_of_getElem? (i := i) ?_)
    rw [List.getElem?_zip_eq_some]
    exact ⟨h1, by rw [List.getElem?_drop, Nat.add_comm]; exact h2⟩
  · intro h p hp
    obtain ⟨i, hi⟩ := List.getElem?_of_mem hp
    rw [List.getElem?_zip_eq_some] at hi
    rw [List.getElem?_drop, Nat.add_comm] at hi
    exact h i _ _ hi.1 hi.2
theorem eqv_ints : ∀ ns ms : List Int, PyData.eqvAll (ns.map PyData.int) (ms.map PyData.int) = decide (ns = ms)
  | [], [] => rfl
  | [], _ :: _ => rfl
  | _ :: _, [] => rfl
  | n :: ns, m :: ms => by
    show (decide (n = m) && PyData.eqvAll (ns.map PyData.int) (ms.map PyData.int)) = _
    rw [eqv_ints ns ms]
    simp [List.cons.injEq]
theorem eqv_link (a c : Lnk) : PyData.eqv (linkD a) (linkD c) = decide (a = c) := by
  show (decide (a.d = c.d) && (decide (a.c = c.c) && ((decide (a.s0 = c.s0) && (decide (a.s1 = c.s1) && (decide (a.s2 = c.s2) && true))) && true))) = _
  obtain ⟨a0, a1, a2, a3, a4⟩ := a
  obtain ⟨c0, c1, c2, c3, c4⟩ := c
  simp [Bool.eq_iff_iff]
theorem eqv_ver (a c : Ver) : PyData.eqv (verD a) (verD c) = decide (a = c) := by
  show (decide (a.n = c.n) && (PyData.eqv (linkD a.h) (linkD c.h) && (decide (a.p = c.p) && true))) = _
  rw [eqv_link]
  obtain ⟨a0, a1, a2⟩ := a
  obtain ⟨c0, c1, c2⟩ := c
  simp [Bool.eq_iff_iff]
theorem okD_ver (a : Ver) : okD (verD a) := rfl
theorem okD_link (a : Lnk) : okD (linkD a) := rfl
theorem eqvAll_map {α : Type} (f : α → PyData) [DecidableEq α] (h : ∀ a c, PyData.eqv (f a) (f c) = decide (a = c)) : ∀ xs ys : List α, PyData.eqvAll (xs.map f) (ys.map f) = decide (xs = ys)
  | [], [] => rfl
  | [], _ :: _ => rfl
  | _ :: _, [] => rfl
  | x :: xs, y :: ys => by
    show (PyData.eqv (f x) (f y) && PyData.eqvAll (xs.map f) (ys.map f)) = _
    rw [h, eqvAll_map f h xs ys]
    simp [List.cons.injEq]
theorem okD_list {α : Type} (f : α → PyData) {n : Nat} (hn : n ≤ 63) (h : ∀ a, (f a).canLay0 = true ∧ (f a).depth ≤ n) (xs : List α) : okD (.list (xs.map f)) := by
  have h1 : (PyData.list (xs.map f)).canLay0 = true := all_lay _ fun x hx => by
    obtain ⟨a, _, rfl⟩ := List.mem_map.mp hx
    exact (h a).1
  have h2 : (PyData.list (xs.map f)).depth ≤ n + 1 := Nat.succ_le_succ (all_depth _ fun x hx => by
    obtain ⟨a, _, rfl⟩ := List.mem_map.mp hx
    exact (h a).2)
  unfold okD SeqAt.shaped
  rw [h1, decide_eq_true (Nat.le_trans h2 (by omega))]
  rfl
theorem okD_vers (vs : List Ver) : okD (.list (vs.map verD)) := okD_list verD (n := 3) (by decide) (fun a => ⟨rfl, show 3 ≤ 3 by decide⟩) vs
theorem lead1_next (b m : Int) (a c : Ver) : decide (c = nextV b m a c.h) = lead1 b m a c := by
  obtain ⟨c0, c1, c2⟩ := c
  unfold nextV lead1
  simp [Bool.eq_iff_iff]
theorem cutL_to {α : Type} {xs : List α} {k : Nat} (h : k ≤ xs.length) : cutL xs none (some (k : Int)) = xs.take k := by
  unfold cutL
  rw [HT.sIx_none, HT.sIx_nat, Nat.min_eq_left h]
  rfl
theorem cutL_from {α : Type} {xs : List α} {k : Nat} (h : k ≤ xs.length) : cutL xs (some (k : Int)) none = xs.drop k := by
  unfold cutL
  rw [HT.sIx_none, HT.sIx_nat, Nat.min_eq_left h]
  exact List.take_of_length_le (by rw [List.length_drop]; exact Nat.le_refl _)
theorem cutL_tail {α : Type} (x : α) (xs : List α) : cutL (x :: xs) (some 1) none = xs := cutL_from (k := 1) (by rw [List.length_cons]; omega)
theorem cutL_mid {α : Type} {xs : List α} {i j : Nat} (hi : i ≤ xs.length) (hj : j ≤ xs.length) : cutL xs (some (i : Int)) (some (j : Int)) = (xs.drop i).take (j - i) := by
  unfold cutL
  rw [HT.sIx_nat, HT.sIx_nat, Nat.min_eq_left hi, Nat.min_eq_left hj]
theorem ifn {P A B : Prop} [Decidable P] (a : ¬ P → A) (b : P → B) : if (!decide P) = true then A else B := by
  by_cases e : P
  · rw [decide_eq_true e]
    exact b e
  · rw [decide_eq_false e]
    exact a e

abbrev sLRule : Stmt := topS 50
theorem scLRule : FnScope ["state", "choice"] ["state"] (defScope sLRule) := ⟨rfl, rfl, rfl, by decide +kernel, rfl, by decide +kernel, by decide +kernel⟩
def pLRule : DSp := fun ws C Q _ => ∃ l, ws = [.ref 0] ∧ C = [.lst l] ∧ StL l ∧ ∀ b m l', RuleOk b m → StL l' → Q (.val (ruleD b m)) [.lst l']
section
variable {P : Program} {w : World} {K : PySem.W.Frag} {mg : Str → Option Value} {base : Heap} {ct : Ct}
theorem ok_LRule  (D : Def K mg "_law_rule" sLRule ["state"]) (D_LDraw : Def K mg "_law_draw" sLDraw ["state", "limit"])
    (G_LDraw : FnOk P w K mg base CX0 1 D_LDraw.f D_LDraw.fd ["state", "limit"] (spD ct 1 2 pLDraw)) : FnOk P w K mg base CX0 2 D.f D.fd ["state"] (spD ct 1 1 pLRule) := by
  refine D.F.ok scLRule (fun vs H Q E h => spD_len h) (fun cdv A outer s H vs Q E hr h => ⟨_, (pss_cons (ps_set (i := 1) scLRule.nd rfl (.inl rfl) (pe_call G_LDraw (hr.mono (by omega)) (by rfl) D_LDraw.m D_LDraw.F.kp D_LDraw.b .nil pass0 (pa_cons (pv 0) (pa_cons pe_int pa_nil)))) <|
    pss_cons (ps_if (pt_cmpR (op_eqD hr.units) (pv 1) pe_int (nomark _))
      (pss_one (ps_ret (pe_tup (pa_cons (pe_op op_addA pe_int (pe_call G_LDraw (hr.mono (by omega)) (by rfl) D_LDraw.m D_LDraw.F.kp D_LDraw.b .nil pass0 (pa_cons (pv 0) (pa_cons pe_int pa_nil)))) (pa_cons (pe_op op_addA pe_int (pe_call G_LDraw (hr.mono (by omega)) (by rfl) D_LDraw.m D_LDraw.F.kp D_LDraw.b .nil pass0 (pa_cons (pv 0) (pa_cons pe_int pa_nil)))) pa_nil))))) pss_nil) <|
    pss_cons (ps_if (pt_cmpR (op_eqD hr.units) (pv 1) pe_int (nomark _))
      (pss_one (ps_ret (pe_tup (pa_cons (pe_op op_addA pe_int (pe_call G_LDraw (hr.mono (by omega)) (by rfl) D_LDraw.m D_LDraw.F.kp D_LDraw.b .nil pass0 (pa_cons (pv 0) (pa_cons pe_int pa_nil)))) (pa_cons (pe_op op_addA pe_int (pe_call G_LDraw (hr.mono (by omega)) (by rfl) D_LDraw.m D_LDraw.F.kp D_LDraw.b .nil pass0 (pa_cons (pv 0) (pa_cons pe_int pa_nil)))) pa_nil))))) pss_nil) <|
    pss_one (ps_ret (pe_tup (pa_cons (pe_op op_addA pe_int (pe_call G_LDraw (hr.mono (by omega)) (by rfl) D_LDraw.m D_LDraw.F.kp D_LDraw.b .nil pass0 (pa_cons (pv 0) (pa_cons (pe_op op_pow pe_int pe_int) pa_nil)))) (pa_cons (pe_op op_addA pe_int (pe_call G_LDraw (hr.mono (by omega)) (by rfl) D_LDraw.m D_LDraw.F.kp D_LDraw.b .nil pass0 (pa_cons (pv 0) (pa_cons (pe_op op_sub (pe_op op_pow pe_int pe_int) pe_int) pa_nil)))) pa_nil))))), body_ok _ (fun R => inferInstance) (by decide) (fun ws C Q R hw hC hP => ?_) h⟩)
  obtain ⟨l, rfl, rfl, hs, q⟩ := hP
  walk_at "d"
  refine ⟨4, l, rfl, rfl, hs, by decide, by decide, fun d l1 d0 d1 s1 => ?_⟩
  walk_at "d"
  refine ite2 (fun _ => ?_) (fun _ => ?_)
  · refine ⟨9, l1, rfl, rfl, s1, by decide, by decide, fun x l2 x0 x1 s2 => ?_⟩
    walk_at "d"
    refine ⟨6, l2, rfl, rfl, s2, by decide, by decide, fun y l3 y0 y1 s3 => ?_⟩
    walk_at "d"
    exact ⟨by decide, q _ _ l3 (rule_ok x0 (by omega) y0 (by omega)) s3⟩
  refine ite2 (fun _ => ?_) (fun _ => ?_)
  · refine ⟨1000, l1, rfl, rfl, s1, by decide, by decide, fun x l2 x0 x1 s2 => ?_⟩
    walk_at "d"
    refine ⟨200, l2, rfl, rfl, s2, by decide, by decide, fun y l3 y0 y1 s3 => ?_⟩
    walk_at "d"
    exact ⟨by decide, q _ _ l3 (rule_ok x0 (by omega) y0 (by omega)) s3⟩
  · refine ⟨⟨by decide, by decide, by decide +kernel⟩, _, l1, rfl, rfl, s1, by decide, by decide +kernel, fun x l2 x0 x1 s2 => ?_⟩
    walk_at "d"
    refine ⟨⟨by decide, by decide, by decide +kernel⟩, _, l2, rfl, rfl, s2, by decide, by decide +kernel, fun y l3 y0 y1 s3 => ?_⟩
    walk_at "d"
    exact ⟨by decide, q _ _ l3 (rule_ok x0 x1 y0 y1) s3⟩
end

abbrev sLSomeKey : Stmt := topS 57
theorem scLSomeKey : FnScope ["state", "table"] ["state", "table"] (defScope sLSomeKey) := ⟨rfl, rfl, rfl, by decide +kernel, rfl, by decide +kernel, by decide +kernel⟩
def pLSomeKey : DSp := fun ws C Q _ => ∃ l tb, ws = [.ref 0, .val (tabD tb)] ∧ C = [.lst l] ∧ StL l ∧ KeysOk tb ∧ tb.length ≤ 1000 ∧ ∀ k l', KeyOk k → StL l' → Q (.val (.str k)) [.lst l']
section
variable {P : Program} {w : World} {K : PySem.W.Frag} {mg : Str → Option Value} {base : Heap} {ct : Ct}
theorem ok_LSomeKey  (D : Def K mg "_law_some_key" sLSomeKey ["state", "table"]) (D_LDraw : Def K mg "_law_draw" sLDraw ["state", "limit"]) (D_LKey : Def K mg "_law_key" sLKey ["state"]) (m_len : mg "len" = none)
    (G_LDraw : FnOk P w K mg base CX0 1 D_LDraw.f D_LDraw.fd ["state", "limit"] (spD ct 1 2 pLDraw)) (G_LKey : FnOk P w K mg base CX0 2 D_LKey.f D_LKey.fd ["state"] (spD ct 1 1 pLKey)) : FnOk P w K mg base CX0 3 D.f D.fd ["state", "table"] (spD ct 1 2 pLSomeKey) := by
  refine D.F.ok scLSomeKey (fun vs H Q E h => spD_len h) (fun cdv A outer s H vs Q E hr h => ⟨_, (pss_cons (ps_if (PW.pt (pw_and (pt_cmpR op_gtA (pe_callB call_lenA (by rfl) m_len (by decide +kernel) (pa_cons (pv 1) pa_nil)) pe_int (nomark _)) (pw_and1 (pt_cmpR op_gtA (pe_call G_LDraw (hr.mono (by omega)) (by rfl) D_LDraw.m D_LDraw.F.kp D_LDraw.b .nil pass0 (pa_cons (pv 0) (pa_cons pe_int pa_nil))) pe_int (nomark _)))))
      (pss_one (ps_ret (pe_ix ix_seq (pe_ix ix_seq (pv 1) (pe_call G_LDraw (hr.mono (by omega)) (by rfl) D_LDraw.m D_LDraw.F.kp D_LDraw.b .nil pass0 (pa_cons (pv 0) (pa_cons (pe_callB call_lenA (by rfl) m_len (by decide +kernel) (pa_cons (pv 1) pa_nil)) pa_nil))) (fun _ _ => rfl)) pe_int (fun _ _ => rfl)))) pss_nil) <|
    pss_one (ps_ret (pe_call G_LKey (hr.mono (by omega)) (by rfl) D_LKey.m D_LKey.F.kp D_LKey.b .nil pass0 (pa_cons (pv 0) pa_nil)))), body_ok _ (fun R => inferInstance) (by decide) (fun ws C Q R hw hC hP => ?_) h⟩)
  obtain ⟨l, tb, rfl, rfl, hs, hk, hl, q⟩ := hP
  walk_at "d"
  refine ite2 (fun h0 => ?_) (fun _ => ?_)
  · refine ⟨3, l, rfl, rfl, hs, by decide, by decide, fun d l1 d0 d1 s1 => ?_⟩
    walk_at "d"
    refine ite2 (fun _ => ?_) (fun _ => ?_)
    · have h0' := of_decide_eq_true h0
      rw [List.length_map]
      rw [List.length_map] at h0'
      refine ⟨_, l1, rfl, rfl, s1, h0', by omega, fun e l2 e0 e1 s2 => ?_⟩
      obtain ⟨j, p, rfl, hj, hp⟩ := draw_in e0 e1
      walk_at "d"
      rw [at_map pairD hj]
      unfold pairD
      walk_at "d"
      exact q _ _ (hk p hp).1 s2
    · refine ⟨l1, rfl, rfl, s1, fun k l2 k1 s2 => ?_⟩
      walk_at "d"
      exact q _ _ k1 s2
  · refine ⟨l, rfl, rfl, hs, fun k l2 k1 s2 => ?_⟩
    walk_at "d"
    exact q _ _ k1 s2
end

abbrev sLChanged : Stmt := topS 59
theorem scLChanged : FnScope ["table", "change", "made", "pair"] ["table", "change"] (defScope sLChanged) := ⟨rfl, rfl, rfl, by decide +kernel, rfl, by decide +kernel, by decide +kernel⟩
theorem okD_kind (ch : Chg) : okD (.str ch.kind) := by
  cases ch with
  | put k r => exact okD_put
  | rem k => exact okD_rem
def pLChanged : DSp := fun ws C Q _ => ∃ tb ch, ws = [.val (tabD tb), .val (chgD ch)] ∧ tb.length ≤ 1000 ∧ KeysOk tb ∧ ch.Ok ∧ Q (.val (tabD (changed tb ch))) C
section
variable {P : Program} {w : World} {K : PySem.W.Frag} {mg : Str → Option Value} {base : Heap} {ct : Ct}
theorem ok_LChanged  (D : Def K mg "_law_changed" sLChanged ["table", "change"])
    : FnOk P w K mg base CX0 1 D.f D.fd ["table", "change"] (spD ct 0 2 pLChanged) := by
  refine D.F.ok scLChanged (fun vs H Q E h => spD_len h) (fun cdv A outer s H vs Q E hr h => ⟨_, (pss_cons (psC (ps_setLc (i := 2) (own := [("pair", 3)]) (g := (gName 3)) (by rfl) scLChanged.nd rfl rfl (sw_true rfl rfl rfl (by decide +kernel)) (pi_seqA (pv 0))
        (blkOk_by (own := [("pair", 3)]) (N := ["table", "change", "made", "pair"]) (sc := defScope sLChanged) (by decide +kernel))
        (fun _ _ _ _ _ => (pg_name (i := 3) scLChanged.nd rfl (Or.inl rfl))) (fun _ _ _ _ _ => pts_one (pt_cmpR op_ltA (pe_ix (ix_seqC (K := K) rfl) (pv 3) pe_int (fun _ _ => rfl)) (pe_ix (ix_seqC (K := K) rfl) (pv 1) pe_int (fun _ _ => rfl)) (nomark _)))
        (fun _ _ _ _ _ => (pv 3)))) <|
    pss_cons (ps_if (pt_cmpR (op_eqD hr.units) (pe_ix ix_seq (pv 1) pe_int (fun _ _ => rfl)) pe_str (nomark _))
      (pss_one (ps_expr (pe_bm PySem.F.plainAttrs_list PySem.F.slot_list_append PySem.F.type_list_append mt_append (pv 2) (pa_cons (pe_tup (pa_cons (pe_ix ix_seq (pv 1) pe_int (fun _ _ => rfl)) (pa_cons (pe_ix ix_seq (pv 1) pe_int (fun _ _ => rfl)) pa_nil))) pa_nil)))) pss_nil) <|
    pss_one (ps_ret (pe_op op_addA (pv 2) (pe_lc (own := [("pair", 3)]) (g := (gName 3)) (by rfl) scLChanged.nd (pi_seqA (pv 0))
        (blkOk_by (own := [("pair", 3)]) (N := ["table", "change", "made", "pair"]) (sc := defScope sLChanged) (by decide +kernel))
        (fun _ _ _ _ _ => (pg_name (i := 3) scLChanged.nd rfl (Or.inl rfl))) (fun _ _ _ _ _ => pts_one (pt_cmpR op_gtA (pe_ix (ix_seqC (K := K) rfl) (pv 3) pe_int (fun _ _ => rfl)) (pe_ix (ix_seqC (K := K) rfl) (pv 1) pe_int (fun _ _ => rfl)) (nomark _)))
        (fun _ _ _ _ _ => (pv 3)))))), body_ok _ (fun R => inferInstance) (by decide) (fun ws C Q R hw hC hP => ?_) h⟩)
  obtain rfl := List.eq_nil_of_length_eq_zero hC
  obtain ⟨tb, ch, rfl, hl, hk, hc, q⟩ := hP
  rw [chgD_eq]
  walk_at "d"
  refine dLcGo_over pairD (fun p => decide (p.1.cps.toList < ch.key.cps.toList)) pairD tb [] (big2 (by show 0 + _ ≤ _; omega)) (fun p hp K L h1 h2 => ?_) ?_
  · unfold pairD
    walk_at "d"
    exact ifd (fun h => h1 (decide_eq_true h)) fun h => h2 (decide_eq_false h)
  have after : ∀ xs : Tab, xs.length ≤ 1001 → Q (.val (tabD (xs ++ above ch.key tb))) [] → dLcGo (dgName 3) (dB (dOp (fCmp (fun i j => decide (j < i)) fun a b => ltS b a) (dOp fIx (dVar 3) (dC (PyData.int 0))) (dOp fIx (dVar 1) (dC (PyData.int 1))))) (dVar 3) [some (W.val (tabD tb)), some (W.val (PyData.tuple (PyData.str ch.kind :: PyData.str ch.key :: ch.rest))), some (W.ref 0), none] (List.map pairD tb) [] [Cell.lst (xs.map pairD)] fun ds C1 => catK (cellL C1[0]?) (some ds) C1 (fin 0 Q) := fun xs hx q => by
    refine dLcGo_over pairD (fun p => decide (ch.key.cps.toList < p.1.cps.toList)) pairD tb [] (big2 (by show 0 + _ ≤ _; omega)) (fun p hp K L h1 h2 => ?_) ?_
    · unfold pairD
      walk_at "d"
      exact ifd (fun h => h1 (decide_eq_true h)) fun h => h2 (decide_eq_false h)
    walk_at "d"
    have ha : (above ch.key tb).length ≤ tb.length := by have := parts_len ch.key tb; omega
    unfold above at ha q
    refine ⟨?_, ?_⟩
    · rw [List.length_map, List.length_map]
      exact big2 (by omega)
    · rw [← List.map_append]
      exact q
  walk_at "d"
  have hb : (below ch.key tb).length ≤ tb.length := by have := parts_len ch.key tb; omega
  have ha : (above ch.key tb).length ≤ tb.length := by have := parts_len ch.key tb; omega
  have hbl : (tb.filter fun p => decide (p.1.cps.toList < ch.key.cps.toList)).length ≤ tb.length := hb
  refine ⟨okD_kind ch, okD_put, ?_⟩
  cases ch with
  | put k r =>
    refine ifd (fun _ => ?_) (fun h => absurd rfl h)
    unfold Chg.rest
    rw [at2]
    walk_at "d"
    refine ⟨by decide, by rw [List.length_map]; exact bigL (by omega), ?_⟩
    have := after (below k tb ++ [(k, r)]) (by rw [List.length_append]; show _ + 1 ≤ _; exact Nat.succ_le_succ (Nat.le_trans hb hl)) q
    rw [List.map_append] at this
    exact this
  | rem k =>
    refine ifd (fun h => absurd (show ("remove" : Str) = "put" from h) (by decide)) (fun _ => ?_)
    refine after (below k tb) (Nat.le_trans hb (by omega)) ?_
    have e : changed tb (.rem k) = below k tb ++ above k tb := by
      unfold changed Chg.own
      rw [List.append_nil]
      rfl
    rw [e] at q
    exact q
end

abbrev sLCell : Stmt := topS 58
theorem scLCell : FnScope ["row", "column"] ["row", "column"] (defScope sLCell) := ⟨rfl, rfl, rfl, by decide +kernel, rfl, by decide +kernel, by decide +kernel⟩
def pLCell : DSp := fun ws C Q _ => ∃ ns c, ws = [.val (rowD ns), .val (.int c)] ∧ 0 ≤ c ∧ Q (.val (.int (colOf ns c))) C
theorem colOf_in {ns : List Int} {c : Int} (h0 : 0 ≤ c) (h1 : c < (ns.length : Int)) : atI (ns.map PyData.int) c = some (.int (colOf ns c)) := by
  obtain ⟨j, rfl, hj⟩ := nat_of h0 h1
  obtain ⟨x, hx, _⟩ := get_of hj
  rw [at_map PyData.int hx]
  unfold colOf
  rw [if_pos h1, List.getD_eq_getElem?_getD, show (j : Int).toNat = j by omega, hx]
  rfl
theorem colOf_out {ns : List Int} {c : Int} (h1 : ¬ c < (ns.length : Int)) : colOf ns c = 0 := if_neg h1
section
variable {P : Program} {w : World} {K : PySem.W.Frag} {mg : Str → Option Value} {base : Heap} {ct : Ct}
theorem ok_LCell  (D : Def K mg "_law_cell" sLCell ["row", "column"]) (m_len : mg "len" = none)
    : FnOk P w K mg base CX0 1 D.f D.fd ["row", "column"] (spD ct 0 2 pLCell) := by
  refine D.F.ok scLCell (fun vs H Q E h => spD_len h) (fun cdv A outer s H vs Q E hr h => ⟨_, (pss_cons (ps_if (pt_cmpR op_ltA (pv 1) (pe_callB call_lenA (by rfl) m_len (by decide +kernel) (pa_cons (pv 0) pa_nil)) (nomark _))
      (pss_one (ps_ret (pe_ix ix_seq (pv 0) (pv 1) (fun _ _ => rfl)))) pss_nil) <|
    pss_one (ps_ret pe_int)), body_ok _ (fun R => inferInstance) (by decide) (fun ws C Q R hw hC hP => ?_) h⟩)
  obtain rfl := List.eq_nil_of_length_eq_zero hC
  obtain ⟨ns, c, rfl, h0, q⟩ := hP
  unfold rowD
  walk_at "d"
  rw [List.length_map]
  refine ifd (fun h => ?_) (fun h => ?_)
  · rw [colOf_in h0 h]
    walk_at "d"
    exact q
  · rw [colOf_out h] at q
    exact q
end
abbrev sLRank : Stmt := topS 60
theorem scLRank : FnScope ["key", "found", "code"] ["key"] (defScope sLRank) := ⟨rfl, rfl, rfl, by decide +kernel, rfl, by decide +kernel, by decide +kernel⟩
theorem rkF_in (ns : List Int) : 0 ≤ rkF ns ∧ rkF ns < 1000003 := by
  rcases concat_cases ns with rfl | ⟨ns, n, rfl⟩
  · exact ⟨by show (0 : Int) ≤ 7; decide, by show (7 : Int) < 1000003; decide⟩
  · rw [rkF_snoc]
    exact ⟨Int.fmod_nonneg_of_pos _ (by decide), Int.fmod_lt_of_pos _ (by decide)⟩
def pLRank : DSp := fun ws C Q _ => ∃ z, ws = [.val (.str z)] ∧ z.length ≤ 1000 ∧ Q (.val (.int (rk z))) C
section
variable {P : Program} {w : World} {K : PySem.W.Frag} {mg : Str → Option Value} {base : Heap} {ct : Ct}
theorem ok_LRank  (D : Def K mg "_law_rank" sLRank ["key"]) (D_LCodes : Def K mg "_law_codes" sLCodes ["text"]) (m_int : mg "int" = none)
    (G_LCodes : FnOk P w K mg base CX0 1 D_LCodes.f D_LCodes.fd ["text"] (spD ct 0 1 pLCodes)) : FnOk P w K mg base CX0 2 D.f D.fd ["key"] (spD ct 0 1 pLRank) := by
  refine D.F.ok scLRank (fun vs H Q E h => spD_len h) (fun cdv A outer s H vs Q E hr h => ⟨_, (pss_cons (ps_set (i := 1) scLRank.nd rfl (.inl rfl) pe_int) <|
    pss_cons (ps_for PassesOwn.never rfl (pi_seqA (pe_call G_LCodes (hr.mono (by omega)) (by rfl) D_LCodes.m D_LCodes.F.kp D_LCodes.b .nil pass0 (pa_cons (pv 0) pa_nil))) (pg_name (i := 2) scLRank.nd rfl (Or.inl rfl))
      (pss_one (ps_set (i := 1) scLRank.nd rfl (.inl rfl) (pe_op op_modN (pe_callTy call_intA (by rfl) m_int (by decide +kernel) (pa_cons (pe_op op_addA (pe_op op_mulW (pv 1) pe_int) (pv 2)) pa_nil)) pe_int)))) <|
    pss_one (ps_ret (pv 1))), body_ok _ (fun R => inferInstance) (by decide) (fun ws C Q R hw hC hP => ?_) h⟩)
  obtain rfl := List.eq_nil_of_length_eq_zero hC
  obtain ⟨z, rfl, hl, q⟩ := hP
  walk_at "d"
  refine ⟨z, rfl, by omega, ?_⟩
  walk_at "d"
  refine dForGo_map PyData.int (codesI z) (fun pre E C => C = [] ∧ ∃ y : Option W, E = [some (.val (.str z)), some (.val (.int (rkF pre))), y]) ?_ ?_ ⟨rfl, none, rfl⟩
  · rintro pre n post E C e ⟨rfl, y, rfl⟩ N hN
    obtain ⟨r0, r1⟩ := rkF_in pre
    walk_at "d"
    refine ⟨wide_mul (a := 21) (b := 8) (by omega) (by decide) (by decide) (by decide) (by decide), by decide, hN _ _ ⟨rfl, some (.val (.int n)), ?_⟩⟩
    rw [rkF_snoc]
  · rintro E C ⟨rfl, y, rfl⟩
    walk_at "d"
    exact q
end
abbrev sLTop : Stmt := topS 61
theorem scLTop : FnScope ["table", "best", "k"] ["table"] (defScope sLTop) := ⟨rfl, rfl, rfl, by decide +kernel, rfl, by decide +kernel, by decide +kernel⟩
def pLTop : DSp := fun ws C Q _ => ∃ tb, ws = [.val (tabD tb)] ∧ TabFit tb ∧ tb.length ≤ 1000 ∧ Q (.val (.int (topI tb tb.length))) C
section
variable {P : Program} {w : World} {K : PySem.W.Frag} {mg : Str → Option Value} {base : Heap} {ct : Ct}
theorem ok_LTop  (D : Def K mg "_law_top" sLTop ["table"]) (D_LRank : Def K mg "_law_rank" sLRank ["key"]) (m_len : mg "len" = none) (m_range : mg "range" = none)
    (G_LRank : FnOk P w K mg base CX0 2 D_LRank.f D_LRank.fd ["key"] (spD ct 0 1 pLRank)) : FnOk P w K mg base CX0 3 D.f D.fd ["table"] (spD ct 0 1 pLTop) := by
  refine D.F.ok scLTop (fun vs H Q E h => spD_len h) (fun cdv A outer s H vs Q E hr h => ⟨_, (pss_cons (ps_set (i := 1) scLTop.nd rfl (.inl rfl) pe_int) <|
    pss_cons (ps_for PassesOwn.never rfl (pi_range1 (by rfl) m_range (pa_cons (pe_callB call_lenA (by rfl) m_len (by decide +kernel) (pa_cons (pv 0) pa_nil)) pa_nil)) (pg_name (i := 2) scLTop.nd rfl (Or.inl rfl))
      (pss_one (ps_if (pt_cmpR op_gtA (pe_call G_LRank (hr.mono (by omega)) (by rfl) D_LRank.m D_LRank.F.kp D_LRank.b .nil pass0 (pa_cons (pe_ix ix_seq (pe_ix ix_seq (pv 0) (pv 2) (fun _ _ => rfl)) pe_int (fun _ _ => rfl)) pa_nil)) (pe_call G_LRank (hr.mono (by omega)) (by rfl) D_LRank.m D_LRank.F.kp D_LRank.b .nil pass0 (pa_cons (pe_ix ix_seq (pe_ix ix_seq (pv 0) (pv 1) (fun _ _ => rfl)) pe_int (fun _ _ => rfl)) pa_nil)) (nomark _))
          (pss_one (ps_set (i := 1) scLTop.nd rfl (.inl rfl) (pv 2))) pss_nil))) <|
    pss_one (ps_ret (pv 1))), body_ok _ (fun R => inferInstance) (by decide) (fun ws C Q R hw hC hP => ?_) h⟩)
  obtain rfl := List.eq_nil_of_length_eq_zero hC
  obtain ⟨tb, rfl, hf, hl, q⟩ := hP
  walk_at "d"
  rw [List.length_map]
  refine ⟨by omega, by omega, ?_⟩
  rw [show ((tb.length : Nat) : Int).toNat = tb.length by omega]
  refine dForGo_range tb.length (fun n E C => C = [] ∧ ∃ y : Option W, E = [some (.val (tabD tb)), some (.val (.int ((topI tb n : Nat) : Int))), y]) ?_ ?_ ⟨rfl, none, rfl⟩
  · rintro i E C hi ⟨rfl, y, rfl⟩ N hN
    obtain ⟨p, hp, hpm⟩ := get_of hi
    have ht : topI tb i < tb.length := by
      cases i with
      | zero => exact hi
      | succ i => have := topI_lt tb i; omega
    obtain ⟨p2, hp2, hpm2⟩ := get_of ht
    have e1 : (0 : Int) + (i : Nat) = ((i : Nat) : Int) := by omega
    walk_at "d"
    rw [e1, at_map pairD hp]
    unfold pairD
    walk_at "d"
    refine ⟨p.1, rfl, (hf p hpm).1, ?_⟩
    rw [at_map _ hp2]
    walk_at "d"
    refine ⟨p2.1, rfl, (hf p2 hpm2).1, ?_⟩
    walk_at "d"
    have e2 : topI tb (i + 1) = if rk p2.1 < rk p.1 then i else topI tb i := by
      rw [← key_at hp2, ← key_at hp]
      rfl
    refine ifd (fun h => ?_) (fun h => ?_)
    · rw [if_pos h] at e2
      exact hN _ _ ⟨rfl, _, by rw [e2]⟩
    · rw [if_neg h] at e2
      exact hN _ _ ⟨rfl, _, by rw [e2]⟩
  · rintro E C ⟨rfl, y, rfl⟩
    walk_at "d"
    exact q
end
abbrev sLLink : Stmt := topS 63
theorem scLLink : FnScope ["rule", "entry", "sums", "k"] ["rule", "entry"] (defScope sLLink) := ⟨rfl, rfl, rfl, by decide +kernel, rfl, by decide +kernel, by decide +kernel⟩
def pLLink : DSp := fun ws C Q _ => ∃ b m e, ws = [.val (ruleD b m), .val (entD e)] ∧ RuleOk b m ∧ e.Fit ∧ Q (.val (linkD (lnkOf b m e))) C
section
variable {P : Program} {w : World} {K : PySem.W.Frag} {mg : Str → Option Value} {base : Heap} {ct : Ct}
theorem ok_LLink  (D : Def K mg "_law_link" sLLink ["rule", "entry"]) (D_LCell : Def K mg "_law_cell" sLCell ["row", "column"]) (D_LDigest : Def K mg "_law_digest" sLDigest ["rule", "value"]) (m_range : mg "range" = none) (m_tuple : mg "tuple" = none)
    (G_LCell : FnOk P w K mg base CX0 1 D_LCell.f D_LCell.fd ["row", "column"] (spD ct 0 2 pLCell)) (G_LDigest : FnOk P w K mg base CX0 10 D_LDigest.f D_LDigest.fd ["rule", "value"] (spD ct 0 2 pLDigest)) : FnOk P w K mg base CX0 11 D.f D.fd ["rule", "entry"] (spD ct 0 2 pLLink) := by
  refine D.F.ok scLLink (fun vs H Q E h => spD_len h) (fun cdv A outer s H vs Q E hr h => ⟨_, (pss_cons (ps_set (i := 2) scLLink.nd rfl (.inl rfl) (pe_callTy call_tupA (by rfl) m_tuple (by decide +kernel) (pa_cons (pe_lc (own := [("k", 3)]) (g := (gName 3)) (by rfl) scLLink.nd (pi_range1 (by rfl) m_range (pa_cons pe_int pa_nil))
        (blkOk_by (own := [("k", 3)]) (N := ["rule", "entry", "sums", "k"]) (sc := defScope sLLink) (by decide +kernel))
        (fun _ _ _ _ _ => (pg_name (i := 3) scLLink.nd rfl (Or.inl rfl))) (fun _ _ _ _ _ => pts_nil)
        (fun _ _ _ _ _ => (pe_op (op_addC (K := K) rfl) (pe_op (op_addC (K := K) rfl) (pe_call G_LCell (hr.mono (by omega)) (by rfl) D_LCell.m D_LCell.F.kp D_LCell.b .nil pass0 (pa_cons (pe_ix (ix_seqC (K := K) rfl) (pv 1) pe_int (fun _ _ => rfl)) (pa_cons (pv 3) pa_nil))) (pe_ix (ix_seqC (K := K) rfl) (pe_ix (ix_seqC (K := K) rfl) (pe_ix (ix_seqC (K := K) rfl) (pv 1) pe_int (fun _ _ => rfl)) pe_int (fun _ _ => rfl)) (pv 3) (fun _ _ => rfl))) (pe_ix (ix_seqC (K := K) rfl) (pe_ix (ix_seqC (K := K) rfl) (pe_ix (ix_seqC (K := K) rfl) (pv 1) pe_int (fun _ _ => rfl)) pe_int (fun _ _ => rfl)) (pv 3) (fun _ _ => rfl))))) pa_nil))) <|
    pss_one (ps_ret (pe_tup (pa_cons (pe_call G_LDigest (hr.mono (by omega)) (by rfl) D_LDigest.m D_LDigest.F.kp D_LDigest.b .nil pass0 (pa_cons (pv 0) (pa_cons (pe_op op_addA (pe_tup (pa_cons pe_str pa_nil)) (pv 1)) pa_nil))) (pa_cons (pe_op op_addA (pe_op op_addA pe_int (pe_ix ix_seq (pe_ix ix_seq (pv 1) pe_int (fun _ _ => rfl)) pe_int (fun _ _ => rfl))) (pe_ix ix_seq (pe_ix ix_seq (pv 1) pe_int (fun _ _ => rfl)) pe_int (fun _ _ => rfl))) (pa_cons (pv 2) pa_nil)))))), body_ok _ (fun R => inferInstance) (by decide) (fun ws C Q R hw hC hP => ?_) h⟩)
  obtain rfl := List.eq_nil_of_length_eq_zero hC
  obtain ⟨b, m, e, rfl, hr, hf, q⟩ := hP
  obtain ⟨f1, f2, f3⟩ := node_fit hf
  walk_at "d"
  refine ⟨by decide, by decide, ?_⟩
  rw [show rangeD 0 (Int.toNat 3) = [.int 0, .int 1, .int 2] from rfl]
  unfold entD entDs linkD sumsD
  simp only [dLcGo]
  walk_at "d"
  refine ⟨_, _, rfl, by decide, ?_⟩
  walk_at "d"
  refine ⟨by decide, _, _, rfl, by decide, ?_⟩
  walk_at "d"
  refine ⟨by decide, _, _, rfl, by decide, ?_⟩
  walk_at "d"
  refine ⟨by decide, by decide, by decide, b, m, nodeD e, rfl, hr, f1, f2, by omega, ?_⟩
  walk_at "d"
  refine ⟨by decide, q⟩
end
abbrev sLTree : Stmt := topS 62
theorem scLTree : FnScope ["rule", "table", "top", "left", "right", "entry"] ["rule", "table"] (defScope sLTree) := ⟨rfl, rfl, rfl, by decide +kernel, rfl, by decide +kernel, by decide +kernel⟩
def pLTree (n : Nat) : DSp := fun ws C Q _ => ∃ b m tb, ws = [.val (ruleD b m), .val (tabD tb)] ∧ RuleOk b m ∧ TabFit tb ∧ tb.length < n ∧ tb.length ≤ 1000 ∧ Q (.val (treeD b m (treeOf tb))) C
theorem no_LTree : ∀ ws C Q R, ¬ pLTree 0 ws C Q R := fun ws C Q R ⟨_, _, _, _, _, _, h, _⟩ => absurd h (Nat.not_lt_zero _)
section
variable {P : Program} {w : World} {K : PySem.W.Frag} {mg : Str → Option Value} {base : Heap} {ct : Ct}
theorem step_LTree {n : Nat}  (D : Def K mg "_law_tree" sLTree ["rule", "table"]) (D_LDigest : Def K mg "_law_digest" sLDigest ["rule", "value"]) (D_LTop : Def K mg "_law_top" sLTop ["table"]) (D_LLink : Def K mg "_law_link" sLLink ["rule", "entry"]) (m_len : mg "len" = none)
    (G_LDigest : FnOk P w K mg base CX0 10 D_LDigest.f D_LDigest.fd ["rule", "value"] (spD ct 0 2 pLDigest)) (G_LTop : FnOk P w K mg base CX0 3 D_LTop.f D_LTop.fd ["table"] (spD ct 0 1 pLTop)) (G_LLink : FnOk P w K mg base CX0 11 D_LLink.f D_LLink.fd ["rule", "entry"] (spD ct 0 2 pLLink)) (G : FnOk P w K mg base CX0 (n + 12) D.f D.fd ["rule", "table"] (spD ct 0 2 (pLTree n))) : FnOk P w K mg base CX0 (n + 12 + 1) D.f D.fd ["rule", "table"] (spD ct 0 2 (pLTree (n + 1))) := by
  refine D.F.ok scLTree (fun vs H Q E h => spD_len h) (fun cdv A outer s H vs Q E hr h => ⟨_, (pss_cons (ps_if (pt_cmpR (op_eqD hr.units) (pe_callB call_lenA (by rfl) m_len (by decide +kernel) (pa_cons (pv 1) pa_nil)) pe_int (nomark _))
      (pss_one (ps_ret (pe_lst (pa_cons (pe_tup (pa_cons (pe_call G_LDigest (hr.mono (by omega)) (by rfl) D_LDigest.m D_LDigest.F.kp D_LDigest.b .nil pass0 (pa_cons (pv 0) (pa_cons (pe_tup (pa_cons pe_str pa_nil)) pa_nil))) (pa_cons pe_int (pa_cons (pe_tup (pa_cons pe_int (pa_cons pe_int (pa_cons pe_int pa_nil)))) pa_nil)))) (pa_cons pe_non (pa_cons pe_non (pa_cons pe_non pa_nil))))))) pss_nil) <|
    pss_cons (ps_set (i := 2) scLTree.nd rfl (.inl rfl) (pe_call G_LTop (hr.mono (by omega)) (by rfl) D_LTop.m D_LTop.F.kp D_LTop.b .nil pass0 (pa_cons (pv 1) pa_nil))) <|
    pss_cons (ps_set (i := 3) scLTree.nd rfl (.inl rfl) (pe_call G (hr.mono (by omega)) (by rfl) D.m D.F.kp D.b .nil pass0 (pa_cons (pv 0) (pa_cons (pe_slice sl_any (pv 1) po_none (po_some (pv 2))) pa_nil)))) <|
    pss_cons (ps_set (i := 4) scLTree.nd rfl (.inl rfl) (pe_call G (hr.mono (by omega)) (by rfl) D.m D.F.kp D.b .nil pass0 (pa_cons (pv 0) (pa_cons (pe_slice sl_any (pv 1) (po_some (pe_op op_addA (pv 2) pe_int)) po_none) pa_nil)))) <|
    pss_cons (ps_set (i := 5) scLTree.nd rfl (.inl rfl) (pe_tup (pa_cons (pe_ix ix_seq (pe_ix ix_seq (pv 1) (pv 2) (fun _ _ => rfl)) pe_int (fun _ _ => rfl)) (pa_cons (pe_ix ix_seq (pe_ix ix_seq (pv 1) (pv 2) (fun _ _ => rfl)) pe_int (fun _ _ => rfl)) (pa_cons (pe_ix ix_seq (pv 3) pe_int (fun _ _ => rfl)) (pa_cons (pe_ix ix_seq (pv 4) pe_int (fun _ _ => rfl)) pa_nil)))))) <|
    pss_one (ps_ret (pe_lst (pa_cons (pe_call G_LLink (hr.mono (by omega)) (by rfl) D_LLink.m D_LLink.F.kp D_LLink.b .nil pass0 (pa_cons (pv 0) (pa_cons (pv 5) pa_nil))) (pa_cons (pv 5) (pa_cons (pv 3) (pa_cons (pv 4) pa_nil))))))), body_ok _ (fun R => inferInstance) (by decide) (fun ws C Q R hw hC hP => ?_) h⟩)
  obtain rfl := List.eq_nil_of_length_eq_zero hC
  obtain ⟨b, m, tb, rfl, hr, hf, hn, hl, q⟩ := hP
  walk_at "d"
  rw [List.length_map]
  refine ifd (fun h => ?_) (fun h => ?_)
  · obtain rfl := List.eq_nil_of_length_eq_zero (by omega : tb.length = 0)
    refine ⟨by decide, b, m, _, rfl, hr, empty_fit.1, empty_fit.2.1, Nat.le_trans empty_fit.2.2 (by decide), ?_⟩
    walk_at "d"
    exact ⟨by decide, by decide, by decide, q⟩
  have hne : tb ≠ [] := fun e => h (by rw [e]; rfl)
  have hi := topI_in hne
  obtain ⟨p, hp, hpm⟩ := get_of hi
  refine ⟨tb, rfl, hf, hl, ?_⟩
  walk_at "d"
  rw [cutL_to (by rw [List.length_map]; omega), ← List.map_take]
  refine ⟨b, m, _, rfl, hr, hf.take _, by rw [List.length_take]; omega, by rw [List.length_take]; omega, ?_⟩
  walk_at "d"
  rw [show ((topI tb tb.length : Nat) : Int) + 1 = ((topI tb tb.length + 1 : Nat) : Int) by omega, cutL_from (by rw [List.length_map]; omega), ← List.map_drop]
  refine ⟨b, m, _, rfl, hr, hf.drop _, by rw [List.length_drop]; omega, by rw [List.length_drop]; omega, ?_⟩
  obtain ⟨r1, e1⟩ := treeD_head b m (treeOf (tb.take (topI tb tb.length)))
  obtain ⟨r2, e2⟩ := treeD_head b m (treeOf (tb.drop (topI tb tb.length + 1)))
  rw [treeOf_node hp] at q
  rw [at_map pairD hp, e1, e2]
  rw [show treeD b m (.node p.1 p.2 (treeOf (tb.take (topI tb tb.length))) (treeOf (tb.drop (topI tb tb.length + 1)))) = .list [_, _, treeD b m (treeOf (tb.take (topI tb tb.length))), treeD b m (treeOf (tb.drop (topI tb tb.length + 1)))] from rfl, e1, e2] at q
  unfold pairD
  walk_at "d"
  refine ⟨by decide, b, m, entOf b m p.1 p.2 (treeOf (tb.take (topI tb tb.length))) (treeOf (tb.drop (topI tb tb.length + 1))), rfl, hr, hf p hpm, ?_⟩
  walk_at "d"
  exact ⟨by decide, q⟩
theorem ok_LTree  (D : Def K mg "_law_tree" sLTree ["rule", "table"]) (D_LDigest : Def K mg "_law_digest" sLDigest ["rule", "value"]) (D_LTop : Def K mg "_law_top" sLTop ["table"]) (D_LLink : Def K mg "_law_link" sLLink ["rule", "entry"]) (m_len : mg "len" = none)
    (G_LDigest : FnOk P w K mg base CX0 10 D_LDigest.f D_LDigest.fd ["rule", "value"] (spD ct 0 2 pLDigest)) (G_LTop : FnOk P w K mg base CX0 3 D_LTop.f D_LTop.fd ["table"] (spD ct 0 1 pLTop)) (G_LLink : FnOk P w K mg base CX0 11 D_LLink.f D_LLink.fd ["rule", "entry"] (spD ct 0 2 pLLink)) : ∀ n : Nat, FnOk P w K mg base CX0 (n + 12) D.f D.fd ["rule", "table"] (spD ct 0 2 (pLTree n))
  | 0 => spD_none no_LTree
  | n + 1 => (step_LTree D D_LDigest D_LTop D_LLink m_len G_LDigest G_LTop G_LLink (ok_LTree D D_LDigest D_LTop D_LLink m_len G_LDigest G_LTop G_LLink n)).mono (by omega)

end

abbrev sPRank : Stmt := topS 24
theorem scPRank : FnScope ["key", "result", "sign"] ["key"] (defScope sPRank) := ⟨rfl, rfl, rfl, by decide +kernel, rfl, by decide +kernel, by decide +kernel⟩
theorem rkFn_in (ns : List Int) : 0 ≤ rkF ns ∧ rkF ns < 1000003 := by
  rcases concat_cases ns with rfl | ⟨ns, n, rfl⟩
  · exact ⟨by show (0 : Int) ≤ 7; decide, by show (7 : Int) < 1000003; decide⟩
  · rw [rkF_snoc]
    exact ⟨Int.fmod_nonneg_of_pos _ (by decide), Int.fmod_lt_of_pos _ (by decide)⟩
theorem rk_in (z : Str) : 0 ≤ rk z ∧ rk z < 1000003 := rkFn_in _
def pPRank : DSp := fun ws C Q _ => ∃ z, ws = [.val (.str z)] ∧ z.length ≤ 1000 ∧ Q (.val (.int (rk z))) C
section
variable {P : Program} {w : World} {K : PySem.W.Frag} {mg : Str → Option Value} {base : Heap} {ct : Ct}
theorem ok_PRank  (D : Def K mg "rank" sPRank ["key"]) (m_ord : mg "ord" = none)
    : FnOk P w K mg base CX0 1 D.f D.fd ["key"] (spD ct 0 1 pPRank) := by
  refine D.F.ok scPRank (fun vs H Q E h => spD_len h) (fun cdv A outer s H vs Q E hr h => ⟨_, (pss_cons (ps_set (i := 1) scPRank.nd rfl (.inl rfl) pe_int) <|
    pss_cons (ps_for PassesOwn.never rfl (pi_seqA (pv 0)) (pg_name (i := 2) scPRank.nd rfl (Or.inl rfl))
      (pss_one (ps_set (i := 1) scPRank.nd rfl (.inl rfl) (pe_op op_modN (pe_op op_addA (pe_op op_mulW (pv 1) pe_int) (pe_callB call_ordA (by rfl) m_ord (by decide +kernel) (pa_cons (pv 2) pa_nil))) pe_int)))) <|
    pss_one (ps_ret (pv 1))), body_ok _ (fun R => inferInstance) (by decide) (fun ws C Q R hw hC hP => ?_) h⟩)
  obtain rfl := List.eq_nil_of_length_eq_zero hC
  obtain ⟨z, rfl, hl, q⟩ := hP
  walk_at "d"
  refine dForGo_map (fun c => PyData.str ⟨#[c]⟩) z.cps.toList (fun pre E C => C = [] ∧ ∃ y : Option W, E = [some (.val (.str z)), some (.val (.int (rkF (pre.map fun c => ((c : Nat) : Int))))), y]) ?_ ?_ ⟨rfl, none, rfl⟩
  · rintro pre n post E C e ⟨rfl, y, rfl⟩ N hN
    obtain ⟨r0, r1⟩ := rkFn_in (pre.map fun c => ((c : Nat) : Int))
    walk_at "d"
    refine ⟨wide_mul (a := 21) (b := 8) (by omega) (by decide) (by decide) (by decide) (by decide), rfl, by decide, hN _ _ ⟨rfl, some (.val (.str ⟨#[n]⟩)), ?_⟩⟩
    rw [List.map_append, List.map_cons, List.map_nil, rkF_snoc]
    rfl
  · rintro E C ⟨rfl, y, rfl⟩
    walk_at "d"
    exact q
end
abbrev sPStandsAbove : Stmt := topS 25
theorem scPStandsAbove : FnScope ["key", "other", "own_rank", "other_rank"] ["key", "other"] (defScope sPStandsAbove) := ⟨rfl, rfl, rfl, by decide +kernel, rfl, by decide +kernel, by decide +kernel⟩
/-- it stands above: by rank, then by key -/
def abv (a b : Str) : Bool := decide (rk b < rk a) || (decide (rk a = rk b) && slt a b)
def pPStandsAbove : DSp := fun ws C Q _ => ∃ a b, ws = [.val (.str a), .val (.str b)] ∧ a.length ≤ 1000 ∧ b.length ≤ 1000 ∧ Q (.val (.bool (abv a b))) C
section
variable {P : Program} {w : World} {K : PySem.W.Frag} {mg : Str → Option Value} {base : Heap} {ct : Ct}
theorem ok_PStandsAbove  (D : Def K mg "stands_above" sPStandsAbove ["key", "other"]) (D_PRank : Def K mg "rank" sPRank ["key"])
    (G_PRank : FnOk P w K mg base CX0 1 D_PRank.f D_PRank.fd ["key"] (spD ct 0 1 pPRank)) : FnOk P w K mg base CX0 2 D.f D.fd ["key", "other"] (spD ct 0 2 pPStandsAbove) := by
  refine D.F.ok scPStandsAbove (fun vs H Q E h => spD_len h) (fun cdv A outer s H vs Q E hr h => ⟨_, (pss_cons (ps_set (i := 2) scPStandsAbove.nd rfl (.inl rfl) (pe_call G_PRank (hr.mono (by omega)) (by rfl) D_PRank.m D_PRank.F.kp D_PRank.b .nil pass0 (pa_cons (pv 0) pa_nil))) <|
    pss_cons (ps_set (i := 3) scPStandsAbove.nd rfl (.inl rfl) (pe_call G_PRank (hr.mono (by omega)) (by rfl) D_PRank.m D_PRank.F.kp D_PRank.b .nil pass0 (pa_cons (pv 1) pa_nil))) <|
    pss_one (ps_ret (pe_or (pe_cmpR op_gtA (pv 2) (pv 3) (nomark _)) (pe_one (pe_and (pe_cmpR (op_eqD hr.units) (pv 2) (pv 3) (nomark _)) (pe_one (pe_cmpR op_ltA (pv 0) (pv 1) (nomark _)))))))), body_ok _ (fun R => inferInstance) (by decide) (fun ws C Q R hw hC hP => ?_) h⟩)
  obtain rfl := List.eq_nil_of_length_eq_zero hC
  obtain ⟨a, b, rfl, ha, hb, q⟩ := hP
  walk_at "d"
  refine ⟨a, rfl, ha, ?_⟩
  walk_at "d"
  refine ⟨b, rfl, hb, ?_⟩
  walk_at "d"
  unfold abv at q
  refine ifd (fun h => ?_) (fun h => ?_)
  · rw [decide_eq_true h] at q
    exact q
  rw [decide_eq_false h, Bool.false_or] at q
  refine ifd (fun h => ?_) (fun h => ?_)
  · rw [decide_eq_true h, Bool.true_and] at q
    exact q
  · rw [decide_eq_false h, Bool.false_and] at q
    exact q
end

abbrev sPColumnOf : Stmt := topS 11
theorem scPColumnOf : FnScope ["row", "column"] ["row", "column"] (defScope sPColumnOf) := ⟨rfl, rfl, rfl, by decide +kernel, rfl, by decide +kernel, by decide +kernel⟩
def pPColumnOf : DSp := fun ws C Q _ => ∃ ns c, ws = [.val (rowD ns), .val (.int c)] ∧ 0 ≤ c ∧ Q (.val (.int (colOf ns c))) C
theorem colOf_inP {ns : List Int} {c : Int} (h0 : 0 ≤ c) (h1 : c < (ns.length : Int)) : atI (ns.map PyData.int) c = some (.int (colOf ns c)) := by
  obtain ⟨j, rfl, hj⟩ := nat_of h0 h1
  obtain ⟨x, hx, _⟩ := get_of hj
  rw [at_map PyData.int hx]
  unfold colOf
  rw [if_pos h1, List.getD_eq_getElem?_getD, show (j : Int).toNat = j by omega, hx]
  rfl
section
variable {P : Program} {w : World} {K : PySem.W.Frag} {mg : Str → Option Value} {base : Heap} {ct : Ct}
theorem ok_PColumnOf  (D : Def K mg "column_of" sPColumnOf ["row", "column"]) (m_len : mg "len" = none)
    : FnOk P w K mg base CX0 1 D.f D.fd ["row", "column"] (spD ct 0 2 pPColumnOf) := by
  refine D.F.ok scPColumnOf (fun vs H Q E h => spD_len h) (fun cdv A outer s H vs Q E hr h => ⟨_, (pss_one (ps_ret (pe_ifExp (pt_chain op_leA op_ltA pe_int (pv 1) (pe_callB call_lenA (by rfl) m_len (by decide +kernel) (pa_cons (pv 0) pa_nil))) (pe_ix ix_seq (pv 0) (pv 1) (fun _ _ => rfl)) pe_int))), body_ok _ (fun R => inferInstance) (by decide) (fun ws C Q R hw hC hP => ?_) h⟩)
  obtain rfl := List.eq_nil_of_length_eq_zero hC
  obtain ⟨ns, c, rfl, h0, q⟩ := hP
  unfold rowD
  walk_at "d"
  rw [List.length_map]
  refine ifd (fun _ => ?_) (fun h => absurd h0 h)
  refine ifd (fun h => ?_) (fun h => ?_)
  · rw [colOf_inP h0 h]
    walk_at "d"
    exact q
  · rw [show colOf ns c = 0 from if_neg h] at q
    exact q
end
abbrev sPEntryDigest : Stmt := topS 20
theorem scPEntryDigest : FnScope ["rule", "entry", "key", "row", "left", "right"] ["rule", "entry"] (defScope sPEntryDigest) := ⟨rfl, rfl, rfl, by decide +kernel, rfl, by decide +kernel, by decide +kernel⟩
def pPEntryDigest : DSp := fun ws C Q _ => ∃ b m e, ws = [.val (ruleD b m), .val (entD e)] ∧ RuleOk b m ∧ e.Fit ∧ Q (.val (.int (dig b m (enc (nodeD e))))) C
section
variable {P : Program} {w : World} {K : PySem.W.Frag} {mg : Str → Option Value} {base : Heap} {ct : Ct}
theorem ok_PEntryDigest  (D : Def K mg "entry_digest" sPEntryDigest ["rule", "entry"]) (D_PDigest : Def K mg "digest" sPDigest ["rule", "value"])
    (G_PDigest : FnOk P w K mg base CX0 2 D_PDigest.f D_PDigest.fd ["rule", "value"] (spD ct 0 2 pPDigest)) : FnOk P w K mg base CX0 3 D.f D.fd ["rule", "entry"] (spD ct 0 2 pPEntryDigest) := by
  refine D.F.ok scPEntryDigest (fun vs H Q E h => spD_len h) (fun cdv A outer s H vs Q E hr h => ⟨_, (pss_cons (ps_asg (pv 1) (pg_tup (n := 4) (by rfl) (pgs_cons (pg_name (i := 2) scPEntryDigest.nd rfl (Or.inl rfl)) (pgs_cons (pg_name (i := 3) scPEntryDigest.nd rfl (Or.inl rfl)) (pgs_cons (pg_name (i := 4) scPEntryDigest.nd rfl (Or.inl rfl)) (pgs_cons (pg_name (i := 5) scPEntryDigest.nd rfl (Or.inl rfl)) pgs_nil)))))) <|
    pss_one (ps_ret (pe_call G_PDigest (hr.mono (by omega)) (by rfl) D_PDigest.m D_PDigest.F.kp D_PDigest.b .nil pass0 (pa_cons (pv 0) (pa_cons (pe_tup (pa_cons pe_str (pa_cons (pv 2) (pa_cons (pv 3) (pa_cons (pv 4) (pa_cons (pv 5) pa_nil)))))) pa_nil))))), body_ok _ (fun R => inferInstance) (by decide) (fun ws C Q R hw hC hP => ?_) h⟩)
  obtain rfl := List.eq_nil_of_length_eq_zero hC
  obtain ⟨b, m, e, rfl, hr, hf, q⟩ := hP
  obtain ⟨f1, f2, f3⟩ := node_fit hf
  unfold entD entDs
  walk_at "d"
  refine ⟨by decide, b, m, nodeD e, rfl, hr, f1, by omega, ?_⟩
  walk_at "d"
  exact q
end
abbrev sPEntryLink : Stmt := topS 21
theorem scPEntryLink : FnScope ["rule", "entry", "_", "row", "left", "right", "sums", "column"] ["rule", "entry"] (defScope sPEntryLink) := ⟨rfl, rfl, rfl, by decide +kernel, rfl, by decide +kernel, by decide +kernel⟩
def pPEntryLink : DSp := fun ws C Q _ => ∃ b m e, ws = [.val (ruleD b m), .val (entD e)] ∧ RuleOk b m ∧ e.Fit ∧ Q (.val (linkD (lnkOf b m e))) C
section
variable {P : Program} {w : World} {K : PySem.W.Frag} {mg : Str → Option Value} {base : Heap} {ct : Ct}
theorem ok_PEntryLink  (D : Def K mg "entry_link" sPEntryLink ["rule", "entry"]) (D_PColumnOf : Def K mg "column_of" sPColumnOf ["row", "column"]) (D_PEntryDigest : Def K mg "entry_digest" sPEntryDigest ["rule", "entry"]) (m_range : mg "range" = none) (m_tuple : mg "tuple" = none) {tk_WIDEST_ROW : Tok} (c_WIDEST_ROW : mg "WIDEST_ROW" = some (.int 3 tk_WIDEST_ROW))
    (G_PColumnOf : FnOk P w K mg base CX0 1 D_PColumnOf.f D_PColumnOf.fd ["row", "column"] (spD ct 0 2 pPColumnOf)) (G_PEntryDigest : FnOk P w K mg base CX0 3 D_PEntryDigest.f D_PEntryDigest.fd ["rule", "entry"] (spD ct 0 2 pPEntryDigest)) : FnOk P w K mg base CX0 4 D.f D.fd ["rule", "entry"] (spD ct 0 2 pPEntryLink) := by
  refine D.F.ok scPEntryLink (fun vs H Q E h => spD_len h) (fun cdv A outer s H vs Q E hr h => ⟨_, (pss_cons (ps_asg (pv 1) (pg_tup (n := 4) (by rfl) (pgs_cons (pg_name (i := 2) scPEntryLink.nd rfl (Or.inl rfl)) (pgs_cons (pg_name (i := 3) scPEntryLink.nd rfl (Or.inr rfl)) (pgs_cons (pg_name (i := 4) scPEntryLink.nd rfl (Or.inr rfl)) (pgs_cons (pg_name (i := 5) scPEntryLink.nd rfl (Or.inr rfl)) pgs_nil)))))) <|
    pss_cons (ps_setLc (i := 6) (own := [("column", 7)]) (g := (gName 7)) (by rfl) scPEntryLink.nd rfl rfl (sw_true rfl rfl rfl (by decide +kernel)) (pi_range1 (by rfl) m_range (pa_cons (pe_glob (v := .int 3) rfl c_WIDEST_ROW ⟨_, rfl⟩) pa_nil))
        (blkOk_by (own := [("column", 7)]) (N := ["rule", "entry", "_", "row", "left", "right", "sums", "column"]) (sc := defScope sPEntryLink) (by decide +kernel))
        (fun _ _ _ _ _ => (pg_name (i := 7) scPEntryLink.nd rfl (Or.inl rfl))) (fun _ _ _ _ _ => pts_nil)
        (fun _ _ _ _ _ => (pe_op (op_addC (K := K) rfl) (pe_op (op_addC (K := K) rfl) (pe_call G_PColumnOf (hr.mono (by omega)) (by rfl) D_PColumnOf.m D_PColumnOf.F.kp D_PColumnOf.b .nil pass0 (pa_cons (pv 3) (pa_cons (pv 7) pa_nil))) (pe_ix (ix_seqC (K := K) rfl) (pe_ix (ix_seqC (K := K) rfl) (pv 4) pe_int (fun _ _ => rfl)) (pv 7) (fun _ _ => rfl))) (pe_ix (ix_seqC (K := K) rfl) (pe_ix (ix_seqC (K := K) rfl) (pv 5) pe_int (fun _ _ => rfl)) (pv 7) (fun _ _ => rfl))))) <|
    pss_one (ps_ret (pe_tup (pa_cons (pe_call G_PEntryDigest (hr.mono (by omega)) (by rfl) D_PEntryDigest.m D_PEntryDigest.F.kp D_PEntryDigest.b .nil pass0 (pa_cons (pv 0) (pa_cons (pv 1) pa_nil))) (pa_cons (pe_op op_addA (pe_op op_addA pe_int (pe_ix ix_seq (pv 4) pe_int (fun _ _ => rfl))) (pe_ix ix_seq (pv 5) pe_int (fun _ _ => rfl))) (pa_cons (pe_callTy call_tupA (by rfl) m_tuple (by decide +kernel) (pa_cons (pv 6) pa_nil)) pa_nil)))))), body_ok _ (fun R => inferInstance) (by decide) (fun ws C Q R hw hC hP => ?_) h⟩)
  obtain rfl := List.eq_nil_of_length_eq_zero hC
  obtain ⟨b, m, e, rfl, hr, hf, q⟩ := hP
  unfold entD entDs linkD sumsD
  walk_at "d"
  refine ⟨by decide, by decide, ?_⟩
  rw [show rangeD 0 (Int.toNat 3) = [.int 0, .int 1, .int 2] from rfl]
  simp only [dLcGo]
  walk_at "d"
  refine ⟨_, _, rfl, by decide, ?_⟩
  walk_at "d"
  refine ⟨by decide, _, _, rfl, by decide, ?_⟩
  walk_at "d"
  refine ⟨by decide, _, _, rfl, by decide, ?_⟩
  walk_at "d"
  refine ⟨by decide, b, m, e, rfl, hr, hf, ?_⟩
  walk_at "d"
  exact ⟨by decide, q⟩
end
abbrev sPEmptyLink : Stmt := topS 22
theorem scPEmptyLink : FnScope ["rule"] ["rule"] (defScope sPEmptyLink) := ⟨rfl, rfl, rfl, by decide +kernel, rfl, by decide +kernel, by decide +kernel⟩
def pPEmptyLink : DSp := fun ws C Q _ => ∃ b m, ws = [.val (ruleD b m)] ∧ RuleOk b m ∧ Q (.val (linkD (lnk0 b m))) C
section
variable {P : Program} {w : World} {K : PySem.W.Frag} {mg : Str → Option Value} {base : Heap} {ct : Ct}
theorem ok_PEmptyLink  (D : Def K mg "empty_link" sPEmptyLink ["rule"]) (D_PDigest : Def K mg "digest" sPDigest ["rule", "value"])
    (G_PDigest : FnOk P w K mg base CX0 2 D_PDigest.f D_PDigest.fd ["rule", "value"] (spD ct 0 2 pPDigest)) : FnOk P w K mg base CX0 3 D.f D.fd ["rule"] (spD ct 0 1 pPEmptyLink) := by
  refine D.F.ok scPEmptyLink (fun vs H Q E h => spD_len h) (fun cdv A outer s H vs Q E hr h => ⟨_, (pss_one (ps_ret (pe_tup (pa_cons (pe_call G_PDigest (hr.mono (by omega)) (by rfl) D_PDigest.m D_PDigest.F.kp D_PDigest.b .nil pass0 (pa_cons (pv 0) (pa_cons (pe_tup (pa_cons pe_str pa_nil)) pa_nil))) (pa_cons pe_int (pa_cons (pe_tup (pa_cons pe_int (pa_cons pe_int (pa_cons pe_int pa_nil)))) pa_nil)))))), body_ok _ (fun R => inferInstance) (by decide) (fun ws C Q R hw hC hP => ?_) h⟩)
  obtain rfl := List.eq_nil_of_length_eq_zero hC
  obtain ⟨b, m, rfl, hr, q⟩ := hP
  walk_at "d"
  refine ⟨by decide, b, m, _, rfl, hr, empty_fit.1, by have := empty_fit.2.2; omega, ?_⟩
  walk_at "d"
  exact ⟨by decide, by decide, q⟩
end

abbrev sPPartInit : Stmt := inClass (topS 26) 0
theorem scPPartInit : FnScope ["self", "link", "root", "is_open"] ["self", "link", "root", "is_open"] (defScope sPPartInit) := ⟨rfl, rfl, rfl, by decide +kernel, rfl, by decide +kernel, by decide +kernel⟩
section
variable {P : Program} {w : World} {K : PySem.W.Frag} {mg : Str → Option Value} {base : Heap} {ct : Ct}
theorem ok_PartI {C : Addr} (I : Ini K mg "Part" C "Part.__init__" sPPartInit ["self", "link", "root", "is_open"]) : FnOk P w K mg base CX0 1 I.f I.fd ["self", "link", "root", "is_open"] (spInit K (clsF 0)) := by
  refine I.F.ok scPPartInit (fun vs H Q E h => ?_) (fun cdv A outer s H vs Q E hr h => ?_)
  · obtain ⟨a, C, dx, us, rfl, hl, _⟩ := h
    exact congrArg (· + 1) hl
  · obtain ⟨a, C, dx, us, rfl, hl, ha, cls, no, q⟩ := h
    match us, hl with
    | [x, y, z], _ =>
      refine ⟨_, pss_cons (ps_fld (pv 0) (pv 1) rfl) (pss_cons (ps_fld (pv 0) (pv 2) rfl) (pss_one (ps_fld (pv 0) (pv 3) rfl))), ?_⟩
      refine ⟨x, rfl, _, rfl, a, C, dx, _, rfl, ha, cls, no "link" (by decide), by show 0 < 1000; decide, ?_⟩
      refine ⟨y, rfl, _, rfl, a, C, dx, _, rfl, upd_same, cls, no "root" (by decide), by show 1 < 1000; decide, ?_⟩
      refine ⟨z, rfl, _, rfl, a, C, dx, _, rfl, upd_same, cls, no "is_open" (by decide), by show 2 < 1000; decide, ?_⟩
      rw [upd_upd, upd_upd]
      exact q
end
/-! ### parts, as the program keeps them -/
inductive PT where
  | hid (l : Lnk) (o : Bool)
  | nod (k : Str) (r : List Int) (x y : PT) (o : Bool)
def PT.lnk (b m : Int) : PT → Lnk
  | .hid l _ => l
  | .nod k r x y _ => lnkOf b m ⟨k, r, x.lnk b m, y.lnk b m⟩
def objD (c : Int) (ds : List PyData) : PyData := .dict [(.int c, .list ds)]
def partD (b m : Int) : PT → PyData
  | .hid l o => .dict [(.int 0, .list [linkD l, .none, .bool o])]
  | .nod k r x y o => .dict [(.int 0, .list [linkD (lnkOf b m ⟨k, r, x.lnk b m, y.lnk b m⟩), .tuple [.str k, rowD r, partD b m x, partD b m y], .bool o])]
def rootD (b m : Int) : PT → PyData
  | .hid _ _ => .none
  | .nod k r x y _ => .tuple [.str k, rowD r, partD b m x, partD b m y]
def PT.op : PT → Bool
  | .hid _ o => o
  | .nod _ _ _ _ o => o
theorem partD_eq (b m : Int) (t : PT) : partD b m t = .dict [(.int 0, .list [linkD (t.lnk b m), rootD b m t, .bool t.op])] := by
  cases t <;> rfl
def PT.Fit : PT → Prop
  | .hid _ _ => True
  | .nod k r x y _ => k.length ≤ 1000 ∧ r.length ≤ 1000 ∧ x.Fit ∧ y.Fit
/-- gaps: an entry with one part that is known and one that is to come -/
inductive Gap where
  | lo (k : Str) (r : List Int) (x : PT)
  | hi (k : Str) (r : List Int) (y : PT)
def gapD (b m : Int) : Gap → PyData
  | .lo k r x => .tuple [.str k, rowD r, partD b m x, .none]
  | .hi k r y => .tuple [.str k, rowD r, .none, partD b m y]
def Gap.put (o : Bool) (t : PT) : Gap → PT
  | .lo k r x => .nod k r x t o
  | .hi k r y => .nod k r t y o
def Gap.Fit : Gap → Prop
  | .lo k r x => k.length ≤ 1000 ∧ r.length ≤ 1000
  | .hi k r y => k.length ≤ 1000 ∧ r.length ≤ 1000
def compl (o : Bool) (gs : List Gap) (t : PT) : PT := gs.foldr (fun g t => g.put o t) t

abbrev sPLinkedPart : Stmt := topS 27
theorem scPLinkedPart : FnScope ["link"] ["link"] (defScope sPLinkedPart) := ⟨rfl, rfl, rfl, by decide +kernel, rfl, by decide +kernel, by decide +kernel⟩
def pPLinkedPart : DSp := fun ws C Q _ => ∃ l b m, ws = [.val (linkD l)] ∧ Q (.val (partD b m (.hid l false))) C
section
variable {P : Program} {w : World} {K : PySem.W.Frag} {mg : Str → Option Value} {base : Heap} {ct : Ct}
theorem ok_PLinkedPart  [CtOk K ct] {C_Part : Addr} [ClA ct C_Part 0] (D : Def K mg "linked_part" sPLinkedPart ["link"]) (I_Part : Ini K mg "Part" C_Part "Part.__init__" sPPartInit ["self", "link", "root", "is_open"])
    (G_PartI : FnOk P w K mg base CX0 1 I_Part.f I_Part.fd ["self", "link", "root", "is_open"] (spInit K (clsF 0))) : FnOk P w K mg base CX0 3 D.f D.fd ["link"] (spD ct 0 1 pPLinkedPart) := by
  refine D.F.ok scPLinkedPart (fun vs H Q E h => spD_len h) (fun cdv A outer s H vs Q E hr h => ⟨_, (pss_one (ps_ret (pe_make I_Part.M G_PartI (hr.mono (by omega)) (by rfl) I_Part.g I_Part.b .nil pass0 (pa_cons (pv 0) (pa_cons pe_non (pa_cons pe_bl pa_nil)))))), body_ok _ (fun R => inferInstance) (by decide) (fun ws C Q R hw hC hP => ?_) h⟩)
  obtain rfl := List.eq_nil_of_length_eq_zero hC
  obtain ⟨l, b, m, rfl, q⟩ := hP
  walk_at "d"
  exact q
end
abbrev sPEmptyPart : Stmt := topS 28
theorem scPEmptyPart : FnScope ["rule"] ["rule"] (defScope sPEmptyPart) := ⟨rfl, rfl, rfl, by decide +kernel, rfl, by decide +kernel, by decide +kernel⟩
def pPEmptyPart : DSp := fun ws C Q _ => ∃ b m, ws = [.val (ruleD b m)] ∧ RuleOk b m ∧ Q (.val (partD b m (.hid (lnk0 b m) false))) C
section
variable {P : Program} {w : World} {K : PySem.W.Frag} {mg : Str → Option Value} {base : Heap} {ct : Ct}
theorem ok_PEmptyPart  (D : Def K mg "empty_part" sPEmptyPart ["rule"]) (D_PLinkedPart : Def K mg "linked_part" sPLinkedPart ["link"]) (D_PEmptyLink : Def K mg "empty_link" sPEmptyLink ["rule"])
    (G_PLinkedPart : FnOk P w K mg base CX0 3 D_PLinkedPart.f D_PLinkedPart.fd ["link"] (spD ct 0 1 pPLinkedPart)) (G_PEmptyLink : FnOk P w K mg base CX0 3 D_PEmptyLink.f D_PEmptyLink.fd ["rule"] (spD ct 0 1 pPEmptyLink)) : FnOk P w K mg base CX0 4 D.f D.fd ["rule"] (spD ct 0 1 pPEmptyPart) := by
  refine D.F.ok scPEmptyPart (fun vs H Q E h => spD_len h) (fun cdv A outer s H vs Q E hr h => ⟨_, (pss_one (ps_ret (pe_call G_PLinkedPart (hr.mono (by omega)) (by rfl) D_PLinkedPart.m D_PLinkedPart.F.kp D_PLinkedPart.b .nil pass0 (pa_cons (pe_call G_PEmptyLink (hr.mono (by omega)) (by rfl) D_PEmptyLink.m D_PEmptyLink.F.kp D_PEmptyLink.b .nil pass0 (pa_cons (pv 0) pa_nil)) pa_nil)))), body_ok _ (fun R => inferInstance) (by decide) (fun ws C Q R hw hC hP => ?_) h⟩)
  obtain rfl := List.eq_nil_of_length_eq_zero hC
  obtain ⟨b, m, rfl, hr, q⟩ := hP
  walk_at "d"
  refine ⟨b, m, rfl, hr, ?_⟩
  walk_at "d"
  refine ⟨lnk0 b m, b, m, rfl, ?_⟩
  walk_at "d"
  exact q
end
abbrev sPRootedPart : Stmt := topS 29
theorem scPRootedPart : FnScope ["rule", "root", "is_open", "key", "row", "left", "right"] ["rule", "root", "is_open"] (defScope sPRootedPart) := ⟨rfl, rfl, rfl, by decide +kernel, rfl, by decide +kernel, by decide +kernel⟩
def pPRootedPart : DSp := fun ws C Q _ => ∃ b m k r x y o, ws = [.val (ruleD b m), .val (.tuple [.str k, rowD r, partD b m x, partD b m y]), .val (.bool o)] ∧ RuleOk b m ∧ k.length ≤ 1000 ∧ r.length ≤ 1000 ∧ Q (.val (partD b m (.nod k r x y o))) C
section
variable {P : Program} {w : World} {K : PySem.W.Frag} {mg : Str → Option Value} {base : Heap} {ct : Ct}
theorem ok_PRootedPart  [CtOk K ct] {C_Part : Addr} [ClA ct C_Part 0] (D : Def K mg "rooted_part" sPRootedPart ["rule", "root", "is_open"]) (D_PEntryLink : Def K mg "entry_link" sPEntryLink ["rule", "entry"]) (I_Part : Ini K mg "Part" C_Part "Part.__init__" sPPartInit ["self", "link", "root", "is_open"])
    (G_PEntryLink : FnOk P w K mg base CX0 4 D_PEntryLink.f D_PEntryLink.fd ["rule", "entry"] (spD ct 0 2 pPEntryLink)) (G_PartI : FnOk P w K mg base CX0 1 I_Part.f I_Part.fd ["self", "link", "root", "is_open"] (spInit K (clsF 0))) : FnOk P w K mg base CX0 5 D.f D.fd ["rule", "root", "is_open"] (spD ct 0 3 pPRootedPart) := by
  refine D.F.ok scPRootedPart (fun vs H Q E h => spD_len h) (fun cdv A outer s H vs Q E hr h => ⟨_, (pss_cons (ps_asg (pv 1) (pg_tup (n := 4) (by rfl) (pgs_cons (pg_name (i := 3) scPRootedPart.nd rfl (Or.inl rfl)) (pgs_cons (pg_name (i := 4) scPRootedPart.nd rfl (Or.inl rfl)) (pgs_cons (pg_name (i := 5) scPRootedPart.nd rfl (Or.inl rfl)) (pgs_cons (pg_name (i := 6) scPRootedPart.nd rfl (Or.inl rfl)) pgs_nil)))))) <|
    pss_one (ps_ret (pe_make I_Part.M G_PartI (hr.mono (by omega)) (by rfl) I_Part.g I_Part.b .nil pass0 (pa_cons (pe_call G_PEntryLink (hr.mono (by omega)) (by rfl) D_PEntryLink.m D_PEntryLink.F.kp D_PEntryLink.b .nil pass0 (pa_cons (pv 0) (pa_cons (pe_tup (pa_cons (pv 3) (pa_cons (pv 4) (pa_cons (pe_fldC (K := K) rfl (pv 5) rfl) (pa_cons (pe_fldC (K := K) rfl (pv 6) rfl) pa_nil))))) pa_nil))) (pa_cons (pv 1) (pa_cons (pv 2) pa_nil)))))), body_ok _ (fun R => inferInstance) (by decide) (fun ws C Q R hw hC hP => ?_) h⟩)
  obtain rfl := List.eq_nil_of_length_eq_zero hC
  obtain ⟨b, m, k, r, x, y, o, rfl, hr, h1, h2, q⟩ := hP
  rw [partD_eq b m x, partD_eq b m y]
  walk_at "d"
  refine ⟨by decide, b, m, ⟨k, r, x.lnk b m, y.lnk b m⟩, rfl, hr, ⟨h1, h2⟩, ?_⟩
  walk_at "d"
  rw [← partD_eq b m x, ← partD_eq b m y]
  exact q
end
abbrev sPCompleted : Stmt := topS 30
theorem scPCompleted : FnScope ["rule", "gaps", "part", "is_open", "key", "row", "left", "right", "root"] ["rule", "gaps", "part", "is_open"] (defScope sPCompleted) := ⟨rfl, rfl, rfl, by decide +kernel, rfl, by decide +kernel, by decide +kernel⟩
def pPCompleted : DSp := fun ws C Q _ => ∃ b m gs t o, ws = [.val (ruleD b m), .val (.list (gs.map (gapD b m))), .val (partD b m t), .val (.bool o)] ∧ RuleOk b m ∧ (∀ g ∈ gs, g.Fit) ∧ Q (.val (partD b m (compl o gs t))) C
section
variable {P : Program} {w : World} {K : PySem.W.Frag} {mg : Str → Option Value} {base : Heap} {ct : Ct}
theorem ok_PCompleted  (D : Def K mg "completed" sPCompleted ["rule", "gaps", "part", "is_open"]) (D_PRootedPart : Def K mg "rooted_part" sPRootedPart ["rule", "root", "is_open"]) (m_reversed : mg "reversed" = none)
    (G_PRootedPart : FnOk P w K mg base CX0 5 D_PRootedPart.f D_PRootedPart.fd ["rule", "root", "is_open"] (spD ct 0 3 pPRootedPart)) : FnOk P w K mg base CX0 6 D.f D.fd ["rule", "gaps", "part", "is_open"] (spD ct 0 4 pPCompleted) := by
  refine D.F.ok scPCompleted (fun vs H Q E h => spD_len h) (fun cdv A outer s H vs Q E hr h => ⟨_, (pss_cons (ps_for PassesOwn.never rfl (pi_reversed (by rfl) m_reversed (pa_cons (pv 1) pa_nil)) (pg_tup (n := 4) (by rfl) (pgs_cons (pg_name (i := 4) scPCompleted.nd rfl (Or.inl rfl)) (pgs_cons (pg_name (i := 5) scPCompleted.nd rfl (Or.inl rfl)) (pgs_cons (pg_name (i := 6) scPCompleted.nd rfl (Or.inl rfl)) (pgs_cons (pg_name (i := 7) scPCompleted.nd rfl (Or.inl rfl)) pgs_nil)))))
      (pss_cons (ps_set (i := 8) scPCompleted.nd rfl (.inl rfl) (pe_ifExp (pt_cmpR op_isNA (pv 6) pe_non (nomark _)) (pe_tup (pa_cons (pv 4) (pa_cons (pv 5) (pa_cons (pv 2) (pa_cons (pv 7) pa_nil))))) (pe_tup (pa_cons (pv 4) (pa_cons (pv 5) (pa_cons (pv 6) (pa_cons (pv 2) pa_nil))))))) <|
        pss_one (ps_set (i := 2) scPCompleted.nd rfl (.inl rfl) (pe_call G_PRootedPart (hr.mono (by omega)) (by rfl) D_PRootedPart.m D_PRootedPart.F.kp D_PRootedPart.b .nil pass0 (pa_cons (pv 0) (pa_cons (pv 8) (pa_cons (pv 3) pa_nil))))))) <|
    pss_one (ps_ret (pv 2))), body_ok _ (fun R => inferInstance) (by decide) (fun ws C Q R hw hC hP => ?_) h⟩)
  obtain rfl := List.eq_nil_of_length_eq_zero hC
  obtain ⟨b, m, gs, t, o, rfl, hr, hg, q⟩ := hP
  walk_at "d"
  rw [← List.map_reverse]
  have hf : ∀ g ∈ gs.reverse, g.Fit := fun g h => hg g (List.mem_reverse.mp h)
  have he : compl o gs t = gs.reverse.foldl (fun t g => g.put o t) t := List.foldr_eq_foldl_reverse ..
  rw [he] at q
  generalize gs.reverse = rs at hf q
  refine dForGo_map (gapD b m) rs (fun pre E C => C = [] ∧ ∃ y4 y5 y6 y7 y8 : Option W, E = [some (.val (ruleD b m)), some (.val (.list (gs.map (gapD b m)))), some (.val (partD b m (pre.foldl (fun t g => g.put o t) t))), some (.val (.bool o)), y4, y5, y6, y7, y8]) ?_ ?_ ⟨rfl, _, _, _, _, _, rfl⟩
  · rintro pre g post E C e ⟨rfl, y4, y5, y6, y7, y8, rfl⟩ N hN
    have hgf := hf g (by rw [e]; exact List.mem_append_right _ List.mem_cons_self)
    have hN' := fun y4 y5 y6 y7 y8 => hN _ _ ⟨rfl, y4, y5, y6, y7, y8, rfl⟩
    rw [List.foldl_append] at hN'
    generalize pre.foldl (fun t g => g.put o t) t = u at hN'
    cases g with
    | lo k r x =>
      simp only [gapD]
      rw [partD_eq b m x]
      walk_at "d"
      refine ⟨by decide, b, m, k, r, x, u, o, by rw [← partD_eq b m x], hr, hgf.1, hgf.2, ?_⟩
      walk_at "d"
      exact hN' _ _ _ _ _
    | hi k r y =>
      simp only [gapD]
      walk_at "d"
      refine ⟨by decide, b, m, k, r, u, y, o, rfl, hr, hgf.1, hgf.2, ?_⟩
      walk_at "d"
      exact hN' _ _ _ _ _
  · rintro E C ⟨rfl, y4, y5, y6, y7, y8, rfl⟩
    walk_at "d"
    exact q
end

def toPT (b m : Int) : Tree → PT
  | .nil => .hid (lnk0 b m) false
  | .node k r x y => .nod k r (toPT b m x) (toPT b m y) false
theorem toPT_lnk (b m : Int) : ∀ t : Tree, (toPT b m t).lnk b m = t.lnk b m
  | .nil => rfl
  | .node k r x y => by
    show lnkOf b m ⟨k, r, (toPT b m x).lnk b m, (toPT b m y).lnk b m⟩ = lnkOf b m ⟨k, r, x.lnk b m, y.lnk b m⟩
    rw [toPT_lnk b m x, toPT_lnk b m y]
/-- a row put behind all others -/
def ins (p : Str × List Int) : Tree → Tree
  | .nil => .node p.1 p.2 .nil .nil
  | .node k r x y => if rk k < rk p.1 then .node p.1 p.2 (.node k r x y) .nil else .node k r x (ins p y)
theorem keyAt_app {tb ys : Tab} {i : Nat} (h : i < tb.length) : keyAt (tb ++ ys) i = keyAt tb i := by
  unfold keyAt
  rw [List.map_append, List.getD_eq_getElem?_getD, List.getD_eq_getElem?_getD, List.getElem?_append_left (by rw [List.length_map]; exact h)]
theorem topI_app {tb ys : Tab} : ∀ n, n ≤ tb.length → topI (tb ++ ys) n = topI tb n
  | 0, _ => rfl
  | n + 1, h => by
    have ih := topI_app (tb := tb) (ys := ys) n (by omega)
    have ht : topI tb n < tb.length := by
      cases n with
      | zero => exact h
      | succ n => have := topI_lt tb n; omega
    show (if rk (keyAt (tb ++ ys) (topI (tb ++ ys) n)) < rk (keyAt (tb ++ ys) n) then n else topI (tb ++ ys) n) = if rk (keyAt tb (topI tb n)) < rk (keyAt tb n) then n else topI tb n
    rw [ih, keyAt_app ht, keyAt_app (by omega)]
theorem treeOf_snoc : ∀ (n : Nat) (tb : Tab) (p : Str × List Int), tb.length ≤ n → treeOf (tb ++ [p]) = ins p (treeOf tb)
  | n, tb, p, hn => by
    have hlast : (tb ++ [p])[tb.length]? = some p := get_end tb p
    have hk : keyAt (tb ++ [p]) tb.length = p.1 := key_at hlast
    have hlen : (tb ++ [p]).length = tb.length + 1 := by rw [List.length_append]; rfl
    have ht : topI (tb ++ [p]) (tb ++ [p]).length = if rk (keyAt (tb ++ [p]) (topI tb tb.length)) < rk p.1 then tb.length else topI tb tb.length := by
      rw [hlen]
      show (if rk (keyAt (tb ++ [p]) (topI (tb ++ [p]) tb.length)) < rk (keyAt (tb ++ [p]) tb.length) then tb.length else topI (tb ++ [p]) tb.length) = _
      rw [topI_app tb.length (Nat.le_refl _), hk]
    by_cases hne : tb = []
    · subst hne
      have e0 : topI [p] [p].length = 0 := by
        show (if _ then 0 else 0) = 0
        split <;> rfl
      show treeOf [p] = _
      have e1 : [p][topI [p] [p].length]? = some p := by rw [e0]; rfl
      rw [treeOf_node e1, e0]
      rfl
    · have hi := topI_in hne
      obtain ⟨q, hq, _⟩ := get_of hi
      have hkq : keyAt (tb ++ [p]) (topI tb tb.length) = q.1 := by
        rw [keyAt_app hi]
        exact key_at hq
      rw [hkq] at ht
      by_cases hlt : rk q.1 < rk p.1
      · rw [if_pos hlt] at ht
        have e1 : (tb ++ [p])[topI (tb ++ [p]) (tb ++ [p]).length]? = some p := by rw [ht]; exact hlast
        rw [treeOf_node e1, ht, List.take_append_of_le_length (Nat.le_refl _), List.take_length, List.drop_eq_nil_of_le (by rw [hlen]; exact Nat.le_refl _), treeOf_node hq]
        show Tree.node _ _ _ _ = if rk q.1 < rk p.1 then _ else _
        rw [if_pos hlt]
        rfl
      · rw [if_neg hlt] at ht
        have e1 : (tb ++ [p])[topI (tb ++ [p]) (tb ++ [p]).length]? = some q := by
          rw [ht, List.getElem?_append_left hi]
          exact hq
        rw [treeOf_node e1, ht, List.take_append_of_le_length (by omega), List.drop_append_of_le_length (by omega), treeOf_node hq]
        show _ = if rk q.1 < rk p.1 then _ else _
        rw [if_neg hlt]
        match n, hn with
        | 0, hn => exact absurd (List.eq_nil_of_length_eq_zero (Nat.le_zero.mp hn)) hne
        | n + 1, hn => rw [treeOf_snoc n (tb.drop (topI tb tb.length + 1)) p (by rw [List.length_drop]; omega)]
/-- the right edge: entries with their left trees, the highest first -/
abbrev Spn := List ((Str × List Int) × Tree)
def comp (S : Spn) : Tree := S.foldr (fun s acc => .node s.1.1 s.1.2 s.2 acc) .nil
theorem ins_comp (p : Str × List Int) (S2 : Spn) (h2 : ∀ s ∈ S2, rk s.1.1 < rk p.1) : ∀ S1 : Spn, (∀ s ∈ S1, ¬ rk s.1.1 < rk p.1) → ins p (comp (S1 ++ S2)) = comp (S1 ++ [(p, comp S2)])
  | [], _ => by
    cases S2 with
    | nil => rfl
    | cons s S2 =>
      show (if rk s.1.1 < rk p.1 then Tree.node p.1 p.2 (comp (s :: S2)) .nil else _) = Tree.node p.1 p.2 (comp (s :: S2)) .nil
      rw [if_pos (h2 s List.mem_cons_self)]
  | s :: S1, h1 => by
    show (if rk s.1.1 < rk p.1 then _ else Tree.node s.1.1 s.1.2 s.2 (ins p (comp (S1 ++ S2)))) = Tree.node s.1.1 s.1.2 s.2 (comp (S1 ++ [(p, comp S2)]))
    rw [if_neg (h1 s List.mem_cons_self), ins_comp p S2 h2 S1 fun x hx => h1 x (List.mem_cons_of_mem _ hx)]
def gapS (b m : Int) (s : (Str × List Int) × Tree) : Gap := .lo s.1.1 s.1.2 (toPT b m s.2)
theorem compl_comp (b m : Int) : ∀ S : Spn, compl false (S.map (gapS b m)) (.hid (lnk0 b m) false) = toPT b m (comp S)
  | [] => rfl
  | s :: S => by
    show PT.nod s.1.1 s.1.2 (toPT b m s.2) (compl false (S.map (gapS b m)) (.hid (lnk0 b m) false)) false = PT.nod _ _ _ (toPT b m (comp S)) false
    rw [compl_comp b m S]
/-- the edge of a table's tree -/
structure EdgeOf (S : Spn) (pre : Tab) : Prop where
  tree : comp S = treeOf pre
  desc : S.Pairwise fun a b => rk b.1.1 ≤ rk a.1.1
  keys : ∀ s ∈ S, s.1 ∈ pre
theorem EdgeOf.put {A L : Spn} {pre : Tab} {p : Str × List Int} (e : EdgeOf (A ++ L) pre) (hL : ∀ s ∈ L, rk s.1.1 < rk p.1) (hA : ∀ s ∈ A.getLast?, ¬ rk s.1.1 < rk p.1) : EdgeOf (A ++ [(p, comp L)]) (pre ++ [p]) := by
  have dA : A.Pairwise fun a b => rk b.1.1 ≤ rk a.1.1 := (List.pairwise_append.mp e.desc).1
  have all : ∀ s ∈ A, ¬ rk s.1.1 < rk p.1 := fun s hs => by
    rcases concat_cases A with rfl | ⟨A', z, rfl⟩
    · cases hs
    · have hz : ¬ rk z.1.1 < rk p.1 := hA z (by simp)
      rcases List.mem_append.mp hs with h | h
      · have := (List.pairwise_append.mp dA).2.2 s h z List.mem_cons_self
        omega
      · have : s = z := by simpa using h
        rw [this]
        exact hz
  refine ⟨?_, ?_, fun s hs => ?_⟩
  · rw [treeOf_snoc _ pre p (Nat.le_refl _), ← e.tree, ins_comp p L hL A all]
  · refine List.pairwise_append.mpr ⟨dA, List.pairwise_singleton _ _, fun s hs z hz => ?_⟩
    have : z = (p, comp L) := by simpa using hz
    rw [this]
    have := all s hs
    show rk p.1 ≤ _
    omega
  · rcases List.mem_append.mp hs with h | h
    · exact List.mem_append_left _ (e.keys s (List.mem_append_left _ h))
    · have : s = (p, comp L) := by simpa using h
      rw [this]
      exact List.mem_append_right _ List.mem_cons_self
theorem abv_later {a c : Str} (h : Lt c a) : abv a c = decide (rk c < rk a) := by
  unfold abv slt
  rw [decide_eq_false (lt_asym h), Bool.and_false, Bool.or_false]
theorem comp_size : ∀ S : Spn, S.length ≤ (comp S).size
  | [] => Nat.le_refl _
  | s :: S => by
    have := comp_size S
    show S.length + 1 ≤ s.2.size + (comp S).size + 1
    omega
theorem EdgeOf.len {S : Spn} {pre : Tab} (e : EdgeOf S pre) : S.length ≤ pre.length := by
  have h1 := comp_size S
  rw [e.tree] at h1
  exact Nat.le_trans h1 (treeOf_size pre)
theorem rev_gaps (b m : Int) (L : Spn) : ((L.reverse.map fun s => gapD b m (gapS b m s))).reverse = (L.map (gapS b m)).map (gapD b m) := by
  rw [← List.map_reverse, List.reverse_reverse, List.map_map]
  rfl

abbrev sPTreeOf : Stmt := topS 31
theorem scPTreeOf : FnScope ["rule", "table", "gaps", "key", "row", "lower"] ["rule", "table"] (defScope sPTreeOf) := ⟨rfl, rfl, rfl, by decide +kernel, rfl, by decide +kernel, by decide +kernel⟩
def pPTreeOf : DSp := fun ws C Q _ => ∃ b m tb, ws = [.val (ruleD b m), .val (tabD tb)] ∧ RuleOk b m ∧ (tb.map (·.1)).Pairwise Lt ∧ TabFit tb ∧ tb.length ≤ 1000 ∧ Q (.val (partD b m (toPT b m (treeOf tb)))) C
section
variable {P : Program} {w : World} {K : PySem.W.Frag} {mg : Str → Option Value} {base : Heap} {ct : Ct}
theorem ok_PTreeOf  (D : Def K mg "tree_of" sPTreeOf ["rule", "table"]) (D_PStandsAbove : Def K mg "stands_above" sPStandsAbove ["key", "other"]) (D_PCompleted : Def K mg "completed" sPCompleted ["rule", "gaps", "part", "is_open"]) (D_PEmptyPart : Def K mg "empty_part" sPEmptyPart ["rule"])
    (G_PStandsAbove : FnOk P w K mg base CX0 2 D_PStandsAbove.f D_PStandsAbove.fd ["key", "other"] (spD ct 0 2 pPStandsAbove)) (G_PCompleted : FnOk P w K mg base CX0 6 D_PCompleted.f D_PCompleted.fd ["rule", "gaps", "part", "is_open"] (spD ct 0 4 pPCompleted)) (G_PEmptyPart : FnOk P w K mg base CX0 4 D_PEmptyPart.f D_PEmptyPart.fd ["rule"] (spD ct 0 1 pPEmptyPart)) : FnOk P w K mg base CX0 7 D.f D.fd ["rule", "table"] (spD ct 0 2 pPTreeOf) := by
  refine D.F.ok scPTreeOf (fun vs H Q E h => spD_len h) (fun cdv A outer s H vs Q E hr h => ⟨_, (pss_cons (psC (ps_set (i := 2) scPTreeOf.nd rfl (.inl rfl) (pe_lst pa_nil))) <|
    pss_cons (ps_for PassesOwn.never rfl (pi_seqA (pv 1)) (pg_tup (n := 2) (by rfl) (pgs_cons (pg_name (i := 3) scPTreeOf.nd rfl (Or.inl rfl)) (pgs_cons (pg_name (i := 4) scPTreeOf.nd rfl (Or.inl rfl)) pgs_nil)))
      (pss_cons (psC (ps_set (i := 5) scPTreeOf.nd rfl (.inl rfl) (pe_lst pa_nil))) <|
        pss_cons (ps_while PassesOwn.never (PW.pt (pw_and (pt_truA (pv 2)) (pw_and1 (pt_truA (pe_call G_PStandsAbove (hr.mono (by omega)) (by rfl) D_PStandsAbove.m D_PStandsAbove.F.kp D_PStandsAbove.b .nil pass0 (pa_cons (pv 3) (pa_cons (pe_ix ix_seq (pe_ix ix_seq (pv 2) (pe_un un_neg pe_int) (fun _ _ => rfl)) pe_int (fun _ _ => rfl)) pa_nil)))))))
          (pss_one (ps_expr (pe_bm PySem.F.plainAttrs_list PySem.F.slot_list_append PySem.F.type_list_append mt_append (pv 5) (pa_cons (pe_bm0 PySem.F.plainAttrs_list PySem.F.slot_list_pop PySem.F.type_list_pop mt_pop (pv 2)) pa_nil))))) <|
        pss_one (ps_expr (pe_bm PySem.F.plainAttrs_list PySem.F.slot_list_append PySem.F.type_list_append mt_append (pv 2) (pa_cons (pe_tup (pa_cons (pv 3) (pa_cons (pv 4) (pa_cons (pe_call G_PCompleted (hr.mono (by omega)) (by rfl) D_PCompleted.m D_PCompleted.F.kp D_PCompleted.b .nil pass0 (pa_cons (pv 0) (pa_cons (pe_revL (pv 5)) (pa_cons (pe_call G_PEmptyPart (hr.mono (by omega)) (by rfl) D_PEmptyPart.m D_PEmptyPart.F.kp D_PEmptyPart.b .nil pass0 (pa_cons (pv 0) pa_nil)) (pa_cons pe_bl pa_nil))))) (pa_cons pe_non pa_nil))))) pa_nil))))) <|
    pss_one (ps_ret (pe_call G_PCompleted (hr.mono (by omega)) (by rfl) D_PCompleted.m D_PCompleted.F.kp D_PCompleted.b .nil pass0 (pa_cons (pv 0) (pa_cons (pvF 2) (pa_cons (pe_call G_PEmptyPart (hr.mono (by omega)) (by rfl) D_PEmptyPart.m D_PEmptyPart.F.kp D_PEmptyPart.b .nil pass0 (pa_cons (pv 0) pa_nil)) (pa_cons pe_bl pa_nil))))))), body_ok _ (fun R => inferInstance) (by decide) (fun ws C Q R hw hC hP => ?_) h⟩)
  obtain rfl := List.eq_nil_of_length_eq_zero hC
  obtain ⟨b, m, tb, rfl, hr, hs, hf, hl, q⟩ := hP
  walk_at "s"
  refine dSeq_go ?_
  walk_at "s"
  refine dSeq_go ?_
  walk_at "s"
  refine dForGo_map pairD tb (fun pre E C => ∃ (S : Spn) (J : List Cell) (y3 y4 y5 : Option W), EdgeOf S pre ∧ C = .lst (S.map fun s => gapD b m (gapS b m s)) :: J ∧ E = [some (.val (ruleD b m)), some (.val (tabD tb)), some (.ref 0), y3, y4, y5]) ?_ ?_ ⟨[], [], none, none, none, ⟨rfl, .nil, fun s h => by cases h⟩, rfl, rfl⟩
  · rintro pre p post E C e ⟨S, J, y3, y4, y5, hS, rfl, rfl⟩ N hN
    simp only [pairD]
    walk_at "s"
    refine dSeq_go ?_
    walk_at "s"
    have hpm : p ∈ tb := by rw [e]; exact List.mem_append_right _ List.mem_cons_self
    have hpl : pre.length + 1 ≤ tb.length := by rw [e, List.length_append, List.length_cons]; omega
    have later : ∀ s ∈ pre, Lt s.1 p.1 := fun s h => by
      rw [e, List.map_append, List.map_cons] at hs
      exact (List.pairwise_append.mp hs).2.2 s.1 (List.mem_map.mpr ⟨s, h, rfl⟩) p.1 List.mem_cons_self
    refine dSeq_cut (fun E C => ∃ A L : Spn, EdgeOf (A ++ L) pre ∧ (∀ s ∈ L, rk s.1.1 < rk p.1) ∧ (∀ s ∈ A.getLast?, ¬ rk s.1.1 < rk p.1) ∧ C = .lst (A.map fun s => gapD b m (gapS b m s)) :: (J ++ [.lst (L.reverse.map fun s => gapD b m (gapS b m s))]) ∧ E = [some (.val (ruleD b m)), some (.val (tabD tb)), some (.ref 0), some (.val (.str p.1)), some (.val (rowD p.2)), some (.ref (J.length + 1))]) ?_ ?_
    · intro N2 hN2
      refine dWhile_by (fun (a : Spn × Spn) E C => EdgeOf (a.1 ++ a.2) pre ∧ (∀ s ∈ a.2, rk s.1.1 < rk p.1) ∧ C = .lst (a.1.map fun s => gapD b m (gapS b m s)) :: (J ++ [.lst (a.2.reverse.map fun s => gapD b m (gapS b m s))]) ∧ E = [some (.val (ruleD b m)), some (.val (tabD tb)), some (.ref 0), some (.val (.str p.1)), some (.val (rowD p.2)), some (.ref (J.length + 1))]) (fun a => a.1.length) (S, []) ⟨by rw [List.append_nil]; exact hS, fun s h => (by cases h), rfl, rfl⟩ ?_
      rintro ⟨A, L⟩ E C ⟨hE, hL, rfl, rfl⟩
      have hlen := hE.len
      rw [List.length_append] at hlen
      have fitE : ∀ s ∈ A ++ L, s.1.1.length ≤ 1000 ∧ s.1.2.length ≤ 1000 := fun s h => hf s.1 (by rw [e]; exact List.mem_append_left _ (hE.keys s h))
      rcases concat_cases A with rfl | ⟨A, z, rfl⟩
      · walk_at "s"
        exact hN2 _ _ ⟨[], L, hE, hL, fun s h => (by cases h), rfl, rfl⟩
      · have hz : z.1 ∈ pre := hE.keys z (by simp)
        have hlt := later z.1 hz
        have hzf := fitE z (by simp)
        rw [List.map_append, List.map_cons, List.map_nil]
        walk_at "s"
        rw [if_pos (by rw [isEmpty_concat]; rfl)]
        have hg : gapD b m (gapS b m z) = .tuple [.str z.1.1, rowD z.1.2, partD b m (toPT b m z.2), .none] := rfl
        rw [hg]
        walk_at "s"
        refine ⟨p.1, z.1.1, rfl, (hf p hpm).1, hzf.1, ?_⟩
        rw [abv_later hlt]
        walk_at "s"
        refine ifd (fun hab => ?_) (fun hab => ?_)
        · rw [last_get]
          walk_at "s"
          refine ⟨bigL (by rw [List.length_map, List.length_reverse]; exact Nat.le_trans (Nat.le_trans (Nat.le_add_left _ _) hlen) (by omega)), (A, z :: L), by rw [List.length_append]; exact Nat.lt_succ_self _, ?_, fun s hs => ?_, ?_⟩
          · rw [List.append_assoc] at hE
            exact hE
          · rcases List.mem_cons.mp hs with h | h
            · rw [h]
              exact hab
            · exact hL s h
          · rw [show ((A, z :: L) : Spn × Spn).2.reverse = L.reverse ++ [z] from List.reverse_cons, List.map_append]
            rfl
        · exact hN2 _ _ ⟨A ++ [z], L, hE, hL, fun s h => by
            have : s = z := by simpa using h.symm
            rw [this]
            exact hab, by rw [List.map_append]; rfl, rfl⟩
    · rintro E C ⟨A, L, hE, hL, hA, rfl, rfl⟩
      have hlen := hE.len
      rw [List.length_append] at hlen
      have fitE : ∀ s ∈ A ++ L, s.1.1.length ≤ 1000 ∧ s.1.2.length ≤ 1000 := fun s h => hf s.1 (by rw [e]; exact List.mem_append_left _ (hE.keys s h))
      walk_at "s"
      refine ⟨b, m, rfl, hr, ?_⟩
      walk_at "s"
      refine ⟨b, m, L.map (gapS b m), .hid (lnk0 b m) false, false, by rw [rev_gaps], hr, fun g hg => ?_, ?_⟩
      · obtain ⟨s, hs', rfl⟩ := List.mem_map.mp hg
        exact fitE s (List.mem_append_right _ hs')
      rw [compl_comp]
      walk_at "s"
      rw [List.length_map]
      refine ⟨by decide, bigL (by omega), hN _ _ ⟨A ++ [(p, comp L)], J ++ [.lst (L.reverse.map fun s => gapD b m (gapS b m s))], _, _, _, hE.put hL hA, by rw [List.map_append]; rfl, rfl⟩⟩
  · rintro E C ⟨S, J, y3, y4, y5, hS, rfl, rfl⟩
    walk_at "s"
    refine ⟨b, m, rfl, hr, ?_⟩
    walk_at "s"
    refine ⟨b, m, S.map (gapS b m), .hid (lnk0 b m) false, false, by rw [List.map_map]; rfl, hr, fun g hg => ?_, ?_⟩
    · obtain ⟨s, hs', rfl⟩ := List.mem_map.mp hg
      exact hf s.1 (hS.keys s hs')
    · rw [compl_comp, hS.tree]
      walk_at "s"
      exact q
end

abbrev sPRecorderInit : Stmt := inClass (topS 33) 0
theorem scPRecorderInit : FnScope ["self", "rule"] ["self", "rule"] (defScope sPRecorderInit) := ⟨rfl, rfl, rfl, by decide +kernel, rfl, by decide +kernel, by decide +kernel⟩
section
variable {P : Program} {w : World} {K : PySem.W.Frag} {mg : Str → Option Value} {base : Heap} {ct : Ct}
theorem ok_RecorderI {C : Addr} (I : Ini K mg "Recorder" C "Recorder.__init__" sPRecorderInit ["self", "rule"]) : FnOk P w K mg base CX0 1 I.f I.fd ["self", "rule"] (spRecI K) := by
  refine I.F.ok scPRecorderInit (fun vs H Q E h => ?_) (fun cdv A outer s H vs Q E hr h => ?_)
  · obtain ⟨a, C, dx, u, rfl, _⟩ := h
    rfl
  · obtain ⟨a, C, dx, u, rfl, ha, cls, no, q⟩ := h
    refine ⟨_, pss_cons (ps_fld (pv 0) (pv 1) rfl) (pss_one (ps_fld (pv 0) (pe_lst pa_nil) rfl)), ?_⟩
    refine ⟨u, rfl, _, rfl, a, C, dx, _, rfl, ha, cls, no "rule" (by decide), by show 0 < 1000; decide, ?_⟩
    refine ⟨by decide, fun l hl => ?_⟩
    have nla : l ≠ a := fun z => by
      rw [z, upd_same] at hl
      cases hl
    refine ⟨_, rfl, a, C, dx, _, rfl, by rw [upd_ne (Ne.symm nla), upd_same], cls, no "certificate" (by decide), by show 1 < 1000; decide, ?_⟩
    rw [upd_ne nla] at hl
    have e : upd (upd (upd H a (.ins C dx (putF "rule" u []))) l (.lst [])) a (.ins C dx (putF "certificate" (.ref l) (putF "rule" u []))) = upd (upd H l (.lst [])) a (.ins C dx ((clsF 1).zip [u, .ref l])) := by
      funext b
      by_cases e : b = a
      · rw [e, upd_same, upd_same]
        rfl
      · rw [upd_ne e, upd_ne e]
        by_cases e2 : b = l
        · rw [e2, upd_same, upd_same]
        · rw [upd_ne e2, upd_ne e2, upd_ne e]
    rw [e]
    exact q l hl
end

abbrev sPPartIsEmpty : Stmt := inClass (topS 26) 1
theorem scPPartIsEmpty : FnScope ["self"] ["self"] (defScope sPPartIsEmpty) := ⟨rfl, rfl, rfl, by decide +kernel, rfl, by decide +kernel, by decide +kernel⟩
def pPPartIsEmpty : DSp := fun ws C Q _ => ∃ b m t, ws = [.val (partD b m t)] ∧ Q (.val (.bool (decide ((t.lnk b m).c = 0)))) C
section
variable {P : Program} {w : World} {K : PySem.W.Frag} {mg : Str → Option Value} {base : Heap} {ct : Ct}
theorem ok_PPartIsEmpty  [CtOk K ct] {C_Part : Addr} [ClA ct C_Part 0] (D : Mth K C_Part "is_empty" "Part.is_empty" sPPartIsEmpty ["self"])
    : FnOk P w K mg base CX0 1 D.f D.fd ["self"] (spD ct 0 1 pPPartIsEmpty) := by
  refine D.F.ok scPPartIsEmpty (fun vs H Q E h => spD_len h) (fun cdv A outer s H vs Q E hr h => ⟨_, (pss_one (ps_ret (pe_cmpR (op_eqD hr.units) (pe_ix ix_seq (pe_fldC (K := K) rfl (pv 0) rfl) pe_int (fun _ _ => rfl)) pe_int (nomark _)))), body_ok _ (fun R => inferInstance) (by decide) (fun ws C Q R hw hC hP => ?_) h⟩)
  obtain rfl := List.eq_nil_of_length_eq_zero hC
  obtain ⟨b, m, t, rfl, q⟩ := hP
  rw [partD_eq]
  simp only [linkD]
  walk_at "d"
  exact q
end
abbrev sPPartEntry : Stmt := inClass (topS 26) 2
theorem scPPartEntry : FnScope ["self", "key", "row", "left", "right"] ["self"] (defScope sPPartEntry) := ⟨rfl, rfl, rfl, by decide +kernel, rfl, by decide +kernel, by decide +kernel⟩
def pPPartEntry : DSp := fun ws C Q _ => ∃ b m k r x y o, ws = [.val (partD b m (.nod k r x y o))] ∧ Q (.val (entD ⟨k, r, x.lnk b m, y.lnk b m⟩)) C
section
variable {P : Program} {w : World} {K : PySem.W.Frag} {mg : Str → Option Value} {base : Heap} {ct : Ct}
theorem ok_PPartEntry  [CtOk K ct] {C_Part : Addr} [ClA ct C_Part 0] (D : Mth K C_Part "entry" "Part.entry" sPPartEntry ["self"])
    : FnOk P w K mg base CX0 1 D.f D.fd ["self"] (spD ct 0 1 pPPartEntry) := by
  refine D.F.ok scPPartEntry (fun vs H Q E h => spD_len h) (fun cdv A outer s H vs Q E hr h => ⟨_, (pss_cons (ps_asg (pe_fldC (K := K) rfl (pv 0) rfl) (pg_tup (n := 4) (by rfl) (pgs_cons (pg_name (i := 1) scPPartEntry.nd rfl (Or.inl rfl)) (pgs_cons (pg_name (i := 2) scPPartEntry.nd rfl (Or.inl rfl)) (pgs_cons (pg_name (i := 3) scPPartEntry.nd rfl (Or.inl rfl)) (pgs_cons (pg_name (i := 4) scPPartEntry.nd rfl (Or.inl rfl)) pgs_nil)))))) <|
    pss_one (ps_ret (pe_tup (pa_cons (pv 1) (pa_cons (pv 2) (pa_cons (pe_fldC (K := K) rfl (pv 3) rfl) (pa_cons (pe_fldC (K := K) rfl (pv 4) rfl) pa_nil))))))), body_ok _ (fun R => inferInstance) (by decide) (fun ws C Q R hw hC hP => ?_) h⟩)
  obtain rfl := List.eq_nil_of_length_eq_zero hC
  obtain ⟨b, m, k, r, x, y, o, rfl, q⟩ := hP
  simp only [partD]
  rw [partD_eq b m x, partD_eq b m y]
  walk_at "d"
  exact ⟨by decide, q⟩
end
abbrev sPRecorderOpened : Stmt := inClass (topS 33) 1
theorem scPRecorderOpened : FnScope ["self", "part"] ["self", "part"] (defScope sPRecorderOpened) := ⟨rfl, rfl, rfl, by decide +kernel, rfl, by decide +kernel, by decide +kernel⟩
/-- a recorder's two cells: the object, its entries -/
def recC (b m : Int) (es : List Ent) : List Cell := [.obj 1 [.val (ruleD b m), .ref 1], .lst (es.map entD)]
def PT.opened : PT → PT
  | .hid l _ => .hid l true
  | .nod k r x y _ => .nod k r x y true
def pPRecorderOpened : DSp := fun ws C Q _ => ∃ b m es k r x y o, ws = [.ref 0, .val (partD b m (.nod k r x y o))] ∧ C = recC b m es ∧ es.length ≤ 100000 ∧ Q (.val (partD b m (.nod k r x y true))) (recC b m (if o = true then es else es ++ [⟨k, r, x.lnk b m, y.lnk b m⟩]))
section
variable {P : Program} {w : World} {K : PySem.W.Frag} {mg : Str → Option Value} {base : Heap} {ct : Ct}
theorem ok_PRecorderOpened  [CtOk K ct] {C_Part : Addr} [ClA ct C_Part 0] {C_Recorder : Addr} [ClA ct C_Recorder 1] (D : Mth K C_Recorder "opened" "Recorder.opened" sPRecorderOpened ["self", "part"]) (D_PPartEntry : Mth K C_Part "entry" "Part.entry" sPPartEntry ["self"]) (I_Part : Ini K mg "Part" C_Part "Part.__init__" sPPartInit ["self", "link", "root", "is_open"])
    (G_PPartEntry : FnOk P w K mg base CX0 1 D_PPartEntry.f D_PPartEntry.fd ["self"] (spD ct 0 1 pPPartEntry)) (G_PartI : FnOk P w K mg base CX0 1 I_Part.f I_Part.fd ["self", "link", "root", "is_open"] (spInit K (clsF 0))) : FnOk P w K mg base CX0 3 D.f D.fd ["self", "part"] (spD ct 2 2 pPRecorderOpened) := by
  refine D.F.ok scPRecorderOpened (fun vs H Q E h => spD_len h) (fun cdv A outer s H vs Q E hr h => ⟨_, (pss_cons (ps_if (pt_truA (pe_fldC (K := K) rfl (pv 1) rfl))
      (pss_one (ps_ret (pv 1))) pss_nil) <|
    pss_cons (ps_expr (pe_bm PySem.F.plainAttrs_list PySem.F.slot_list_append PySem.F.type_list_append mt_append (pe_fldC (K := K) rfl (pv 0) rfl) (pa_cons (pe_meth0 (pv 1) D_PPartEntry.c D_PPartEntry.M G_PPartEntry (hr.mono (by omega)) D_PPartEntry.b .nil pass0) pa_nil))) <|
    pss_one (ps_ret (pe_make I_Part.M G_PartI (hr.mono (by omega)) (by rfl) I_Part.g I_Part.b .nil pass0 (pa_cons (pe_fldC (K := K) rfl (pv 1) rfl) (pa_cons (pe_fldC (K := K) rfl (pv 1) rfl) (pa_cons pe_bl pa_nil)))))), body_ok _ (fun R => inferInstance) (by decide) (fun ws C Q R hw hC hP => ?_) h⟩)
  obtain ⟨b, m, es, k, r, x, y, o, rfl, rfl, hl, q⟩ := hP
  cases o with
  | true =>
    unfold recC
    simp only [partD]
    walk_at "d"
    exact q
  | false =>
    unfold recC
    simp only [partD]
    walk_at "d"
    refine ⟨by decide, b, m, k, r, x, y, false, rfl, ?_⟩
    walk_at "d"
    refine ⟨by rw [List.length_map]; exact bigL (by omega), ?_⟩
    have e : (es ++ [(⟨k, r, x.lnk b m, y.lnk b m⟩ : Ent)]).map entD = es.map entD ++ [entD ⟨k, r, x.lnk b m, y.lnk b m⟩] := by rw [List.map_append]; rfl
    unfold recC at q
    rw [if_neg (by decide), e] at q
    exact q
end

/-! ### what opens: a model -/
def NdOk (k : Str) (r : List Int) : Prop := okD (.str k) ∧ k.length ≤ 1000 ∧ r.length ≤ 1000
structure Opn where
  c : Int
  S : Type
  flds : Int → Int → S → List W
  aux : S → Cell
  step : Int → Int → PT → S → (Str → List Int → PT → PT → S → Prop) → (Str → Int → S → Prop) → Prop
  mono : ∀ {b m : Int} {t : PT} {s : S} {K K' : Str → List Int → PT → PT → S → Prop} {R R' : Str → Int → S → Prop}, (∀ k r x y s', NdOk k r → K k r x y s' → K' k r x y s') → (∀ z n s', R z n s' → R' z n s') → step b m t s K R → step b m t s K' R'
  rule : ∀ b m s, fldOf c "rule" (flds b m s) = some (.val (ruleD b m))
  wok : ∀ b m s, (flds b m s).all (wOk 2) = true
  aok : ∀ s, cellOk 2 (aux s) = true
  ain : ∀ s, inC 0 2 (aux s) = true
  nom : ("opened" : Str) ∉ clsF c
theorem Opn.win (M : Opn) (b m : Int) (s : M.S) : (M.flds b m s).all (inW 0 2) = true := inW_ok (M.wok b m s)
abbrev opC (M : Opn) (b m : Int) (s : M.S) : List Cell := [.obj M.c (M.flds b m s), M.aux s]
def pOpened (M : Opn) : DSp := fun ws C Q R => ∃ b m s t, ws = [.ref 0, .val (partD b m t)] ∧ C = opC M b m s ∧ RuleOk b m ∧
  M.step b m t s (fun k r x y s' => Q (.val (partD b m (.nod k r x y true))) (opC M b m s')) (fun z n s' => R 3 [.int n, .str z] (opC M b m s'))
theorem slt_t {a b : Str} (h : a.cps.toList < b.cps.toList) : slt a b = true := decide_eq_true h
theorem slt_f {a b : Str} (h : ¬ a.cps.toList < b.cps.toList) : slt a b = false := decide_eq_false h
/-- a refusal -/
abbrev rfD (M : Opn) (R : XD) (b m : Int) : Str → Int → M.S → Prop := fun z n s' => R 3 [.int n, .str z] (opC M b m s')
theorem rfD_eq (M : Opn) (R : XD) (b m : Int) : rfD M R b m = fun z n s' => R 3 [.int n, .str z] (opC M b m s') := rfl
theorem isOb_part (b m : Int) (t : PT) (C : List Cell) : isOb 0 (.val (partD b m t)) C = True := by
  rw [partD_eq]
  exact eq_true rfl
theorem no_isE : (("is_empty" : Str) ∈ clsF 0) = False := by decide
theorem no_ent : (("entry" : Str) ∈ clsF 0) = False := by decide
theorem Opn.noO (M : Opn) : (("opened" : Str) ∈ clsF M.c) = False := eq_false M.nom
theorem fld_link (b m : Int) (t : PT) (Q : DK) (C : List Cell) : fldK "link" Q (.val (partD b m t)) C = Q (.val (linkD (t.lnk b m))) C := by
  rw [partD_eq]
  rfl
theorem fld_root (b m : Int) (t : PT) (Q : DK) (C : List Cell) : fldK "root" Q (.val (partD b m t)) C = Q (.val (rootD b m t)) C := by
  rw [partD_eq]
  rfl
theorem fld_open (b m : Int) (t : PT) (Q : DK) (C : List Cell) : fldK "is_open" Q (.val (partD b m t)) C = Q (.val (.bool t.op)) C := by
  rw [partD_eq]
  rfl
theorem ix_link0 (l : Lnk) (C : List Cell) (Q : DK) : fIx (.val (linkD l)) (.val (.int 0)) C Q = Q (.val (.int l.d)) C := rfl
theorem ix_link1 (l : Lnk) (C : List Cell) (Q : DK) : fIx (.val (linkD l)) (.val (.int 1)) C Q = Q (.val (.int l.c)) C := rfl
theorem ix_link2 (l : Lnk) (C : List Cell) (Q : DK) : fIx (.val (linkD l)) (.val (.int 2)) C Q = Q (.val (sumsD l)) C := rfl
theorem isi_part (b m : Int) (t : PT) (C : List Cell) (Q : DK) : fIsiO [.val (partD b m t), .ty "tuple"] C Q = Q (.val (.bool false)) C := by
  rw [partD_eq]
  show ((0 : Int) = 0 ∧ "tuple" = "tuple" ∧ _) = _
  simp
theorem emp_go {b m : Int} {t : PT} {C : List Cell} {Q : DK} {X : XD} (h : Q (.val (.bool (decide ((t.lnk b m).c = 0)))) C) : pPPartIsEmpty [.val (partD b m t)] C Q X := ⟨b, m, t, rfl, h⟩
theorem op_go {M : Opn} {b m : Int} {s : M.S} {t : PT} {K0 : Str → List Int → PT → PT → M.S → Prop} {R0 : Str → Int → M.S → Prop} {K : DK} {R : XD} (hr : RuleOk b m) (h : M.step b m t s K0 R0)
    (hk : ∀ k r x y s', NdOk k r → K0 k r x y s' → K (.val (partD b m (.nod k r x y true))) (opC M b m s')) (hx : ∀ z n s', R0 z n s' → R 3 [.int n, .str z] (opC M b m s')) : pOpened M [.ref 0, .val (partD b m t)] (opC M b m s) K R :=
  ⟨b, m, s, t, rfl, rfl, hr, M.mono hk hx h⟩
theorem ifnP {P A B : Prop} [Decidable P] (a : ¬ P → A) (b : P → B) : if (!decide P) = true then A else B := by
  by_cases e : P
  · rw [decide_eq_true e, if_neg (by decide)]
    exact b e
  · rw [decide_eq_false e, if_pos (by decide)]
    exact a e
theorem dl_concat {α : Type} (xs : List α) (x : α) : (xs ++ [x]).dropLast = xs := List.dropLast_concat
theorem nonE_concat {α : Type} (xs : List α) (x : α) : (xs ++ [x]).isEmpty = false := isEmpty_concat xs x
/-- a recorder: the entries so far -/
def MRec : Opn where
  c := 1
  S := List Ent
  flds b m s := [.val (ruleD b m), .ref 1]
  aux s := .lst (s.map entD)
  step b m t s K R := match t with
    | .nod k r x y o => NdOk k r ∧ s.length ≤ 100000 ∧ K k r x y (if o = true then s else s ++ [⟨k, r, x.lnk b m, y.lnk b m⟩])
    | .hid _ _ => False
  mono := by
    intro b m t s K K' R R' h1 h2 h
    cases t with
    | hid => exact h
    | nod k r x y o => exact ⟨h.1, h.2.1, h1 _ _ _ _ _ h.1 h.2.2⟩
  rule b m s := rfl
  wok b m s := rfl
  aok s := rfl
  ain s := rfl
  nom := by decide
theorem op_rec {P : Program} {w : World} {K : PySem.W.Frag} {mg : Str → Option Value} {base : Heap} {ct : Ct} {f : Addr} {fd : FuncData} (F : FnOk P w K mg base CX0 3 f fd ["self", "part"] (spD ct 2 2 pPRecorderOpened)) :
    FnOk P w K mg base (L2.CX P w) 10 f fd ["self", "part"] (spD ct 2 2 (pOpened MRec)) := by
  refine ((FnOk.lift F).mono (by decide)).imp fun vs H Q E h => ?_
  obtain ⟨g, C, ws, QD, RX, h1, h2, h3, h4, ⟨b, m, s, t, rfl, rfl, hr, hs⟩, h6, h7⟩ := h
  cases t with
  | hid => exact hs.elim
  | nod k r x y o => exact ⟨g, _, _, QD, RX, h1, h2, h3, h4, ⟨b, m, s, k, r, x, y, o, rfl, rfl, hs.2.1, hs.2.2⟩, h6, h7⟩

/-! ### walks as programs -/
inductive Prog (α : Type) where
  | out : Prog α
  | ret : α → Prog α
  | ask : PT → (Str → List Int → PT → PT → Prog α) → Prog α
def Prog.bind {α β : Type} : Prog α → (α → Prog β) → Prog β
  | .out, _ => .out
  | .ret a, f => f a
  | .ask t k, f => .ask t fun a r x y => (k a r x y).bind f
def Prog.wp {α : Type} (M : Opn) (b m : Int) (R : Str → Int → M.S → Prop) : Prog α → M.S → (α → M.S → Prop) → Prop
  | .out, _, _ => False
  | .ret a, s, Q => Q a s
  | .ask t k, s, Q => M.step b m t s (fun a r x y s' => (k a r x y).wp M b m R s' Q) R
theorem wp_bind {α β : Type} {M : Opn} {b m : Int} {R : Str → Int → M.S → Prop} (f : α → Prog β) : ∀ (p : Prog α) (s : M.S) (Q : β → M.S → Prop), (p.bind f).wp M b m R s Q = p.wp M b m R s fun a s' => (f a).wp M b m R s' Q
  | .out, s, Q => rfl
  | .ret a, s, Q => rfl
  | .ask t k, s, Q => by
    show M.step b m t s (fun a r x y s' => ((k a r x y).bind f).wp M b m R s' Q) R = M.step b m t s _ R
    congr 1
    funext a r x y s'
    exact wp_bind f (k a r x y) s' Q
theorem wp_mono {α : Type} {M : Opn} {b m : Int} {R R' : Str → Int → M.S → Prop} {Q Q' : α → M.S → Prop} (h1 : ∀ a s, Q a s → Q' a s) (h2 : ∀ z n s, R z n s → R' z n s) : ∀ (p : Prog α) (s : M.S), p.wp M b m R s Q → p.wp M b m R' s Q'
  | .out, s, h => h.elim
  | .ret a, s, h => h1 a s h
  | .ask t k, s, h => M.mono (fun a r x y s' _ h => wp_mono h1 h2 (k a r x y) s' h) h2 h
theorem bind_assoc {α β γ : Type} (f : α → Prog β) (g : β → Prog γ) : ∀ p : Prog α, (p.bind f).bind g = p.bind fun a => (f a).bind g
  | .out => rfl
  | .ret a => rfl
  | .ask t k => by
    show Prog.ask t _ = Prog.ask t _
    congr 1
    funext a r x y
    exact bind_assoc f g (k a r x y)
/-! ### a recorder's run -/
inductive RunR (b m : Int) {α : Type} : Prog α → List Ent → α → Prop
  | ret (a : α) : RunR b m (.ret a) [] a
  | opn {k : Str} {r : List Int} {x y : PT} {K : Str → List Int → PT → PT → Prog α} {es : List Ent} {a : α} : NdOk k r → RunR b m (K k r x y) es a → RunR b m (.ask (.nod k r x y true) K) es a
  | clo {k : Str} {r : List Int} {x y : PT} {K : Str → List Int → PT → PT → Prog α} {es : List Ent} {a : α} : NdOk k r → (⟨k, r, x.lnk b m, y.lnk b m⟩ : Ent).Ok → RunR b m (K k r x y) es a → RunR b m (.ask (.nod k r x y false) K) (⟨k, r, x.lnk b m, y.lnk b m⟩ :: es) a
theorem RunR.bind {b m : Int} {α β : Type} {p : Prog α} {f : α → Prog β} {es fs : List Ent} {a : α} {c : β} (h : RunR b m p es a) (k : RunR b m (f a) fs c) : RunR b m (p.bind f) (es ++ fs) c := by
  induction h with
  | ret a => exact k
  | opn h1 _ ih => exact .opn h1 (ih k)
  | clo h1 h2 _ ih => exact .clo h1 h2 (ih k)
theorem RunR.wp {b m : Int} {α : Type} {p : Prog α} {es : List Ent} {a : α} (h : RunR b m p es a) : ∀ {s : List Ent} {Q : α → List Ent → Prop} {R : Str → Int → List Ent → Prop}, s.length + es.length ≤ 100000 → Q a (s ++ es) → p.wp MRec b m R s Q := by
  induction h with
  | ret a =>
    intro s Q R hl q
    rw [List.append_nil] at q
    exact q
  | opn h1 _ ih =>
    intro s Q R hl q
    exact ⟨h1, by omega, ih hl q⟩
  | clo h1 h2 _ ih =>
    intro s Q R hl q
    rw [List.length_cons] at hl
    refine ⟨h1, by omega, ih (by show (s ++ [_]).length + _ ≤ _; rw [List.length_append]; show s.length + 1 + _ ≤ _; omega) ?_⟩
    show Q _ ((s ++ [_]) ++ _)
    rw [List.append_assoc]
    exact q
/-! ### closed trees -/
theorem okD_key {k : Str} (h : KeyOk k) : okD (.str k) := okDs_of fun c hc => by
  have h2 := h.2.2 c hc
  have h3 : ∀ c ∈ (letS : Str).cps.toList, c < 128 := by decide +kernel
  exact h3 c h2
theorem nd_ok {k : Str} {r : List Int} (h : KeyOk k ∧ RowOk r) : NdOk k r := by
  obtain ⟨hk, hr⟩ := h
  exact ⟨okD_key hk, by have := hk.2.1; omega, by have := hr.2.1; omega⟩
theorem pt_node (b m : Int) (k : Str) (r : List Int) (x y : Tree) : ¬ ((toPT b m (.node k r x y)).lnk b m).c = 0 := by
  rw [toPT_lnk, lnk_c]
  show ¬ ((x.size + y.size + 1 : Nat) : Int) = 0
  omega
theorem run_node {b m : Int} (hr : RuleOk b m) {α : Type} {k : Str} {r : List Int} {x y : Tree} {K : Str → List Int → PT → PT → Prog α} {es : List Ent} {a : α} (ht : TreeOk (.node k r x y)) (h : RunR b m (K k r (toPT b m x) (toPT b m y)) es a) :
    RunR b m (.ask (toPT b m (.node k r x y)) K) (entOf b m k r x y :: es) a := by
  have e := ent_ok hr ht
  have e2 : entOf b m k r x y = ⟨k, r, (toPT b m x).lnk b m, (toPT b m y).lnk b m⟩ := by rw [toPT_lnk, toPT_lnk]; rfl
  rw [e2] at e ⊢
  exact .clo (nd_ok ht.1) e h

theorem Sh.link {n : Nat} (l : Lnk) : Sh (n + 2) (linkD l) := ⟨rfl, by show 2 ≤ n + 2; omega⟩
theorem Sh.ent {n : Nat} {e : Ent} (h : ∀ c ∈ e.key.cps.toList, c < 128) : Sh (n + 3) (entD e) := Sh.tuple fun x hx => by
  simp only [entDs, List.mem_cons, List.not_mem_nil, or_false] at hx
  rcases hx with e | e | e | e <;> rw [e]
  · exact Sh.str h
  · exact (Sh.row 0 _).mono (by omega)
  · exact Sh.link _
  · exact Sh.link _
theorem Sh.ents {n : Nat} {es : List Ent} (h : ∀ e ∈ es, ∀ c ∈ e.key.cps.toList, c < 128) : Sh (n + 4) (.list (es.map entD)) := Sh.list fun x hx => by
  obtain ⟨e, he, rfl⟩ := List.mem_map.mp hx
  exact Sh.ent (h e he)
theorem eqvR {d : PyData} (h : okD d) : PyData.eqv d d = true := SeqAt.eqv_refl d h.lay
theorem okD_tb {tb : Tab} (h : KeysOk tb) : okD (tabD tb) := (Sh.tab (n := 0) fun p hp => (h p hp).1).ok (by decide)
theorem ifO {c : Bool} {A B : Prop} (h : c = false) (b : B) : if c = true then A else B := by
  rw [h]
  exact b
/-- a comparison of equal data that goes on where they are equal -/
theorem neq_go {d : PyData} {A B : Prop} (h : okD d) (b : B) : okD d ∧ okD d ∧ (if (!PyData.eqv d d) = true then A else B) := ⟨h, h, ifO (by rw [eqvR h]; rfl) b⟩
theorem kbl1 : kitB "list" "list" = some true := by decide +kernel
theorem kbl2 : kitB "tuple" "list" = some false := by decide +kernel
theorem kbl3 : kitB "int" "list" = some false := by decide +kernel
theorem kbl4 : kitB "str" "list" = some false := by decide +kernel
theorem kbl5 : kitB "NoneType" "list" = some false := by decide +kernel
theorem kbl6 : kitB "bool" "list" = some false := by decide +kernel

/-! ### splices as programs -/
def Gap.key : Gap → Str
  | .lo k _ _ => k
  | .hi k _ _ => k
def gWay (b m : Int) (key : Str) : Nat → PT → List Gap → Prog (List Gap × PT)
  | 0, _, _ => .out
  | n + 1, t, gs => if (t.lnk b m).c = 0 then .ret (gs, t) else .ask t fun k r x y => if k = key then .ret (gs, .nod k r x y true) else
    if slt key k = true then gWay b m key n x (gs ++ [.hi k r y]) else gWay b m key n y (gs ++ [.lo k r x])
def foldGap (key : Str) (p : PT × PT) (g : Gap) : PT × PT := if slt key g.key = true then (p.1, g.put true p.2) else (g.put true p.1, p.2)
def foldGaps (key : Str) (gs : List Gap) (p : PT × PT) : PT × PT := gs.reverse.foldl (foldGap key) p
abbrev Spl3 := PT × Option (List Int) × PT
def gCut (b m : Int) (key : Str) (w : List Gap × PT) : Prog Spl3 :=
  if (w.2.lnk b m).c = 0 then .ret ((foldGaps key w.1 (.hid (lnk0 b m) false, .hid (lnk0 b m) false)).1, none, (foldGaps key w.1 (.hid (lnk0 b m) false, .hid (lnk0 b m) false)).2) else
    match w.2 with
    | .hid _ _ => .out
    | .nod _ r x y _ => .ret ((foldGaps key w.1 (x, y)).1, some r, (foldGaps key w.1 (x, y)).2)
def gSplit (b m : Int) (key : Str) (n : Nat) (t : PT) : Prog Spl3 := (gWay b m key n t []).bind (gCut b m key)
def gMerge (b m : Int) : Nat → PT → PT → List Gap → Prog PT
  | 0, _, _, _ => .out
  | n + 1, a, c, gs => if (a.lnk b m).c = 0 then .ret (compl true gs c) else if (c.lnk b m).c = 0 then .ret (compl true gs a) else
    .ask a fun k r x y => .ask c fun k2 r2 x2 y2 => if abv k k2 = true then gMerge b m n y (.nod k2 r2 x2 y2 true) (gs ++ [.lo k r x]) else gMerge b m n (.nod k r x y true) x2 (gs ++ [.hi k2 r2 y2])
def gDown (b m : Int) (key : Str) : Nat → PT → List Gap → Prog (List Gap × PT)
  | 0, _, _ => .out
  | n + 1, t, gs => if (t.lnk b m).c = 0 then .ret (gs, t) else .ask t fun k r x y => if k = key ∨ abv key k = true then .ret (gs, .nod k r x y true) else
    if slt key k = true then gDown b m key n x (gs ++ [.hi k r y]) else gDown b m key n y (gs ++ [.lo k r x])
def gWith (b m : Int) (key : Str) (row : List Int) (n : Nat) (t : PT) : Prog PT :=
  (gDown b m key n t []).bind fun w => (gSplit b m key n w.2).bind fun p => .ret (compl true w.1 (.nod key row p.1 p.2.2 true))
def gRest (b m : Int) (n : Nat) (w : List Gap × PT) : Prog PT :=
  if (w.2.lnk b m).c = 0 then .ret (compl true w.1 w.2) else
    match w.2 with
    | .hid _ _ => .out
    | .nod _ _ x y _ => (gMerge b m n x y []).bind fun z => .ret (compl true w.1 z)
def gWithout (b m : Int) (key : Str) (n : Nat) (t : PT) : Prog PT := (gWay b m key n t []).bind (gRest b m n)
def gSpl (b m : Int) (n : Nat) (t : PT) : Chg → Prog PT
  | .put k r => gWith b m k r n t
  | .rem k => gWithout b m k n t
/-! .. all gaps fit -/
section
variable {M : Opn} {b m : Int} {R : Str → Int → M.S → Prop}
theorem wp_iteS {α : Type} {c : Prop} [Decidable c] {p q : Prog α} {s : M.S} {Q : α → M.S → Prop} : (if c then p else q).wp M b m R s Q = if c then p.wp M b m R s Q else q.wp M b m R s Q := by
  split <;> rfl
def GsFit (gs : List Gap) : Prop := ∀ g ∈ gs, g.Fit ∧ okD (.str g.key)
theorem GsFit.snoc {gs : List Gap} {g : Gap} (h : GsFit gs) (k : g.Fit ∧ okD (.str g.key)) : GsFit (gs ++ [g]) := fun x hx => by
  rcases List.mem_append.mp hx with hx | hx
  · exact h x hx
  · rw [List.mem_singleton.mp hx]
    exact k
theorem hi_fit {k : Str} {r : List Int} {x y : PT} (h : NdOk k r) : (Gap.hi k r y).Fit ∧ okD (.str (Gap.hi k r y).key) := ⟨⟨h.2.1, h.2.2⟩, h.1⟩
theorem lo_fit {k : Str} {r : List Int} {x y : PT} (h : NdOk k r) : (Gap.lo k r x).Fit ∧ okD (.str (Gap.lo k r x).key) := ⟨⟨h.2.1, h.2.2⟩, h.1⟩
theorem way_fit {key : Str} {Q : List Gap × PT → M.S → Prop} : ∀ (n : Nat) (t : PT) (gs : List Gap) (s : M.S), GsFit gs → (gWay b m key n t gs).wp M b m R s Q → (gWay b m key n t gs).wp M b m R s fun w s' => GsFit w.1 ∧ Q w s'
  | 0, _, _, _, _, h => h
  | n + 1, t, gs, s, hg, h => by
    unfold gWay at h ⊢
    rw [wp_iteS] at h ⊢
    by_cases hc : (t.lnk b m).c = 0
    · rw [if_pos hc] at h ⊢
      exact ⟨hg, h⟩
    · rw [if_neg hc] at h ⊢
      refine M.mono (fun k r x y s' hn h => ?_) (fun _ _ _ h => h) h
      rw [wp_iteS] at h ⊢
      by_cases hk : k = key
      · rw [if_pos hk] at h ⊢
        exact ⟨hg, h⟩
      · rw [if_neg hk] at h ⊢
        rw [wp_iteS] at h ⊢
        by_cases hs : slt key k = true
        · rw [if_pos hs] at h ⊢
          exact way_fit n x _ s' (hg.snoc (hi_fit (x := x) hn)) h
        · rw [if_neg hs] at h ⊢
          exact way_fit n y _ s' (hg.snoc (lo_fit (y := y) hn)) h
theorem down_fit {key : Str} {Q : List Gap × PT → M.S → Prop} : ∀ (n : Nat) (t : PT) (gs : List Gap) (s : M.S), GsFit gs → (gDown b m key n t gs).wp M b m R s Q → (gDown b m key n t gs).wp M b m R s fun w s' => GsFit w.1 ∧ Q w s'
  | 0, _, _, _, _, h => h
  | n + 1, t, gs, s, hg, h => by
    unfold gDown at h ⊢
    rw [wp_iteS] at h ⊢
    by_cases hc : (t.lnk b m).c = 0
    · rw [if_pos hc] at h ⊢
      exact ⟨hg, h⟩
    · rw [if_neg hc] at h ⊢
      refine M.mono (fun k r x y s' hn h => ?_) (fun _ _ _ h => h) h
      rw [wp_iteS] at h ⊢
      by_cases hk : k = key ∨ abv key k = true
      · rw [if_pos hk] at h ⊢
        exact ⟨hg, h⟩
      · rw [if_neg hk] at h ⊢
        rw [wp_iteS] at h ⊢
        by_cases hs : slt key k = true
        · rw [if_pos hs] at h ⊢
          exact down_fit n x _ s' (hg.snoc (hi_fit (x := x) hn)) h
        · rw [if_neg hs] at h ⊢
          exact down_fit n y _ s' (hg.snoc (lo_fit (y := y) hn)) h
end

/-! ### splices of trees -/
def tSplit (key : Str) : Tree → Tree × Option (List Int) × Tree
  | .nil => (.nil, none, .nil)
  | .node k r x y => if k = key then (x, some r, y) else
    if slt key k = true then ((tSplit key x).1, (tSplit key x).2.1, .node k r (tSplit key x).2.2 y) else (.node k r x (tSplit key y).1, (tSplit key y).2.1, (tSplit key y).2.2)
def tMerge : Nat → Tree → Tree → Tree
  | 0, _, _ => .nil
  | _ + 1, .nil, c => c
  | _ + 1, .node k r x y, .nil => .node k r x y
  | n + 1, .node k r x y, .node k2 r2 x2 y2 => if abv k k2 = true then .node k r x (tMerge n y (.node k2 r2 x2 y2)) else .node k2 r2 (tMerge n (.node k r x y) x2) y2
def tWith (key : Str) (row : List Int) : Tree → Tree
  | .nil => .node key row .nil .nil
  | .node k r x y => if k = key ∨ abv key k = true then .node key row (tSplit key (.node k r x y)).1 (tSplit key (.node k r x y)).2.2 else
    if slt key k = true then .node k r (tWith key row x) y else .node k r x (tWith key row y)
def tWithout (n : Nat) (key : Str) : Tree → Tree
  | .nil => .nil
  | .node k r x y => if k = key then tMerge n x y else if slt key k = true then .node k r (tWithout n key x) y else .node k r x (tWithout n key y)
/-! the order -/
theorem no_lt_lt {a c : Str} (h : a ≠ c) (k : ¬ slt c a = true) : Lt a c := by
  rcases Lt.tri a c with z | z | z
  · exact z
  · exact absurd z h
  · exact absurd (slt_iff.mpr z) k
theorem abv_iff {a c : Str} : abv a c = true ↔ rk c < rk a ∨ (rk a = rk c ∧ Lt a c) := by
  unfold abv
  rw [Bool.or_eq_true, Bool.and_eq_true, decide_eq_true_iff, decide_eq_true_iff, slt_iff]
theorem abv_trans {a c e : Str} (h : abv a c = true) (k : abv c e = true) : abv a e = true := by
  rw [abv_iff] at h k ⊢
  rcases h with h | ⟨h, h2⟩ <;> rcases k with k | ⟨k, k2⟩
  · exact .inl (by omega)
  · exact .inl (by omega)
  · exact .inl (by omega)
  · exact .inr ⟨by omega, h2.trans k2⟩
theorem abv_total {a c : Str} (h : a ≠ c) (k : ¬ abv a c = true) : abv c a = true := by
  rw [abv_iff] at k ⊢
  by_cases e : rk a = rk c
  · refine .inr ⟨e.symm, ?_⟩
    rcases Lt.tri a c with z | z | z
    · exact absurd (.inr ⟨e, z⟩) k
    · exact absurd z h
    · exact z
  · exact .inl (by
      have : ¬ rk c < rk a := fun z => k (.inl z)
      omega)
/-! heaps -/
def Tree.Heap : Tree → Prop
  | .nil => True
  | .node k _ x y => (∀ p ∈ x.rows, abv k p.1 = true) ∧ (∀ p ∈ y.rows, abv k p.1 = true) ∧ x.Heap ∧ y.Heap
theorem rows_node (k : Str) (r : List Int) (x y : Tree) : (Tree.node k r x y).rows = x.rows ++ (k, r) :: y.rows := rfl
theorem split_sub (key : Str) : ∀ t : Tree, (∀ p ∈ (tSplit key t).1.rows, p ∈ t.rows) ∧ (∀ p ∈ (tSplit key t).2.2.rows, p ∈ t.rows)
  | .nil => ⟨fun p h => h, fun p h => h⟩
  | .node k r x y => by
    unfold tSplit
    rw [rows_node]
    split
    · exact ⟨fun p h => List.mem_append_left _ h, fun p h => List.mem_append_right _ (List.mem_cons_of_mem _ h)⟩
    · split
      · obtain ⟨h1, h2⟩ := split_sub key x
        refine ⟨fun p h => List.mem_append_left _ (h1 p h), fun p h => ?_⟩
        rcases List.mem_append.mp h with h | h
        · exact List.mem_append_left _ (h2 p h)
        · exact List.mem_append_right _ h
      · obtain ⟨h1, h2⟩ := split_sub key y
        refine ⟨fun p h => ?_, fun p h => List.mem_append_right _ (List.mem_cons_of_mem _ (h2 p h))⟩
        rcases List.mem_append.mp h with h | h
        · exact List.mem_append_left _ h
        · rcases List.mem_cons.mp h with h | h
          · exact List.mem_append_right _ (by rw [h]; exact List.mem_cons_self)
          · exact List.mem_append_right _ (List.mem_cons_of_mem _ (h1 p h))
theorem split_heap (key : Str) : ∀ t : Tree, t.Heap → (tSplit key t).1.Heap ∧ (tSplit key t).2.2.Heap
  | .nil, h => ⟨h, h⟩
  | .node k r x y, ⟨h1, h2, h3, h4⟩ => by
    unfold tSplit
    split
    · exact ⟨h3, h4⟩
    · split
      · obtain ⟨i1, i2⟩ := split_heap key x h3
        exact ⟨i1, fun p hp => h1 p ((split_sub key x).2 p hp), h2, i2, h4⟩
      · obtain ⟨i1, i2⟩ := split_heap key y h4
        exact ⟨⟨h1, fun p hp => h2 p ((split_sub key y).1 p hp), h3, i1⟩, i2⟩
theorem below_hd {key k : Str} {r : List Int} {a c : Tab} (h : ∀ p ∈ c, Lt k p.1) (hk : Lt key k) : below key (a ++ (k, r) :: c) = below key a := by
  rw [below_app, below_none (tb := (k, r) :: c), List.append_nil]
  intro p hp
  rcases List.mem_cons.mp hp with e | hp
  · rw [e]; exact hk.asym
  · exact (hk.trans (h p hp)).asym
theorem above_hd {key k : Str} {r : List Int} {a c : Tab} (h : ∀ p ∈ a, Lt p.1 k) (hk : Lt k key) : above key (a ++ (k, r) :: c) = above key c := by
  rw [above_app, above_none (tb := a), List.nil_append, above_cons, if_neg (slt_no.mpr hk.asym)]
  · rfl
  · exact fun p hp => ((h p hp).trans hk).asym
theorem above_all {k : Str} {tb : Tab} (h : ∀ p ∈ tb, Lt k p.1) : above k tb = tb := List.filter_eq_self.mpr fun p hp => decide_eq_true (show k.cps.toList < p.1.cps.toList from h p hp)
theorem split_rows (key : Str) : ∀ t : Tree, t.Bst → (tSplit key t).1.rows = below key t.rows ∧ (tSplit key t).2.1 = look t.rows key ∧ (tSplit key t).2.2.rows = above key t.rows
  | .nil, _ => ⟨rfl, rfl, rfl⟩
  | .node k r x y, h => by
    obtain ⟨hx, hy, h1, h2⟩ := h.node
    unfold tSplit
    rw [rows_node]
    split
    · rename_i e
      subst e
      refine ⟨?_, ?_, ?_⟩
      · rw [below_app, below_all h1, below_none (tb := (k, r) :: y.rows), List.append_nil]
        intro p hp
        rcases List.mem_cons.mp hp with e | hp
        · rw [e]; exact Lt.irrefl
        · exact (h2 p hp).asym
      · rw [look_app, look_none (fun p hp => (h1 p hp).ne), look_cons, if_pos rfl]
        rfl
      · rw [above_app, above_none (tb := x.rows) (fun p hp => (h1 p hp).asym), above_cons, if_neg (slt_no.mpr Lt.irrefl), above_all h2]
        rfl
    · rename_i hne
      split
      · rename_i hs
        have hk := slt_iff.mp hs
        obtain ⟨i1, i2, i3⟩ := split_rows key x hx
        refine ⟨?_, ?_, ?_⟩
        · rw [below_hd h2 hk]
          exact i1
        · rw [look_app, look_none (tb := (k, r) :: y.rows), ← i2]
          · cases (tSplit key x).2.1 <;> rfl
          · intro p hp
            rcases List.mem_cons.mp hp with e | hp
            · rw [e]; exact hne
            · exact (hk.trans (h2 p hp)).ne.symm
        · show (tSplit key x).2.2.rows ++ (k, r) :: y.rows = _
          rw [above_app, ← i3, above_cons, if_pos hs, above_all (fun p hp => hk.trans (h2 p hp))]
          rfl
      · rename_i hs
        have hk := no_lt_lt hne hs
        obtain ⟨i1, i2, i3⟩ := split_rows key y hy
        refine ⟨?_, ?_, ?_⟩
        · show x.rows ++ (k, r) :: (tSplit key y).1.rows = _
          rw [below_app, below_all (fun p hp => (h1 p hp).trans hk), below_cons, if_pos (slt_iff.mpr hk), i1]
          rfl
        · rw [look_app, look_none (fun p hp => ((h1 p hp).trans hk).ne), look_cons, if_neg hne, i2]
          rfl
        · rw [above_hd h1 hk]
          exact i3
theorem merge_rows : ∀ (n : Nat) (a c : Tree), a.size + c.size < n → (tMerge n a c).rows = a.rows ++ c.rows
  | 0, _, _, h => absurd h (by omega)
  | _ + 1, .nil, c, _ => rfl
  | _ + 1, .node k r x y, .nil, _ => (List.append_nil _).symm
  | n + 1, .node k r x y, .node k2 r2 x2 y2, h => by
    have h : (x.size + y.size + 1) + (x2.size + y2.size + 1) < n + 1 := h
    unfold tMerge
    split
    · rw [rows_node, merge_rows n y _ (by show y.size + (x2.size + y2.size + 1) < n; omega), rows_node k r x y, List.append_assoc]
      rfl
    · rw [rows_node, merge_rows n _ x2 (by show (x.size + y.size + 1) + x2.size < n; omega), rows_node k2 r2 x2 y2, List.append_assoc]
theorem merge_heap : ∀ (n : Nat) (a c : Tree), a.size + c.size < n → a.Heap → c.Heap → (∀ p ∈ a.rows, ∀ q ∈ c.rows, p.1 ≠ q.1) → (tMerge n a c).Heap
  | 0, _, _, h, _, _, _ => absurd h (by omega)
  | _ + 1, .nil, c, _, _, h, _ => h
  | _ + 1, .node k r x y, .nil, _, h, _, _ => h
  | n + 1, .node k r x y, .node k2 r2 x2 y2, h, ha, hc, hd => by
    have h : (x.size + y.size + 1) + (x2.size + y2.size + 1) < n + 1 := h
    obtain ⟨a1, a2, a3, a4⟩ := id ha
    obtain ⟨c1, c2, c3, c4⟩ := id hc
    have m1 : (k, r) ∈ (Tree.node k r x y).rows := List.mem_append_right _ List.mem_cons_self
    have m2 : (k2, r2) ∈ (Tree.node k2 r2 x2 y2).rows := List.mem_append_right _ List.mem_cons_self
    unfold tMerge
    split
    · rename_i hab
      have hs : y.size + (Tree.node k2 r2 x2 y2).size < n := by show y.size + (x2.size + y2.size + 1) < n; omega
      refine ⟨a1, fun p hp => ?_, a3, merge_heap n y _ hs a4 hc fun p hp q hq => hd p (List.mem_append_right _ (List.mem_cons_of_mem _ hp)) q hq⟩
      rw [merge_rows n y _ hs] at hp
      rcases List.mem_append.mp hp with hp | hp
      · exact a2 p hp
      · rcases List.mem_append.mp hp with hp | hp
        · exact abv_trans hab (c1 p hp)
        · rcases List.mem_cons.mp hp with e | hp
          · rw [e]; exact hab
          · exact abv_trans hab (c2 p hp)
    · rename_i hab
      have hba := abv_total (hd _ m1 _ m2) hab
      have hs : (Tree.node k r x y).size + x2.size < n := by show (x.size + y.size + 1) + x2.size < n; omega
      refine ⟨fun p hp => ?_, c2, merge_heap n _ x2 hs ha c3 fun p hp q hq => hd p hp q (List.mem_append_left _ hq), c4⟩
      rw [merge_rows n _ x2 hs] at hp
      rcases List.mem_append.mp hp with hp | hp
      · rcases List.mem_append.mp hp with hp | hp
        · exact abv_trans hba (a1 p hp)
        · rcases List.mem_cons.mp hp with e | hp
          · rw [e]; exact hba
          · exact abv_trans hba (a2 p hp)
      · exact c1 p hp
theorem with_rows (key : Str) (row : List Int) : ∀ t : Tree, t.Bst → (tWith key row t).rows = below key t.rows ++ (key, row) :: above key t.rows
  | .nil, _ => rfl
  | .node k r x y, h => by
    obtain ⟨hx, hy, h1, h2⟩ := h.node
    unfold tWith
    split
    · obtain ⟨i1, _, i3⟩ := split_rows key _ h
      rw [rows_node, i1, i3]
    · rename_i hne
      have hne : k ≠ key := fun e => hne (.inl e)
      split
      · rename_i hs
        have hk := slt_iff.mp hs
        rw [rows_node, rows_node, with_rows key row x hx, below_hd h2 hk, above_app, above_cons, if_pos hs, above_all (fun p hp => hk.trans (h2 p hp)), List.append_assoc]
        rfl
      · rename_i hs
        have hk := no_lt_lt hne hs
        rw [rows_node, rows_node, with_rows key row y hy, above_hd h1 hk, below_app, below_all (fun p hp => (h1 p hp).trans hk), below_cons, if_pos (slt_iff.mpr hk), List.append_assoc]
        rfl
theorem with_heap (key : Str) (row : List Int) : ∀ t : Tree, t.Bst → t.Heap → (tWith key row t).Heap
  | .nil, _, _ => ⟨fun p h => (by cases h), fun p h => (by cases h), trivial, trivial⟩
  | .node k r x y, h, hh => by
    obtain ⟨hx, hy, h1, h2⟩ := h.node
    obtain ⟨a1, a2, a3, a4⟩ := id hh
    unfold tWith
    split
    · rename_i hc
      obtain ⟨s1, s2⟩ := split_heap key _ hh
      obtain ⟨i1, _, i3⟩ := split_rows key _ h
      have all : ∀ p ∈ (Tree.node k r x y).rows, p.1 ≠ key → abv key p.1 = true := fun p hp hpk => by
        rcases hc with e | hc
        · subst e
          rcases List.mem_append.mp hp with hp | hp
          · exact a1 p hp
          · rcases List.mem_cons.mp hp with e | hp
            · exact absurd (by rw [e]) hpk
            · exact a2 p hp
        · rcases List.mem_append.mp hp with hp | hp
          · exact abv_trans hc (a1 p hp)
          · rcases List.mem_cons.mp hp with e | hp
            · rw [e]; exact hc
            · exact abv_trans hc (a2 p hp)
      refine ⟨fun p hp => ?_, fun p hp => ?_, s1, s2⟩
      · refine all p ((split_sub key _).1 p hp) ?_
        rw [i1] at hp
        have : Lt p.1 key := of_decide_eq_true (p := p.1.cps.toList < key.cps.toList) (List.mem_filter.mp hp).2
        exact this.ne
      · refine all p ((split_sub key _).2 p hp) ?_
        rw [i3] at hp
        have : Lt key p.1 := of_decide_eq_true (p := key.cps.toList < p.1.cps.toList) (List.mem_filter.mp hp).2
        exact this.ne.symm
    · rename_i hne
      have hne1 : k ≠ key := fun e => hne (.inl e)
      have hab : abv k key = true := abv_total (fun e => hne1 e.symm) fun z => hne (.inr z)
      have rows_of : ∀ (t : Tree), t.Bst → (∀ p ∈ t.rows, abv k p.1 = true) → ∀ p ∈ (tWith key row t).rows, abv k p.1 = true := fun t ht hp p hp2 => by
        rw [with_rows key row t ht] at hp2
        rcases List.mem_append.mp hp2 with hp2 | hp2
        · exact hp p (List.mem_filter.mp hp2).1
        · rcases List.mem_cons.mp hp2 with e | hp2
          · rw [e]; exact hab
          · exact hp p (List.mem_filter.mp hp2).1
      split
      · exact ⟨rows_of x hx a1, a2, with_heap key row x hx a3, a4⟩
      · exact ⟨a1, rows_of y hy a2, a3, with_heap key row y hy a4⟩
theorem without_rows (n : Nat) (key : Str) : ∀ t : Tree, t.size < n → t.Bst → (tWithout n key t).rows = below key t.rows ++ above key t.rows
  | .nil, _, _ => rfl
  | .node k r x y, hn, h => by
    obtain ⟨hx, hy, h1, h2⟩ := h.node
    have hn : x.size + y.size + 1 < n := hn
    unfold tWithout
    split
    · rename_i e
      obtain ⟨i1, _, i3⟩ := split_rows key _ h
      unfold tSplit at i1 i3
      rw [if_pos e] at i1 i3
      rw [merge_rows n x y (by omega), ← i1, ← i3]
    · rename_i hne
      split
      · rename_i hs
        have hk := slt_iff.mp hs
        rw [rows_node, rows_node, without_rows n key x (by omega) hx, below_hd h2 hk, above_app, above_cons, if_pos hs, above_all (fun p hp => hk.trans (h2 p hp)), List.append_assoc]
        rfl
      · rename_i hs
        have hk := no_lt_lt hne hs
        rw [rows_node, rows_node, without_rows n key y (by omega) hy, above_hd h1 hk, below_app, below_all (fun p hp => (h1 p hp).trans hk), below_cons, if_pos (slt_iff.mpr hk), List.append_assoc]
        rfl
theorem without_heap (n : Nat) (key : Str) : ∀ t : Tree, t.size < n → t.Bst → t.Heap → (tWithout n key t).Heap
  | .nil, _, _, _ => trivial
  | .node k r x y, hn, h, hh => by
    obtain ⟨hx, hy, h1, h2⟩ := h.node
    have hn : x.size + y.size + 1 < n := hn
    obtain ⟨a1, a2, a3, a4⟩ := id hh
    have rows_of : ∀ (t : Tree), t.size < n → t.Bst → (∀ p ∈ t.rows, abv k p.1 = true) → ∀ p ∈ (tWithout n key t).rows, abv k p.1 = true := fun t hn ht hp p hp2 => by
      rw [without_rows n key t hn ht] at hp2
      rcases List.mem_append.mp hp2 with hp2 | hp2
      · exact hp p (List.mem_filter.mp hp2).1
      · exact hp p (List.mem_filter.mp hp2).1
    unfold tWithout
    split
    · exact merge_heap n x y (by omega) a3 a4 fun p hp q hq => ((h1 p hp).trans (h2 q hq)).ne
    · split
      · exact ⟨rows_of x (by omega) hx a1, a2, without_heap n key x (by omega) hx a3, a4⟩
      · exact ⟨a1, rows_of y (by omega) hy a2, a3, without_heap n key y (by omega) hy a4⟩
/-! one tree for a table -/
theorem topI_max (tb : Tab) : ∀ n, ∀ i, i < n → rk (keyAt tb i) ≤ rk (keyAt tb (topI tb n)) ∧ (i < topI tb n → rk (keyAt tb i) < rk (keyAt tb (topI tb n)))
  | 0, i, h => absurd h (by omega)
  | n + 1, i, h => by
    have ih := topI_max tb n
    show rk (keyAt tb i) ≤ rk (keyAt tb (if rk (keyAt tb (topI tb n)) < rk (keyAt tb n) then n else topI tb n)) ∧ (i < (if rk (keyAt tb (topI tb n)) < rk (keyAt tb n) then n else topI tb n) → rk (keyAt tb i) < rk (keyAt tb (if rk (keyAt tb (topI tb n)) < rk (keyAt tb n) then n else topI tb n)))
    by_cases hc : rk (keyAt tb (topI tb n)) < rk (keyAt tb n)
    · rw [if_pos hc]
      by_cases hi : i < n
      · have := (ih i hi).1
        exact ⟨by omega, fun _ => by omega⟩
      · have e : i = n := by omega
        subst e
        exact ⟨Int.le_refl _, fun z => absurd z (by omega)⟩
    · rw [if_neg hc]
      by_cases hi : i < n
      · exact ih i hi
      · have e : i = n := by omega
        subst e
        refine ⟨by omega, fun z => ?_⟩
        have : topI tb i ≤ i := by
          cases i with
          | zero => exact Nat.le_refl _
          | succ j => have := topI_lt tb j; omega
        omega
theorem keyAt_mem {tb : Tab} {i : Nat} (h : i < tb.length) : ∃ p ∈ tb, keyAt tb i = p.1 := ⟨tb[i], List.getElem_mem h, key_at (List.getElem?_eq_getElem h)⟩
theorem heap_tree : ∀ (n : Nat) (t : Tree), t.size < n → t.Bst → t.Heap → treeOf t.rows = t
  | 0, _, h, _, _ => absurd h (by omega)
  | _ + 1, .nil, _, _, _ => rfl
  | n + 1, .node k r x y, hn, h, ⟨a1, a2, a3, a4⟩ => by
    obtain ⟨hx, hy, h1, h2⟩ := h.node
    have hn : x.size + y.size + 1 < n + 1 := hn
    rw [rows_node]
    generalize htb : x.rows ++ (k, r) :: y.rows = tb
    have hlen : tb.length = x.rows.length + (y.rows.length + 1) := by rw [← htb, List.length_append, List.length_cons]
    have hp : tb[x.rows.length]? = some (k, r) := by
      rw [← htb, List.getElem?_append_right (Nat.le_refl _), Nat.sub_self]
      rfl
    have hkp : keyAt tb x.rows.length = k := key_at hp
    have hne : tb ≠ [] := fun e => by
      rw [e, List.length_nil] at hlen
      omega
    have hj := topI_in hne
    have mx := topI_max tb tb.length
    have lo : ∀ i, i < x.rows.length → rk (keyAt tb i) < rk k := fun i hi => by
      have e : tb[i]? = some x.rows[i] := by
        rw [← htb, List.getElem?_append_left hi]
        exact List.getElem?_eq_getElem hi
      rw [key_at e]
      have hm := List.getElem_mem hi
      rcases abv_iff.mp (a1 _ hm) with z | z
      · exact z
      · exact absurd z.2 (h1 _ hm).asym
    have hi : ∀ i, x.rows.length < i → i < tb.length → rk (keyAt tb i) ≤ rk k := fun i hi hl => by
      obtain ⟨j, rfl⟩ : ∃ j, i = x.rows.length + (j + 1) := ⟨i - x.rows.length - 1, by omega⟩
      have hjl : j < y.rows.length := by omega
      have e : tb[x.rows.length + (j + 1)]? = some y.rows[j] := by
        rw [← htb, List.getElem?_append_right (by omega), show x.rows.length + (j + 1) - x.rows.length = j + 1 by omega, List.getElem?_cons_succ]
        exact List.getElem?_eq_getElem hjl
      rw [key_at e]
      rcases abv_iff.mp (a2 _ (List.getElem_mem hjl)) with z | z
      · omega
      · omega
    have etop : topI tb tb.length = x.rows.length := by
      rcases Nat.lt_trichotomy (topI tb tb.length) x.rows.length with z | z | z
      · have := lo _ z
        have := (mx x.rows.length (by omega)).1
        rw [hkp] at this
        omega
      · exact z
      · have := hi _ z hj
        have := (mx x.rows.length (by omega)).2 z
        rw [hkp] at this
        omega
    have e2 : tb[topI tb tb.length]? = some (k, r) := by rw [etop]; exact hp
    rw [treeOf_node e2, etop]
    have t1 : tb.take x.rows.length = x.rows := by rw [← htb, List.take_left]
    have t2 : tb.drop (x.rows.length + 1) = y.rows := by
      rw [← htb, List.drop_append, List.drop_eq_nil_of_le (by omega), show x.rows.length + 1 - x.rows.length = 1 by omega]
      rfl
    rw [t1, t2, heap_tree n x (by omega) hx a3, heap_tree n y (by omega) hy a4]
theorem pair_sub {α : Type} {R : α → α → Prop} {xs ys : List α} (h : xs.Pairwise R) (k : ys.Sublist xs) : ys.Pairwise R := h.sublist k
theorem treeOf_heap : ∀ (n : Nat) (tb : Tab), tb.length < n → (tb.map (·.1)).Pairwise Lt → (treeOf tb).Heap
  | 0, _, h, _ => absurd h (by omega)
  | n + 1, tb, hn, hs => by
    by_cases hne : tb = []
    · subst hne
      trivial
    have hj := topI_in hne
    obtain ⟨p, hp, hpm⟩ := get_of hj
    have mx := topI_max tb tb.length
    have hkp := key_at hp
    rw [treeOf_node hp]
    have hst : ((tb.take (topI tb tb.length)).map (·.1)).Pairwise Lt := by
      rw [List.map_take]
      exact pair_sub hs (List.take_sublist _ _)
    have hsd : ((tb.drop (topI tb tb.length + 1)).map (·.1)).Pairwise Lt := by
      rw [List.map_drop]
      exact pair_sub hs (List.drop_sublist _ _)
    refine ⟨fun q hq => ?_, fun q hq => ?_, treeOf_heap n _ (by rw [List.length_take]; omega) hst, treeOf_heap n _ (by rw [List.length_drop]; omega) hsd⟩
    · rw [treeOf_rows] at hq
      obtain ⟨i, hi, e⟩ := List.mem_iff_getElem.mp hq
      rw [List.length_take] at hi
      rw [List.getElem_take] at e
      have e3 : tb[i]? = some q := by rw [← e]; exact List.getElem?_eq_getElem (by omega)
      have m := (mx i (by omega)).2 (by omega)
      rw [key_at e3, hkp] at m
      exact abv_iff.mpr (.inl m)
    · rw [treeOf_rows] at hq
      obtain ⟨i, hi, e⟩ := List.mem_iff_getElem.mp hq
      rw [List.length_drop] at hi
      rw [List.getElem_drop] at e
      have e3 : tb[topI tb tb.length + 1 + i]? = some q := by rw [← e]; exact List.getElem?_eq_getElem (by omega)
      have m := (mx (topI tb tb.length + 1 + i) (by omega)).1
      rw [key_at e3, hkp] at m
      refine abv_iff.mpr ?_
      by_cases z : rk q.1 < rk p.1
      · exact .inl z
      · refine .inr ⟨by omega, ?_⟩
        have hpl := List.getElem?_eq_some_iff.mp hp
        have hql := List.getElem?_eq_some_iff.mp e3
        have := List.pairwise_iff_getElem.mp hs (topI tb tb.length) (topI tb tb.length + 1 + i) (by rw [List.length_map]; omega) (by rw [List.length_map]; omega) (by omega)
        rw [List.getElem_map, List.getElem_map, hpl.2, hql.2] at this
        exact this
def tSpl (n : Nat) (t : Tree) : Chg → Tree
  | .put k r => tWith k r t
  | .rem k => tWithout n k t
theorem changed_sorted {tb : Tab} (hs : (tb.map (·.1)).Pairwise Lt) (ch : Chg) : ((changed tb ch).map (·.1)).Pairwise Lt := by
  unfold changed
  rw [List.map_append, List.map_append]
  have lb : ∀ k ∈ (below ch.key tb).map (·.1), Lt k ch.key := fun k hk => by
    obtain ⟨p, hp, rfl⟩ := List.mem_map.mp hk
    exact of_decide_eq_true (p := p.1.cps.toList < ch.key.cps.toList) (List.mem_filter.mp hp).2
  have la : ∀ k ∈ (above ch.key tb).map (·.1), Lt ch.key k := fun k hk => by
    obtain ⟨p, hp, rfl⟩ := List.mem_map.mp hk
    exact of_decide_eq_true (p := ch.key.cps.toList < p.1.cps.toList) (List.mem_filter.mp hp).2
  have lo : ∀ k ∈ ch.own.map (·.1), k = ch.key := fun k hk => by
    cases ch with
    | put k2 r => exact List.mem_singleton.mp hk
    | rem k2 => cases hk
  have so : (ch.own.map (·.1)).Pairwise Lt := by
    cases ch with
    | put k2 r => exact List.pairwise_singleton _ _
    | rem k2 => exact .nil
  refine List.pairwise_append.mpr ⟨List.pairwise_append.mpr ⟨pair_sub hs (List.filter_sublist.map _), so, fun a ha c hc => ?_⟩, pair_sub hs (List.filter_sublist.map _), fun a ha c hc => ?_⟩
  · rw [lo c hc]
    exact lb a ha
  · rcases List.mem_append.mp ha with ha | ha
    · exact (lb a ha).trans (la c hc)
    · rw [lo a ha]
      exact la c hc
/-- the splice of a table's tree is the tree of the changed table -/
theorem spl_tree {tb : Tab} (hs : (tb.map (·.1)).Pairwise Lt) (ch : Chg) {n : Nat} (hn : tb.length < n) : tSpl n (treeOf tb) ch = treeOf (changed tb ch) := by
  have hb := treeOf_bst hs
  have hh := treeOf_heap (tb.length + 1) tb (Nat.lt_succ_self _) hs
  have hz : (treeOf tb).size < n := Nat.lt_of_le_of_lt (treeOf_size tb) hn
  have er : (tSpl n (treeOf tb) ch).rows = changed tb ch := by
    cases ch with
    | put k r =>
      show (tWith k r (treeOf tb)).rows = below k tb ++ [(k, r)] ++ above k tb
      rw [with_rows k r _ hb, treeOf_rows, List.append_assoc]
      rfl
    | rem k =>
      show (tWithout n k (treeOf tb)).rows = below k tb ++ [] ++ above k tb
      rw [without_rows n k _ hz hb, treeOf_rows, List.append_nil]
  have hh2 : (tSpl n (treeOf tb) ch).Heap := by
    cases ch with
    | put k r => exact with_heap k r _ hb hh
    | rem k => exact without_heap n k _ hz hb hh
  have hb2 : (tSpl n (treeOf tb) ch).Bst := by
    unfold Tree.Bst
    rw [er]
    exact changed_sorted hs ch
  have := heap_tree _ _ (Nat.lt_succ_self _) hb2 hh2
  rw [er] at this
  exact this.symm

set_option hygiene false in
local macro_rules | `(tactic| walk_at "d") => `(tactic| simp -implicitDefEqProofs only [dSeqS, dNext, dDrop, dRet, dRetN, dIfS, dAsg, dAsgC, dgName, dgTup.eq_1, dgTup.eq_2, dgCons.eq_1, dgCons.eq_2, dgNil, dgSub, subK.eq_1, subK.eq_2, dVar, dVarF, dC, dOp, fII.eq_1, fII.eq_2, fIIc.eq_1, fIIc.eq_2, fAdd.eq_1, fAdd.eq_2, fAdd.eq_3, fAdd.eq_4, fAdd.eq_5, fAdd.eq_6, fCmp.eq_1, fCmp.eq_2, fCmp.eq_3, fEqD, fIsN.eq_1, fIsN.eq_2, isNon.eq_1, isNon.eq_2, rdV.eq_1, rdV.eq_2, rdV.eq_3, rdL.eq_1, rdL.eq_2, rdL.eq_3, dB, dAnd, dOr, dNot, dTru, dIf, dAndV, dOrV, dNotV, dChain, dNil, dCons, vals.eq_1, vals.eq_2, vals.eq_3, dTup, dLst, fIx.eq_1, fIx.eq_2, fIx.eq_3, fIx.eq_4, fIx.eq_5, dSl, dPart, dNoPart, dCB, fLen.eq_1, fLen.eq_2, fLen.eq_3, fLen.eq_4, fLen.eq_5, fInt.eq_1, fInt.eq_2, fInt.eq_3, fList.eq_1, fList.eq_2, rdS.eq_1, rdS.eq_2, rdS.eq_3, rdS.eq_4, fTup.eq_1, fTup.eq_2, fOrd.eq_1, fOrd.eq_2, fIsi.eq_1, fIsi.eq_2, tyD.eq_1, tyD.eq_2, tyD.eq_3, tyD.eq_4, tyD.eq_5, tyD.eq_6, tyD.eq_7, kb1, kb2, kb3, kb4, kb5, kb6, kb7, kb8, kb9, kb10, kb11, kb12, kb13, kb14, kb15, kb16, kb17, kb18, kb19, kb20, kb21, kb22, kb23, kb24, dSeq, seqK.eq_1, seqK.eq_2, seqK.eq_3, seqK.eq_4, seqK.eq_5, dRng1, dRng2, dRev, lstK.eq_1, lstK.eq_2, lstK.eq_3, dEnum, dZip, dBM, dBM0, fAppend.eq_1, fAppend.eq_2, fExtend.eq_1, fExtend.eq_2, fExtA.eq_1, fExtA.eq_2, fPop.eq_1, fPop.eq_2, dRevT, dRevL, f2I.eq_1, f2I.eq_2, bK.eq_1, bK.eq_2, truK.eq_1, truK.eq_2, truK.eq_3, truK.eq_4, truK.eq_5, truK.eq_6, truK.eq_7, truL.eq_1, truL.eq_2, dispK.eq_1, dispK.eq_2, ixK.eq_1, ixK.eq_2, ixS.eq_1, ixS.eq_2, ixL.eq_1, ixL.eq_2, partK.eq_1, partK.eq_2, slK.eq_1, slK.eq_2, slK.eq_3, slK.eq_4, slK.eq_5, slL.eq_1, slL.eq_2, lenLK.eq_1, lenLK.eq_2, mkL.eq_1, mkL.eq_2, isiB.eq_1, isiB.eq_2, isiK.eq_1, isiK.eq_2, frzK.eq_1, frzK.eq_2, frzK.eq_3, rng1K.eq_1, rng1K.eq_2, rng2K.eq_1, rng2K.eq_2, lst1K.eq_1, lst1K.eq_2, zipK.eq_1, zipK.eq_2, sub1K.eq_1, sub1K.eq_2, sub2K.eq_1, sub2K.eq_2, appK.eq_1, appK.eq_2, extK.eq_1, extK.eq_2, pop2K.eq_1, pop2K.eq_2, popK.eq_1, popK.eq_2, lstFK.eq_1, lstFK.eq_2, lisFK.eq_1, lisFK.eq_2, lisF2K.eq_1, lisF2K.eq_2, accK.eq_1, accK.eq_2, dVal, revTK.eq_1, revTK.eq_2, callK.eq_1, callK.eq_2, eqK.eq_1, eqK.eq_2, catK.eq_1, catK.eq_2, cellL.eq_1, cellL.eq_2, cellL.eq_3, okDi, okDb, okDn, eqvi, eqvs, dLstF, dListF, dLc, dYes, wipeE.eq_1, wipeE.eq_2, dFor, fin, finD, wOk.eq_1, wOk.eq_2, cellOk.eq_1, cellOk.eq_2, E0D, dCallP, dCallW, putW, firstRef.eq_1, firstRef.eq_2, firstRef.eq_3, shW.eq_1, shW.eq_2, unW.eq_1, unW.eq_2, inW.eq_1, inW.eq_2, shC.eq_1, shC.eq_2, unC.eq_1, unC.eq_2, inC.eq_1, inC.eq_2, dBreak, at0, at1, at2, at3, atI_last, List.getElem?_cons_zero, List.getElem?_cons_succ, List.getElem?_nil, List.set_cons_zero, List.set_cons_succ, List.map_cons, List.map_nil, List.length_cons, List.length_nil, List.replicate_succ, List.replicate_zero, List.cons_append, List.nil_append, List.append_nil, Option.map_some, Option.map_none, Option.isSome_some, if_true, if_false, ite_true, ite_false, Bool.and_true, Bool.true_and, Bool.and_false, Bool.false_and, Bool.or_true, Bool.or_false, Bool.true_or, Bool.false_or, Bool.not_true, Bool.not_false, true_and, and_true, List.take_succ_cons, List.take_zero, List.take_nil, List.drop_zero, List.drop_succ_cons, List.drop_nil, List.all_cons, List.all_nil, List.any_cons, List.any_nil, List.contains_cons, List.elem_nil, Nat.zero_add, Nat.add_zero, Nat.le_refl, Nat.reduceAdd, Nat.reduceSub, Nat.reduceLT, Nat.reduceLeDiff, Nat.sub_self, Nat.sub_zero, Nat.zero_le, decide_true, decide_false, beq_self_eq_true, Bool.false_eq_true, reduceCtorEq, List.isEmpty_cons, List.isEmpty_nil, List.dropLast_concat, dUn, unK.eq_1, unK.eq_2, dFld, fldK.eq_1, fldK.eq_2, fldK.eq_3, fldC.eq_1, fldC.eq_2, fldW.eq_1, fldW.eq_2, dMake, makK.eq_1, makK.eq_2, fld00, fld01, fld02, lenF0, lenF1, lenF2, get_end, set_end, dMethP, dMethW, isOb.eq_1, isOb.eq_2, isOb.eq_3, isObC.eq_1, isObC.eq_2, dSetF, sfK.eq_1, sfK.eq_2, sfC.eq_1, sfC.eq_2, dFz, fzK.eq_1, fzK.eq_2, fzK.eq_3, fzC.eq_1, fzC.eq_2, fzC.eq_3, dMakeRec, recK.eq_1, recK.eq_2, fld10, fld11, dMatch, dMCase.eq_1, dMCase.eq_2, dMNil, fillE.eq_1, fillE.eq_2, dAug, aug0.eq_1, aug0.eq_2, augK.eq_1, augK.eq_2, fIsiO.eq_1, fIsiO.eq_2, dCallPX, dMethWX, dRaise, raiK.eq_1, raiK.eq_2, dPar, parK.eq_1, parK.eq_2, dPar3, parK3.eq_1, parK3.eq_2, shW0, unW0, unC0, shC0, kbl1, kbl2, kbl3, kbl4, kbl5, kbl6, fInS.eq_1, fInS.eq_2, dAugF, afK.eq_1, afK.eq_2, afC.eq_1, afC.eq_2, afW.eq_1, afW.eq_2, dTry, dAct, dMakeRd, rdrK.eq_1, rdrK.eq_2, dLam4, outK, fld20, fld21, fld22, catF.eq_1, catF.eq_2, dCatF, inK.eq_1, inK.eq_2, fInD, get_end1, set_end1, at4, at5, at6, at7, at8, id])
set_option hygiene false in
local macro_rules | `(tactic| walk_at "s") => `(tactic| simp -implicitDefEqProofs only [dNext, dDrop, dRet, dRetN, dIfS, dAsg, dAsgC, dgName, dgTup.eq_1, dgTup.eq_2, dgCons.eq_1, dgCons.eq_2, dgNil, dgSub, subK.eq_1, subK.eq_2, dVar, dVarF, dC, dOp, fII.eq_1, fII.eq_2, fIIc.eq_1, fIIc.eq_2, fAdd.eq_1, fAdd.eq_2, fAdd.eq_3, fAdd.eq_4, fAdd.eq_5, fAdd.eq_6, fCmp.eq_1, fCmp.eq_2, fCmp.eq_3, fEqD, fIsN.eq_1, fIsN.eq_2, isNon.eq_1, isNon.eq_2, rdV.eq_1, rdV.eq_2, rdV.eq_3, rdL.eq_1, rdL.eq_2, rdL.eq_3, dB, dAnd, dOr, dNot, dTru, dIf, dAndV, dOrV, dNotV, dChain, dNil, dCons, vals.eq_1, vals.eq_2, vals.eq_3, dTup, dLst, fIx.eq_1, fIx.eq_2, fIx.eq_3, fIx.eq_4, fIx.eq_5, dSl, dPart, dNoPart, dCB, fLen.eq_1, fLen.eq_2, fLen.eq_3, fLen.eq_4, fLen.eq_5, fInt.eq_1, fInt.eq_2, fInt.eq_3, fList.eq_1, fList.eq_2, rdS.eq_1, rdS.eq_2, rdS.eq_3, rdS.eq_4, fTup.eq_1, fTup.eq_2, fOrd.eq_1, fOrd.eq_2, fIsi.eq_1, fIsi.eq_2, tyD.eq_1, tyD.eq_2, tyD.eq_3, tyD.eq_4, tyD.eq_5, tyD.eq_6, tyD.eq_7, kb1, kb2, kb3, kb4, kb5, kb6, kb7, kb8, kb9, kb10, kb11, kb12, kb13, kb14, kb15, kb16, kb17, kb18, kb19, kb20, kb21, kb22, kb23, kb24, dSeq, seqK.eq_1, seqK.eq_2, seqK.eq_3, seqK.eq_4, seqK.eq_5, dRng1, dRng2, dRev, lstK.eq_1, lstK.eq_2, lstK.eq_3, dEnum, dZip, dBM, dBM0, fAppend.eq_1, fAppend.eq_2, fExtend.eq_1, fExtend.eq_2, fExtA.eq_1, fExtA.eq_2, fPop.eq_1, fPop.eq_2, dRevT, dRevL, f2I.eq_1, f2I.eq_2, bK.eq_1, bK.eq_2, truK.eq_1, truK.eq_2, truK.eq_3, truK.eq_4, truK.eq_5, truK.eq_6, truK.eq_7, truL.eq_1, truL.eq_2, dispK.eq_1, dispK.eq_2, ixK.eq_1, ixK.eq_2, ixS.eq_1, ixS.eq_2, ixL.eq_1, ixL.eq_2, partK.eq_1, partK.eq_2, slK.eq_1, slK.eq_2, slK.eq_3, slK.eq_4, slK.eq_5, slL.eq_1, slL.eq_2, lenLK.eq_1, lenLK.eq_2, mkL.eq_1, mkL.eq_2, isiB.eq_1, isiB.eq_2, isiK.eq_1, isiK.eq_2, frzK.eq_1, frzK.eq_2, frzK.eq_3, rng1K.eq_1, rng1K.eq_2, rng2K.eq_1, rng2K.eq_2, lst1K.eq_1, lst1K.eq_2, zipK.eq_1, zipK.eq_2, sub1K.eq_1, sub1K.eq_2, sub2K.eq_1, sub2K.eq_2, appK.eq_1, appK.eq_2, extK.eq_1, extK.eq_2, pop2K.eq_1, pop2K.eq_2, popK.eq_1, popK.eq_2, lstFK.eq_1, lstFK.eq_2, lisFK.eq_1, lisFK.eq_2, lisF2K.eq_1, lisF2K.eq_2, accK.eq_1, accK.eq_2, dVal, revTK.eq_1, revTK.eq_2, callK.eq_1, callK.eq_2, eqK.eq_1, eqK.eq_2, catK.eq_1, catK.eq_2, cellL.eq_1, cellL.eq_2, cellL.eq_3, okDi, okDb, okDn, eqvi, eqvs, dLstF, dListF, dLc, dYes, wipeE.eq_1, wipeE.eq_2, dFor, fin, finD, wOk.eq_1, wOk.eq_2, cellOk.eq_1, cellOk.eq_2, E0D, dCallP, dCallW, putW, firstRef.eq_1, firstRef.eq_2, firstRef.eq_3, shW.eq_1, shW.eq_2, unW.eq_1, unW.eq_2, inW.eq_1, inW.eq_2, shC.eq_1, shC.eq_2, unC.eq_1, unC.eq_2, inC.eq_1, inC.eq_2, dBreak, at0, at1, at2, at3, atI_last, List.getElem?_cons_zero, List.getElem?_cons_succ, List.getElem?_nil, List.set_cons_zero, List.set_cons_succ, List.map_cons, List.map_nil, List.length_cons, List.length_nil, List.replicate_succ, List.replicate_zero, List.cons_append, List.nil_append, List.append_nil, Option.map_some, Option.map_none, Option.isSome_some, if_true, if_false, ite_true, ite_false, Bool.and_true, Bool.true_and, Bool.and_false, Bool.false_and, Bool.or_true, Bool.or_false, Bool.true_or, Bool.false_or, Bool.not_true, Bool.not_false, true_and, and_true, List.take_succ_cons, List.take_zero, List.take_nil, List.drop_zero, List.drop_succ_cons, List.drop_nil, List.all_cons, List.all_nil, List.any_cons, List.any_nil, List.contains_cons, List.elem_nil, Nat.zero_add, Nat.add_zero, Nat.le_refl, Nat.reduceAdd, Nat.reduceSub, Nat.reduceLT, Nat.reduceLeDiff, Nat.sub_self, Nat.sub_zero, Nat.zero_le, decide_true, decide_false, beq_self_eq_true, Bool.false_eq_true, reduceCtorEq, List.isEmpty_cons, List.isEmpty_nil, List.dropLast_concat, dUn, unK.eq_1, unK.eq_2, dFld, fldK.eq_1, fldK.eq_2, fldK.eq_3, fldC.eq_1, fldC.eq_2, fldW.eq_1, fldW.eq_2, dMake, makK.eq_1, makK.eq_2, fld00, fld01, fld02, lenF0, lenF1, lenF2, get_end, set_end, dMethP, dMethW, isOb.eq_1, isOb.eq_2, isOb.eq_3, isObC.eq_1, isObC.eq_2, dSetF, sfK.eq_1, sfK.eq_2, sfC.eq_1, sfC.eq_2, dFz, fzK.eq_1, fzK.eq_2, fzK.eq_3, fzC.eq_1, fzC.eq_2, fzC.eq_3, dMakeRec, recK.eq_1, recK.eq_2, fld10, fld11, dMatch, dMCase.eq_1, dMCase.eq_2, dMNil, fillE.eq_1, fillE.eq_2, dAug, aug0.eq_1, aug0.eq_2, augK.eq_1, augK.eq_2, fIsiO.eq_1, fIsiO.eq_2, dCallPX, dMethWX, dRaise, raiK.eq_1, raiK.eq_2, dPar, parK.eq_1, parK.eq_2, dPar3, parK3.eq_1, parK3.eq_2, shW0, unW0, unC0, shC0, kbl1, kbl2, kbl3, kbl4, kbl5, kbl6, fInS.eq_1, fInS.eq_2, dAugF, afK.eq_1, afK.eq_2, afC.eq_1, afC.eq_2, afW.eq_1, afW.eq_2, dTry, dAct, dMakeRd, rdrK.eq_1, rdrK.eq_2, dLam4, outK, fld20, fld21, fld22, catF.eq_1, catF.eq_2, dCatF, inK.eq_1, inK.eq_2, fInD, get_end1, set_end1, at4, at5, at6, at7, at8, id])
set_option hygiene false in
local macro_rules | `(tactic| walk_at "o") => `(tactic| simp -implicitDefEqProofs only [dSeqS, dNext, dDrop, dRet, dRetN, dIfS, dAsg, dAsgC, dgName, dgTup.eq_1, dgTup.eq_2, dgCons.eq_1, dgCons.eq_2, dgNil, dgSub, subK.eq_1, subK.eq_2, dVar, dVarF, dC, dOp, fII.eq_1, fII.eq_2, fIIc.eq_1, fIIc.eq_2, fAdd.eq_1, fAdd.eq_2, fAdd.eq_3, fAdd.eq_4, fAdd.eq_5, fAdd.eq_6, fCmp.eq_1, fCmp.eq_2, fCmp.eq_3, fEqD, fIsN.eq_1, fIsN.eq_2, isNon.eq_1, isNon.eq_2, rdV.eq_1, rdV.eq_2, rdV.eq_3, rdL.eq_1, rdL.eq_2, rdL.eq_3, dB, dAnd, dOr, dNot, dTru, dIf, dAndV, dOrV, dNotV, dChain, dNil, dCons, vals.eq_1, vals.eq_2, vals.eq_3, dTup, dLst, fIx.eq_1, fIx.eq_2, fIx.eq_3, fIx.eq_4, fIx.eq_5, dSl, dPart, dNoPart, dCB, fLen.eq_1, fLen.eq_2, fLen.eq_3, fLen.eq_4, fLen.eq_5, fInt.eq_1, fInt.eq_2, fInt.eq_3, fList.eq_1, fList.eq_2, rdS.eq_1, rdS.eq_2, rdS.eq_3, rdS.eq_4, fTup.eq_1, fTup.eq_2, fOrd.eq_1, fOrd.eq_2, fIsi.eq_1, fIsi.eq_2, tyD.eq_1, tyD.eq_2, tyD.eq_3, tyD.eq_4, tyD.eq_5, tyD.eq_6, tyD.eq_7, kb1, kb2, kb3, kb4, kb5, kb6, kb7, kb8, kb9, kb10, kb11, kb12, kb13, kb14, kb15, kb16, kb17, kb18, kb19, kb20, kb21, kb22, kb23, kb24, dSeq, seqK.eq_1, seqK.eq_2, seqK.eq_3, seqK.eq_4, seqK.eq_5, dRng1, dRng2, dRev, lstK.eq_1, lstK.eq_2, lstK.eq_3, dEnum, dZip, dBM, dBM0, fAppend.eq_1, fAppend.eq_2, fExtend.eq_1, fExtend.eq_2, fExtA.eq_1, fExtA.eq_2, fPop.eq_1, fPop.eq_2, dRevT, dRevL, f2I.eq_1, f2I.eq_2, bK.eq_1, bK.eq_2, truK.eq_1, truK.eq_2, truK.eq_3, truK.eq_4, truK.eq_5, truK.eq_6, truK.eq_7, truL.eq_1, truL.eq_2, dispK.eq_1, dispK.eq_2, ixK.eq_1, ixK.eq_2, ixS.eq_1, ixS.eq_2, ixL.eq_1, ixL.eq_2, partK.eq_1, partK.eq_2, slK.eq_1, slK.eq_2, slK.eq_3, slK.eq_4, slK.eq_5, slL.eq_1, slL.eq_2, lenLK.eq_1, lenLK.eq_2, mkL.eq_1, mkL.eq_2, isiB.eq_1, isiB.eq_2, isiK.eq_1, isiK.eq_2, frzK.eq_1, frzK.eq_2, frzK.eq_3, rng1K.eq_1, rng1K.eq_2, rng2K.eq_1, rng2K.eq_2, lst1K.eq_1, lst1K.eq_2, zipK.eq_1, zipK.eq_2, sub1K.eq_1, sub1K.eq_2, sub2K.eq_1, sub2K.eq_2, appK.eq_1, appK.eq_2, extK.eq_1, extK.eq_2, pop2K.eq_1, pop2K.eq_2, popK.eq_1, popK.eq_2, lstFK.eq_1, lstFK.eq_2, lisFK.eq_1, lisFK.eq_2, lisF2K.eq_1, lisF2K.eq_2, accK.eq_1, accK.eq_2, dVal, revTK.eq_1, revTK.eq_2, callK.eq_1, callK.eq_2, eqK.eq_1, eqK.eq_2, catK.eq_1, catK.eq_2, cellL.eq_1, cellL.eq_2, cellL.eq_3, okDi, okDb, okDn, eqvi, eqvs, dLstF, dListF, dLc, dYes, wipeE.eq_1, wipeE.eq_2, dFor, fin, finD, wOk.eq_1, wOk.eq_2, cellOk.eq_1, cellOk.eq_2, E0D, dCallP, dCallW, putW, firstRef.eq_1, firstRef.eq_2, firstRef.eq_3, shW.eq_1, shW.eq_2, unW.eq_1, unW.eq_2, inW.eq_1, inW.eq_2, shC.eq_1, shC.eq_2, unC.eq_1, unC.eq_2, inC.eq_1, inC.eq_2, dBreak, at0, at1, at2, at3, atI_last, List.getElem?_cons_zero, List.getElem?_cons_succ, List.getElem?_nil, List.set_cons_zero, List.set_cons_succ, List.map_cons, List.map_nil, List.length_cons, List.length_nil, List.replicate_succ, List.replicate_zero, List.cons_append, List.nil_append, List.append_nil, Option.map_some, Option.map_none, Option.isSome_some, if_true, if_false, ite_true, ite_false, Bool.and_true, Bool.true_and, Bool.and_false, Bool.false_and, Bool.or_true, Bool.or_false, Bool.true_or, Bool.false_or, Bool.not_true, Bool.not_false, true_and, and_true, List.take_succ_cons, List.take_zero, List.take_nil, List.drop_zero, List.drop_succ_cons, List.drop_nil, List.all_cons, List.all_nil, List.any_cons, List.any_nil, List.contains_cons, List.elem_nil, Nat.zero_add, Nat.add_zero, Nat.le_refl, Nat.reduceAdd, Nat.reduceSub, Nat.reduceLT, Nat.reduceLeDiff, Nat.sub_self, Nat.sub_zero, Nat.zero_le, decide_true, decide_false, beq_self_eq_true, Bool.false_eq_true, reduceCtorEq, List.isEmpty_cons, List.isEmpty_nil, List.dropLast_concat, dUn, unK.eq_1, unK.eq_2, dFld, fldK.eq_1, fldK.eq_2, fldK.eq_3, fldC.eq_1, fldC.eq_2, fldW.eq_1, fldW.eq_2, dMake, makK.eq_1, makK.eq_2, fld00, fld01, fld02, lenF0, lenF1, lenF2, get_end, set_end, dMethP, dMethW, isOb.eq_1, isOb.eq_2, isOb.eq_3, isObC.eq_1, isObC.eq_2, dSetF, sfK.eq_1, sfK.eq_2, sfC.eq_1, sfC.eq_2, dFz, fzK.eq_1, fzK.eq_2, fzK.eq_3, fzC.eq_1, fzC.eq_2, fzC.eq_3, dMakeRec, recK.eq_1, recK.eq_2, fld10, fld11, dMatch, dMCase.eq_1, dMCase.eq_2, dMNil, fillE.eq_1, fillE.eq_2, dAug, aug0.eq_1, aug0.eq_2, augK.eq_1, augK.eq_2, fIsiO.eq_1, fIsiO.eq_2, dCallPX, dMethWX, dRaise, raiK.eq_1, raiK.eq_2, dPar, parK.eq_1, parK.eq_2, dPar3, parK3.eq_1, parK3.eq_2, shW0, unW0, unC0, shC0, kbl1, kbl2, kbl3, kbl4, kbl5, kbl6, fInS.eq_1, fInS.eq_2, dAugF, afK.eq_1, afK.eq_2, afC.eq_1, afC.eq_2, afW.eq_1, afW.eq_2, dTry, dAct, dMakeRd, rdrK.eq_1, rdrK.eq_2, dLam4, outK, fld20, fld21, fld22, catF.eq_1, catF.eq_2, dCatF, inK.eq_1, inK.eq_2, fInD, get_end1, set_end1, at4, at5, at6, at7, at8, finX, opC, rfD_eq, Opn.win, Opn.ain, Opn.wok, Opn.aok, Opn.rule, isOb_part, no_isE, no_ent, Opn.noO, fld_link, fld_root, fld_open, ix_link0, ix_link1, ix_link2, isi_part, rootD, PT.op, not_false_eq_true, nonE_concat, last_get, dl_concat, shC0', unW0', unC0', id])
set_option hygiene false in
local macro_rules | `(tactic| walk_at "t") => `(tactic| simp -implicitDefEqProofs only [dNext, dDrop, dRet, dRetN, dIfS, dAsg, dAsgC, dgName, dgTup.eq_1, dgTup.eq_2, dgCons.eq_1, dgCons.eq_2, dgNil, dgSub, subK.eq_1, subK.eq_2, dVar, dVarF, dC, dOp, fII.eq_1, fII.eq_2, fIIc.eq_1, fIIc.eq_2, fAdd.eq_1, fAdd.eq_2, fAdd.eq_3, fAdd.eq_4, fAdd.eq_5, fAdd.eq_6, fCmp.eq_1, fCmp.eq_2, fCmp.eq_3, fEqD, fIsN.eq_1, fIsN.eq_2, isNon.eq_1, isNon.eq_2, rdV.eq_1, rdV.eq_2, rdV.eq_3, rdL.eq_1, rdL.eq_2, rdL.eq_3, dB, dAnd, dOr, dNot, dTru, dIf, dAndV, dOrV, dNotV, dChain, dNil, dCons, vals.eq_1, vals.eq_2, vals.eq_3, dTup, dLst, fIx.eq_1, fIx.eq_2, fIx.eq_3, fIx.eq_4, fIx.eq_5, dSl, dPart, dNoPart, dCB, fLen.eq_1, fLen.eq_2, fLen.eq_3, fLen.eq_4, fLen.eq_5, fInt.eq_1, fInt.eq_2, fInt.eq_3, fList.eq_1, fList.eq_2, rdS.eq_1, rdS.eq_2, rdS.eq_3, rdS.eq_4, fTup.eq_1, fTup.eq_2, fOrd.eq_1, fOrd.eq_2, fIsi.eq_1, fIsi.eq_2, tyD.eq_1, tyD.eq_2, tyD.eq_3, tyD.eq_4, tyD.eq_5, tyD.eq_6, tyD.eq_7, kb1, kb2, kb3, kb4, kb5, kb6, kb7, kb8, kb9, kb10, kb11, kb12, kb13, kb14, kb15, kb16, kb17, kb18, kb19, kb20, kb21, kb22, kb23, kb24, dSeq, seqK.eq_1, seqK.eq_2, seqK.eq_3, seqK.eq_4, seqK.eq_5, dRng1, dRng2, dRev, lstK.eq_1, lstK.eq_2, lstK.eq_3, dEnum, dZip, dBM, dBM0, fAppend.eq_1, fAppend.eq_2, fExtend.eq_1, fExtend.eq_2, fExtA.eq_1, fExtA.eq_2, fPop.eq_1, fPop.eq_2, dRevT, dRevL, f2I.eq_1, f2I.eq_2, bK.eq_1, bK.eq_2, truK.eq_1, truK.eq_2, truK.eq_3, truK.eq_4, truK.eq_5, truK.eq_6, truK.eq_7, truL.eq_1, truL.eq_2, dispK.eq_1, dispK.eq_2, ixK.eq_1, ixK.eq_2, ixS.eq_1, ixS.eq_2, ixL.eq_1, ixL.eq_2, partK.eq_1, partK.eq_2, slK.eq_1, slK.eq_2, slK.eq_3, slK.eq_4, slK.eq_5, slL.eq_1, slL.eq_2, lenLK.eq_1, lenLK.eq_2, mkL.eq_1, mkL.eq_2, isiB.eq_1, isiB.eq_2, isiK.eq_1, isiK.eq_2, frzK.eq_1, frzK.eq_2, frzK.eq_3, rng1K.eq_1, rng1K.eq_2, rng2K.eq_1, rng2K.eq_2, lst1K.eq_1, lst1K.eq_2, zipK.eq_1, zipK.eq_2, sub1K.eq_1, sub1K.eq_2, sub2K.eq_1, sub2K.eq_2, appK.eq_1, appK.eq_2, extK.eq_1, extK.eq_2, pop2K.eq_1, pop2K.eq_2, popK.eq_1, popK.eq_2, lstFK.eq_1, lstFK.eq_2, lisFK.eq_1, lisFK.eq_2, lisF2K.eq_1, lisF2K.eq_2, accK.eq_1, accK.eq_2, dVal, revTK.eq_1, revTK.eq_2, callK.eq_1, callK.eq_2, eqK.eq_1, eqK.eq_2, catK.eq_1, catK.eq_2, cellL.eq_1, cellL.eq_2, cellL.eq_3, okDi, okDb, okDn, eqvi, eqvs, dLstF, dListF, dLc, dYes, wipeE.eq_1, wipeE.eq_2, dFor, fin, finD, wOk.eq_1, wOk.eq_2, cellOk.eq_1, cellOk.eq_2, E0D, dCallP, dCallW, putW, firstRef.eq_1, firstRef.eq_2, firstRef.eq_3, shW.eq_1, shW.eq_2, unW.eq_1, unW.eq_2, inW.eq_1, inW.eq_2, shC.eq_1, shC.eq_2, unC.eq_1, unC.eq_2, inC.eq_1, inC.eq_2, dBreak, at0, at1, at2, at3, atI_last, List.getElem?_cons_zero, List.getElem?_cons_succ, List.getElem?_nil, List.set_cons_zero, List.set_cons_succ, List.map_cons, List.map_nil, List.length_cons, List.length_nil, List.replicate_succ, List.replicate_zero, List.cons_append, List.nil_append, List.append_nil, Option.map_some, Option.map_none, Option.isSome_some, if_true, if_false, ite_true, ite_false, Bool.and_true, Bool.true_and, Bool.and_false, Bool.false_and, Bool.or_true, Bool.or_false, Bool.true_or, Bool.false_or, Bool.not_true, Bool.not_false, true_and, and_true, List.take_succ_cons, List.take_zero, List.take_nil, List.drop_zero, List.drop_succ_cons, List.drop_nil, List.all_cons, List.all_nil, List.any_cons, List.any_nil, List.contains_cons, List.elem_nil, Nat.zero_add, Nat.add_zero, Nat.le_refl, Nat.reduceAdd, Nat.reduceSub, Nat.reduceLT, Nat.reduceLeDiff, Nat.sub_self, Nat.sub_zero, Nat.zero_le, decide_true, decide_false, beq_self_eq_true, Bool.false_eq_true, reduceCtorEq, List.isEmpty_cons, List.isEmpty_nil, List.dropLast_concat, dUn, unK.eq_1, unK.eq_2, dFld, fldK.eq_1, fldK.eq_2, fldK.eq_3, fldC.eq_1, fldC.eq_2, fldW.eq_1, fldW.eq_2, dMake, makK.eq_1, makK.eq_2, fld00, fld01, fld02, lenF0, lenF1, lenF2, get_end, set_end, dMethP, dMethW, isOb.eq_1, isOb.eq_2, isOb.eq_3, isObC.eq_1, isObC.eq_2, dSetF, sfK.eq_1, sfK.eq_2, sfC.eq_1, sfC.eq_2, dFz, fzK.eq_1, fzK.eq_2, fzK.eq_3, fzC.eq_1, fzC.eq_2, fzC.eq_3, dMakeRec, recK.eq_1, recK.eq_2, fld10, fld11, dMatch, dMCase.eq_1, dMCase.eq_2, dMNil, fillE.eq_1, fillE.eq_2, dAug, aug0.eq_1, aug0.eq_2, augK.eq_1, augK.eq_2, fIsiO.eq_1, fIsiO.eq_2, dCallPX, dMethWX, dRaise, raiK.eq_1, raiK.eq_2, dPar, parK.eq_1, parK.eq_2, dPar3, parK3.eq_1, parK3.eq_2, shW0, unW0, unC0, shC0, kbl1, kbl2, kbl3, kbl4, kbl5, kbl6, fInS.eq_1, fInS.eq_2, dAugF, afK.eq_1, afK.eq_2, afC.eq_1, afC.eq_2, afW.eq_1, afW.eq_2, dTry, dAct, dMakeRd, rdrK.eq_1, rdrK.eq_2, dLam4, outK, fld20, fld21, fld22, catF.eq_1, catF.eq_2, dCatF, inK.eq_1, inK.eq_2, fInD, get_end1, set_end1, at4, at5, at6, at7, at8, finX, opC, rfD_eq, Opn.win, Opn.ain, Opn.wok, Opn.aok, Opn.rule, isOb_part, no_isE, no_ent, Opn.noO, fld_link, fld_root, fld_open, ix_link0, ix_link1, ix_link2, isi_part, rootD, PT.op, not_false_eq_true, nonE_concat, last_get, dl_concat, shC0', unW0', unC0', id])
set_option hygiene false in
local macro_rules | `(tactic| walk_at "z") => `(tactic| repeat (first | refine ⟨by decide, ?_⟩ | refine ⟨bigL (by ((try simp only [List.length_append, List.length_cons, List.length_nil, List.length_map, List.length_reverse]); omega)), ?_⟩ | refine ⟨big2 (by ((try simp only [List.length_append, List.length_cons, List.length_nil, List.length_map, List.length_reverse]); omega)), ?_⟩))
set_option hygiene false in
local macro_rules | `(tactic| walk_at "y") => `(tactic| repeat (first | refine ⟨by decide +kernel, by decide +kernel, ?_⟩ | refine ⟨by decide +kernel, ?_⟩ | rw [if_neg (by decide +kernel)] | rw [if_pos (by decide +kernel)] | walk_at "t" | refine dSeq_go ?_))
abbrev sPWayOn : Stmt := topS 37
theorem scPWayOn : FnScope ["root", "key", "own_key", "row", "left", "right"] ["root", "key"] (defScope sPWayOn) := ⟨rfl, rfl, rfl, by decide +kernel, rfl, by decide +kernel, by decide +kernel⟩
def pPWayOn : DSp := fun ws C Q _ => ∃ (b m : Int) (k : Str) (r : List Int) (x y : PT) (key : Str), ws = [.val (.tuple [.str k, rowD r, partD b m x, partD b m y]), .val (.str key)] ∧
  Q (.val (if slt key k = true then .tuple [gapD b m (.hi k r y), partD b m x] else .tuple [gapD b m (.lo k r x), partD b m y])) C
section
variable {P : Program} {w : World} {K : PySem.W.Frag} {mg : Str → Option Value} {base : Heap} {ct : Ct}
theorem ok_PWayOn  (D : Def K mg "way_on" sPWayOn ["root", "key"])
    : FnOk P w K mg base CX0 1 D.f D.fd ["root", "key"] (spD ct 0 2 pPWayOn) := by
  refine D.F.ok scPWayOn (fun vs H Q E h => spD_len h) (fun cdv A outer s H vs Q E hr h => ⟨_, (pss_cons (ps_asg (pv 0) (pg_tup (n := 4) (by rfl) (pgs_cons (pg_name (i := 2) scPWayOn.nd rfl (Or.inl rfl)) (pgs_cons (pg_name (i := 3) scPWayOn.nd rfl (Or.inl rfl)) (pgs_cons (pg_name (i := 4) scPWayOn.nd rfl (Or.inl rfl)) (pgs_cons (pg_name (i := 5) scPWayOn.nd rfl (Or.inl rfl)) pgs_nil)))))) <|
    pss_cons (ps_if (pt_cmpR op_ltA (pv 1) (pv 2) (nomark _))
      (pss_one (ps_ret (pe_tup (pa_cons (pe_tup (pa_cons (pv 2) (pa_cons (pv 3) (pa_cons pe_non (pa_cons (pv 5) pa_nil))))) (pa_cons (pv 4) pa_nil))))) pss_nil) <|
    pss_one (ps_ret (pe_tup (pa_cons (pe_tup (pa_cons (pv 2) (pa_cons (pv 3) (pa_cons (pv 4) (pa_cons pe_non pa_nil))))) (pa_cons (pv 5) pa_nil))))), body_ok _ (fun R => inferInstance) (by decide) (fun ws C Q R hw hC hP => ?_) h⟩)
  obtain rfl := List.eq_nil_of_length_eq_zero hC
  obtain ⟨b, m, k, r, x, y, key, rfl, q⟩ := hP
  walk_at "d"
  refine ifd (fun h => ?_) (fun h => ?_)
  · rw [slt_t h, if_pos rfl] at q
    exact ⟨by decide, by decide, q⟩
  · rw [slt_f h, if_neg (by decide)] at q
    exact ⟨by decide, by decide, q⟩
end
abbrev sPWayTo : Stmt := topS 38
theorem scPWayTo : FnScope ["opener", "part", "key", "gaps", "gap"] ["opener", "part", "key"] (defScope sPWayTo) := ⟨rfl, rfl, rfl, by decide +kernel, rfl, by decide +kernel, by decide +kernel⟩
def pPWayTo (M : Opn) : DSp := fun ws C Q R => ∃ (b m : Int) (s : M.S) (t : PT) (key : Str) (n : Nat), ws = [.ref 0, .val (partD b m t), .val (.str key)] ∧ C = opC M b m s ∧ RuleOk b m ∧ okD (.str key) ∧ n ≤ 100000 ∧
  (gWay b m key n t []).wp M b m (rfD M R b m) s fun w s' => Q (.val (.tuple [.list (w.1.map (gapD b m)), partD b m w.2])) (opC M b m s')
section
variable {P : Program} {w : World} {K : PySem.W.Frag} {mg : Str → Option Value} {base : Heap} {ct : Ct}
theorem ok_PWayTo (M : Opn)  [CtOk K ct] {C_Part : Addr} [ClA ct C_Part 0] {C_op : Addr} [ClA ct C_op M.c] (D : Def K mg "way_to" sPWayTo ["opener", "part", "key"]) (D_PPartIsEmpty : Mth K C_Part "is_empty" "Part.is_empty" sPPartIsEmpty ["self"]) (D_PWayOn : Def K mg "way_on" sPWayOn ["root", "key"]) {qo : Str} {so : Stmt} (DO : Mth K C_op "opened" qo so ["self", "part"])
    (G_PPartIsEmpty : FnOk P w K mg base CX0 1 D_PPartIsEmpty.f D_PPartIsEmpty.fd ["self"] (spD ct 0 1 pPPartIsEmpty)) (G_PWayOn : FnOk P w K mg base CX0 1 D_PWayOn.f D_PWayOn.fd ["root", "key"] (spD ct 0 2 pPWayOn)) (GO : FnOk P w K mg base (L2.CX P w) 10 DO.f DO.fd ["self", "part"] (spD ct 2 2 (pOpened M))) : FnOk P w K mg base (L2.CX P w) 11 D.f D.fd ["opener", "part", "key"] (spD ct 2 3 (pPWayTo M)) := by
  refine D.F.okX scPWayTo (fun vs H Q E h => spD_len h) (fun cdv A outer s H vs Q E hr h => ⟨_, (pss_cons (psC (ps_set (i := 3) scPWayTo.nd rfl (.inl rfl) (pe_lst pa_nil))) <|
    pss_cons (ps_while (passes_of rfl) (pt_not (pt_truA (pe_meth0 (pv 1) D_PPartIsEmpty.c D_PPartIsEmpty.M G_PPartIsEmpty (hr.mono (by omega)) D_PPartIsEmpty.b .nil pass0)))
      (pss_cons (ps_set (i := 1) scPWayTo.nd rfl (.inl rfl) (pe_methX (pv 0) DO.c DO.M GO (hr.mono (by omega)) DO.b passX (pa_cons (pv 1) pa_nil))) <|
        pss_cons (ps_if (pt_cmpR (op_eqD hr.units) (pe_ix ix_seq (pe_fldC (K := K) rfl (pv 1) rfl) pe_int (fun _ _ => rfl)) (pv 2) (nomark _))
          (pss_one ps_break) pss_nil) <|
        pss_cons (ps_asg (pe_call G_PWayOn (hr.mono (by omega)) (by rfl) D_PWayOn.m D_PWayOn.F.kp D_PWayOn.b .nil pass0 (pa_cons (pe_fldC (K := K) rfl (pv 1) rfl) (pa_cons (pv 2) pa_nil))) (pg_tup (n := 2) (by rfl) (pgs_cons (pg_name (i := 4) scPWayTo.nd rfl (Or.inl rfl)) (pgs_cons (pg_name (i := 1) scPWayTo.nd rfl (Or.inl rfl)) pgs_nil)))) <|
        pss_one (ps_expr (pe_bm PySem.F.plainAttrs_list PySem.F.slot_list_append PySem.F.type_list_append mt_append (pv 3) (pa_cons (pv 4) pa_nil))))) <|
    pss_one (ps_ret (pe_tup (pa_cons (pvF 3) (pa_cons (pv 1) pa_nil))))), body_ok _ (fun R => inferInstance) (by decide) (fun ws C Q R hw hC hP => ?_) h⟩)
  obtain ⟨b, m, s, t, key, n, rfl, rfl, hr, hk, hn, h⟩ := hP
  walk_at "t"
  refine dSeq_go ?_
  walk_at "t"
  refine dSeq_go ?_
  refine dWhile_by (α := Nat × PT × List Gap × M.S) (fun a E C => C = [.obj M.c (M.flds b m a.2.2.2), M.aux a.2.2.2, .lst (a.2.2.1.map (gapD b m))] ∧ a.2.2.1.length + a.1 ≤ 100000 ∧
    (gWay b m key a.1 a.2.1 a.2.2.1).wp M b m (rfD M R b m) a.2.2.2 (fun w s' => Q (.val (.tuple [.list (w.1.map (gapD b m)), partD b m w.2])) (opC M b m s')) ∧ ∃ y4, E = [some (.ref 0), some (.val (partD b m a.2.1)), some (.val (.str key)), some (.ref 2), y4]) (fun a => a.1) (n, t, [], s) ⟨rfl, by show 0 + n ≤ _; omega, h, none, rfl⟩ ?_
  rintro ⟨n, t, gs, s⟩ E C ⟨rfl, hl, h, y4, rfl⟩
  cases n with
  | zero => exact h.elim
  | succ n =>
    have hl : gs.length + (n + 1) ≤ 100000 := hl
    simp only [gWay, wp_iteS] at h
    walk_at "o"
    refine emp_go ?_
    walk_at "o"
    refine ifnP (fun hc => ?_) (fun hc => ?_)
    · rw [if_neg hc] at h
      refine op_go hr h (fun k r x y s' hn h => ?_) (fun z j s' h => ?_)
      · simp only [wp_iteS] at h
        walk_at "o"
        refine ⟨hn.1, hk, ifd (fun e => ?_) (fun e => ?_)⟩
        · rw [if_pos e] at h
          exact ⟨by decide, h⟩
        · rw [if_neg e] at h
          refine ⟨b, m, k, r, x, y, key, rfl, ?_⟩
          by_cases hs : slt key k = true
          · rw [if_pos hs] at h ⊢
            walk_at "o"
            rw [List.length_map]
            exact ⟨bigL (by omega), (n, x, gs ++ [.hi k r y], s'), Nat.lt_succ_self _, by rw [List.map_append]; rfl, by show (gs ++ [_]).length + n ≤ _; rw [List.length_append]; show gs.length + 1 + n ≤ _; omega, h, _, rfl⟩
          · rw [if_neg hs] at h ⊢
            walk_at "o"
            rw [List.length_map]
            exact ⟨bigL (by omega), (n, y, gs ++ [.lo k r x], s'), Nat.lt_succ_self _, by rw [List.map_append]; rfl, by show (gs ++ [_]).length + n ≤ _; rw [List.length_append]; show gs.length + 1 + n ≤ _; omega, h, _, rfl⟩
      · walk_at "o"
        exact h
    · rw [if_pos hc] at h
      exact ⟨by decide, h⟩
end
abbrev sPSplit : Stmt := topS 39
theorem scPSplit : FnScope ["opener", "part", "key", "gaps", "found", "found_row", "lower", "greater", "_", "gap"] ["opener", "part", "key"] (defScope sPSplit) := ⟨rfl, rfl, rfl, by decide +kernel, rfl, by decide +kernel, by decide +kernel⟩
def rowO : Option (List Int) → PyData
  | none => .none
  | some r => rowD r
def spl3D (b m : Int) (p : Spl3) : PyData := .tuple [partD b m p.1, rowO p.2.1, partD b m p.2.2]
def pPSplit (M : Opn) : DSp := fun ws C Q R => ∃ (b m : Int) (s : M.S) (t : PT) (key : Str) (n : Nat), ws = [.ref 0, .val (partD b m t), .val (.str key)] ∧ C = opC M b m s ∧ RuleOk b m ∧ okD (.str key) ∧ n ≤ 100000 ∧
  (gSplit b m key n t).wp M b m (rfD M R b m) s fun p s' => Q (.val (spl3D b m p)) (opC M b m s')
section
variable {P : Program} {w : World} {K : PySem.W.Frag} {mg : Str → Option Value} {base : Heap} {ct : Ct}
theorem ok_PSplit (M : Opn)  [CtOk K ct] {C_Part : Addr} [ClA ct C_Part 0] {C_op : Addr} [ClA ct C_op M.c] (D : Def K mg "split" sPSplit ["opener", "part", "key"]) (D_PWayTo : Def K mg "way_to" sPWayTo ["opener", "part", "key"]) (D_PPartIsEmpty : Mth K C_Part "is_empty" "Part.is_empty" sPPartIsEmpty ["self"]) (D_PEmptyPart : Def K mg "empty_part" sPEmptyPart ["rule"]) (D_PCompleted : Def K mg "completed" sPCompleted ["rule", "gaps", "part", "is_open"]) {qo : Str} {so : Stmt} (DO : Mth K C_op "opened" qo so ["self", "part"]) (m_reversed : mg "reversed" = none)
    (G_PWayTo : FnOk P w K mg base (L2.CX P w) 11 D_PWayTo.f D_PWayTo.fd ["opener", "part", "key"] (spD ct 2 3 (pPWayTo M))) (G_PPartIsEmpty : FnOk P w K mg base CX0 1 D_PPartIsEmpty.f D_PPartIsEmpty.fd ["self"] (spD ct 0 1 pPPartIsEmpty)) (G_PEmptyPart : FnOk P w K mg base CX0 4 D_PEmptyPart.f D_PEmptyPart.fd ["rule"] (spD ct 0 1 pPEmptyPart)) (G_PCompleted : FnOk P w K mg base CX0 6 D_PCompleted.f D_PCompleted.fd ["rule", "gaps", "part", "is_open"] (spD ct 0 4 pPCompleted)) (GO : FnOk P w K mg base (L2.CX P w) 10 DO.f DO.fd ["self", "part"] (spD ct 2 2 (pOpened M))) : FnOk P w K mg base (L2.CX P w) 12 D.f D.fd ["opener", "part", "key"] (spD ct 2 3 (pPSplit M)) := by
  refine D.F.okX scPSplit (fun vs H Q E h => spD_len h) (fun cdv A outer s H vs Q E hr h => ⟨_, (pss_cons (ps_asg (pe_callX G_PWayTo (hr.mono (by omega)) (by rfl) D_PWayTo.m D_PWayTo.F.kp D_PWayTo.b passX (pa_cons (pv 0) (pa_cons (pv 1) (pa_cons (pv 2) pa_nil)))) (pg_tup (n := 2) (by rfl) (pgs_cons (pg_name (i := 3) scPSplit.nd rfl (Or.inl rfl)) (pgs_cons (pg_name (i := 4) scPSplit.nd rfl (Or.inl rfl)) pgs_nil)))) <|
    pss_cons (ps_if (pt_truA (pe_meth0 (pv 4) D_PPartIsEmpty.c D_PPartIsEmpty.M G_PPartIsEmpty (hr.mono (by omega)) D_PPartIsEmpty.b .nil pass0))
      (pss_one (ps_par3 (i := 5) (j := 6) (k := 7) (by rfl) scPSplit.nd rfl rfl rfl (by decide) (by decide) (by decide) rfl rfl rfl (pa_cons pe_non (pa_cons (pe_call G_PEmptyPart (hr.mono (by omega)) (by rfl) D_PEmptyPart.m D_PEmptyPart.F.kp D_PEmptyPart.b .nil pass0 (pa_cons (pe_fldC (K := K) rfl (pv 0) rfl) pa_nil)) (pa_cons (pe_call G_PEmptyPart (hr.mono (by omega)) (by rfl) D_PEmptyPart.m D_PEmptyPart.F.kp D_PEmptyPart.b .nil pass0 (pa_cons (pe_fldC (K := K) rfl (pv 0) rfl) pa_nil)) pa_nil))) (by rfl))) (pss_one (ps_asg (pe_fldC (K := K) rfl (pv 4) rfl) (pg_tup (n := 4) (by rfl) (pgs_cons (pg_name (i := 8) scPSplit.nd rfl (Or.inl rfl)) (pgs_cons (pg_name (i := 5) scPSplit.nd rfl (Or.inl rfl)) (pgs_cons (pg_name (i := 6) scPSplit.nd rfl (Or.inl rfl)) (pgs_cons (pg_name (i := 7) scPSplit.nd rfl (Or.inl rfl)) pgs_nil)))))))) <|
    pss_cons (ps_for (passes_of rfl) rfl (pi_reversed (by rfl) m_reversed (pa_cons (pv 3) pa_nil)) (pg_name (i := 9) scPSplit.nd rfl (Or.inl rfl))
      (pss_one (ps_if (pt_cmpR op_ltA (pv 2) (pe_ix ix_seq (pv 9) pe_int (fun _ _ => rfl)) (nomark _))
          (pss_one (ps_set (i := 7) scPSplit.nd rfl (.inl rfl) (pe_call G_PCompleted (hr.mono (by omega)) (by rfl) D_PCompleted.m D_PCompleted.F.kp D_PCompleted.b .nil pass0 (pa_cons (pe_fldC (K := K) rfl (pv 0) rfl) (pa_cons (pe_lst (pa_cons (pv 9) pa_nil)) (pa_cons (pv 7) (pa_cons pe_bl pa_nil))))))) (pss_one (ps_set (i := 6) scPSplit.nd rfl (.inl rfl) (pe_call G_PCompleted (hr.mono (by omega)) (by rfl) D_PCompleted.m D_PCompleted.F.kp D_PCompleted.b .nil pass0 (pa_cons (pe_fldC (K := K) rfl (pv 0) rfl) (pa_cons (pe_lst (pa_cons (pv 9) pa_nil)) (pa_cons (pv 6) (pa_cons pe_bl pa_nil)))))))))) <|
    pss_one (ps_ret (pe_tup (pa_cons (pv 6) (pa_cons (pv 5) (pa_cons (pv 7) pa_nil)))))), body_ok _ (fun R => inferInstance) (by decide) (fun ws C Q R hw hC hP => ?_) h⟩)
  obtain ⟨b, m, s, t, key, n, rfl, rfl, hr, hk, hn, h⟩ := hP
  unfold gSplit at h
  rw [wp_bind] at h
  have h := way_fit n t [] s (fun g hg => by cases hg) h
  walk_at "t"
  refine dSeq_go ?_
  walk_at "t"
  refine ⟨b, m, s, t, key, n, rfl, rfl, hr, hk, hn, ?_⟩
  (try walk_at "t")
  refine wp_mono (fun w s' h => ?_) (fun _ _ _ h => h) _ _ h
  obtain ⟨hg, h⟩ := h
  unfold gCut at h
  rw [wp_iteS] at h
  (try walk_at "t")
  refine dSeq_cut (fun E C => ∃ (p0 : PT × PT) (o : Option (List Int)) (y4 y8 y9 : Option W), C = opC M b m s' ∧ Q (.val (spl3D b m ((foldGaps key w.1 p0).1, o, (foldGaps key w.1 p0).2))) (opC M b m s') ∧ E = [some (.ref 0), some (.val (partD b m t)), some (.val (.str key)), some (.val (.list (w.1.map (gapD b m)))), y4, some (.val (rowO o)), some (.val (partD b m p0.1)), some (.val (partD b m p0.2)), y8, y9]) (fun N hN => ?_) ?_
  · walk_at "t"
    refine emp_go ?_
    walk_at "t"
    refine ifd (fun hc => ?_) (fun hc => ?_)
    · rw [if_pos hc] at h
      refine ⟨b, m, rfl, hr, ?_⟩
      (try walk_at "t")
      refine ⟨b, m, rfl, hr, ?_⟩
      (try walk_at "t")
      exact hN _ _ ⟨(.hid (lnk0 b m) false, .hid (lnk0 b m) false), none, _, _, _, rfl, h, rfl⟩
    · rw [if_neg hc] at h
      generalize w.2 = u at h
      cases u with
      | hid l o => exact h.elim
      | nod k r x y o =>
        walk_at "o"
        exact hN _ _ ⟨(x, y), some r, _, _, _, rfl, h, rfl⟩
  · rintro E C ⟨p0, o, y4, y8, y9, rfl, hq, rfl⟩
    walk_at "t"
    refine dSeq_go ?_
    walk_at "t"
    rw [← List.map_reverse]
    unfold foldGaps at hq
    refine dForGo_map (gapD b m) w.1.reverse (fun pre E C => C = opC M b m s' ∧ ∃ y8 y9, E = [some (.ref 0), some (.val (partD b m t)), some (.val (.str key)), some (.val (.list (w.1.map (gapD b m)))), y4, some (.val (rowO o)), some (.val (partD b m (pre.foldl (foldGap key) p0).1)), some (.val (partD b m (pre.foldl (foldGap key) p0).2)), y8, y9]) ?_ ?_ ⟨rfl, _, _, rfl⟩
    · rintro pre g post E C e ⟨rfl, y8, y9, rfl⟩ N hN
      have hgf := hg g (by rw [← List.mem_reverse, e]; exact List.mem_append_right _ List.mem_cons_self)
      have hN' := fun y8 y9 => hN _ _ ⟨rfl, y8, y9, rfl⟩
      rw [List.foldl_append] at hN'
      generalize pre.foldl (foldGap key) p0 = u at hN'
      simp only [List.foldl_cons, List.foldl_nil] at hN'
      cases g with
      | lo k r x2 =>
        simp only [gapD]
        walk_at "o"
        refine ifd (fun hs => ?_) (fun hs => ?_)
        · have e9 : foldGap key u (.lo k r x2) = (u.1, .nod k r x2 u.2 true) := if_pos (slt_t hs)
          rw [e9] at hN'
          refine ⟨by decide, b, m, [.lo k r x2], u.2, true, rfl, hr, fun g' hg' => by rw [List.mem_singleton.mp hg']; exact hgf.1, ?_⟩
          walk_at "o"
          exact hN' _ _
        · have e9 : foldGap key u (.lo k r x2) = (.nod k r x2 u.1 true, u.2) := if_neg (fun z => hs (of_decide_eq_true z))
          rw [e9] at hN'
          refine ⟨by decide, b, m, [.lo k r x2], u.1, true, rfl, hr, fun g' hg' => by rw [List.mem_singleton.mp hg']; exact hgf.1, ?_⟩
          walk_at "o"
          exact hN' _ _
      | hi k r y2 =>
        simp only [gapD]
        walk_at "o"
        refine ifd (fun hs => ?_) (fun hs => ?_)
        · have e9 : foldGap key u (.hi k r y2) = (u.1, .nod k r u.2 y2 true) := if_pos (slt_t hs)
          rw [e9] at hN'
          refine ⟨by decide, b, m, [.hi k r y2], u.2, true, rfl, hr, fun g' hg' => by rw [List.mem_singleton.mp hg']; exact hgf.1, ?_⟩
          walk_at "o"
          exact hN' _ _
        · have e9 : foldGap key u (.hi k r y2) = (.nod k r u.1 y2 true, u.2) := if_neg (fun z => hs (of_decide_eq_true z))
          rw [e9] at hN'
          refine ⟨by decide, b, m, [.hi k r y2], u.1, true, rfl, hr, fun g' hg' => by rw [List.mem_singleton.mp hg']; exact hgf.1, ?_⟩
          walk_at "o"
          exact hN' _ _
    · rintro E C ⟨rfl, y8, y9, rfl⟩
      walk_at "t"
      exact ⟨by decide, hq⟩
end
abbrev sPMerged : Stmt := topS 40
theorem scPMerged : FnScope ["opener", "first", "second", "gaps", "key", "row", "left", "right"] ["opener", "first", "second"] (defScope sPMerged) := ⟨rfl, rfl, rfl, by decide +kernel, rfl, by decide +kernel, by decide +kernel⟩
def pPMerged (M : Opn) : DSp := fun ws C Q R => ∃ (b m : Int) (s : M.S) (t u : PT) (n : Nat), ws = [.ref 0, .val (partD b m t), .val (partD b m u)] ∧ C = opC M b m s ∧ RuleOk b m ∧ n ≤ 100000 ∧
  (gMerge b m n t u []).wp M b m (rfD M R b m) s fun p s' => Q (.val (partD b m p)) (opC M b m s')
section
variable {P : Program} {w : World} {K : PySem.W.Frag} {mg : Str → Option Value} {base : Heap} {ct : Ct}
theorem ok_PMerged (M : Opn)  [CtOk K ct] {C_Part : Addr} [ClA ct C_Part 0] {C_op : Addr} [ClA ct C_op M.c] (D : Def K mg "merged" sPMerged ["opener", "first", "second"]) (D_PPartIsEmpty : Mth K C_Part "is_empty" "Part.is_empty" sPPartIsEmpty ["self"]) (D_PStandsAbove : Def K mg "stands_above" sPStandsAbove ["key", "other"]) (D_PCompleted : Def K mg "completed" sPCompleted ["rule", "gaps", "part", "is_open"]) {qo : Str} {so : Stmt} (DO : Mth K C_op "opened" qo so ["self", "part"])
    (G_PPartIsEmpty : FnOk P w K mg base CX0 1 D_PPartIsEmpty.f D_PPartIsEmpty.fd ["self"] (spD ct 0 1 pPPartIsEmpty)) (G_PStandsAbove : FnOk P w K mg base CX0 2 D_PStandsAbove.f D_PStandsAbove.fd ["key", "other"] (spD ct 0 2 pPStandsAbove)) (G_PCompleted : FnOk P w K mg base CX0 6 D_PCompleted.f D_PCompleted.fd ["rule", "gaps", "part", "is_open"] (spD ct 0 4 pPCompleted)) (GO : FnOk P w K mg base (L2.CX P w) 10 DO.f DO.fd ["self", "part"] (spD ct 2 2 (pOpened M))) : FnOk P w K mg base (L2.CX P w) 12 D.f D.fd ["opener", "first", "second"] (spD ct 2 3 (pPMerged M)) := by
  refine D.F.okX scPMerged (fun vs H Q E h => spD_len h) (fun cdv A outer s H vs Q E hr h => ⟨_, (pss_cons (psC (ps_set (i := 3) scPMerged.nd rfl (.inl rfl) (pe_lst pa_nil))) <|
    pss_cons (ps_while (passes_of rfl) (PW.pt (pw_and (pt_not (pt_truA (pe_meth0 (pv 1) D_PPartIsEmpty.c D_PPartIsEmpty.M G_PPartIsEmpty (hr.mono (by omega)) D_PPartIsEmpty.b .nil pass0))) (pw_and1 (pt_not (pt_truA (pe_meth0 (pv 2) D_PPartIsEmpty.c D_PPartIsEmpty.M G_PPartIsEmpty (hr.mono (by omega)) D_PPartIsEmpty.b .nil pass0))))))
      (pss_cons (ps_set (i := 1) scPMerged.nd rfl (.inl rfl) (pe_methX (pv 0) DO.c DO.M GO (hr.mono (by omega)) DO.b passX (pa_cons (pv 1) pa_nil))) <|
        pss_cons (ps_set (i := 2) scPMerged.nd rfl (.inl rfl) (pe_methX (pv 0) DO.c DO.M GO (hr.mono (by omega)) DO.b passX (pa_cons (pv 2) pa_nil))) <|
        pss_one (ps_if (pt_truA (pe_call G_PStandsAbove (hr.mono (by omega)) (by rfl) D_PStandsAbove.m D_PStandsAbove.F.kp D_PStandsAbove.b .nil pass0 (pa_cons (pe_ix ix_seq (pe_fldC (K := K) rfl (pv 1) rfl) pe_int (fun _ _ => rfl)) (pa_cons (pe_ix ix_seq (pe_fldC (K := K) rfl (pv 2) rfl) pe_int (fun _ _ => rfl)) pa_nil))))
          (pss_cons (ps_asg (pe_fldC (K := K) rfl (pv 1) rfl) (pg_tup (n := 4) (by rfl) (pgs_cons (pg_name (i := 4) scPMerged.nd rfl (Or.inl rfl)) (pgs_cons (pg_name (i := 5) scPMerged.nd rfl (Or.inl rfl)) (pgs_cons (pg_name (i := 6) scPMerged.nd rfl (Or.inl rfl)) (pgs_cons (pg_name (i := 1) scPMerged.nd rfl (Or.inl rfl)) pgs_nil)))))) <|
            pss_one (ps_expr (pe_bm PySem.F.plainAttrs_list PySem.F.slot_list_append PySem.F.type_list_append mt_append (pv 3) (pa_cons (pe_tup (pa_cons (pv 4) (pa_cons (pv 5) (pa_cons (pv 6) (pa_cons pe_non pa_nil))))) pa_nil)))) (pss_cons (ps_asg (pe_fldC (K := K) rfl (pv 2) rfl) (pg_tup (n := 4) (by rfl) (pgs_cons (pg_name (i := 4) scPMerged.nd rfl (Or.inl rfl)) (pgs_cons (pg_name (i := 5) scPMerged.nd rfl (Or.inl rfl)) (pgs_cons (pg_name (i := 2) scPMerged.nd rfl (Or.inl rfl)) (pgs_cons (pg_name (i := 7) scPMerged.nd rfl (Or.inl rfl)) pgs_nil)))))) <|
            pss_one (ps_expr (pe_bm PySem.F.plainAttrs_list PySem.F.slot_list_append PySem.F.type_list_append mt_append (pv 3) (pa_cons (pe_tup (pa_cons (pv 4) (pa_cons (pv 5) (pa_cons pe_non (pa_cons (pv 7) pa_nil))))) pa_nil))))))) <|
    pss_one (ps_ret (pe_call G_PCompleted (hr.mono (by omega)) (by rfl) D_PCompleted.m D_PCompleted.F.kp D_PCompleted.b .nil pass0 (pa_cons (pe_fldC (K := K) rfl (pv 0) rfl) (pa_cons (pvF 3) (pa_cons (pe_ifExp (pt_truA (pe_meth0 (pv 1) D_PPartIsEmpty.c D_PPartIsEmpty.M G_PPartIsEmpty (hr.mono (by omega)) D_PPartIsEmpty.b .nil pass0)) (pv 2) (pv 1)) (pa_cons pe_bl pa_nil))))))), body_ok _ (fun R => inferInstance) (by decide) (fun ws C Q R hw hC hP => ?_) h⟩)
  obtain ⟨b, m, s, t, u, n, rfl, rfl, hr, hn, h⟩ := hP
  walk_at "t"
  refine dSeq_go ?_
  walk_at "t"
  refine dSeq_go ?_
  refine dWhile_by (α := Nat × PT × PT × List Gap × M.S) (fun a E C => C = [.obj M.c (M.flds b m a.2.2.2.2), M.aux a.2.2.2.2, .lst (a.2.2.2.1.map (gapD b m))] ∧ a.2.2.2.1.length + a.1 ≤ 100000 ∧ GsFit a.2.2.2.1 ∧
    (gMerge b m a.1 a.2.1 a.2.2.1 a.2.2.2.1).wp M b m (rfD M R b m) a.2.2.2.2 (fun p s' => Q (.val (partD b m p)) (opC M b m s')) ∧ ∃ y4 y5 y6 y7, E = [some (.ref 0), some (.val (partD b m a.2.1)), some (.val (partD b m a.2.2.1)), some (.ref 2), y4, y5, y6, y7]) (fun a => a.1) (n, t, u, [], s) ⟨rfl, by show 0 + n ≤ _; omega, fun g hg => (by cases hg), h, none, none, none, none, rfl⟩ ?_
  rintro ⟨n, t, u, gs, s⟩ E C ⟨rfl, hl, hg, h, y4, y5, y6, y7, rfl⟩
  cases n with
  | zero => exact h.elim
  | succ n =>
    have hl : gs.length + (n + 1) ≤ 100000 := hl
    have hg : GsFit gs := hg
    simp only [gMerge, wp_iteS] at h
    walk_at "o"
    refine emp_go ?_
    walk_at "o"
    refine ifnP (fun hc => ?_) (fun hc => ?_)
    · rw [if_neg hc] at h
      refine emp_go ?_
      walk_at "o"
      refine ifnP (fun hc2 => ?_) (fun hc2 => ?_)
      · rw [if_neg hc2] at h
        refine op_go hr h (fun k r x y s' hn h => ?_) (fun z j s' h => ?_)
        · walk_at "o"
          refine op_go hr h (fun k2 r2 x2 y2 s2 hn2 h => ?_) (fun z j s' h => ?_)
          · walk_at "o"
            refine ⟨k, k2, rfl, hn.2.1, hn2.2.1, ?_⟩
            walk_at "o"
            dsimp only at h
            rw [wp_iteS] at h
            by_cases hab : abv k k2 = true
            · rw [if_pos hab] at h ⊢
              (try walk_at "o")
              rw [List.length_map]
              exact ⟨by decide, bigL (by omega), (n, y, .nod k2 r2 x2 y2 true, gs ++ [.lo k r x], s2), Nat.lt_succ_self _, by rw [List.map_append]; rfl, by show (gs ++ [_]).length + n ≤ _; rw [List.length_append]; show gs.length + 1 + n ≤ _; omega, hg.snoc (lo_fit (y := y) hn), h, _, _, _, _, rfl⟩
            · rw [if_neg hab] at h ⊢
              (try walk_at "o")
              rw [List.length_map]
              exact ⟨by decide, bigL (by omega), (n, .nod k r x y true, x2, gs ++ [.hi k2 r2 y2], s2), Nat.lt_succ_self _, by rw [List.map_append]; rfl, by show (gs ++ [_]).length + n ≤ _; rw [List.length_append]; show gs.length + 1 + n ≤ _; omega, hg.snoc (hi_fit (x := x2) hn2), h, _, _, _, _, rfl⟩
          · walk_at "o"
            exact h
        · walk_at "o"
          exact h
      · rw [if_pos hc2] at h
        refine emp_go ?_
        walk_at "o"
        rw [decide_eq_false hc]
        (try walk_at "o")
        refine ⟨b, m, gs, t, true, rfl, hr, fun g hg2 => (hg g hg2).1, ?_⟩
        walk_at "o"
        exact h
    · rw [if_pos hc] at h
      refine emp_go ?_
      walk_at "o"
      rw [decide_eq_true hc]
      (try walk_at "o")
      refine ⟨b, m, gs, u, true, rfl, hr, fun g hg2 => (hg g hg2).1, ?_⟩
      walk_at "o"
      exact h
end
abbrev sPWithRow : Stmt := topS 41
theorem scPWithRow : FnScope ["opener", "tree", "key", "row", "gaps", "part", "gap", "lower", "_", "greater"] ["opener", "tree", "key", "row"] (defScope sPWithRow) := ⟨rfl, rfl, rfl, by decide +kernel, rfl, by decide +kernel, by decide +kernel⟩
def pPWithRow (M : Opn) : DSp := fun ws C Q R => ∃ (b m : Int) (s : M.S) (t : PT) (key : Str) (row : List Int) (n : Nat), ws = [.ref 0, .val (partD b m t), .val (.str key), .val (rowD row)] ∧ C = opC M b m s ∧ RuleOk b m ∧ okD (.str key) ∧ key.length ≤ 1000 ∧ row.length ≤ 1000 ∧ n ≤ 100000 ∧
  (gWith b m key row n t).wp M b m (rfD M R b m) s fun p s' => Q (.val (partD b m p)) (opC M b m s')
section
variable {P : Program} {w : World} {K : PySem.W.Frag} {mg : Str → Option Value} {base : Heap} {ct : Ct}
theorem ok_PWithRow (M : Opn)  [CtOk K ct] {C_Part : Addr} [ClA ct C_Part 0] {C_op : Addr} [ClA ct C_op M.c] (D : Def K mg "with_row" sPWithRow ["opener", "tree", "key", "row"]) (D_PPartIsEmpty : Mth K C_Part "is_empty" "Part.is_empty" sPPartIsEmpty ["self"]) (D_PStandsAbove : Def K mg "stands_above" sPStandsAbove ["key", "other"]) (D_PWayOn : Def K mg "way_on" sPWayOn ["root", "key"]) (D_PSplit : Def K mg "split" sPSplit ["opener", "part", "key"]) (D_PCompleted : Def K mg "completed" sPCompleted ["rule", "gaps", "part", "is_open"]) (D_PRootedPart : Def K mg "rooted_part" sPRootedPart ["rule", "root", "is_open"]) {qo : Str} {so : Stmt} (DO : Mth K C_op "opened" qo so ["self", "part"])
    (G_PPartIsEmpty : FnOk P w K mg base CX0 1 D_PPartIsEmpty.f D_PPartIsEmpty.fd ["self"] (spD ct 0 1 pPPartIsEmpty)) (G_PStandsAbove : FnOk P w K mg base CX0 2 D_PStandsAbove.f D_PStandsAbove.fd ["key", "other"] (spD ct 0 2 pPStandsAbove)) (G_PWayOn : FnOk P w K mg base CX0 1 D_PWayOn.f D_PWayOn.fd ["root", "key"] (spD ct 0 2 pPWayOn)) (G_PSplit : FnOk P w K mg base (L2.CX P w) 12 D_PSplit.f D_PSplit.fd ["opener", "part", "key"] (spD ct 2 3 (pPSplit M))) (G_PCompleted : FnOk P w K mg base CX0 6 D_PCompleted.f D_PCompleted.fd ["rule", "gaps", "part", "is_open"] (spD ct 0 4 pPCompleted)) (G_PRootedPart : FnOk P w K mg base CX0 5 D_PRootedPart.f D_PRootedPart.fd ["rule", "root", "is_open"] (spD ct 0 3 pPRootedPart)) (GO : FnOk P w K mg base (L2.CX P w) 10 DO.f DO.fd ["self", "part"] (spD ct 2 2 (pOpened M))) : FnOk P w K mg base (L2.CX P w) 13 D.f D.fd ["opener", "tree", "key", "row"] (spD ct 2 4 (pPWithRow M)) := by
  refine D.F.okX scPWithRow (fun vs H Q E h => spD_len h) (fun cdv A outer s H vs Q E hr h => ⟨_, (pss_cons (psC (ps_set (i := 4) scPWithRow.nd rfl (.inl rfl) (pe_lst pa_nil))) <|
    pss_cons (ps_set (i := 5) scPWithRow.nd rfl (.inl rfl) (pv 1)) <|
    pss_cons (ps_while (passes_of rfl) (pt_not (pt_truA (pe_meth0 (pv 5) D_PPartIsEmpty.c D_PPartIsEmpty.M G_PPartIsEmpty (hr.mono (by omega)) D_PPartIsEmpty.b .nil pass0)))
      (pss_cons (ps_set (i := 5) scPWithRow.nd rfl (.inl rfl) (pe_methX (pv 0) DO.c DO.M GO (hr.mono (by omega)) DO.b passX (pa_cons (pv 5) pa_nil))) <|
        pss_cons (ps_if (PW.pt (pw_or (pt_cmpR (op_eqD hr.units) (pe_ix ix_seq (pe_fldC (K := K) rfl (pv 5) rfl) pe_int (fun _ _ => rfl)) (pv 2) (nomark _)) (pw_or1 (pt_truA (pe_call G_PStandsAbove (hr.mono (by omega)) (by rfl) D_PStandsAbove.m D_PStandsAbove.F.kp D_PStandsAbove.b .nil pass0 (pa_cons (pv 2) (pa_cons (pe_ix ix_seq (pe_fldC (K := K) rfl (pv 5) rfl) pe_int (fun _ _ => rfl)) pa_nil)))))))
          (pss_one ps_break) pss_nil) <|
        pss_cons (ps_asg (pe_call G_PWayOn (hr.mono (by omega)) (by rfl) D_PWayOn.m D_PWayOn.F.kp D_PWayOn.b .nil pass0 (pa_cons (pe_fldC (K := K) rfl (pv 5) rfl) (pa_cons (pv 2) pa_nil))) (pg_tup (n := 2) (by rfl) (pgs_cons (pg_name (i := 6) scPWithRow.nd rfl (Or.inl rfl)) (pgs_cons (pg_name (i := 5) scPWithRow.nd rfl (Or.inl rfl)) pgs_nil)))) <|
        pss_one (ps_expr (pe_bm PySem.F.plainAttrs_list PySem.F.slot_list_append PySem.F.type_list_append mt_append (pv 4) (pa_cons (pv 6) pa_nil))))) <|
    pss_cons (ps_asg (pe_callX G_PSplit (hr.mono (by omega)) (by rfl) D_PSplit.m D_PSplit.F.kp D_PSplit.b passX (pa_cons (pv 0) (pa_cons (pv 5) (pa_cons (pv 2) pa_nil)))) (pg_tup (n := 3) (by rfl) (pgs_cons (pg_name (i := 7) scPWithRow.nd rfl (Or.inl rfl)) (pgs_cons (pg_name (i := 8) scPWithRow.nd rfl (Or.inl rfl)) (pgs_cons (pg_name (i := 9) scPWithRow.nd rfl (Or.inl rfl)) pgs_nil))))) <|
    pss_one (ps_ret (pe_call G_PCompleted (hr.mono (by omega)) (by rfl) D_PCompleted.m D_PCompleted.F.kp D_PCompleted.b .nil pass0 (pa_cons (pe_fldC (K := K) rfl (pv 0) rfl) (pa_cons (pvF 4) (pa_cons (pe_call G_PRootedPart (hr.mono (by omega)) (by rfl) D_PRootedPart.m D_PRootedPart.F.kp D_PRootedPart.b .nil pass0 (pa_cons (pe_fldC (K := K) rfl (pv 0) rfl) (pa_cons (pe_tup (pa_cons (pv 2) (pa_cons (pv 3) (pa_cons (pv 7) (pa_cons (pv 9) pa_nil))))) (pa_cons pe_bl pa_nil)))) (pa_cons pe_bl pa_nil))))))), body_ok _ (fun R => inferInstance) (by decide) (fun ws C Q R hw hC hP => ?_) h⟩)
  obtain ⟨b, m, s, t, key, row, n, rfl, rfl, hr, hk, hkl, hrl, hn, h⟩ := hP
  unfold gWith at h
  rw [wp_bind] at h
  walk_at "t"
  refine dSeq_go ?_
  walk_at "t"
  refine dSeq_go ?_
  walk_at "t"
  refine dSeq_cut (fun E C => ∃ (w : List Gap × PT) (s' : M.S), C = [.obj M.c (M.flds b m s'), M.aux s', .lst (w.1.map (gapD b m))] ∧ GsFit w.1 ∧ ((gSplit b m key n w.2).bind fun p => .ret (compl true w.1 (.nod key row p.1 p.2.2 true))).wp M b m (rfD M R b m) s' (fun p s' => Q (.val (partD b m p)) (opC M b m s')) ∧ ∃ y1 y6 y7 y8 y9, E = [some (.ref 0), y1, some (.val (.str key)), some (.val (rowD row)), some (.ref 2), some (.val (partD b m w.2)), y6, y7, y8, y9]) (fun N hN => ?_) ?_
  · have h := down_fit n t [] s (fun g hg => by cases hg) h
    refine dWhile_by (α := Nat × PT × List Gap × M.S) (fun a E C => C = [.obj M.c (M.flds b m a.2.2.2), M.aux a.2.2.2, .lst (a.2.2.1.map (gapD b m))] ∧ a.2.2.1.length + a.1 ≤ 100000 ∧
      (gDown b m key a.1 a.2.1 a.2.2.1).wp M b m (rfD M R b m) a.2.2.2 (fun w s' => GsFit w.1 ∧ ((gSplit b m key n w.2).bind fun p => .ret (compl true w.1 (.nod key row p.1 p.2.2 true))).wp M b m (rfD M R b m) s' (fun p s' => Q (.val (partD b m p)) (opC M b m s'))) ∧ ∃ y6, E = [some (.ref 0), some (.val (partD b m t)), some (.val (.str key)), some (.val (rowD row)), some (.ref 2), some (.val (partD b m a.2.1)), y6, none, none, none]) (fun a => a.1) (n, t, [], s) ⟨rfl, by show 0 + n ≤ _; omega, h, none, rfl⟩ ?_
    rintro ⟨i, u, gs, s⟩ E C ⟨rfl, hl, h, y6, rfl⟩
    cases i with
    | zero => exact h.elim
    | succ i =>
      have hl : gs.length + (i + 1) ≤ 100000 := hl
      simp only [gDown, wp_iteS] at h
      walk_at "o"
      refine emp_go ?_
      walk_at "o"
      refine ifnP (fun hc => ?_) (fun hc => ?_)
      · rw [if_neg hc] at h
        refine op_go hr h (fun k r x y s' hn h => ?_) (fun z j s' h => ?_)
        · simp only [wp_iteS] at h
          walk_at "o"
          refine ⟨hn.1, hk, ?_⟩
          have brk : ∀ (y1 y6 y7 y8 y9 : Option W), (k = key ∨ abv key k = true) → N [some (.ref 0), y1, some (.val (.str key)), some (.val (rowD row)), some (.ref 2), some (.val (partD b m (.nod k r x y true))), y6, y7, y8, y9] [.obj M.c (M.flds b m s'), M.aux s', .lst (gs.map (gapD b m))] := fun y1 y6 y7 y8 y9 hb => hN _ _ ⟨(gs, .nod k r x y true), s', rfl, (by rw [if_pos hb] at h; exact h.1), (by rw [if_pos hb] at h; exact h.2), _, _, _, _, _, rfl⟩
          by_cases e : k = key
          · rw [decide_eq_true e, if_pos rfl]
            exact brk _ _ _ _ _ (.inl e)
          · rw [decide_eq_false e, if_neg (by decide)]
            refine ⟨key, k, rfl, hkl, hn.2.1, ?_⟩
            walk_at "o"
            by_cases hab : abv key k = true
            · rw [if_pos hab]
              exact brk _ _ _ _ _ (.inr hab)
            · rw [if_neg hab]
              rw [if_neg (fun z => z.elim e hab)] at h
              refine ⟨b, m, k, r, x, y, key, rfl, ?_⟩
              by_cases hs : slt key k = true
              · rw [if_pos hs] at h ⊢
                walk_at "o"
                rw [List.length_map]
                exact ⟨bigL (by omega), (i, x, gs ++ [.hi k r y], s'), Nat.lt_succ_self _, by rw [List.map_append]; rfl, by show (gs ++ [_]).length + i ≤ _; rw [List.length_append]; show gs.length + 1 + i ≤ _; omega, h, _, rfl⟩
              · rw [if_neg hs] at h ⊢
                walk_at "o"
                rw [List.length_map]
                exact ⟨bigL (by omega), (i, y, gs ++ [.lo k r x], s'), Nat.lt_succ_self _, by rw [List.map_append]; rfl, by show (gs ++ [_]).length + i ≤ _; rw [List.length_append]; show gs.length + 1 + i ≤ _; omega, h, _, rfl⟩
        · walk_at "o"
          exact h
      · rw [if_pos hc] at h
        exact hN _ _ ⟨(gs, u), s, rfl, h.1, h.2, _, _, _, _, _, rfl⟩
  · rintro E C ⟨w, s', rfl, hg, h, y1, y6, y7, y8, y9, rfl⟩
    rw [wp_bind] at h
    refine dSeq_go ?_
    walk_at "t"
    refine ⟨b, m, s', w.2, key, n, rfl, rfl, hr, hk, hn, ?_⟩
    (try walk_at "t")
    refine wp_mono (fun p s2 h => ?_) (fun _ _ _ h => h) _ _ h
    unfold spl3D
    walk_at "o"
    refine ⟨by decide, b, m, key, row, p.1, p.2.2, true, rfl, hr, hkl, hrl, ?_⟩
    walk_at "o"
    refine ⟨b, m, w.1, .nod key row p.1 p.2.2 true, true, rfl, hr, fun g hg2 => (hg g hg2).1, ?_⟩
    walk_at "o"
    exact h
end
abbrev sPWithoutRow : Stmt := topS 42
theorem scPWithoutRow : FnScope ["opener", "tree", "key", "gaps", "found", "rest"] ["opener", "tree", "key"] (defScope sPWithoutRow) := ⟨rfl, rfl, rfl, by decide +kernel, rfl, by decide +kernel, by decide +kernel⟩
def pPWithoutRow (M : Opn) : DSp := fun ws C Q R => ∃ (b m : Int) (s : M.S) (t : PT) (key : Str) (n : Nat), ws = [.ref 0, .val (partD b m t), .val (.str key)] ∧ C = opC M b m s ∧ RuleOk b m ∧ okD (.str key) ∧ n ≤ 100000 ∧
  (gWithout b m key n t).wp M b m (rfD M R b m) s fun p s' => Q (.val (partD b m p)) (opC M b m s')
section
variable {P : Program} {w : World} {K : PySem.W.Frag} {mg : Str → Option Value} {base : Heap} {ct : Ct}
theorem ok_PWithoutRow (M : Opn)  [CtOk K ct] {C_Part : Addr} [ClA ct C_Part 0] {C_op : Addr} [ClA ct C_op M.c] (D : Def K mg "without_row" sPWithoutRow ["opener", "tree", "key"]) (D_PWayTo : Def K mg "way_to" sPWayTo ["opener", "part", "key"]) (D_PPartIsEmpty : Mth K C_Part "is_empty" "Part.is_empty" sPPartIsEmpty ["self"]) (D_PMerged : Def K mg "merged" sPMerged ["opener", "first", "second"]) (D_PCompleted : Def K mg "completed" sPCompleted ["rule", "gaps", "part", "is_open"]) {qo : Str} {so : Stmt} (DO : Mth K C_op "opened" qo so ["self", "part"])
    (G_PWayTo : FnOk P w K mg base (L2.CX P w) 11 D_PWayTo.f D_PWayTo.fd ["opener", "part", "key"] (spD ct 2 3 (pPWayTo M))) (G_PPartIsEmpty : FnOk P w K mg base CX0 1 D_PPartIsEmpty.f D_PPartIsEmpty.fd ["self"] (spD ct 0 1 pPPartIsEmpty)) (G_PMerged : FnOk P w K mg base (L2.CX P w) 12 D_PMerged.f D_PMerged.fd ["opener", "first", "second"] (spD ct 2 3 (pPMerged M))) (G_PCompleted : FnOk P w K mg base CX0 6 D_PCompleted.f D_PCompleted.fd ["rule", "gaps", "part", "is_open"] (spD ct 0 4 pPCompleted)) (GO : FnOk P w K mg base (L2.CX P w) 10 DO.f DO.fd ["self", "part"] (spD ct 2 2 (pOpened M))) : FnOk P w K mg base (L2.CX P w) 13 D.f D.fd ["opener", "tree", "key"] (spD ct 2 3 (pPWithoutRow M)) := by
  refine D.F.okX scPWithoutRow (fun vs H Q E h => spD_len h) (fun cdv A outer s H vs Q E hr h => ⟨_, (pss_cons (ps_asg (pe_callX G_PWayTo (hr.mono (by omega)) (by rfl) D_PWayTo.m D_PWayTo.F.kp D_PWayTo.b passX (pa_cons (pv 0) (pa_cons (pv 1) (pa_cons (pv 2) pa_nil)))) (pg_tup (n := 2) (by rfl) (pgs_cons (pg_name (i := 3) scPWithoutRow.nd rfl (Or.inl rfl)) (pgs_cons (pg_name (i := 4) scPWithoutRow.nd rfl (Or.inl rfl)) pgs_nil)))) <|
    pss_cons (ps_if (pt_truA (pe_meth0 (pv 4) D_PPartIsEmpty.c D_PPartIsEmpty.M G_PPartIsEmpty (hr.mono (by omega)) D_PPartIsEmpty.b .nil pass0))
      (pss_one (ps_set (i := 5) scPWithoutRow.nd rfl (.inl rfl) (pv 4))) (pss_one (ps_set (i := 5) scPWithoutRow.nd rfl (.inl rfl) (pe_callX G_PMerged (hr.mono (by omega)) (by rfl) D_PMerged.m D_PMerged.F.kp D_PMerged.b passX (pa_cons (pv 0) (pa_cons (pe_ix ix_seq (pe_fldC (K := K) rfl (pv 4) rfl) pe_int (fun _ _ => rfl)) (pa_cons (pe_ix ix_seq (pe_fldC (K := K) rfl (pv 4) rfl) pe_int (fun _ _ => rfl)) pa_nil))))))) <|
    pss_one (ps_ret (pe_call G_PCompleted (hr.mono (by omega)) (by rfl) D_PCompleted.m D_PCompleted.F.kp D_PCompleted.b .nil pass0 (pa_cons (pe_fldC (K := K) rfl (pv 0) rfl) (pa_cons (pv 3) (pa_cons (pv 5) (pa_cons pe_bl pa_nil))))))), body_ok _ (fun R => inferInstance) (by decide) (fun ws C Q R hw hC hP => ?_) h⟩)
  obtain ⟨b, m, s, t, key, n, rfl, rfl, hr, hk, hn, h⟩ := hP
  unfold gWithout at h
  rw [wp_bind] at h
  have h := way_fit n t [] s (fun g hg => by cases hg) h
  walk_at "t"
  refine dSeq_go ?_
  walk_at "t"
  refine ⟨b, m, s, t, key, n, rfl, rfl, hr, hk, hn, ?_⟩
  (try walk_at "t")
  refine wp_mono (fun w s' h => ?_) (fun _ _ _ h => h) _ _ h
  obtain ⟨hg, h⟩ := h
  unfold gRest at h
  rw [wp_iteS] at h
  (try walk_at "t")
  refine dSeq_go ?_
  walk_at "t"
  refine emp_go ?_
  walk_at "t"
  refine ifd (fun hc => ?_) (fun hc => ?_)
  · rw [if_pos hc] at h
    (try walk_at "o")
    refine ⟨b, m, w.1, w.2, true, rfl, hr, fun g hg2 => (hg g hg2).1, ?_⟩
    walk_at "o"
    exact h
  · rw [if_neg hc] at h
    generalize w.2 = u at h
    cases u with
    | hid l o => exact h.elim
    | nod k r x y o =>
      dsimp only at h
      rw [wp_bind] at h
      walk_at "o"
      refine ⟨b, m, s', x, y, n, rfl, rfl, hr, hn, ?_⟩
      (try walk_at "o")
      refine wp_mono (fun p s2 h => ?_) (fun _ _ _ h => h) _ _ h
      (try walk_at "o")
      refine ⟨b, m, w.1, p, true, rfl, hr, fun g hg2 => (hg g hg2).1, ?_⟩
      walk_at "o"
      exact h
end
abbrev sPSpliced : Stmt := topS 43
theorem scPSpliced : FnScope ["opener", "tree", "change"] ["opener", "tree", "change"] (defScope sPSpliced) := ⟨rfl, rfl, rfl, by decide +kernel, rfl, by decide +kernel, by decide +kernel⟩
def pPSpliced (M : Opn) : DSp := fun ws C Q R => ∃ (b m : Int) (s : M.S) (t : PT) (ch : Chg) (n : Nat), ws = [.ref 0, .val (partD b m t), .val (chgD ch)] ∧ C = opC M b m s ∧ RuleOk b m ∧ ch.Ok ∧ n ≤ 100000 ∧
  (gSpl b m n t ch).wp M b m (rfD M R b m) s fun p s' => Q (.val (partD b m p)) (opC M b m s')
section
variable {P : Program} {w : World} {K : PySem.W.Frag} {mg : Str → Option Value} {base : Heap} {ct : Ct}
theorem ok_PSpliced (M : Opn)  [CtOk K ct] {C_op : Addr} [ClA ct C_op M.c] (D : Def K mg "spliced" sPSpliced ["opener", "tree", "change"]) (D_PWithRow : Def K mg "with_row" sPWithRow ["opener", "tree", "key", "row"]) (D_PWithoutRow : Def K mg "without_row" sPWithoutRow ["opener", "tree", "key"]) {qo : Str} {so : Stmt} (DO : Mth K C_op "opened" qo so ["self", "part"])
    (G_PWithRow : FnOk P w K mg base (L2.CX P w) 13 D_PWithRow.f D_PWithRow.fd ["opener", "tree", "key", "row"] (spD ct 2 4 (pPWithRow M))) (G_PWithoutRow : FnOk P w K mg base (L2.CX P w) 13 D_PWithoutRow.f D_PWithoutRow.fd ["opener", "tree", "key"] (spD ct 2 3 (pPWithoutRow M))) (GO : FnOk P w K mg base (L2.CX P w) 10 DO.f DO.fd ["self", "part"] (spD ct 2 2 (pOpened M))) : FnOk P w K mg base (L2.CX P w) 14 D.f D.fd ["opener", "tree", "change"] (spD ct 2 3 (pPSpliced M)) := by
  refine D.F.okX scPSpliced (fun vs H Q E h => spD_len h) (fun cdv A outer s H vs Q E hr h => ⟨_, (pss_cons (ps_if (pt_cmpR (op_eqD hr.units) (pe_ix ix_seq (pv 2) pe_int (fun _ _ => rfl)) pe_str (nomark _))
      (pss_one (ps_ret (pe_callX G_PWithRow (hr.mono (by omega)) (by rfl) D_PWithRow.m D_PWithRow.F.kp D_PWithRow.b passX (pa_cons (pv 0) (pa_cons (pv 1) (pa_cons (pe_ix ix_seq (pv 2) pe_int (fun _ _ => rfl)) (pa_cons (pe_ix ix_seq (pv 2) pe_int (fun _ _ => rfl)) pa_nil))))))) pss_nil) <|
    pss_one (ps_ret (pe_callX G_PWithoutRow (hr.mono (by omega)) (by rfl) D_PWithoutRow.m D_PWithoutRow.F.kp D_PWithoutRow.b passX (pa_cons (pv 0) (pa_cons (pv 1) (pa_cons (pe_ix ix_seq (pv 2) pe_int (fun _ _ => rfl)) pa_nil)))))), body_ok _ (fun R => inferInstance) (by decide) (fun ws C Q R hw hC hP => ?_) h⟩)
  obtain ⟨b, m, s, t, ch, n, rfl, rfl, hr, hc, hn, h⟩ := hP
  cases ch with
  | put k r =>
    have hc : KeyOk k ∧ RowOk r := hc
    have h1 := hc.1.2.1
    have h2 := hc.2.2.1
    simp only [chgD]
    walk_at "o"
    refine ⟨by decide +kernel, by decide +kernel, b, m, s, t, k, r, n, rfl, rfl, hr, okD_key hc.1, by omega, by omega, hn, ?_⟩
    (try walk_at "o")
    exact h
  | rem k =>
    have hc : KeyOk k := hc
    simp only [chgD]
    walk_at "o"
    refine ⟨by decide +kernel, by decide +kernel, ?_⟩
    rw [if_neg (by decide +kernel)]
    refine ⟨b, m, s, t, k, n, rfl, rfl, hr, okD_key hc, hn, ?_⟩
    (try walk_at "o")
    exact h
end

/-! ### entries by their looks -/
def natB : PyData → Bool
  | .int i => decide (0 ≤ i)
  | _ => false
def sumB : PyData → Bool
  | .tuple ds => decide (ds.length = 3) && ds.all natB
  | _ => false
def lnkB : PyData → Bool
  | .tuple [d, c, s] => natB d && (natB c && sumB s)
  | _ => false
def cellB : PyData → Bool
  | .int i => decide (0 ≤ i) && decide (i ≤ 65535)
  | _ => false
def rowB : PyData → Bool
  | .tuple ds => (decide (1 ≤ ds.length) && decide (ds.length ≤ 3)) && ds.all cellB
  | _ => false
def keyB : PyData → Bool
  | .str s => (decide (1 ≤ s.length) && decide (s.length ≤ 8)) && s.cps.toList.all fun c => decide (c ∈ letS.cps.toList)
  | _ => false
def entB : PyData → Bool
  | .tuple [k, r, x, y] => keyB k && (rowB r && (lnkB x && lnkB y))
  | _ => false
theorem nats_ints : ∀ {ds : List PyData}, (∀ d ∈ ds, natB d = true) → ∃ ns : List Int, ds = ns.map PyData.int ∧ ∀ n ∈ ns, 0 ≤ n
  | [], _ => ⟨[], rfl, fun n h => by cases h⟩
  | d :: r, h => by
    obtain ⟨ns, e, h2⟩ := nats_ints fun d hd => h d (List.mem_cons_of_mem _ hd)
    have h1 := h d List.mem_cons_self
    cases d with
    | int i => exact ⟨i :: ns, by rw [e]; rfl, fun n hn => by
        rcases List.mem_cons.mp hn with z | z
        · rw [z]
          exact of_decide_eq_true h1
        · exact h2 n z⟩
    | none => cases h1
    | bool b => cases h1
    | str s => cases h1
    | list xs => cases h1
    | tuple xs => cases h1
    | dict xs => cases h1
theorem cells_ints : ∀ {ds : List PyData}, (∀ d ∈ ds, cellB d = true) → ∃ ns : List Int, ds = ns.map PyData.int ∧ ∀ n ∈ ns, 0 ≤ n ∧ n ≤ 65535
  | [], _ => ⟨[], rfl, fun n h => by cases h⟩
  | d :: r, h => by
    obtain ⟨ns, e, h2⟩ := cells_ints fun d hd => h d (List.mem_cons_of_mem _ hd)
    have h1 := h d List.mem_cons_self
    cases d with
    | int i => exact ⟨i :: ns, by rw [e]; rfl, fun n hn => by
        rcases List.mem_cons.mp hn with z | z
        · rw [z]
          have h3 : (decide (0 ≤ i) && decide (i ≤ 65535)) = true := h1
          rw [Bool.and_eq_true] at h3
          exact ⟨of_decide_eq_true h3.1, of_decide_eq_true h3.2⟩
        · exact h2 n z⟩
    | none => cases h1
    | bool b => cases h1
    | str s => cases h1
    | list xs => cases h1
    | tuple xs => cases h1
    | dict xs => cases h1
theorem natB_int {i : Int} : natB (.int i) = true ↔ 0 ≤ i := ⟨fun h => of_decide_eq_true h, fun h => decide_eq_true h⟩
theorem lnkB_un {d : PyData} (h : lnkB d = true) : ∃ l : Lnk, d = linkD l ∧ l.Ok := by
  unfold lnkB at h
  split at h
  · rename_i a c s
    rw [Bool.and_eq_true, Bool.and_eq_true] at h
    obtain ⟨h1, h2, h3⟩ := h
    unfold sumB at h3
    split at h3
    · rename_i ds
      rw [Bool.and_eq_true, List.all_eq_true] at h3
      obtain ⟨ns, e, hn⟩ := nats_ints h3.2
      subst e
      have hl : ns.length = 3 := by
        have := of_decide_eq_true h3.1
        rw [List.length_map] at this
        exact this
      match ns, hl, hn with
      | [x, y, z], _, hn =>
        cases a with
        | int a =>
          cases c with
          | int c => exact ⟨⟨a, c, x, y, z⟩, rfl, natB_int.mp h1, natB_int.mp h2, hn x (by simp), hn y (by simp), hn z (by simp)⟩
          | _ => cases h2
        | _ => cases h1
    · cases h3
  · cases h
theorem lnkB_mk {l : Lnk} (h : l.Ok) : lnkB (linkD l) = true := by
  obtain ⟨h0, h1, h2, h3, h4⟩ := h
  show (decide (0 ≤ l.d) && (decide (0 ≤ l.c) && (true && (decide (0 ≤ l.s0) && (decide (0 ≤ l.s1) && (decide (0 ≤ l.s2) && true)))))) = true
  rw [decide_eq_true h0, decide_eq_true h1, decide_eq_true h2, decide_eq_true h3, decide_eq_true h4]
  rfl
theorem rowB_un {d : PyData} (h : rowB d = true) : ∃ ns : List Int, d = rowD ns ∧ RowOk ns := by
  unfold rowB at h
  split at h
  · rename_i ds
    rw [Bool.and_eq_true, Bool.and_eq_true, List.all_eq_true] at h
    obtain ⟨⟨h1, h2⟩, h3⟩ := h
    obtain ⟨ns, e, hn⟩ := cells_ints h3
    subst e
    have k1 := of_decide_eq_true h1
    have k2 := of_decide_eq_true h2
    rw [List.length_map] at k1 k2
    exact ⟨ns, rfl, k1, k2, hn⟩
  · cases h
theorem rowB_mk {ns : List Int} (h : RowOk ns) : rowB (rowD ns) = true := by
  show ((decide (1 ≤ (ns.map PyData.int).length) && decide ((ns.map PyData.int).length ≤ 3)) && (ns.map PyData.int).all cellB) = true
  rw [List.length_map, decide_eq_true h.1, decide_eq_true h.2.1, Bool.true_and, Bool.true_and, List.all_eq_true]
  intro x hx
  obtain ⟨n, hn, rfl⟩ := List.mem_map.mp hx
  show (decide (0 ≤ n) && decide (n ≤ 65535)) = true
  rw [decide_eq_true (h.2.2 n hn).1, decide_eq_true (h.2.2 n hn).2]
  rfl
theorem keyB_un {d : PyData} (h : keyB d = true) : ∃ s : Str, d = .str s ∧ KeyOk s := by
  unfold keyB at h
  split at h
  · rename_i s
    rw [Bool.and_eq_true, Bool.and_eq_true, List.all_eq_true] at h
    obtain ⟨⟨h1, h2⟩, h3⟩ := h
    exact ⟨s, rfl, of_decide_eq_true h1, of_decide_eq_true h2, fun c hc => of_decide_eq_true (h3 c hc)⟩
  · cases h
theorem keyB_mk {s : Str} (h : KeyOk s) : keyB (.str s) = true := by
  show ((decide (1 ≤ s.length) && decide (s.length ≤ 8)) && s.cps.toList.all fun c => decide (c ∈ letS.cps.toList)) = true
  rw [decide_eq_true h.1, decide_eq_true h.2.1, Bool.true_and, Bool.true_and, List.all_eq_true]
  exact fun c hc => decide_eq_true (h.2.2 c hc)
theorem entB_un {d : PyData} (h : entB d = true) : ∃ e : Ent, d = entD e ∧ e.Ok := by
  unfold entB at h
  split at h
  · rename_i k r x y
    rw [Bool.and_eq_true, Bool.and_eq_true, Bool.and_eq_true] at h
    obtain ⟨h1, h2, h3, h4⟩ := h
    obtain ⟨s, rfl, hs⟩ := keyB_un h1
    obtain ⟨ns, rfl, hn⟩ := rowB_un h2
    obtain ⟨a, rfl, ha⟩ := lnkB_un h3
    obtain ⟨c, rfl, hc⟩ := lnkB_un h4
    exact ⟨⟨s, ns, a, c⟩, rfl, hs, hn, ha, hc⟩
  · cases h
theorem entB_mk {e : Ent} (h : e.Ok) : entB (entD e) = true := by
  obtain ⟨h1, h2, h3, h4⟩ := h
  show (keyB (.str e.key) && (rowB (rowD e.row) && (lnkB (linkD e.l) && lnkB (linkD e.r)))) = true
  rw [keyB_mk h1, rowB_mk h2, lnkB_mk h3, lnkB_mk h4]
  rfl
theorem asEnt_none_iff {d : PyData} : asEnt d = none ↔ entB d = false := by
  constructor
  · intro h
    refine Bool.eq_false_iff.mpr fun z => ?_
    obtain ⟨e, rfl, he⟩ := entB_un z
    exact asEnt_none h e he rfl
  · intro h
    cases e : asEnt d with
    | none => rfl
    | some g =>
      obtain ⟨rfl, hg⟩ := asEnt_some e
      rw [entB_mk hg] at h
      cases h
/-! plain data, none too wide -/
mutual
def plB : PyData → Bool
  | .none => true
  | .bool _ => true
  | .int _ => true
  | .str z => decide (z.length ≤ 1000)
  | .list ds => decide (ds.length ≤ 1000) && plBs ds
  | .tuple ds => decide (ds.length ≤ 1000) && plBs ds
  | .dict _ => false
def plBs : List PyData → Bool
  | [] => true
  | d :: ds => plB d && plBs ds
end
theorem plBs_mem : ∀ {ds : List PyData} {d : PyData}, plBs ds = true → d ∈ ds → plB d = true
  | e :: ds, d, h, m => by
    have h2 : (plB e && plBs ds) = true := h
    rw [Bool.and_eq_true] at h2
    rcases List.mem_cons.mp m with rfl | m
    · exact h2.1
    · exact plBs_mem h2.2 m
theorem plB_tup {ds : List PyData} (h : plB (.tuple ds) = true) : ds.length ≤ 1000 ∧ ∀ d ∈ ds, plB d = true := by
  have h2 : (decide (ds.length ≤ 1000) && plBs ds) = true := h
  rw [Bool.and_eq_true] at h2
  exact ⟨of_decide_eq_true h2.1, fun d m => plBs_mem h2.2 m⟩
def numsB : PyData → Bool
  | .tuple ds => ds.all natB
  | _ => false
theorem all_map {α : Type} (f : α → Bool) (l : List α) : (l.map f).all id = l.all f := by
  rw [List.all_map]
  rfl
theorem lnkB_len {ds : List PyData} (h : ds.length ≠ 3) : lnkB (.tuple ds) = false := by
  match ds, h with
  | [], _ => rfl
  | [_], _ => rfl
  | [_, _], _ => rfl
  | [_, _, _], h => exact absurd rfl h
  | _ :: _ :: _ :: _ :: _, _ => rfl
theorem entB_len {ds : List PyData} (h : ds.length ≠ 4) : entB (.tuple ds) = false := by
  match ds, h with
  | [], _ => rfl
  | [_], _ => rfl
  | [_, _], _ => rfl
  | [_, _, _], _ => rfl
  | [_, _, _, _], h => exact absurd rfl h
  | _ :: _ :: _ :: _ :: _ :: _, _ => rfl
def signB (j : Str) : PyData → Bool
  | .str y => !(Builtin.Str.occurrences j y 0 j.length 1).isEmpty
  | _ => false
theorem sb_t {n k : Nat} (h : n ≤ k) : decide ((n : Int) ≤ (k : Nat)) = true := decide_eq_true (by omega)
theorem nums_tup {s : PyData} (h : numsB s = true) : ∃ ds, s = .tuple ds := by
  cases s with
  | tuple ds => exact ⟨ds, rfl⟩
  | _ => cases h
theorem sum_false {s : PyData} (h : numsB s = false) : sumB s = false := by
  cases s with
  | tuple ds =>
    have h2 : ds.all natB = false := h
    show (decide (ds.length = 3) && ds.all natB) = false
    rw [h2, Bool.and_false]
  | _ => rfl
theorem sum_true {ds : List PyData} (h : numsB (.tuple ds) = true) : sumB (.tuple ds) = decide (((ds.length : Nat) : Int) = 3) := by
  have h2 : ds.all natB = true := h
  show (decide (ds.length = 3) && ds.all natB) = _
  rw [h2, Bool.and_true]
  exact decide_eq_decide.mpr (by omega)

set_option hygiene false in
local macro_rules | `(tactic| walk_at "d") => `(tactic| simp -implicitDefEqProofs only [dSeqS, dNext, dDrop, dRet, dRetN, dIfS, dAsg, dAsgC, dgName, dgTup.eq_1, dgTup.eq_2, dgCons.eq_1, dgCons.eq_2, dgNil, dgSub, subK.eq_1, subK.eq_2, dVar, dVarF, dC, dOp, fII.eq_1, fII.eq_2, fIIc.eq_1, fIIc.eq_2, fAdd.eq_1, fAdd.eq_2, fAdd.eq_3, fAdd.eq_4, fAdd.eq_5, fAdd.eq_6, fCmp.eq_1, fCmp.eq_2, fCmp.eq_3, fEqD, fIsN.eq_1, fIsN.eq_2, isNon.eq_1, isNon.eq_2, rdV.eq_1, rdV.eq_2, rdV.eq_3, rdL.eq_1, rdL.eq_2, rdL.eq_3, dB, dAnd, dOr, dNot, dTru, dIf, dAndV, dOrV, dNotV, dChain, dNil, dCons, vals.eq_1, vals.eq_2, vals.eq_3, dTup, dLst, fIx.eq_1, fIx.eq_2, fIx.eq_3, fIx.eq_4, fIx.eq_5, dSl, dPart, dNoPart, dCB, fLen.eq_1, fLen.eq_2, fLen.eq_3, fLen.eq_4, fLen.eq_5, fInt.eq_1, fInt.eq_2, fInt.eq_3, fList.eq_1, fList.eq_2, rdS.eq_1, rdS.eq_2, rdS.eq_3, rdS.eq_4, fTup.eq_1, fTup.eq_2, fOrd.eq_1, fOrd.eq_2, fIsi.eq_1, fIsi.eq_2, tyD.eq_1, tyD.eq_2, tyD.eq_3, tyD.eq_4, tyD.eq_5, tyD.eq_6, tyD.eq_7, kb1, kb2, kb3, kb4, kb5, kb6, kb7, kb8, kb9, kb10, kb11, kb12, kb13, kb14, kb15, kb16, kb17, kb18, kb19, kb20, kb21, kb22, kb23, kb24, dSeq, seqK.eq_1, seqK.eq_2, seqK.eq_3, seqK.eq_4, seqK.eq_5, dRng1, dRng2, dRev, lstK.eq_1, lstK.eq_2, lstK.eq_3, dEnum, dZip, dBM, dBM0, fAppend.eq_1, fAppend.eq_2, fExtend.eq_1, fExtend.eq_2, fExtA.eq_1, fExtA.eq_2, fPop.eq_1, fPop.eq_2, dRevT, dRevL, f2I.eq_1, f2I.eq_2, bK.eq_1, bK.eq_2, truK.eq_1, truK.eq_2, truK.eq_3, truK.eq_4, truK.eq_5, truK.eq_6, truK.eq_7, truL.eq_1, truL.eq_2, dispK.eq_1, dispK.eq_2, ixK.eq_1, ixK.eq_2, ixS.eq_1, ixS.eq_2, ixL.eq_1, ixL.eq_2, partK.eq_1, partK.eq_2, slK.eq_1, slK.eq_2, slK.eq_3, slK.eq_4, slK.eq_5, slL.eq_1, slL.eq_2, lenLK.eq_1, lenLK.eq_2, mkL.eq_1, mkL.eq_2, isiB.eq_1, isiB.eq_2, isiK.eq_1, isiK.eq_2, frzK.eq_1, frzK.eq_2, frzK.eq_3, rng1K.eq_1, rng1K.eq_2, rng2K.eq_1, rng2K.eq_2, lst1K.eq_1, lst1K.eq_2, zipK.eq_1, zipK.eq_2, sub1K.eq_1, sub1K.eq_2, sub2K.eq_1, sub2K.eq_2, appK.eq_1, appK.eq_2, extK.eq_1, extK.eq_2, pop2K.eq_1, pop2K.eq_2, popK.eq_1, popK.eq_2, lstFK.eq_1, lstFK.eq_2, lisFK.eq_1, lisFK.eq_2, lisF2K.eq_1, lisF2K.eq_2, accK.eq_1, accK.eq_2, dVal, revTK.eq_1, revTK.eq_2, callK.eq_1, callK.eq_2, eqK.eq_1, eqK.eq_2, catK.eq_1, catK.eq_2, cellL.eq_1, cellL.eq_2, cellL.eq_3, okDi, okDb, okDn, eqvi, eqvs, dLstF, dListF, dLc, dYes, wipeE.eq_1, wipeE.eq_2, dFor, fin, finD, wOk.eq_1, wOk.eq_2, cellOk.eq_1, cellOk.eq_2, E0D, dCallP, dCallW, putW, firstRef.eq_1, firstRef.eq_2, firstRef.eq_3, shW.eq_1, shW.eq_2, unW.eq_1, unW.eq_2, inW.eq_1, inW.eq_2, shC.eq_1, shC.eq_2, unC.eq_1, unC.eq_2, inC.eq_1, inC.eq_2, dBreak, at0, at1, at2, at3, atI_last, List.getElem?_cons_zero, List.getElem?_cons_succ, List.getElem?_nil, List.set_cons_zero, List.set_cons_succ, List.map_cons, List.map_nil, List.length_cons, List.length_nil, List.replicate_succ, List.replicate_zero, List.cons_append, List.nil_append, List.append_nil, Option.map_some, Option.map_none, Option.isSome_some, if_true, if_false, ite_true, ite_false, Bool.and_true, Bool.true_and, Bool.and_false, Bool.false_and, Bool.or_true, Bool.or_false, Bool.true_or, Bool.false_or, Bool.not_true, Bool.not_false, true_and, and_true, List.take_succ_cons, List.take_zero, List.take_nil, List.drop_zero, List.drop_succ_cons, List.drop_nil, List.all_cons, List.all_nil, List.any_cons, List.any_nil, List.contains_cons, List.elem_nil, Nat.zero_add, Nat.add_zero, Nat.le_refl, Nat.reduceAdd, Nat.reduceSub, Nat.reduceLT, Nat.reduceLeDiff, Nat.sub_self, Nat.sub_zero, Nat.zero_le, decide_true, decide_false, beq_self_eq_true, Bool.false_eq_true, reduceCtorEq, List.isEmpty_cons, List.isEmpty_nil, List.dropLast_concat, dUn, unK.eq_1, unK.eq_2, dFld, fldK.eq_1, fldK.eq_2, fldK.eq_3, fldC.eq_1, fldC.eq_2, fldW.eq_1, fldW.eq_2, dMake, makK.eq_1, makK.eq_2, fld00, fld01, fld02, lenF0, lenF1, lenF2, get_end, set_end, dMethP, dMethW, isOb.eq_1, isOb.eq_2, isOb.eq_3, isObC.eq_1, isObC.eq_2, dSetF, sfK.eq_1, sfK.eq_2, sfC.eq_1, sfC.eq_2, dFz, fzK.eq_1, fzK.eq_2, fzK.eq_3, fzC.eq_1, fzC.eq_2, fzC.eq_3, dMakeRec, recK.eq_1, recK.eq_2, fld10, fld11, dMatch, dMCase.eq_1, dMCase.eq_2, dMNil, fillE.eq_1, fillE.eq_2, dAug, aug0.eq_1, aug0.eq_2, augK.eq_1, augK.eq_2, fIsiO.eq_1, fIsiO.eq_2, dCallPX, dMethWX, dRaise, raiK.eq_1, raiK.eq_2, dPar, parK.eq_1, parK.eq_2, dPar3, parK3.eq_1, parK3.eq_2, shW0, unW0, unC0, shC0, kbl1, kbl2, kbl3, kbl4, kbl5, kbl6, fInS.eq_1, fInS.eq_2, dAugF, afK.eq_1, afK.eq_2, afC.eq_1, afC.eq_2, afW.eq_1, afW.eq_2, dTry, dAct, dMakeRd, rdrK.eq_1, rdrK.eq_2, dLam4, outK, fld20, fld21, fld22, catF.eq_1, catF.eq_2, dCatF, inK.eq_1, inK.eq_2, fInD, get_end1, set_end1, id])
set_option hygiene false in
local macro_rules | `(tactic| walk_at "s") => `(tactic| simp -implicitDefEqProofs only [dNext, dDrop, dRet, dRetN, dIfS, dAsg, dAsgC, dgName, dgTup.eq_1, dgTup.eq_2, dgCons.eq_1, dgCons.eq_2, dgNil, dgSub, subK.eq_1, subK.eq_2, dVar, dVarF, dC, dOp, fII.eq_1, fII.eq_2, fIIc.eq_1, fIIc.eq_2, fAdd.eq_1, fAdd.eq_2, fAdd.eq_3, fAdd.eq_4, fAdd.eq_5, fAdd.eq_6, fCmp.eq_1, fCmp.eq_2, fCmp.eq_3, fEqD, fIsN.eq_1, fIsN.eq_2, isNon.eq_1, isNon.eq_2, rdV.eq_1, rdV.eq_2, rdV.eq_3, rdL.eq_1, rdL.eq_2, rdL.eq_3, dB, dAnd, dOr, dNot, dTru, dIf, dAndV, dOrV, dNotV, dChain, dNil, dCons, vals.eq_1, vals.eq_2, vals.eq_3, dTup, dLst, fIx.eq_1, fIx.eq_2, fIx.eq_3, fIx.eq_4, fIx.eq_5, dSl, dPart, dNoPart, dCB, fLen.eq_1, fLen.eq_2, fLen.eq_3, fLen.eq_4, fLen.eq_5, fInt.eq_1, fInt.eq_2, fInt.eq_3, fList.eq_1, fList.eq_2, rdS.eq_1, rdS.eq_2, rdS.eq_3, rdS.eq_4, fTup.eq_1, fTup.eq_2, fOrd.eq_1, fOrd.eq_2, fIsi.eq_1, fIsi.eq_2, tyD.eq_1, tyD.eq_2, tyD.eq_3, tyD.eq_4, tyD.eq_5, tyD.eq_6, tyD.eq_7, kb1, kb2, kb3, kb4, kb5, kb6, kb7, kb8, kb9, kb10, kb11, kb12, kb13, kb14, kb15, kb16, kb17, kb18, kb19, kb20, kb21, kb22, kb23, kb24, dSeq, seqK.eq_1, seqK.eq_2, seqK.eq_3, seqK.eq_4, seqK.eq_5, dRng1, dRng2, dRev, lstK.eq_1, lstK.eq_2, lstK.eq_3, dEnum, dZip, dBM, dBM0, fAppend.eq_1, fAppend.eq_2, fExtend.eq_1, fExtend.eq_2, fExtA.eq_1, fExtA.eq_2, fPop.eq_1, fPop.eq_2, dRevT, dRevL, f2I.eq_1, f2I.eq_2, bK.eq_1, bK.eq_2, truK.eq_1, truK.eq_2, truK.eq_3, truK.eq_4, truK.eq_5, truK.eq_6, truK.eq_7, truL.eq_1, truL.eq_2, dispK.eq_1, dispK.eq_2, ixK.eq_1, ixK.eq_2, ixS.eq_1, ixS.eq_2, ixL.eq_1, ixL.eq_2, partK.eq_1, partK.eq_2, slK.eq_1, slK.eq_2, slK.eq_3, slK.eq_4, slK.eq_5, slL.eq_1, slL.eq_2, lenLK.eq_1, lenLK.eq_2, mkL.eq_1, mkL.eq_2, isiB.eq_1, isiB.eq_2, isiK.eq_1, isiK.eq_2, frzK.eq_1, frzK.eq_2, frzK.eq_3, rng1K.eq_1, rng1K.eq_2, rng2K.eq_1, rng2K.eq_2, lst1K.eq_1, lst1K.eq_2, zipK.eq_1, zipK.eq_2, sub1K.eq_1, sub1K.eq_2, sub2K.eq_1, sub2K.eq_2, appK.eq_1, appK.eq_2, extK.eq_1, extK.eq_2, pop2K.eq_1, pop2K.eq_2, popK.eq_1, popK.eq_2, lstFK.eq_1, lstFK.eq_2, lisFK.eq_1, lisFK.eq_2, lisF2K.eq_1, lisF2K.eq_2, accK.eq_1, accK.eq_2, dVal, revTK.eq_1, revTK.eq_2, callK.eq_1, callK.eq_2, eqK.eq_1, eqK.eq_2, catK.eq_1, catK.eq_2, cellL.eq_1, cellL.eq_2, cellL.eq_3, okDi, okDb, okDn, eqvi, eqvs, dLstF, dListF, dLc, dYes, wipeE.eq_1, wipeE.eq_2, dFor, fin, finD, wOk.eq_1, wOk.eq_2, cellOk.eq_1, cellOk.eq_2, E0D, dCallP, dCallW, putW, firstRef.eq_1, firstRef.eq_2, firstRef.eq_3, shW.eq_1, shW.eq_2, unW.eq_1, unW.eq_2, inW.eq_1, inW.eq_2, shC.eq_1, shC.eq_2, unC.eq_1, unC.eq_2, inC.eq_1, inC.eq_2, dBreak, at0, at1, at2, at3, atI_last, List.getElem?_cons_zero, List.getElem?_cons_succ, List.getElem?_nil, List.set_cons_zero, List.set_cons_succ, List.map_cons, List.map_nil, List.length_cons, List.length_nil, List.replicate_succ, List.replicate_zero, List.cons_append, List.nil_append, List.append_nil, Option.map_some, Option.map_none, Option.isSome_some, if_true, if_false, ite_true, ite_false, Bool.and_true, Bool.true_and, Bool.and_false, Bool.false_and, Bool.or_true, Bool.or_false, Bool.true_or, Bool.false_or, Bool.not_true, Bool.not_false, true_and, and_true, List.take_succ_cons, List.take_zero, List.take_nil, List.drop_zero, List.drop_succ_cons, List.drop_nil, List.all_cons, List.all_nil, List.any_cons, List.any_nil, List.contains_cons, List.elem_nil, Nat.zero_add, Nat.add_zero, Nat.le_refl, Nat.reduceAdd, Nat.reduceSub, Nat.reduceLT, Nat.reduceLeDiff, Nat.sub_self, Nat.sub_zero, Nat.zero_le, decide_true, decide_false, beq_self_eq_true, Bool.false_eq_true, reduceCtorEq, List.isEmpty_cons, List.isEmpty_nil, List.dropLast_concat, dUn, unK.eq_1, unK.eq_2, dFld, fldK.eq_1, fldK.eq_2, fldK.eq_3, fldC.eq_1, fldC.eq_2, fldW.eq_1, fldW.eq_2, dMake, makK.eq_1, makK.eq_2, fld00, fld01, fld02, lenF0, lenF1, lenF2, get_end, set_end, dMethP, dMethW, isOb.eq_1, isOb.eq_2, isOb.eq_3, isObC.eq_1, isObC.eq_2, dSetF, sfK.eq_1, sfK.eq_2, sfC.eq_1, sfC.eq_2, dFz, fzK.eq_1, fzK.eq_2, fzK.eq_3, fzC.eq_1, fzC.eq_2, fzC.eq_3, dMakeRec, recK.eq_1, recK.eq_2, fld10, fld11, dMatch, dMCase.eq_1, dMCase.eq_2, dMNil, fillE.eq_1, fillE.eq_2, dAug, aug0.eq_1, aug0.eq_2, augK.eq_1, augK.eq_2, fIsiO.eq_1, fIsiO.eq_2, dCallPX, dMethWX, dRaise, raiK.eq_1, raiK.eq_2, dPar, parK.eq_1, parK.eq_2, dPar3, parK3.eq_1, parK3.eq_2, shW0, unW0, unC0, shC0, kbl1, kbl2, kbl3, kbl4, kbl5, kbl6, fInS.eq_1, fInS.eq_2, dAugF, afK.eq_1, afK.eq_2, afC.eq_1, afC.eq_2, afW.eq_1, afW.eq_2, dTry, dAct, dMakeRd, rdrK.eq_1, rdrK.eq_2, dLam4, outK, fld20, fld21, fld22, catF.eq_1, catF.eq_2, dCatF, inK.eq_1, inK.eq_2, fInD, get_end1, set_end1, id])
set_option hygiene false in
local macro_rules | `(tactic| walk_at "o") => `(tactic| simp -implicitDefEqProofs only [dSeqS, dNext, dDrop, dRet, dRetN, dIfS, dAsg, dAsgC, dgName, dgTup.eq_1, dgTup.eq_2, dgCons.eq_1, dgCons.eq_2, dgNil, dgSub, subK.eq_1, subK.eq_2, dVar, dVarF, dC, dOp, fII.eq_1, fII.eq_2, fIIc.eq_1, fIIc.eq_2, fAdd.eq_1, fAdd.eq_2, fAdd.eq_3, fAdd.eq_4, fAdd.eq_5, fAdd.eq_6, fCmp.eq_1, fCmp.eq_2, fCmp.eq_3, fEqD, fIsN.eq_1, fIsN.eq_2, isNon.eq_1, isNon.eq_2, rdV.eq_1, rdV.eq_2, rdV.eq_3, rdL.eq_1, rdL.eq_2, rdL.eq_3, dB, dAnd, dOr, dNot, dTru, dIf, dAndV, dOrV, dNotV, dChain, dNil, dCons, vals.eq_1, vals.eq_2, vals.eq_3, dTup, dLst, fIx.eq_1, fIx.eq_2, fIx.eq_3, fIx.eq_4, fIx.eq_5, dSl, dPart, dNoPart, dCB, fLen.eq_1, fLen.eq_2, fLen.eq_3, fLen.eq_4, fLen.eq_5, fInt.eq_1, fInt.eq_2, fInt.eq_3, fList.eq_1, fList.eq_2, rdS.eq_1, rdS.eq_2, rdS.eq_3, rdS.eq_4, fTup.eq_1, fTup.eq_2, fOrd.eq_1, fOrd.eq_2, fIsi.eq_1, fIsi.eq_2, tyD.eq_1, tyD.eq_2, tyD.eq_3, tyD.eq_4, tyD.eq_5, tyD.eq_6, tyD.eq_7, kb1, kb2, kb3, kb4, kb5, kb6, kb7, kb8, kb9, kb10, kb11, kb12, kb13, kb14, kb15, kb16, kb17, kb18, kb19, kb20, kb21, kb22, kb23, kb24, dSeq, seqK.eq_1, seqK.eq_2, seqK.eq_3, seqK.eq_4, seqK.eq_5, dRng1, dRng2, dRev, lstK.eq_1, lstK.eq_2, lstK.eq_3, dEnum, dZip, dBM, dBM0, fAppend.eq_1, fAppend.eq_2, fExtend.eq_1, fExtend.eq_2, fExtA.eq_1, fExtA.eq_2, fPop.eq_1, fPop.eq_2, dRevT, dRevL, f2I.eq_1, f2I.eq_2, bK.eq_1, bK.eq_2, truK.eq_1, truK.eq_2, truK.eq_3, truK.eq_4, truK.eq_5, truK.eq_6, truK.eq_7, truL.eq_1, truL.eq_2, dispK.eq_1, dispK.eq_2, ixK.eq_1, ixK.eq_2, ixS.eq_1, ixS.eq_2, ixL.eq_1, ixL.eq_2, partK.eq_1, partK.eq_2, slK.eq_1, slK.eq_2, slK.eq_3, slK.eq_4, slK.eq_5, slL.eq_1, slL.eq_2, lenLK.eq_1, lenLK.eq_2, mkL.eq_1, mkL.eq_2, isiB.eq_1, isiB.eq_2, isiK.eq_1, isiK.eq_2, frzK.eq_1, frzK.eq_2, frzK.eq_3, rng1K.eq_1, rng1K.eq_2, rng2K.eq_1, rng2K.eq_2, lst1K.eq_1, lst1K.eq_2, zipK.eq_1, zipK.eq_2, sub1K.eq_1, sub1K.eq_2, sub2K.eq_1, sub2K.eq_2, appK.eq_1, appK.eq_2, extK.eq_1, extK.eq_2, pop2K.eq_1, pop2K.eq_2, popK.eq_1, popK.eq_2, lstFK.eq_1, lstFK.eq_2, lisFK.eq_1, lisFK.eq_2, lisF2K.eq_1, lisF2K.eq_2, accK.eq_1, accK.eq_2, dVal, revTK.eq_1, revTK.eq_2, callK.eq_1, callK.eq_2, eqK.eq_1, eqK.eq_2, catK.eq_1, catK.eq_2, cellL.eq_1, cellL.eq_2, cellL.eq_3, okDi, okDb, okDn, eqvi, eqvs, dLstF, dListF, dLc, dYes, wipeE.eq_1, wipeE.eq_2, dFor, fin, finD, wOk.eq_1, wOk.eq_2, cellOk.eq_1, cellOk.eq_2, E0D, dCallP, dCallW, putW, firstRef.eq_1, firstRef.eq_2, firstRef.eq_3, shW.eq_1, shW.eq_2, unW.eq_1, unW.eq_2, inW.eq_1, inW.eq_2, shC.eq_1, shC.eq_2, unC.eq_1, unC.eq_2, inC.eq_1, inC.eq_2, dBreak, at0, at1, at2, at3, atI_last, List.getElem?_cons_zero, List.getElem?_cons_succ, List.getElem?_nil, List.set_cons_zero, List.set_cons_succ, List.map_cons, List.map_nil, List.length_cons, List.length_nil, List.replicate_succ, List.replicate_zero, List.cons_append, List.nil_append, List.append_nil, Option.map_some, Option.map_none, Option.isSome_some, if_true, if_false, ite_true, ite_false, Bool.and_true, Bool.true_and, Bool.and_false, Bool.false_and, Bool.or_true, Bool.or_false, Bool.true_or, Bool.false_or, Bool.not_true, Bool.not_false, true_and, and_true, List.take_succ_cons, List.take_zero, List.take_nil, List.drop_zero, List.drop_succ_cons, List.drop_nil, List.all_cons, List.all_nil, List.any_cons, List.any_nil, List.contains_cons, List.elem_nil, Nat.zero_add, Nat.add_zero, Nat.le_refl, Nat.reduceAdd, Nat.reduceSub, Nat.reduceLT, Nat.reduceLeDiff, Nat.sub_self, Nat.sub_zero, Nat.zero_le, decide_true, decide_false, beq_self_eq_true, Bool.false_eq_true, reduceCtorEq, List.isEmpty_cons, List.isEmpty_nil, List.dropLast_concat, dUn, unK.eq_1, unK.eq_2, dFld, fldK.eq_1, fldK.eq_2, fldK.eq_3, fldC.eq_1, fldC.eq_2, fldW.eq_1, fldW.eq_2, dMake, makK.eq_1, makK.eq_2, fld00, fld01, fld02, lenF0, lenF1, lenF2, get_end, set_end, dMethP, dMethW, isOb.eq_1, isOb.eq_2, isOb.eq_3, isObC.eq_1, isObC.eq_2, dSetF, sfK.eq_1, sfK.eq_2, sfC.eq_1, sfC.eq_2, dFz, fzK.eq_1, fzK.eq_2, fzK.eq_3, fzC.eq_1, fzC.eq_2, fzC.eq_3, dMakeRec, recK.eq_1, recK.eq_2, fld10, fld11, dMatch, dMCase.eq_1, dMCase.eq_2, dMNil, fillE.eq_1, fillE.eq_2, dAug, aug0.eq_1, aug0.eq_2, augK.eq_1, augK.eq_2, fIsiO.eq_1, fIsiO.eq_2, dCallPX, dMethWX, dRaise, raiK.eq_1, raiK.eq_2, dPar, parK.eq_1, parK.eq_2, dPar3, parK3.eq_1, parK3.eq_2, shW0, unW0, unC0, shC0, kbl1, kbl2, kbl3, kbl4, kbl5, kbl6, fInS.eq_1, fInS.eq_2, dAugF, afK.eq_1, afK.eq_2, afC.eq_1, afC.eq_2, afW.eq_1, afW.eq_2, dTry, dAct, dMakeRd, rdrK.eq_1, rdrK.eq_2, dLam4, outK, fld20, fld21, fld22, catF.eq_1, catF.eq_2, dCatF, inK.eq_1, inK.eq_2, fInD, get_end1, set_end1, finX, opC, rfD_eq, Opn.win, Opn.ain, Opn.wok, Opn.aok, Opn.rule, isOb_part, no_isE, no_ent, Opn.noO, fld_link, fld_root, fld_open, ix_link0, ix_link1, ix_link2, isi_part, rootD, PT.op, not_false_eq_true, nonE_concat, last_get, dl_concat, shC0', unW0', unC0', id])
set_option hygiene false in
local macro_rules | `(tactic| walk_at "t") => `(tactic| simp -implicitDefEqProofs only [dNext, dDrop, dRet, dRetN, dIfS, dAsg, dAsgC, dgName, dgTup.eq_1, dgTup.eq_2, dgCons.eq_1, dgCons.eq_2, dgNil, dgSub, subK.eq_1, subK.eq_2, dVar, dVarF, dC, dOp, fII.eq_1, fII.eq_2, fIIc.eq_1, fIIc.eq_2, fAdd.eq_1, fAdd.eq_2, fAdd.eq_3, fAdd.eq_4, fAdd.eq_5, fAdd.eq_6, fCmp.eq_1, fCmp.eq_2, fCmp.eq_3, fEqD, fIsN.eq_1, fIsN.eq_2, isNon.eq_1, isNon.eq_2, rdV.eq_1, rdV.eq_2, rdV.eq_3, rdL.eq_1, rdL.eq_2, rdL.eq_3, dB, dAnd, dOr, dNot, dTru, dIf, dAndV, dOrV, dNotV, dChain, dNil, dCons, vals.eq_1, vals.eq_2, vals.eq_3, dTup, dLst, fIx.eq_1, fIx.eq_2, fIx.eq_3, fIx.eq_4, fIx.eq_5, dSl, dPart, dNoPart, dCB, fLen.eq_1, fLen.eq_2, fLen.eq_3, fLen.eq_4, fLen.eq_5, fInt.eq_1, fInt.eq_2, fInt.eq_3, fList.eq_1, fList.eq_2, rdS.eq_1, rdS.eq_2, rdS.eq_3, rdS.eq_4, fTup.eq_1, fTup.eq_2, fOrd.eq_1, fOrd.eq_2, fIsi.eq_1, fIsi.eq_2, tyD.eq_1, tyD.eq_2, tyD.eq_3, tyD.eq_4, tyD.eq_5, tyD.eq_6, tyD.eq_7, kb1, kb2, kb3, kb4, kb5, kb6, kb7, kb8, kb9, kb10, kb11, kb12, kb13, kb14, kb15, kb16, kb17, kb18, kb19, kb20, kb21, kb22, kb23, kb24, dSeq, seqK.eq_1, seqK.eq_2, seqK.eq_3, seqK.eq_4, seqK.eq_5, dRng1, dRng2, dRev, lstK.eq_1, lstK.eq_2, lstK.eq_3, dEnum, dZip, dBM, dBM0, fAppend.eq_1, fAppend.eq_2, fExtend.eq_1, fExtend.eq_2, fExtA.eq_1, fExtA.eq_2, fPop.eq_1, fPop.eq_2, dRevT, dRevL, f2I.eq_1, f2I.eq_2, bK.eq_1, bK.eq_2, truK.eq_1, truK.eq_2, truK.eq_3, truK.eq_4, truK.eq_5, truK.eq_6, truK.eq_7, truL.eq_1, truL.eq_2, dispK.eq_1, dispK.eq_2, ixK.eq_1, ixK.eq_2, ixS.eq_1, ixS.eq_2, ixL.eq_1, ixL.eq_2, partK.eq_1, partK.eq_2, slK.eq_1, slK.eq_2, slK.eq_3, slK.eq_4, slK.eq_5, slL.eq_1, slL.eq_2, lenLK.eq_1, lenLK.eq_2, mkL.eq_1, mkL.eq_2, isiB.eq_1, isiB.eq_2, isiK.eq_1, isiK.eq_2, frzK.eq_1, frzK.eq_2, frzK.eq_3, rng1K.eq_1, rng1K.eq_2, rng2K.eq_1, rng2K.eq_2, lst1K.eq_1, lst1K.eq_2, zipK.eq_1, zipK.eq_2, sub1K.eq_1, sub1K.eq_2, sub2K.eq_1, sub2K.eq_2, appK.eq_1, appK.eq_2, extK.eq_1, extK.eq_2, pop2K.eq_1, pop2K.eq_2, popK.eq_1, popK.eq_2, lstFK.eq_1, lstFK.eq_2, lisFK.eq_1, lisFK.eq_2, lisF2K.eq_1, lisF2K.eq_2, accK.eq_1, accK.eq_2, dVal, revTK.eq_1, revTK.eq_2, callK.eq_1, callK.eq_2, eqK.eq_1, eqK.eq_2, catK.eq_1, catK.eq_2, cellL.eq_1, cellL.eq_2, cellL.eq_3, okDi, okDb, okDn, eqvi, eqvs, dLstF, dListF, dLc, dYes, wipeE.eq_1, wipeE.eq_2, dFor, fin, finD, wOk.eq_1, wOk.eq_2, cellOk.eq_1, cellOk.eq_2, E0D, dCallP, dCallW, putW, firstRef.eq_1, firstRef.eq_2, firstRef.eq_3, shW.eq_1, shW.eq_2, unW.eq_1, unW.eq_2, inW.eq_1, inW.eq_2, shC.eq_1, shC.eq_2, unC.eq_1, unC.eq_2, inC.eq_1, inC.eq_2, dBreak, at0, at1, at2, at3, atI_last, List.getElem?_cons_zero, List.getElem?_cons_succ, List.getElem?_nil, List.set_cons_zero, List.set_cons_succ, List.map_cons, List.map_nil, List.length_cons, List.length_nil, List.replicate_succ, List.replicate_zero, List.cons_append, List.nil_append, List.append_nil, Option.map_some, Option.map_none, Option.isSome_some, if_true, if_false, ite_true, ite_false, Bool.and_true, Bool.true_and, Bool.and_false, Bool.false_and, Bool.or_true, Bool.or_false, Bool.true_or, Bool.false_or, Bool.not_true, Bool.not_false, true_and, and_true, List.take_succ_cons, List.take_zero, List.take_nil, List.drop_zero, List.drop_succ_cons, List.drop_nil, List.all_cons, List.all_nil, List.any_cons, List.any_nil, List.contains_cons, List.elem_nil, Nat.zero_add, Nat.add_zero, Nat.le_refl, Nat.reduceAdd, Nat.reduceSub, Nat.reduceLT, Nat.reduceLeDiff, Nat.sub_self, Nat.sub_zero, Nat.zero_le, decide_true, decide_false, beq_self_eq_true, Bool.false_eq_true, reduceCtorEq, List.isEmpty_cons, List.isEmpty_nil, List.dropLast_concat, dUn, unK.eq_1, unK.eq_2, dFld, fldK.eq_1, fldK.eq_2, fldK.eq_3, fldC.eq_1, fldC.eq_2, fldW.eq_1, fldW.eq_2, dMake, makK.eq_1, makK.eq_2, fld00, fld01, fld02, lenF0, lenF1, lenF2, get_end, set_end, dMethP, dMethW, isOb.eq_1, isOb.eq_2, isOb.eq_3, isObC.eq_1, isObC.eq_2, dSetF, sfK.eq_1, sfK.eq_2, sfC.eq_1, sfC.eq_2, dFz, fzK.eq_1, fzK.eq_2, fzK.eq_3, fzC.eq_1, fzC.eq_2, fzC.eq_3, dMakeRec, recK.eq_1, recK.eq_2, fld10, fld11, dMatch, dMCase.eq_1, dMCase.eq_2, dMNil, fillE.eq_1, fillE.eq_2, dAug, aug0.eq_1, aug0.eq_2, augK.eq_1, augK.eq_2, fIsiO.eq_1, fIsiO.eq_2, dCallPX, dMethWX, dRaise, raiK.eq_1, raiK.eq_2, dPar, parK.eq_1, parK.eq_2, dPar3, parK3.eq_1, parK3.eq_2, shW0, unW0, unC0, shC0, kbl1, kbl2, kbl3, kbl4, kbl5, kbl6, fInS.eq_1, fInS.eq_2, dAugF, afK.eq_1, afK.eq_2, afC.eq_1, afC.eq_2, afW.eq_1, afW.eq_2, dTry, dAct, dMakeRd, rdrK.eq_1, rdrK.eq_2, dLam4, outK, fld20, fld21, fld22, catF.eq_1, catF.eq_2, dCatF, inK.eq_1, inK.eq_2, fInD, get_end1, set_end1, finX, opC, rfD_eq, Opn.win, Opn.ain, Opn.wok, Opn.aok, Opn.rule, isOb_part, no_isE, no_ent, Opn.noO, fld_link, fld_root, fld_open, ix_link0, ix_link1, ix_link2, isi_part, rootD, PT.op, not_false_eq_true, nonE_concat, last_get, dl_concat, shC0', unW0', unC0', id])
abbrev sPIsNumber : Stmt := topS 16
theorem scPIsNumber : FnScope ["value"] ["value"] (defScope sPIsNumber) := ⟨rfl, rfl, rfl, by decide +kernel, rfl, by decide +kernel, by decide +kernel⟩
def pPIsNumber : DSp := fun ws C Q _ => ∃ d, ws = [.val d] ∧ plB d = true ∧ Q (.val (.bool (natB d))) C
section
variable {P : Program} {w : World} {K : PySem.W.Frag} {mg : Str → Option Value} {base : Heap} {ct : Ct}
theorem ok_PIsNumber  (D : Def K mg "is_number" sPIsNumber ["value"]) (m_bool : mg "bool" = none) (m_int : mg "int" = none) (m_isinstance : mg "isinstance" = none)
    : FnOk P w K mg base CX0 1 D.f D.fd ["value"] (spD ct 0 1 pPIsNumber) := by
  refine D.F.ok scPIsNumber (fun vs H Q E h => spD_len h) (fun cdv A outer s H vs Q E hr h => ⟨_, (pss_one (ps_ret (pe_and (pe_callB call_isi (by rfl) m_isinstance (by decide +kernel) (pa_cons (pv 0) (pa_cons (pe_bltn (v := .ty "int") (by rfl) m_int (by decide +kernel) rfl) pa_nil))) (pe_and (pe_not (pe_callB call_isi (by rfl) m_isinstance (by decide +kernel) (pa_cons (pv 0) (pa_cons (pe_bltn (v := .ty "bool") (by rfl) m_bool (by decide +kernel) rfl) pa_nil)))) (pe_one (pe_cmpR op_geA (pv 0) pe_int (nomark _))))))), body_ok _ (fun R => inferInstance) (by decide) (fun ws C Q R hw hC hP => ?_) h⟩)
  obtain rfl := List.eq_nil_of_length_eq_zero hC
  obtain ⟨d, rfl, hp, q⟩ := hP
  cases d with
  | dict xs => cases hp
  | int i =>
    walk_at "d"
    exact q
  | none =>
    walk_at "d"
    exact q
  | bool b =>
    walk_at "d"
    exact q
  | str s =>
    walk_at "d"
    exact q
  | list xs =>
    walk_at "d"
    exact q
  | tuple xs =>
    walk_at "d"
    exact q
end
abbrev sPAreNumbers : Stmt := topS 17
theorem scPAreNumbers : FnScope ["value", "member"] ["value"] (defScope sPAreNumbers) := ⟨rfl, rfl, rfl, by decide +kernel, rfl, by decide +kernel, by decide +kernel⟩
def pPAreNumbers : DSp := fun ws C Q _ => ∃ d, ws = [.val d] ∧ plB d = true ∧ Q (.val (.bool (numsB d))) C
section
variable {P : Program} {w : World} {K : PySem.W.Frag} {mg : Str → Option Value} {base : Heap} {ct : Ct}
theorem ok_PAreNumbers  (D : Def K mg "are_numbers" sPAreNumbers ["value"]) (D_PIsNumber : Def K mg "is_number" sPIsNumber ["value"]) (m_all : mg "all" = none) (m_isinstance : mg "isinstance" = none) (m_tuple : mg "tuple" = none)
    (G_PIsNumber : FnOk P w K mg base CX0 1 D_PIsNumber.f D_PIsNumber.fd ["value"] (spD ct 0 1 pPIsNumber)) : FnOk P w K mg base CX0 2 D.f D.fd ["value"] (spD ct 0 1 pPAreNumbers) := by
  refine D.F.ok scPAreNumbers (fun vs H Q E h => spD_len h) (fun cdv A outer s H vs Q E hr h => ⟨_, (pss_one (ps_ret (pe_and (pe_callB call_isi (by rfl) m_isinstance (by decide +kernel) (pa_cons (pv 0) (pa_cons (pe_bltn (v := .ty "tuple") (by rfl) m_tuple (by decide +kernel) rfl) pa_nil))) (pe_one (pe_callB (cr_all rfl) (by rfl) m_all (by decide +kernel) (pa_cons (pe_lc (own := [("member", 1)]) (g := (gName 1)) (by rfl) scPAreNumbers.nd (pi_seqA (pv 0))
        (blkOk_by (own := [("member", 1)]) (N := ["value", "member"]) (sc := defScope sPAreNumbers) (by decide +kernel))
        (fun _ _ _ _ _ => (pg_name (i := 1) scPAreNumbers.nd rfl (Or.inl rfl))) (fun _ _ _ _ _ => pts_nil)
        (fun _ _ _ _ _ => (pe_call G_PIsNumber (hr.mono (by omega)) (by rfl) D_PIsNumber.m D_PIsNumber.F.kp D_PIsNumber.b .nil pass0 (pa_cons (pv 1) pa_nil)))) pa_nil)))))), body_ok _ (fun R => inferInstance) (by decide) (fun ws C Q R hw hC hP => ?_) h⟩)
  obtain rfl := List.eq_nil_of_length_eq_zero hC
  obtain ⟨d, rfl, hp, q⟩ := hP
  cases d with
  | dict xs => cases hp
  | int i =>
    walk_at "d"
    exact q
  | none =>
    walk_at "d"
    exact q
  | bool b =>
    walk_at "d"
    exact q
  | str s =>
    walk_at "d"
    exact q
  | list xs =>
    walk_at "d"
    exact q
  | tuple xs =>
    obtain ⟨hl, hm⟩ := plB_tup hp
    walk_at "d"
    refine dLcGo_map (fun d => .bool (natB d)) xs (big2 (by omega)) (fun x hx K k => ?_) ?_
    · walk_at "d"
      exact ⟨x, rfl, hm x hx, k⟩
    · refine ⟨_, xs.map natB, rfl, by show some _ = some _; rw [List.map_map]; rfl, Nat.zero_le _, rfl, ?_⟩
      rw [all_map]
      exact q
end
abbrev sPIsLink : Stmt := topS 18
theorem scPIsLink : FnScope ["value", "mark", "count", "sums"] ["value"] (defScope sPIsLink) := ⟨rfl, rfl, rfl, by decide +kernel, rfl, by decide +kernel, by decide +kernel⟩
def pPIsLink : DSp := fun ws C Q _ => ∃ d, ws = [.val d] ∧ plB d = true ∧ Q (.val (.bool (lnkB d))) C
section
variable {P : Program} {w : World} {K : PySem.W.Frag} {mg : Str → Option Value} {base : Heap} {ct : Ct}
theorem ok_PIsLink  (D : Def K mg "is_link" sPIsLink ["value"]) (D_PAreNumbers : Def K mg "are_numbers" sPAreNumbers ["value"]) (D_PIsNumber : Def K mg "is_number" sPIsNumber ["value"]) (m_isinstance : mg "isinstance" = none) (m_len : mg "len" = none) (m_tuple : mg "tuple" = none) {tk_WIDEST_ROW : Tok} (c_WIDEST_ROW : mg "WIDEST_ROW" = some (.int 3 tk_WIDEST_ROW))
    (G_PAreNumbers : FnOk P w K mg base CX0 2 D_PAreNumbers.f D_PAreNumbers.fd ["value"] (spD ct 0 1 pPAreNumbers)) (G_PIsNumber : FnOk P w K mg base CX0 1 D_PIsNumber.f D_PIsNumber.fd ["value"] (spD ct 0 1 pPIsNumber)) : FnOk P w K mg base CX0 3 D.f D.fd ["value"] (spD ct 0 1 pPIsLink) := by
  refine D.F.ok scPIsLink (fun vs H Q E h => spD_len h) (fun cdv A outer s H vs Q E hr h => ⟨_, (pss_cons (ps_if (PW.pt (pw_or (pt_not (pt_truA (pe_callB call_isi (by rfl) m_isinstance (by decide +kernel) (pa_cons (pv 0) (pa_cons (pe_bltn (v := .ty "tuple") (by rfl) m_tuple (by decide +kernel) rfl) pa_nil))))) (pw_or1 (pt_cmpR (op_neD hr.units) (pe_callB call_lenA (by rfl) m_len (by decide +kernel) (pa_cons (pv 0) pa_nil)) pe_int (nomark _)))))
      (pss_one (ps_ret pe_bl)) pss_nil) <|
    pss_cons (ps_asg (pv 0) (pg_tup (n := 3) (by rfl) (pgs_cons (pg_name (i := 1) scPIsLink.nd rfl (Or.inl rfl)) (pgs_cons (pg_name (i := 2) scPIsLink.nd rfl (Or.inl rfl)) (pgs_cons (pg_name (i := 3) scPIsLink.nd rfl (Or.inl rfl)) pgs_nil))))) <|
    pss_one (ps_ret (pe_and (pe_call G_PIsNumber (hr.mono (by omega)) (by rfl) D_PIsNumber.m D_PIsNumber.F.kp D_PIsNumber.b .nil pass0 (pa_cons (pv 1) pa_nil)) (pe_and (pe_call G_PIsNumber (hr.mono (by omega)) (by rfl) D_PIsNumber.m D_PIsNumber.F.kp D_PIsNumber.b .nil pass0 (pa_cons (pv 2) pa_nil)) (pe_and (pe_call G_PAreNumbers (hr.mono (by omega)) (by rfl) D_PAreNumbers.m D_PAreNumbers.F.kp D_PAreNumbers.b .nil pass0 (pa_cons (pv 3) pa_nil)) (pe_one (pe_cmpR (op_eqD hr.units) (pe_callB call_lenA (by rfl) m_len (by decide +kernel) (pa_cons (pv 3) pa_nil)) (pe_glob (v := .int 3) rfl c_WIDEST_ROW ⟨_, rfl⟩) (nomark _)))))))), body_ok _ (fun R => inferInstance) (by decide) (fun ws C Q R hw hC hP => ?_) h⟩)
  obtain rfl := List.eq_nil_of_length_eq_zero hC
  obtain ⟨d, rfl, hp, q⟩ := hP
  cases d with
  | dict xs => cases hp
  | int i =>
    walk_at "d"
    exact q
  | none =>
    walk_at "d"
    exact q
  | bool b =>
    walk_at "d"
    exact q
  | str s =>
    walk_at "d"
    exact q
  | list xs =>
    walk_at "d"
    exact q
  | tuple xs =>
    obtain ⟨hl, hm⟩ := plB_tup hp
    walk_at "d"
    by_cases h3 : xs.length = 3
    · match xs, h3, hm with
      | [a, c, s], _, hm =>
        walk_at "d"
        refine ⟨a, rfl, hm a (by simp), ?_⟩
        have e : lnkB (.tuple [a, c, s]) = (natB a && (natB c && sumB s)) := rfl
        rw [e] at q
        walk_at "d"
        cases ha : natB a with
        | false =>
          rw [ha] at q
          rw [if_neg (by decide)]
          exact q
        | true =>
          rw [ha, Bool.true_and] at q
          rw [if_pos rfl]
          refine ⟨c, rfl, hm c (by simp), ?_⟩
          walk_at "d"
          cases hc : natB c with
          | false =>
            rw [hc] at q
            rw [if_neg (by decide)]
            exact q
          | true =>
            rw [hc, Bool.true_and] at q
            rw [if_pos rfl]
            refine ⟨s, rfl, hm s (by simp), ?_⟩
            walk_at "d"
            cases hs : numsB s with
            | false =>
              rw [if_neg (by decide)]
              rw [sum_false hs] at q
              exact q
            | true =>
              rw [if_pos rfl]
              obtain ⟨ds, rfl⟩ := nums_tup hs
              rw [sum_true hs] at q
              walk_at "d"
              exact q
    · rw [if_pos (by rw [decide_eq_false (by omega)]; rfl)]
      rw [lnkB_len h3] at q
      exact q
end

abbrev sPHasKeySigns : Stmt := topS 8
theorem scPHasKeySigns : FnScope ["text", "sign"] ["text"] (defScope sPHasKeySigns) := ⟨rfl, rfl, rfl, by decide +kernel, rfl, by decide +kernel, by decide +kernel⟩
def pPHasKeySigns : DSp := fun ws C Q _ => ∃ z, ws = [.val (.str z)] ∧ z.length ≤ 1000 ∧ Q (.val (.bool (z.cps.toList.all fun c => decide (c ∈ letS.cps.toList)))) C
theorem all_chars (z j : Str) : (chars z).map (fun d => PyData.bool (signB j d)) = (z.cps.toList.map fun c => decide (c ∈ j.cps.toList)).map PyData.bool := by
  unfold chars
  rw [List.map_map, List.map_map]
  refine List.map_congr_left fun c _ => ?_
  show PyData.bool (inS ⟨#[c]⟩ j) = _
  rw [inS_one]
  rfl
section
variable {P : Program} {w : World} {K : PySem.W.Frag} {mg : Str → Option Value} {base : Heap} {ct : Ct}
theorem ok_PHasKeySigns  (D : Def K mg "has_key_signs" sPHasKeySigns ["text"]) (m_all : mg "all" = none) {tk_KEY_SIGNS : Tok} (c_KEY_SIGNS : mg "KEY_SIGNS" = some (.str "abcdefghijklmnopqrstuvwxyz0123456789" tk_KEY_SIGNS))
    : FnOk P w K mg base CX0 1 D.f D.fd ["text"] (spD ct 0 1 pPHasKeySigns) := by
  refine D.F.ok scPHasKeySigns (fun vs H Q E h => spD_len h) (fun cdv A outer s H vs Q E hr h => ⟨_, (pss_one (ps_ret (pe_callB (cr_all rfl) (by rfl) m_all (by decide +kernel) (pa_cons (pe_lc (own := [("sign", 1)]) (g := (gName 1)) (by rfl) scPHasKeySigns.nd (pi_seqA (pv 0))
        (blkOk_by (own := [("sign", 1)]) (N := ["text", "sign"]) (sc := defScope sPHasKeySigns) (by decide +kernel))
        (fun _ _ _ _ _ => (pg_name (i := 1) scPHasKeySigns.nd rfl (Or.inl rfl))) (fun _ _ _ _ _ => pts_nil)
        (fun _ _ _ _ _ => (pe_cmpR op_inS (pv 1) (pe_glob (v := .str "abcdefghijklmnopqrstuvwxyz0123456789") rfl c_KEY_SIGNS ⟨_, rfl⟩) (by with_unfolding_all rfl)))) pa_nil)))), body_ok _ (fun R => inferInstance) (by decide) (fun ws C Q R hw hC hP => ?_) h⟩)
  obtain rfl := List.eq_nil_of_length_eq_zero hC
  obtain ⟨z, rfl, hl, q⟩ := hP
  walk_at "d"
  refine dLcGo_map (fun d => PyData.bool (signB letS d)) _ (by rw [chars_len]; exact big2 (by show z.length ≤ _; omega)) (fun x hx K k => ?_) ?_
  · obtain ⟨c, _, rfl⟩ := List.mem_map.mp hx
    walk_at "d"
    exact k
  · rw [all_chars]
    refine ⟨_, _, rfl, rfl, Nat.zero_le _, rfl, ?_⟩
    rw [all_map]
    exact q
end
abbrev sPIsKey : Stmt := topS 9
theorem scPIsKey : FnScope ["text"] ["text"] (defScope sPIsKey) := ⟨rfl, rfl, rfl, by decide +kernel, rfl, by decide +kernel, by decide +kernel⟩
def pPIsKey : DSp := fun ws C Q _ => ∃ z, ws = [.val (.str z)] ∧ z.length ≤ 1000 ∧ Q (.val (.bool (keyB (.str z)))) C
section
variable {P : Program} {w : World} {K : PySem.W.Frag} {mg : Str → Option Value} {base : Heap} {ct : Ct}
theorem ok_PIsKey  (D : Def K mg "is_key" sPIsKey ["text"]) (D_PHasKeySigns : Def K mg "has_key_signs" sPHasKeySigns ["text"]) (m_len : mg "len" = none) {tk_LONGEST_KEY : Tok} (c_LONGEST_KEY : mg "LONGEST_KEY" = some (.int 8 tk_LONGEST_KEY))
    (G_PHasKeySigns : FnOk P w K mg base CX0 1 D_PHasKeySigns.f D_PHasKeySigns.fd ["text"] (spD ct 0 1 pPHasKeySigns)) : FnOk P w K mg base CX0 2 D.f D.fd ["text"] (spD ct 0 1 pPIsKey) := by
  refine D.F.ok scPIsKey (fun vs H Q E h => spD_len h) (fun cdv A outer s H vs Q E hr h => ⟨_, (pss_one (ps_ret (pe_and (pe_chain op_leA op_leA pe_int (pe_callB call_lenA (by rfl) m_len (by decide +kernel) (pa_cons (pv 0) pa_nil)) (pe_glob (v := .int 8) rfl c_LONGEST_KEY ⟨_, rfl⟩)) (pe_one (pe_call G_PHasKeySigns (hr.mono (by omega)) (by rfl) D_PHasKeySigns.m D_PHasKeySigns.F.kp D_PHasKeySigns.b .nil pass0 (pa_cons (pv 0) pa_nil)))))), body_ok _ (fun R => inferInstance) (by decide) (fun ws C Q R hw hC hP => ?_) h⟩)
  obtain rfl := List.eq_nil_of_length_eq_zero hC
  obtain ⟨z, rfl, hl, q⟩ := hP
  walk_at "d"
  refine ⟨big2 (by omega), ?_⟩
  have e : keyB (.str z) = ((decide (1 ≤ z.length) && decide (z.length ≤ 8)) && z.cps.toList.all fun c => decide (c ∈ letS.cps.toList)) := rfl
  rw [e] at q
  split
  · rename_i h1
    have h1 := of_decide_eq_true h1
    rw [decide_eq_true (show 1 ≤ z.length by omega)] at q
    split
    · rename_i h2
      have h2 := of_decide_eq_true h2
      rw [decide_eq_true (show z.length ≤ 8 by omega)] at q
      exact ⟨z, rfl, hl, rfl, q⟩
    · rename_i h2
      have h2 : ¬ ((z.length : Nat) : Int) ≤ 8 := fun y => h2 (decide_eq_true y)
      rw [decide_eq_false (show ¬ z.length ≤ 8 by omega)] at q
      exact q
  · rename_i h1
    have h1 : ¬ (1 : Int) ≤ ((z.length : Nat) : Int) := fun y => h1 (decide_eq_true y)
    rw [decide_eq_false (show ¬ 1 ≤ z.length by omega)] at q
    exact q
end
abbrev sPIsRow : Stmt := topS 10
theorem scPIsRow : FnScope ["numbers", "number"] ["numbers"] (defScope sPIsRow) := ⟨rfl, rfl, rfl, by decide +kernel, rfl, by decide +kernel, by decide +kernel⟩
def pPIsRow : DSp := fun ws C Q _ => ∃ ns : List Int, ws = [.val (rowD ns)] ∧ ns.length ≤ 1000 ∧ Q (.val (.bool (rowB (rowD ns)))) C
section
variable {P : Program} {w : World} {K : PySem.W.Frag} {mg : Str → Option Value} {base : Heap} {ct : Ct}
theorem ok_PIsRow  (D : Def K mg "is_row" sPIsRow ["numbers"]) (m_all : mg "all" = none) (m_len : mg "len" = none) {tk_GREATEST_NUMBER : Tok} (c_GREATEST_NUMBER : mg "GREATEST_NUMBER" = some (.int 65535 tk_GREATEST_NUMBER)) {tk_WIDEST_ROW : Tok} (c_WIDEST_ROW : mg "WIDEST_ROW" = some (.int 3 tk_WIDEST_ROW))
    : FnOk P w K mg base CX0 1 D.f D.fd ["numbers"] (spD ct 0 1 pPIsRow) := by
  refine D.F.ok scPIsRow (fun vs H Q E h => spD_len h) (fun cdv A outer s H vs Q E hr h => ⟨_, (pss_one (ps_ret (pe_and (pe_chain op_leA op_leA pe_int (pe_callB call_lenA (by rfl) m_len (by decide +kernel) (pa_cons (pv 0) pa_nil)) (pe_glob (v := .int 3) rfl c_WIDEST_ROW ⟨_, rfl⟩)) (pe_one (pe_callB (cr_all rfl) (by rfl) m_all (by decide +kernel) (pa_cons (pe_lc (own := [("number", 1)]) (g := (gName 1)) (by rfl) scPIsRow.nd (pi_seqA (pv 0))
        (blkOk_by (own := [("number", 1)]) (N := ["numbers", "number"]) (sc := defScope sPIsRow) (by decide +kernel))
        (fun _ _ _ _ _ => (pg_name (i := 1) scPIsRow.nd rfl (Or.inl rfl))) (fun _ _ _ _ _ => pts_nil)
        (fun _ _ _ _ _ => (pe_chain op_leA op_leA pe_int (pv 1) (pe_glob (v := .int 65535) rfl c_GREATEST_NUMBER ⟨_, rfl⟩)))) pa_nil)))))), body_ok _ (fun R => inferInstance) (by decide) (fun ws C Q R hw hC hP => ?_) h⟩)
  obtain rfl := List.eq_nil_of_length_eq_zero hC
  obtain ⟨ns, rfl, hl, q⟩ := hP
  have e : rowB (rowD ns) = ((decide (1 ≤ ns.length) && decide (ns.length ≤ 3)) && ns.all fun n => decide (0 ≤ n) && decide (n ≤ 65535)) := by
    show ((decide (1 ≤ (ns.map PyData.int).length) && decide ((ns.map PyData.int).length ≤ 3)) && (ns.map PyData.int).all cellB) = _
    rw [List.length_map, List.all_map]
    rfl
  rw [e] at q
  unfold rowD
  walk_at "d"
  rw [List.length_map]
  split
  · rename_i h1
    have h1 := of_decide_eq_true h1
    rw [decide_eq_true (show 1 ≤ ns.length by omega)] at q
    split
    · rename_i h2
      have h2 := of_decide_eq_true h2
      rw [decide_eq_true (show ns.length ≤ 3 by omega)] at q
      refine dLcGo_map (fun d => .bool (cellB d)) _ (by rw [List.length_map]; exact big2 (by omega)) (fun x hx K k => ?_) ?_
      · obtain ⟨n, _, rfl⟩ := List.mem_map.mp hx
        walk_at "d"
        have e3 : cellB (.int n) = (decide (0 ≤ n) && decide (n ≤ 65535)) := rfl
        rw [e3] at k
        cases h0 : decide (0 ≤ n) with
        | false =>
          rw [h0] at k
          rw [if_neg (by decide)]
          exact k
        | true =>
          rw [h0, Bool.true_and] at k
          rw [if_pos rfl]
          exact k
      · have e2 : (ns.map PyData.int).map (fun d => PyData.bool (cellB d)) = (ns.map fun n => decide (0 ≤ n) && decide (n ≤ 65535)).map PyData.bool := by
          rw [List.map_map, List.map_map]
          rfl
        rw [e2]
        refine ⟨_, _, rfl, rfl, Nat.zero_le _, rfl, ?_⟩
        rw [all_map]
        exact q
    · rename_i h2
      have h2 : ¬ ((ns.length : Nat) : Int) ≤ 3 := fun y => h2 (decide_eq_true y)
      rw [decide_eq_false (show ¬ ns.length ≤ 3 by omega)] at q
      exact q
  · rename_i h1
    have h1 : ¬ (1 : Int) ≤ ((ns.length : Nat) : Int) := fun y => h1 (decide_eq_true y)
    rw [decide_eq_false (show ¬ 1 ≤ ns.length by omega)] at q
    exact q
end

abbrev sPRefusedInit : Stmt := inClass (topS 2) 0
theorem scPRefusedInit : FnScope ["self", "word", "number"] ["self", "word", "number"] (defScope sPRefusedInit) := ⟨rfl, rfl, rfl, by decide +kernel, rfl, by decide +kernel, by decide +kernel⟩
abbrev sPReaderInit : Stmt := inClass (topS 34) 0
theorem scPReaderInit : FnScope ["self", "rule", "certificate"] ["self", "rule", "certificate"] (defScope sPReaderInit) := ⟨rfl, rfl, rfl, by decide +kernel, rfl, by decide +kernel, by decide +kernel⟩
section
variable {P : Program} {w : World} {K : PySem.W.Frag} {mg : Str → Option Value} {base : Heap} {ct : Ct}
theorem ok_RefusedI {C : Addr} (I : Xni K mg "Refused" C "Refused.__init__" sPRefusedInit ["self", "word", "number"]) : FnOk P w K mg base CX0 1 I.f I.fd ["self", "word", "number"] (spXI K (clsF 3)) := by
  refine I.F.ok scPRefusedInit (fun vs H Q E h => ?_) (fun cdv A outer s H vs Q E hr h => ?_)
  · obtain ⟨a, C, us, rfl, hl, _⟩ := h
    exact congrArg (· + 1) hl
  · obtain ⟨a, C, us, rfl, hl, ha, ox, no, q⟩ := h
    match us, hl with
    | [x, y], _ =>
      refine ⟨_, pss_cons (ps_ost (pv 0) (pv 1) rfl) (pss_one (ps_ost (pv 0) (pv 2) rfl)), ?_⟩
      refine ⟨x, rfl, _, rfl, a, C, rfl, ox, no "word" (by decide), .inl ⟨ha, fun dx ndx nda => ?_⟩⟩
      refine ⟨y, rfl, _, rfl, a, C, rfl, ox, no "number" (by decide), .inr ⟨dx, _, upd_same, by rw [upd_ne nda]; exact upd_same, by show 1 ≤ 900; decide, ?_⟩⟩
      have e : upd (upd (upd H dx (exd dx [("word", x)])) a (exo a C (some dx))) dx (exd dx [("number", y), ("word", x)]) = upd (upd H dx (exd dx ((clsF 3).zip [x, y].reverse))) a (exo a C (some dx)) := by
        funext b
        by_cases e : b = a
        · rw [e, upd_ne (Ne.symm nda), upd_same, upd_same]
        · rw [upd_ne e (H := upd H dx _)]
          by_cases e2 : b = dx
          · rw [e2, upd_same, upd_same]
            rfl
          · rw [upd_ne e2, upd_ne e, upd_ne e2, upd_ne e2]
      rw [e]
      exact q dx ndx nda
theorem ok_ReaderI {C : Addr} (I : Ini K mg "Reader" C "Reader.__init__" sPReaderInit ["self", "rule", "certificate"]) : FnOk P w K mg base CX0 1 I.f I.fd ["self", "rule", "certificate"] (spRdI K) := by
  refine I.F.ok scPReaderInit (fun vs H Q E h => ?_) (fun cdv A outer s H vs Q E hr h => ?_)
  · obtain ⟨a, C, dx, u, z, rfl, _⟩ := h
    rfl
  · obtain ⟨a, C, dx, u, z, rfl, ha, cls, no, q⟩ := h
    refine ⟨_, pss_cons (ps_fld (pv 0) (pv 1) rfl) (pss_cons (ps_fld (pv 0) (pv 2) rfl) (pss_one (ps_fld (pv 0) pe_int rfl))), ?_⟩
    refine ⟨u, rfl, _, rfl, a, C, dx, _, rfl, ha, cls, no "rule" (by decide), by show 0 < 1000; decide, ?_⟩
    refine ⟨z, rfl, _, rfl, a, C, dx, _, rfl, upd_same, cls, no "certificate" (by decide), by show 1 < 1000; decide, ?_⟩
    refine ⟨_, rfl, a, C, dx, _, rfl, upd_same, cls, no "position" (by decide), by show 2 < 1000; decide, ?_⟩
    rw [upd_upd, upd_upd]
    exact q
end

abbrev sPIsEntry : Stmt := topS 19
theorem scPIsEntry : FnScope ["value", "key", "row", "left", "right"] ["value"] (defScope sPIsEntry) := ⟨rfl, rfl, rfl, by decide +kernel, rfl, by decide +kernel, by decide +kernel⟩
def pPIsEntry : DSp := fun ws C Q _ => ∃ d, ws = [.val d] ∧ plB d = true ∧ Q (.val (.bool (entB d))) C
theorem cell_nat {d : PyData} (h : cellB d = true) : natB d = true := by
  cases d with
  | int i =>
    have h2 : (decide (0 ≤ i) && decide (i ≤ 65535)) = true := h
    rw [Bool.and_eq_true] at h2
    exact h2.1
  | _ => cases h
theorem row_nums {d : PyData} (h : rowB d = true) : numsB d = true := by
  obtain ⟨ns, rfl, hn⟩ := rowB_un h
  show (ns.map PyData.int).all natB = true
  rw [List.all_eq_true]
  intro x hx
  obtain ⟨n, hm, rfl⟩ := List.mem_map.mp hx
  exact decide_eq_true (hn.2.2 n hm).1
theorem nums_un {d : PyData} (h : numsB d = true) : ∃ ns : List Int, d = rowD ns := by
  cases d with
  | tuple ds =>
    have h2 : ds.all natB = true := h
    rw [List.all_eq_true] at h2
    obtain ⟨ns, e, _⟩ := nats_ints h2
    exact ⟨ns, by rw [e]; rfl⟩
  | _ => cases h
section
variable {P : Program} {w : World} {K : PySem.W.Frag} {mg : Str → Option Value} {base : Heap} {ct : Ct}
theorem ok_PIsEntry  (D : Def K mg "is_entry" sPIsEntry ["value"]) (D_PIsKey : Def K mg "is_key" sPIsKey ["text"]) (D_PIsLink : Def K mg "is_link" sPIsLink ["value"]) (D_PIsRow : Def K mg "is_row" sPIsRow ["numbers"]) (D_PAreNumbers : Def K mg "are_numbers" sPAreNumbers ["value"]) (m_isinstance : mg "isinstance" = none) (m_len : mg "len" = none) (m_str : mg "str" = none) (m_tuple : mg "tuple" = none)
    (G_PIsKey : FnOk P w K mg base CX0 2 D_PIsKey.f D_PIsKey.fd ["text"] (spD ct 0 1 pPIsKey)) (G_PIsLink : FnOk P w K mg base CX0 3 D_PIsLink.f D_PIsLink.fd ["value"] (spD ct 0 1 pPIsLink)) (G_PIsRow : FnOk P w K mg base CX0 1 D_PIsRow.f D_PIsRow.fd ["numbers"] (spD ct 0 1 pPIsRow)) (G_PAreNumbers : FnOk P w K mg base CX0 2 D_PAreNumbers.f D_PAreNumbers.fd ["value"] (spD ct 0 1 pPAreNumbers)) : FnOk P w K mg base CX0 4 D.f D.fd ["value"] (spD ct 0 1 pPIsEntry) := by
  refine D.F.ok scPIsEntry (fun vs H Q E h => spD_len h) (fun cdv A outer s H vs Q E hr h => ⟨_, (pss_cons (ps_if (PW.pt (pw_or (pt_not (pt_truA (pe_callB call_isi (by rfl) m_isinstance (by decide +kernel) (pa_cons (pv 0) (pa_cons (pe_bltn (v := .ty "tuple") (by rfl) m_tuple (by decide +kernel) rfl) pa_nil))))) (pw_or1 (pt_cmpR (op_neD hr.units) (pe_callB call_lenA (by rfl) m_len (by decide +kernel) (pa_cons (pv 0) pa_nil)) pe_int (nomark _)))))
      (pss_one (ps_ret pe_bl)) pss_nil) <|
    pss_cons (ps_asg (pv 0) (pg_tup (n := 4) (by rfl) (pgs_cons (pg_name (i := 1) scPIsEntry.nd rfl (Or.inl rfl)) (pgs_cons (pg_name (i := 2) scPIsEntry.nd rfl (Or.inl rfl)) (pgs_cons (pg_name (i := 3) scPIsEntry.nd rfl (Or.inl rfl)) (pgs_cons (pg_name (i := 4) scPIsEntry.nd rfl (Or.inl rfl)) pgs_nil)))))) <|
    pss_cons (ps_if (PW.pt (pw_or (pt_not (pt_truA (pe_callB call_isi (by rfl) m_isinstance (by decide +kernel) (pa_cons (pv 1) (pa_cons (pe_bltn (v := .ty "str") (by rfl) m_str (by decide +kernel) rfl) pa_nil))))) (pw_or1 (pt_not (pt_truA (pe_call G_PIsKey (hr.mono (by omega)) (by rfl) D_PIsKey.m D_PIsKey.F.kp D_PIsKey.b .nil pass0 (pa_cons (pv 1) pa_nil)))))))
      (pss_one (ps_ret pe_bl)) pss_nil) <|
    pss_one (ps_ret (pe_and (pe_call G_PAreNumbers (hr.mono (by omega)) (by rfl) D_PAreNumbers.m D_PAreNumbers.F.kp D_PAreNumbers.b .nil pass0 (pa_cons (pv 2) pa_nil)) (pe_and (pe_call G_PIsRow (hr.mono (by omega)) (by rfl) D_PIsRow.m D_PIsRow.F.kp D_PIsRow.b .nil pass0 (pa_cons (pv 2) pa_nil)) (pe_and (pe_call G_PIsLink (hr.mono (by omega)) (by rfl) D_PIsLink.m D_PIsLink.F.kp D_PIsLink.b .nil pass0 (pa_cons (pv 3) pa_nil)) (pe_one (pe_call G_PIsLink (hr.mono (by omega)) (by rfl) D_PIsLink.m D_PIsLink.F.kp D_PIsLink.b .nil pass0 (pa_cons (pv 4) pa_nil)))))))), body_ok _ (fun R => inferInstance) (by decide) (fun ws C Q R hw hC hP => ?_) h⟩)
  obtain rfl := List.eq_nil_of_length_eq_zero hC
  obtain ⟨d, rfl, hp, q⟩ := hP
  cases d with
  | dict xs => cases hp
  | int i =>
    walk_at "d"
    exact q
  | none =>
    walk_at "d"
    exact q
  | bool b =>
    walk_at "d"
    exact q
  | str s =>
    walk_at "d"
    exact q
  | list xs =>
    walk_at "d"
    exact q
  | tuple xs =>
    obtain ⟨hl, hm⟩ := plB_tup hp
    by_cases h4 : xs.length = 4
    · match xs, h4, hm with
      | [k, r, x, y], _, hm =>
        walk_at "d"
        have e : entB (.tuple [k, r, x, y]) = (keyB k && (rowB r && (lnkB x && lnkB y))) := rfl
        rw [e] at q
        rw [if_neg (by decide)]
        cases k with
        | str z =>
          have hz : plB (.str z) = true := hm _ (by simp)
          have hl : z.length ≤ 1000 := of_decide_eq_true hz
          walk_at "d"
          refine ⟨z, rfl, hl, ?_⟩
          walk_at "d"
          cases hk : keyB (.str z) with
          | false =>
            rw [hk] at q
            rw [if_pos (by decide)]
            exact q
          | true =>
            rw [hk, Bool.true_and] at q
            rw [if_neg (by decide)]
            refine ⟨r, rfl, hm r (by simp), ?_⟩
            walk_at "d"
            cases hr : numsB r with
            | false =>
              have e2 : rowB r = false := by
                cases e3 : rowB r with
                | false => rfl
                | true =>
                  rw [row_nums e3] at hr
                  cases hr
              rw [e2] at q
              rw [if_neg (by decide)]
              exact q
            | true =>
              rw [if_pos rfl]
              obtain ⟨ns, rfl⟩ := nums_un hr
              have hp2 : plB (rowD ns) = true := hm _ (by simp)
              have hn : ns.length ≤ 1000 := by
                have := (plB_tup hp2).1
                rw [List.length_map] at this
                exact this
              refine ⟨ns, rfl, hn, ?_⟩
              walk_at "d"
              cases hr2 : rowB (rowD ns) with
              | false =>
                rw [hr2] at q
                rw [if_neg (by decide)]
                exact q
              | true =>
                rw [hr2, Bool.true_and] at q
                rw [if_pos rfl]
                refine ⟨x, rfl, hm x (by simp), ?_⟩
                walk_at "d"
                cases hx : lnkB x with
                | false =>
                  rw [hx] at q
                  rw [if_neg (by decide)]
                  exact q
                | true =>
                  rw [hx, Bool.true_and] at q
                  rw [if_pos rfl]
                  exact ⟨y, rfl, hm y (by simp), rfl, q⟩
        | dict ds => exact nomatch (show false = true from hm (.dict ds) (by simp))
        | int i =>
          walk_at "d"
          exact q
        | none =>
          walk_at "d"
          exact q
        | bool i =>
          walk_at "d"
          exact q
        | list i =>
          walk_at "d"
          exact q
        | tuple i =>
          walk_at "d"
          exact q
    · walk_at "d"
      rw [if_pos (by rw [decide_eq_false (by omega)]; rfl)]
      rw [entB_len h4] at q
      exact q
end

abbrev sPFaultOf : Stmt := topS 35
theorem scPFaultOf : FnScope ["rule", "entry", "link", "own_link"] ["rule", "entry", "link"] (defScope sPFaultOf) := ⟨rfl, rfl, rfl, by decide +kernel, rfl, by decide +kernel, by decide +kernel⟩
noncomputable def faultD (b m : Int) (l : Lnk) (d : PyData) : PyData := match judge b m l d with
  | .inl w => .str w
  | .inr _ => .none
def pPFaultOf : DSp := fun ws C Q _ => ∃ b m d l, ws = [.val (ruleD b m), .val d, .val (linkD l)] ∧ RuleOk b m ∧ plB d = true ∧ Q (.val (faultD b m l d)) C
section
variable {P : Program} {w : World} {K : PySem.W.Frag} {mg : Str → Option Value} {base : Heap} {ct : Ct}
theorem ok_PFaultOf  (D : Def K mg "fault_of" sPFaultOf ["rule", "entry", "link"]) (D_PIsEntry : Def K mg "is_entry" sPIsEntry ["value"]) (D_PEntryLink : Def K mg "entry_link" sPEntryLink ["rule", "entry"])
    (G_PIsEntry : FnOk P w K mg base CX0 4 D_PIsEntry.f D_PIsEntry.fd ["value"] (spD ct 0 1 pPIsEntry)) (G_PEntryLink : FnOk P w K mg base CX0 4 D_PEntryLink.f D_PEntryLink.fd ["rule", "entry"] (spD ct 0 2 pPEntryLink)) : FnOk P w K mg base CX0 6 D.f D.fd ["rule", "entry", "link"] (spD ct 0 3 pPFaultOf) := by
  refine D.F.ok scPFaultOf (fun vs H Q E h => spD_len h) (fun cdv A outer s H vs Q E hr h => ⟨_, (pss_cons (ps_if (pt_not (pt_truA (pe_call G_PIsEntry (hr.mono (by omega)) (by rfl) D_PIsEntry.m D_PIsEntry.F.kp D_PIsEntry.b .nil pass0 (pa_cons (pv 1) pa_nil))))
      (pss_one (ps_ret pe_str)) pss_nil) <|
    pss_cons (ps_set (i := 3) scPFaultOf.nd rfl (.inl rfl) (pe_call G_PEntryLink (hr.mono (by omega)) (by rfl) D_PEntryLink.m D_PEntryLink.F.kp D_PEntryLink.b .nil pass0 (pa_cons (pv 0) (pa_cons (pv 1) pa_nil)))) <|
    pss_cons (ps_if (pt_cmpR (op_neD hr.units) (pe_ix ix_seq (pv 3) pe_int (fun _ _ => rfl)) (pe_ix ix_seq (pv 2) pe_int (fun _ _ => rfl)) (nomark _))
      (pss_one (ps_ret pe_str)) pss_nil) <|
    pss_cons (ps_if (pt_cmpR (op_neD hr.units) (pv 3) (pv 2) (nomark _))
      (pss_one (ps_ret pe_str)) pss_nil) <|
    pss_one (ps_ret pe_non)), body_ok _ (fun R => inferInstance) (by decide) (fun ws C Q R hw hC hP => ?_) h⟩)
  obtain rfl := List.eq_nil_of_length_eq_zero hC
  obtain ⟨b, m, d, l, rfl, hr, hp, q⟩ := hP
  walk_at "d"
  refine ⟨d, rfl, hp, ?_⟩
  walk_at "d"
  unfold faultD judge at q
  cases ea : asEnt d with
  | none =>
    rw [ea] at q
    rw [if_pos (by rw [asEnt_none_iff.mp ea]; rfl)]
    exact q
  | some e =>
    obtain ⟨rfl, hok⟩ := asEnt_some ea
    rw [ea] at q
    dsimp only at q
    rw [if_neg (by rw [entB_mk hok]; decide)]
    refine ⟨b, m, e, rfl, hr, hok.fit, ?_⟩
    walk_at "o"
    by_cases h1 : (lnkOf b m e).d = l.d
    · rw [if_neg (fun z => z h1)] at q
      rw [decide_eq_true h1, if_neg (by decide)]
      refine ⟨okD_link _, okD_link _, ?_⟩
      rw [eqv_link]
      by_cases h2 : lnkOf b m e = l
      · rw [if_neg (fun z => z h2)] at q
        rw [decide_eq_true h2, if_neg (by decide)]
        exact q
      · rw [if_pos h2] at q
        rw [decide_eq_false h2, if_pos (by decide)]
        exact q
    · rw [if_pos h1] at q
      rw [decide_eq_false h1, if_pos (by decide)]
      exact q
end

abbrev sPReaderOpened : Stmt := inClass (topS 34) 1
theorem scPReaderOpened : FnScope ["self", "part", "entry", "word", "key", "row", "left", "right"] ["self", "part"] (defScope sPReaderOpened) := ⟨rfl, rfl, rfl, by decide +kernel, rfl, by decide +kernel, by decide +kernel⟩
/-- where a reader stands -/
structure RdS where
  cert : List PyData
  pos : Nat
  le : pos ≤ cert.length
  pl : ∀ d ∈ cert, plB d = true
  sm : cert.length ≤ 100000
def RdS.next (s : RdS) (h : s.pos < s.cert.length) : RdS := ⟨s.cert, s.pos + 1, h, s.pl, s.sm⟩
theorem judge_inr {b m : Int} {l : Lnk} {d : PyData} {e : Ent} (h : judge b m l d = .inr e) : d = entD e ∧ e.Ok ∧ lnkOf b m e = l := by
  unfold judge at h
  split at h
  · cases h
  · rename_i g eg
    split at h
    · cases h
    · split at h
      · cases h
      · rename_i h1 h2
        cases h
        exact ⟨(asEnt_some eg).1, (asEnt_some eg).2, Classical.not_not.mp h2⟩
def rdF (b m : Int) (s : RdS) : List W := [.val (ruleD b m), .val (.list s.cert), .val (.int s.pos)]
noncomputable def rdStep (b m : Int) (t : PT) (s : RdS) (K : Str → List Int → PT → PT → RdS → Prop) (R : Str → Int → RdS → Prop) : Prop := match t with
  | .nod k r x y true => NdOk k r ∧ K k r x y s
  | .hid l false => if h : s.pos < s.cert.length then (match judge b m l s.cert[s.pos] with
      | .inl w => R w s.pos s
      | .inr e => K e.key e.row (.hid e.l false) (.hid e.r false) (s.next h)) else R "short" s.pos s
  | _ => False
noncomputable def MRd : Opn where
  c := 2
  S := RdS
  flds := rdF
  aux s := .nil
  step := rdStep
  mono := by
    intro b m t s K K' R R' h1 h2 h
    unfold rdStep at h ⊢
    split at h
    · exact ⟨h.1, h1 _ _ _ _ _ h.1 h.2⟩
    · rename_i l
      by_cases hlt : s.pos < s.cert.length
      · rw [dif_pos hlt] at h ⊢
        cases e : judge b m l s.cert[s.pos] with
        | inl w =>
          rw [e] at h
          exact h2 _ _ _ h
        | inr g =>
          rw [e] at h
          exact h1 _ _ _ _ _ (nd_ok ⟨(judge_inr e).2.1.1, (judge_inr e).2.1.2.1⟩) h
      · rw [dif_neg hlt] at h ⊢
        exact h2 _ _ _ h
    · exact h.elim
  rule b m s := rfl
  wok b m s := rfl
  aok s := rfl
  ain s := rfl
  nom := by decide
def pPReaderOpened : DSp := pOpened MRd
section
variable {P : Program} {w : World} {K : PySem.W.Frag} {mg : Str → Option Value} {base : Heap} {ct : Ct}
theorem ok_PReaderOpened  [CtOk K ct] {C_Part : Addr} [ClA ct C_Part 0] {C_Reader : Addr} [ClA ct C_Reader 2] {C_Refused : Addr} [ExA K ct C_Refused 3] (D : Mth K C_Reader "opened" "Reader.opened" sPReaderOpened ["self", "part"]) (D_PFaultOf : Def K mg "fault_of" sPFaultOf ["rule", "entry", "link"]) (D_PLinkedPart : Def K mg "linked_part" sPLinkedPart ["link"]) (I_Refused : Xni K mg "Refused" C_Refused "Refused.__init__" sPRefusedInit ["self", "word", "number"]) (I_Part : Ini K mg "Part" C_Part "Part.__init__" sPPartInit ["self", "link", "root", "is_open"]) (m_len : mg "len" = none)
    (G_PFaultOf : FnOk P w K mg base CX0 6 D_PFaultOf.f D_PFaultOf.fd ["rule", "entry", "link"] (spD ct 0 3 pPFaultOf)) (G_PLinkedPart : FnOk P w K mg base CX0 3 D_PLinkedPart.f D_PLinkedPart.fd ["link"] (spD ct 0 1 pPLinkedPart)) (G_RefusedI : FnOk P w K mg base CX0 1 I_Refused.f I_Refused.fd ["self", "word", "number"] (spXI K (clsF 3))) (G_PartI : FnOk P w K mg base CX0 1 I_Part.f I_Part.fd ["self", "link", "root", "is_open"] (spInit K (clsF 0))) : FnOk P w K mg base (L2.CX P w) 10 D.f D.fd ["self", "part"] (spD ct 2 2 pPReaderOpened) := by
  refine D.F.okX scPReaderOpened (fun vs H Q E h => spD_len h) (fun cdv A outer s H vs Q E hr h => ⟨_, (pss_cons (ps_if (pt_truA (pe_fldC (K := K) rfl (pv 1) rfl))
      (pss_one (ps_ret (pv 1))) pss_nil) <|
    pss_cons (ps_if (pt_cmpR (op_eqD hr.units) (pe_fldC (K := K) rfl (pv 0) rfl) (pe_callB call_lenA (by rfl) m_len (by decide +kernel) (pa_cons (pe_fldC (K := K) rfl (pv 0) rfl) pa_nil)) (nomark _))
      (pss_one (ps_raiseX I_Refused G_RefusedI (hr.mono (by omega)) (by rfl) (pa_cons pe_str (pa_cons (pe_fldC (K := K) rfl (pv 0) rfl) pa_nil)))) pss_nil) <|
    pss_cons (ps_set (i := 2) scPReaderOpened.nd rfl (.inl rfl) (pe_ix ix_seq (pe_fldC (K := K) rfl (pv 0) rfl) (pe_fldC (K := K) rfl (pv 0) rfl) (fun _ _ => rfl))) <|
    pss_cons (ps_set (i := 3) scPReaderOpened.nd rfl (.inl rfl) (pe_call G_PFaultOf (hr.mono (by omega)) (by rfl) D_PFaultOf.m D_PFaultOf.F.kp D_PFaultOf.b .nil pass0 (pa_cons (pe_fldC (K := K) rfl (pv 0) rfl) (pa_cons (pv 2) (pa_cons (pe_fldC (K := K) rfl (pv 1) rfl) pa_nil))))) <|
    pss_cons (ps_if (pt_cmpR op_notNA (pv 3) pe_non (nomark _))
      (pss_one (ps_raiseX I_Refused G_RefusedI (hr.mono (by omega)) (by rfl) (pa_cons (pv 3) (pa_cons (pe_fldC (K := K) rfl (pv 0) rfl) pa_nil)))) pss_nil) <|
    pss_cons (ps_fldaugC (K := K) rfl (pv 0) pe_int) <|
    pss_cons (ps_asg (pv 2) (pg_tup (n := 4) (by rfl) (pgs_cons (pg_name (i := 4) scPReaderOpened.nd rfl (Or.inl rfl)) (pgs_cons (pg_name (i := 5) scPReaderOpened.nd rfl (Or.inl rfl)) (pgs_cons (pg_name (i := 6) scPReaderOpened.nd rfl (Or.inl rfl)) (pgs_cons (pg_name (i := 7) scPReaderOpened.nd rfl (Or.inl rfl)) pgs_nil)))))) <|
    pss_one (ps_ret (pe_make I_Part.M G_PartI (hr.mono (by omega)) (by rfl) I_Part.g I_Part.b .nil pass0 (pa_cons (pe_fldC (K := K) rfl (pv 1) rfl) (pa_cons (pe_tup (pa_cons (pv 4) (pa_cons (pv 5) (pa_cons (pe_call G_PLinkedPart (hr.mono (by omega)) (by rfl) D_PLinkedPart.m D_PLinkedPart.F.kp D_PLinkedPart.b .nil pass0 (pa_cons (pv 6) pa_nil)) (pa_cons (pe_call G_PLinkedPart (hr.mono (by omega)) (by rfl) D_PLinkedPart.m D_PLinkedPart.F.kp D_PLinkedPart.b .nil pass0 (pa_cons (pv 7) pa_nil)) pa_nil))))) (pa_cons pe_bl pa_nil)))))), body_ok _ (fun R => inferInstance) (by decide) (fun ws C Q R hw hC hP => ?_) h⟩)
  obtain ⟨b, m, s, t, rfl, rfl, hr, h⟩ := hP
  change RdS at s
  cases t with
  | nod k r x y o =>
    cases o with
    | false => exact h.elim
    | true =>
      have h : NdOk k r ∧ Q (.val (partD b m (.nod k r x y true))) (opC MRd b m s) := h
      simp only [opC, MRd, rdF] at h ⊢
      simp only [partD]
      walk_at "d"
      exact h.2
  | hid l o =>
    cases o with
    | true => exact h.elim
    | false =>
      have hs : rdStep b m (.hid l false) s (fun k r x y s' => Q (.val (partD b m (.nod k r x y true))) (opC MRd b m s')) (fun z n s' => R 3 [.int n, .str z] (opC MRd b m s')) := h
      unfold rdStep at hs
      dsimp only at hs
      simp only [opC, MRd, rdF] at hs ⊢
      simp only [partD]
      walk_at "d"
      by_cases hl : s.pos < s.cert.length
      · rw [dif_pos hl] at hs
        rw [if_neg (by rw [decide_eq_false (by omega)]; decide)]
        have ea : atI s.cert (s.pos : Int) = some s.cert[s.pos] := atI_nat (List.getElem?_eq_getElem hl)
        rw [ea]
        walk_at "d"
        refine ⟨b, m, _, l, rfl, hr, s.pl _ (List.getElem_mem hl), ?_⟩
        unfold faultD
        cases ej : judge b m l s.cert[s.pos] with
        | inl w =>
          rw [ej] at hs
          walk_at "d"
          exact ⟨rfl, Nat.le_refl _, rfl, hs⟩
        | inr e =>
          rw [ej] at hs
          obtain ⟨he, hok, hlk⟩ := judge_inr ej
          rw [he]
          walk_at "d"
          refine ⟨1, _, rfl, rfl, by decide, ?_⟩
          have es : setAt 2 "position" (.val (.int ((s.pos : Int) + 1))) [.val (ruleD b m), .val (.list s.cert), .val (.int s.pos)] = [W.val (ruleD b m), .val (.list s.cert), .val (.int ((s.pos : Int) + 1))] := rfl
          rw [es]
          obtain ⟨k, r, x, y⟩ := e
          simp only [entD, entDs]
          walk_at "d"
          refine ⟨x, b, m, rfl, ?_⟩
          walk_at "d"
          refine ⟨y, b, m, rfl, ?_⟩
          walk_at "d"
          refine ⟨by decide, ?_⟩
          subst hlk
          have ec : (((s.next hl).pos : Nat) : Int) = (s.pos : Int) + 1 := by
            show ((s.pos + 1 : Nat) : Int) = _
            omega
          have hs : Q (.val (partD b m (.nod k r (.hid x false) (.hid y false) true))) [.obj 2 [.val (ruleD b m), .val (.list s.cert), .val (.int ((s.next hl).pos : Nat))], .nil] := hs
          rw [ec] at hs
          exact hs
      · rw [dif_neg hl] at hs
        rw [if_pos (by rw [decide_eq_true (by have := s.le; omega)])]
        exact ⟨rfl, Nat.le_refl _, rfl, hs⟩
end
abbrev sPReaderFinish : Stmt := inClass (topS 34) 2
theorem scPReaderFinish : FnScope ["self"] ["self"] (defScope sPReaderFinish) := ⟨rfl, rfl, rfl, by decide +kernel, rfl, by decide +kernel, by decide +kernel⟩
def pPReaderFinish : DSp := fun ws C Q R => ∃ b m s, ws = [.ref 0] ∧ C = [.obj 2 (rdF b m s)] ∧ (s.pos < s.cert.length → R 3 [.int s.pos, .str "long"] [.obj 2 (rdF b m s)]) ∧ (¬ s.pos < s.cert.length → Q (.val .none) [.obj 2 (rdF b m s)])
section
variable {P : Program} {w : World} {K : PySem.W.Frag} {mg : Str → Option Value} {base : Heap} {ct : Ct}
theorem ok_PReaderFinish  [CtOk K ct] {C_Reader : Addr} [ClA ct C_Reader 2] {C_Refused : Addr} [ExA K ct C_Refused 3] (D : Mth K C_Reader "finish" "Reader.finish" sPReaderFinish ["self"]) (I_Refused : Xni K mg "Refused" C_Refused "Refused.__init__" sPRefusedInit ["self", "word", "number"]) (m_len : mg "len" = none)
    (G_RefusedI : FnOk P w K mg base CX0 1 I_Refused.f I_Refused.fd ["self", "word", "number"] (spXI K (clsF 3))) : FnOk P w K mg base (L2.CX P w) 3 D.f D.fd ["self"] (spD ct 1 1 pPReaderFinish) := by
  refine D.F.okX scPReaderFinish (fun vs H Q E h => spD_len h) (fun cdv A outer s H vs Q E hr h => ⟨_, (pss_one (ps_if (pt_cmpR op_ltA (pe_fldC (K := K) rfl (pv 0) rfl) (pe_callB call_lenA (by rfl) m_len (by decide +kernel) (pa_cons (pe_fldC (K := K) rfl (pv 0) rfl) pa_nil)) (nomark _))
      (pss_one (ps_raiseX I_Refused G_RefusedI (hr.mono (by omega)) (by rfl) (pa_cons pe_str (pa_cons (pe_fldC (K := K) rfl (pv 0) rfl) pa_nil)))) pss_nil)), body_ok _ (fun R => inferInstance) (by decide) (fun ws C Q R hw hC hP => ?_) h⟩)
  obtain ⟨b, m, s, rfl, rfl, h1, h2⟩ := hP
  unfold rdF at h1 h2 ⊢
  walk_at "d"
  by_cases hl : s.pos < s.cert.length
  · rw [if_pos (by rw [decide_eq_true (by omega)])]
    exact ⟨rfl, Nat.le_refl _, rfl, h1 hl⟩
  · rw [if_neg (by rw [decide_eq_false (by omega)]; decide)]
    exact h2 hl
end

/-! ### a walk by links -/
open Classical in
noncomputable def Prog.toW {α : Type} : Prog α → Wm α
  | .out => .out
  | .ret a => .ret a
  | .ask (.hid l false) K => .ask l fun e => (K e.key e.row (.hid e.l false) (.hid e.r false)).toW
  | .ask (.nod k r x y true) K => if NdOk k r then (K k r x y).toW else .out
  | .ask _ _ => .out
def outIs {α : Type} (s' : RdS) (a : α) : Out α := if s'.pos < s'.cert.length then .ref "long" s'.pos else .got a
theorem drop_cons {α : Type} {l : List α} {n : Nat} (h : n < l.length) : l.drop n = l[n] :: l.drop (n + 1) := List.drop_eq_getElem_cons h
theorem wp_hid {α : Type} {b m : Int} (l : Lnk) (K : Str → List Int → PT → PT → Prog α) (s : RdS) (Q : α → RdS → Prop) (R : Str → Int → RdS → Prop) : (Prog.ask (.hid l false) K).wp MRd b m R s Q = rdStep b m (.hid l false) s (fun a r x y s' => Prog.wp MRd b m R (K a r x y) s' Q) R := rfl
/-- a reader's walk, by what it comes to -/
theorem wp_run {α : Type} {b m : Int} : ∀ (p : Prog α) (s : RdS) (Q : α → RdS → Prop) (R : Str → Int → RdS → Prop), (∀ a s', s'.cert = s.cert → p.toW.run b m (s.cert.drop s.pos) s.pos = outIs s' a → Q a s') → (∀ w (n : Nat) s', p.toW.run b m (s.cert.drop s.pos) s.pos = .ref w n → R w n s') → p.toW.run b m (s.cert.drop s.pos) s.pos ≠ .end_ → p.wp MRd b m R s Q
  | .out, s, Q, R, h1, h2, h3 => absurd (by
      show (Wm.out : Wm α).run b m _ _ = .end_
      rw [Wm.run]) h3
  | .ret a, s, Q, R, h1, h2, h3 => h1 a s rfl (by
      show (Wm.ret a : Wm α).run b m _ _ = outIs s a
      unfold outIs
      by_cases hl : s.pos < s.cert.length
      · rw [if_pos hl, drop_cons hl, run_ret]
      · rw [if_neg hl, List.drop_eq_nil_of_le (by omega), run_ret0])
  | .ask (.hid l false) K, s, Q, R, h1, h2, h3 => by
    have e0 : (Prog.ask (.hid l false) K).toW = .ask l fun e => (K e.key e.row (.hid e.l false) (.hid e.r false)).toW := rfl
    rw [e0] at h1 h2 h3
    refine Eq.mpr (wp_hid l K s Q R) ?_
    unfold rdStep
    by_cases hl : s.pos < s.cert.length
    · dsimp only
      rw [dif_pos hl]
      rw [drop_cons hl, run_ask] at h1 h2 h3
      cases ej : judge b m l s.cert[s.pos] with
      | inl w =>
        rw [ej] at h2
        exact h2 _ _ _ rfl
      | inr e =>
        rw [ej] at h1 h2 h3
        exact wp_run _ (s.next hl) Q R (fun a s' hc hr => h1 a s' hc hr) (fun w n s' hr => h2 w n s' hr) h3
    · dsimp only
      rw [dif_neg hl]
      rw [List.drop_eq_nil_of_le (by omega), run_ask0] at h2
      exact h2 _ _ _ rfl
  | .ask (.nod k r x y true) K, s, Q, R, h1, h2, h3 => by
    by_cases hk : NdOk k r
    · have e0 : (Prog.ask (.nod k r x y true) K).toW = (K k r x y).toW := if_pos hk
      rw [e0] at h1 h2 h3
      exact ⟨hk, wp_run _ s Q R h1 h2 h3⟩
    · have e0 : (Prog.ask (.nod k r x y true) K).toW = .out := if_neg hk
      rw [e0] at h3
      exact absurd (by rw [Wm.run]) h3
  | .ask (.hid l true) K, s, Q, R, h1, h2, h3 => absurd (by
      show (Wm.out : Wm α).run b m _ _ = .end_
      rw [Wm.run]) h3
  | .ask (.nod k r x y false) K, s, Q, R, h1, h2, h3 => absurd (by
      show (Wm.out : Wm α).run b m _ _ = .end_
      rw [Wm.run]) h3
/-! ### the reader's parts beside the recorder's -/
def Shut : PT → Prop
  | .hid _ o => o = false
  | .nod _ _ x y o => o = false ∧ Shut x ∧ Shut y
inductive Sim (b m : Int) : PT → PT → Prop
  | hid (t : PT) : Shut t → Sim b m (.hid (t.lnk b m) false) t
  | nod {k : Str} {r : List Int} {x' y' x y : PT} : Sim b m x' x → Sim b m y' y → Sim b m (.nod k r x' y' true) (.nod k r x y true)
theorem Sim.lnk {b m : Int} {t' t : PT} (h : Sim b m t' t) : t'.lnk b m = t.lnk b m := by
  induction h with
  | hid t _ => rfl
  | nod _ _ i1 i2 =>
    show lnkOf b m _ = lnkOf b m _
    rw [i1, i2]
inductive SimP (b m : Int) {α β : Type} (J : α → β → Prop) : Prog α → Prog β → Prop
  | out : SimP b m J .out .out
  | ret {a : α} {c : β} : J a c → SimP b m J (.ret a) (.ret c)
  | ask {t' t : PT} {K' : Str → List Int → PT → PT → Prog α} {K : Str → List Int → PT → PT → Prog β} : Sim b m t' t → (∀ k r x' y' x y, Sim b m x' x → Sim b m y' y → SimP b m J (K' k r x' y') (K k r x y)) → SimP b m J (.ask t' K') (.ask t K)
theorem SimP.bind {b m : Int} {α β γ δ : Type} {J : α → β → Prop} {J2 : γ → δ → Prop} {p' : Prog α} {p : Prog β} {f' : α → Prog γ} {f : β → Prog δ} (h : SimP b m J p' p) (k : ∀ a c, J a c → SimP b m J2 (f' a) (f c)) : SimP b m J2 (p'.bind f') (p.bind f) := by
  induction h with
  | out => exact .out
  | ret j => exact k _ _ j
  | ask s _ ih => exact .ask s fun k r x' y' x y h1 h2 => ih k r x' y' x y h1 h2
theorem SimP.ite {b m : Int} {α β : Type} {J : α → β → Prop} {c : Prop} [Decidable c] {p' q' : Prog α} {p q : Prog β} (h1 : c → SimP b m J p' p) (h2 : ¬ c → SimP b m J q' q) : SimP b m J (if c then p' else q') (if c then p else q) := by
  by_cases h : c
  · rw [if_pos h, if_pos h]
    exact h1 h
  · rw [if_neg h, if_neg h]
    exact h2 h
theorem hon_sim {b m : Int} {α β : Type} {J : α → β → Prop} {p : Prog β} {es : List Ent} {c : β} (h : RunR b m p es c) : ∀ {p' : Prog α}, SimP b m J p' p → ∃ a, J a c ∧ Hon b m p'.toW es a := by
  induction h with
  | ret a =>
    intro p' s
    cases s with
    | ret j => exact ⟨_, j, .ret _⟩
  | opn nk _ ih =>
    intro p' s
    cases s with
    | ask st k =>
      cases st with
      | hid _ sh => exact absurd sh.1 (by decide)
      | nod s1 s2 =>
        obtain ⟨a, j, w⟩ := ih (k _ _ _ _ _ _ s1 s2)
        refine ⟨a, j, ?_⟩
        rw [Prog.toW, if_pos nk]
        exact w
  | clo _ ok _ ih =>
    intro p' s
    cases s with
    | ask st k =>
      cases st with
      | hid _ sh =>
        obtain ⟨a, j, w⟩ := ih (k _ _ _ _ _ _ (.hid _ sh.2.1) (.hid _ sh.2.2))
        exact ⟨a, j, .ask rfl ok w⟩
theorem paired_app {α β : Type} {R : α → β → Prop} : ∀ {xs ys : List α} {us vs : List β}, Paired R xs us → Paired R ys vs → Paired R (xs ++ ys) (us ++ vs)
  | _, _, _, _, .nil, k => k
  | _, _, _, _, .cons h hs, k => .cons h (paired_app hs k)
theorem paired_ite {α β : Type} {R : α → β → Prop} {c : Prop} [Decidable c] {xs : List α} {us : List β} (h : Paired R xs us) : Paired R (if c then xs else []) (if c then us else []) := by
  split
  · exact h
  · exact .nil

/-! ### splices of parts -/
def hid0 (b m : Int) : PT := .hid (lnk0 b m) false
def pSplit (b m : Int) (key : Str) : PT → Spl3
  | .hid _ _ => (hid0 b m, none, hid0 b m)
  | .nod k r x y _ => if k = key then (x, some r, y) else
    if slt key k = true then ((pSplit b m key x).1, (pSplit b m key x).2.1, .nod k r (pSplit b m key x).2.2 y true) else (.nod k r x (pSplit b m key y).1 true, (pSplit b m key y).2.1, (pSplit b m key y).2.2)
def pMerge : Nat → PT → PT → PT
  | 0, a, _ => a
  | _ + 1, .hid _ _, c => c
  | _ + 1, .nod k r x y o, .hid _ _ => .nod k r x y o
  | n + 1, .nod k r x y _, .nod k2 r2 x2 y2 _ => if abv k k2 = true then .nod k r x (pMerge n y (.nod k2 r2 x2 y2 true)) true else .nod k2 r2 (pMerge n (.nod k r x y true) x2) y2 true
def pWith (b m : Int) (key : Str) (row : List Int) : PT → PT
  | .hid _ _ => .nod key row (hid0 b m) (hid0 b m) true
  | .nod k r x y o => if k = key ∨ abv key k = true then .nod key row (pSplit b m key (.nod k r x y o)).1 (pSplit b m key (.nod k r x y o)).2.2 true else
    if slt key k = true then .nod k r (pWith b m key row x) y true else .nod k r x (pWith b m key row y) true
def pWithout (n : Nat) (key : Str) : PT → PT
  | .hid l o => .hid l o
  | .nod k r x y _ => if k = key then pMerge n x y else if slt key k = true then .nod k r (pWithout n key x) y true else .nod k r x (pWithout n key y) true
def pSpl (b m : Int) (n : Nat) (t : PT) : Chg → PT
  | .put k r => pWith b m k r t
  | .rem k => pWithout n k t
/-! parts that are known to the end -/
def PT.Whole (b m : Int) : PT → Prop
  | .hid l o => l = lnk0 b m ∧ o = false
  | .nod k r x y _ => (KeyOk k ∧ RowOk r) ∧ x.Whole b m ∧ y.Whole b m
def PT.tr : PT → Tree
  | .hid _ _ => .nil
  | .nod k r x y _ => .node k r x.tr y.tr
section
variable {b m : Int}
theorem whole_lnk : ∀ {t : PT}, t.Whole b m → t.lnk b m = t.tr.lnk b m
  | .hid l o, h => h.1
  | .nod k r x y o, h => by
    show lnkOf b m ⟨k, r, x.lnk b m, y.lnk b m⟩ = lnkOf b m ⟨k, r, x.tr.lnk b m, y.tr.lnk b m⟩
    rw [whole_lnk h.2.1, whole_lnk h.2.2]
theorem whole_ok : ∀ {t : PT}, t.Whole b m → TreeOk t.tr
  | .hid l o, _ => trivial
  | .nod k r x y o, h => ⟨h.1, whole_ok h.2.1, whole_ok h.2.2⟩
theorem whole_toPT : ∀ {t : Tree}, TreeOk t → (toPT b m t).Whole b m
  | .nil, _ => ⟨rfl, rfl⟩
  | .node k r x y, h => ⟨h.1, whole_toPT h.2.1, whole_toPT h.2.2⟩
theorem tr_toPT : ∀ t : Tree, (toPT b m t).tr = t
  | .nil => rfl
  | .node k r x y => by
    show Tree.node k r (toPT b m x).tr (toPT b m y).tr = _
    rw [tr_toPT x, tr_toPT y]
theorem whole_hid0 : (hid0 b m).Whole b m := ⟨rfl, rfl⟩
theorem whole_nod_c {k : Str} {r : List Int} {x y : PT} {o : Bool} (h : (PT.nod k r x y o).Whole b m) : ¬ ((PT.nod k r x y o).lnk b m).c = 0 := by
  rw [whole_lnk h, lnk_c]
  show ¬ ((x.tr.size + y.tr.size + 1 : Nat) : Int) = 0
  omega
theorem whole_hid_c {l : Lnk} {o : Bool} (h : (PT.hid l o).Whole b m) : ((PT.hid l o).lnk b m).c = 0 := by
  have e : l = lnk0 b m := h.1
  rw [e]
  rfl
theorem split_tr (key : Str) : ∀ {t : PT}, t.Whole b m → (pSplit b m key t).1.Whole b m ∧ (pSplit b m key t).2.2.Whole b m ∧ (pSplit b m key t).1.tr = (tSplit key t.tr).1 ∧ (pSplit b m key t).2.1 = (tSplit key t.tr).2.1 ∧ (pSplit b m key t).2.2.tr = (tSplit key t.tr).2.2
  | .hid l o, _ => ⟨whole_hid0, whole_hid0, rfl, rfl, rfl⟩
  | .nod k r x y o, h => by
    unfold pSplit
    show _ ∧ _ ∧ _ = (tSplit key (.node k r x.tr y.tr)).1 ∧ _ = (tSplit key (.node k r x.tr y.tr)).2.1 ∧ _ = (tSplit key (.node k r x.tr y.tr)).2.2
    unfold tSplit
    split
    · exact ⟨h.2.1, h.2.2, rfl, rfl, rfl⟩
    · split
      · obtain ⟨i1, i2, i3, i4, i5⟩ := split_tr key h.2.1
        refine ⟨i1, ⟨h.1, i2, h.2.2⟩, i3, i4, ?_⟩
        show Tree.node k r _ _ = Tree.node k r _ _
        rw [i5]
      · obtain ⟨i1, i2, i3, i4, i5⟩ := split_tr key h.2.2
        refine ⟨⟨h.1, h.2.1, i1⟩, i2, ?_, i4, i5⟩
        show Tree.node k r _ _ = Tree.node k r _ _
        rw [i3]
theorem merge_tr : ∀ (n : Nat) {a c : PT}, a.tr.size + c.tr.size < n → a.Whole b m → c.Whole b m → (pMerge n a c).Whole b m ∧ (pMerge n a c).tr = tMerge n a.tr c.tr
  | 0, _, _, h, _, _ => absurd h (by omega)
  | _ + 1, .hid _ _, c, _, _, h => ⟨h, rfl⟩
  | _ + 1, .nod k r x y o, .hid _ _, _, h, _ => ⟨h, rfl⟩
  | n + 1, .nod k r x y _, .nod k2 r2 x2 y2 _, hn, h1, h2 => by
    have hn : (x.tr.size + y.tr.size + 1) + (x2.tr.size + y2.tr.size + 1) < n + 1 := hn
    unfold pMerge
    show _ ∧ _ = tMerge (n + 1) (.node k r x.tr y.tr) (.node k2 r2 x2.tr y2.tr)
    unfold tMerge
    split
    · obtain ⟨i1, i2⟩ := merge_tr n (a := y) (c := .nod k2 r2 x2 y2 true) (by show y.tr.size + (x2.tr.size + y2.tr.size + 1) < n; omega) h1.2.2 h2
      refine ⟨⟨h1.1, h1.2.1, i1⟩, ?_⟩
      show Tree.node k r _ _ = Tree.node k r _ _
      rw [i2]
      rfl
    · obtain ⟨i1, i2⟩ := merge_tr n (a := .nod k r x y true) (c := x2) (by show (x.tr.size + y.tr.size + 1) + x2.tr.size < n; omega) h1 h2.2.1
      refine ⟨⟨h2.1, i1, h2.2.2⟩, ?_⟩
      show Tree.node k2 r2 _ _ = Tree.node k2 r2 _ _
      rw [i2]
      rfl
theorem with_tr {key : Str} {row : List Int} (hk : KeyOk key ∧ RowOk row) : ∀ {t : PT}, t.Whole b m → (pWith b m key row t).Whole b m ∧ (pWith b m key row t).tr = tWith key row t.tr
  | .hid _ _, _ => ⟨⟨hk, whole_hid0, whole_hid0⟩, rfl⟩
  | .nod k r x y o, h => by
    unfold pWith
    show _ ∧ _ = tWith key row (.node k r x.tr y.tr)
    unfold tWith
    split
    · obtain ⟨i1, i2, i3, _, i5⟩ := split_tr key h
      refine ⟨⟨hk, i1, i2⟩, ?_⟩
      show Tree.node key row _ _ = Tree.node key row _ _
      rw [i3, i5]
      rfl
    · split
      · obtain ⟨i1, i2⟩ := with_tr hk h.2.1
        refine ⟨⟨h.1, i1, h.2.2⟩, ?_⟩
        show Tree.node k r _ _ = Tree.node k r _ _
        rw [i2]
      · obtain ⟨i1, i2⟩ := with_tr hk h.2.2
        refine ⟨⟨h.1, h.2.1, i1⟩, ?_⟩
        show Tree.node k r _ _ = Tree.node k r _ _
        rw [i2]
theorem without_tr {key : Str} (n : Nat) : ∀ {t : PT}, t.tr.size < n → t.Whole b m → (pWithout n key t).Whole b m ∧ (pWithout n key t).tr = tWithout n key t.tr
  | .hid _ _, _, h => ⟨h, rfl⟩
  | .nod k r x y o, hn, h => by
    have hn : x.tr.size + y.tr.size + 1 < n := hn
    unfold pWithout
    show _ ∧ _ = tWithout n key (.node k r x.tr y.tr)
    unfold tWithout
    split
    · exact merge_tr n (by omega) h.2.1 h.2.2
    · split
      · obtain ⟨i1, i2⟩ := without_tr n (t := x) (by omega) h.2.1
        refine ⟨⟨h.1, i1, h.2.2⟩, ?_⟩
        show Tree.node k r _ _ = Tree.node k r _ _
        rw [i2]
      · obtain ⟨i1, i2⟩ := without_tr n (t := y) (by omega) h.2.2
        refine ⟨⟨h.1, h.2.1, i1⟩, ?_⟩
        show Tree.node k r _ _ = Tree.node k r _ _
        rw [i2]
theorem spl_tr {ch : Chg} (hc : ch.Ok) (n : Nat) {t : PT} (hn : t.tr.size < n) (h : t.Whole b m) : (pSpl b m n t ch).Whole b m ∧ (pSpl b m n t ch).tr = tSpl n t.tr ch := by
  cases ch with
  | put k r => exact with_tr hc h
  | rem k => exact without_tr n hn h
/-! a recorder's run -/
theorem whole_ent (hr : RuleOk b m) {k : Str} {r : List Int} {x y : PT} {o : Bool} (h : (PT.nod k r x y o).Whole b m) : (⟨k, r, x.lnk b m, y.lnk b m⟩ : Ent).Ok := by
  refine ⟨h.1.1, h.1.2, ?_, ?_⟩
  · rw [whole_lnk h.2.1]
    exact lnk_ok hr _ (whole_ok h.2.1)
  · rw [whole_lnk h.2.2]
    exact lnk_ok hr _ (whole_ok h.2.2)
/-- how many are closed -/
def oc (o : Bool) : Nat := if o = true then 0 else 1
def PT.cl : PT → Nat
  | .hid _ _ => 0
  | .nod _ _ x y o => x.cl + y.cl + oc o
theorem cl_nod (k : Str) (r : List Int) (x y : PT) (o : Bool) : (PT.nod k r x y o).cl = x.cl + y.cl + oc o := rfl
theorem oc_t : oc true = 0 := rfl
theorem cl_toPT : ∀ t : Tree, (toPT b m t).cl = t.size
  | .nil => rfl
  | .node k r x y => by
    show (toPT b m x).cl + (toPT b m y).cl + 1 = x.size + y.size + 1
    rw [cl_toPT x, cl_toPT y]
/-- one part opened -/
theorem run_open (hr : RuleOk b m) {α : Type} {k : Str} {r : List Int} {x y : PT} {o : Bool} {K : Str → List Int → PT → PT → Prog α} {n : Nat} {P : α → Prop} (h : (PT.nod k r x y o).Whole b m) (g : ∃ es a, RunR b m (K k r x y) es a ∧ es.length ≤ n ∧ P a) :
    ∃ es a, RunR b m (.ask (.nod k r x y o) K) es a ∧ es.length ≤ n + oc o ∧ P a := by
  obtain ⟨es, a, h1, h2, h3⟩ := g
  cases o with
  | true => exact ⟨es, a, .opn (nd_ok h.1) h1, h2, h3⟩
  | false => exact ⟨_, a, .clo (nd_ok h.1) (whole_ent hr h) h1, by rw [List.length_cons]; show _ ≤ n + 1; omega, h3⟩
theorem foldGaps_snoc (key : Str) (gs : List Gap) (g : Gap) (p : PT × PT) : foldGaps key (gs ++ [g]) p = foldGaps key gs (foldGap key p g) := by
  unfold foldGaps
  rw [List.reverse_append]
  rfl
def outP (key : Str) (gs : List Gap) (p : Spl3) : Spl3 := ((foldGaps key gs (p.1, p.2.2)).1, p.2.1, (foldGaps key gs (p.1, p.2.2)).2)
theorem run_way (hr : RuleOk b m) (key : Str) : ∀ (n : Nat) (t : PT) (gs : List Gap), t.tr.size < n → t.Whole b m → ∃ es w, RunR b m (gWay b m key n t gs) es w ∧ es.length ≤ t.cl ∧ gCut b m key w = .ret (outP key gs (pSplit b m key t))
  | 0, _, _, h, _ => absurd h (by omega)
  | n + 1, .hid l o, gs, _, h => by
    unfold gWay
    rw [if_pos (whole_hid_c h)]
    refine ⟨[], _, .ret _, Nat.zero_le _, ?_⟩
    unfold gCut
    rw [if_pos (whole_hid_c h)]
    rfl
  | n + 1, .nod k r x y o, gs, hn, h => by
    have hn : x.tr.size + y.tr.size + 1 < n + 1 := hn
    unfold gWay
    rw [if_neg (whole_nod_c h)]
    refine run_open (n := x.cl + y.cl) hr h ?_
    unfold pSplit
    by_cases hk : k = key
    · rw [if_pos hk, if_pos hk]
      refine ⟨[], _, .ret _, Nat.zero_le _, ?_⟩
      have h2 : (PT.nod k r x y true).Whole b m := h
      unfold gCut
      rw [if_neg (whole_nod_c h2)]
      rfl
    · rw [if_neg hk, if_neg hk]
      by_cases hs : slt key k = true
      · rw [if_pos hs, if_pos hs]
        obtain ⟨es, w, h1, h2, h3⟩ := run_way hr key n x (gs ++ [.hi k r y]) (by omega) h.2.1
        refine ⟨es, w, h1, by omega, ?_⟩
        rw [h3]
        unfold outP
        rw [foldGaps_snoc]
        unfold foldGap
        rw [if_pos (show slt key (Gap.hi k r y).key = true from hs)]
        rfl
      · rw [if_neg hs, if_neg hs]
        obtain ⟨es, w, h1, h2, h3⟩ := run_way hr key n y (gs ++ [.lo k r x]) (by omega) h.2.2
        refine ⟨es, w, h1, by omega, ?_⟩
        rw [h3]
        unfold outP
        rw [foldGaps_snoc]
        unfold foldGap
        rw [if_neg (show ¬ slt key (Gap.lo k r x).key = true from hs)]
        rfl
theorem run_split (hr : RuleOk b m) (key : Str) (n : Nat) (t : PT) (hn : t.tr.size < n) (h : t.Whole b m) : ∃ es, RunR b m (gSplit b m key n t) es (pSplit b m key t) ∧ es.length ≤ t.cl := by
  obtain ⟨es, w, h1, h2, h3⟩ := run_way hr key n t [] hn h
  refine ⟨es, ?_, h2⟩
  have := h1.bind (f := gCut b m key) (fs := []) (c := pSplit b m key t) (by rw [h3]; exact .ret _)
  rw [List.append_nil] at this
  exact this
theorem compl_snoc (gs : List Gap) (g : Gap) (t : PT) : compl true (gs ++ [g]) t = compl true gs (g.put true t) := by
  unfold compl
  rw [List.foldr_append]
  rfl
theorem run_merge (hr : RuleOk b m) : ∀ (n : Nat) (a c : PT) (gs : List Gap), a.tr.size + c.tr.size < n → a.Whole b m → c.Whole b m → ∃ es, RunR b m (gMerge b m n a c gs) es (compl true gs (pMerge n a c)) ∧ es.length ≤ a.cl + c.cl
  | 0, _, _, _, h, _, _ => absurd h (by omega)
  | n + 1, .hid l o, c, gs, _, h, _ => by
    unfold gMerge
    rw [if_pos (whole_hid_c h)]
    exact ⟨[], .ret _, Nat.zero_le _⟩
  | n + 1, .nod k r x y o, .hid l o2, gs, _, h, h2 => by
    unfold gMerge
    rw [if_neg (whole_nod_c h), if_pos (whole_hid_c h2)]
    exact ⟨[], .ret _, Nat.zero_le _⟩
  | n + 1, .nod k r x y o, .nod k2 r2 x2 y2 o2, gs, hn, h, h2 => by
    have hn : (x.tr.size + y.tr.size + 1) + (x2.tr.size + y2.tr.size + 1) < n + 1 := hn
    unfold gMerge
    rw [if_neg (whole_nod_c h), if_neg (whole_nod_c h2)]
    have fin : ∃ es a, RunR b m (.ask (.nod k r x y o) fun k r x y => .ask (.nod k2 r2 x2 y2 o2) fun k2 r2 x2 y2 => if abv k k2 = true then gMerge b m n y (.nod k2 r2 x2 y2 true) (gs ++ [.lo k r x]) else gMerge b m n (.nod k r x y true) x2 (gs ++ [.hi k2 r2 y2])) es a ∧ es.length ≤ ((x.cl + y.cl + (x2.cl + y2.cl)) + oc o2) + oc o ∧ a = compl true gs (pMerge (n + 1) (.nod k r x y o) (.nod k2 r2 x2 y2 o2)) := by
      refine run_open hr h (run_open hr h2 ?_)
      unfold pMerge
      by_cases hab : abv k k2 = true
      · rw [if_pos hab, if_pos hab]
        obtain ⟨es, g1, g2⟩ := run_merge hr n y (.nod k2 r2 x2 y2 true) (gs ++ [.lo k r x]) (by show y.tr.size + (x2.tr.size + y2.tr.size + 1) < n; omega) h.2.2 h2
        rw [cl_nod, oc_t] at g2
        refine ⟨es, _, g1, by omega, ?_⟩
        rw [compl_snoc]
        rfl
      · rw [if_neg hab, if_neg hab]
        obtain ⟨es, g1, g2⟩ := run_merge hr n (.nod k r x y true) x2 (gs ++ [.hi k2 r2 y2]) (by show (x.tr.size + y.tr.size + 1) + x2.tr.size < n; omega) h h2.2.1
        rw [cl_nod, oc_t] at g2
        refine ⟨es, _, g1, by omega, ?_⟩
        rw [compl_snoc]
        rfl
    obtain ⟨es, a, g1, g2, rfl⟩ := fin
    exact ⟨es, g1, by rw [cl_nod, cl_nod]; omega⟩
theorem run_with (hr : RuleOk b m) (key : Str) (row : List Int) (N : Nat) : ∀ (n : Nat) (t : PT) (gs : List Gap), t.tr.size < n → t.tr.size < N → t.Whole b m →
    ∃ es, RunR b m ((gDown b m key n t gs).bind fun w => (gSplit b m key N w.2).bind fun p => .ret (compl true w.1 (.nod key row p.1 p.2.2 true))) es (compl true gs (pWith b m key row t)) ∧ es.length ≤ t.cl
  | 0, _, _, h, _, _ => absurd h (by omega)
  | n + 1, .hid l o, gs, _, hN, h => by
    unfold gDown
    rw [if_pos (whole_hid_c h)]
    obtain ⟨es, g1, g2⟩ := run_split hr key N (.hid l o) hN h
    refine ⟨es, ?_, by omega⟩
    have := g1.bind (f := fun p : Spl3 => Prog.ret (compl true gs (.nod key row p.1 p.2.2 true))) (fs := []) (.ret _)
    rw [List.append_nil] at this
    exact this
  | n + 1, .nod k r x y o, gs, hn, hN, h => by
    have hn : x.tr.size + y.tr.size + 1 < n + 1 := hn
    have hN : x.tr.size + y.tr.size + 1 < N := hN
    unfold gDown
    rw [if_neg (whole_nod_c h)]
    have fin : ∃ es a, RunR b m (.ask (.nod k r x y o) fun k' r' x' y' => (if k' = key ∨ abv key k' = true then .ret (gs, .nod k' r' x' y' true) else if slt key k' = true then gDown b m key n x' (gs ++ [.hi k' r' y']) else gDown b m key n y' (gs ++ [.lo k' r' x'])).bind fun w => (gSplit b m key N w.2).bind fun p => .ret (compl true w.1 (.nod key row p.1 p.2.2 true))) es a ∧ es.length ≤ (x.cl + y.cl) + oc o ∧ a = compl true gs (pWith b m key row (.nod k r x y o)) := by
      refine run_open hr h ?_
      unfold pWith
      by_cases hc : k = key ∨ abv key k = true
      · rw [if_pos hc, if_pos hc]
        obtain ⟨es, g1, g2⟩ := run_split hr key N (.nod k r x y true) hN h
        rw [cl_nod, oc_t] at g2
        refine ⟨es, compl true gs (.nod key row (pSplit b m key (.nod k r x y true)).1 (pSplit b m key (.nod k r x y true)).2.2 true), ?_, by omega, rfl⟩
        have := g1.bind (f := fun p : Spl3 => Prog.ret (compl true gs (.nod key row p.1 p.2.2 true))) (fs := []) (.ret _)
        rw [List.append_nil] at this
        exact this
      · rw [if_neg hc, if_neg hc]
        by_cases hs : slt key k = true
        · rw [if_pos hs, if_pos hs]
          obtain ⟨es, g1, g2⟩ := run_with hr key row N n x (gs ++ [.hi k r y]) (by omega) (by omega) h.2.1
          refine ⟨es, _, g1, by omega, ?_⟩
          rw [compl_snoc]
          rfl
        · rw [if_neg hs, if_neg hs]
          obtain ⟨es, g1, g2⟩ := run_with hr key row N n y (gs ++ [.lo k r x]) (by omega) (by omega) h.2.2
          refine ⟨es, _, g1, by omega, ?_⟩
          rw [compl_snoc]
          rfl
    obtain ⟨es, a, g1, g2, rfl⟩ := fin
    exact ⟨es, g1, by rw [cl_nod]; omega⟩
theorem run_without (hr : RuleOk b m) (key : Str) (N : Nat) : ∀ (n : Nat) (t : PT) (gs : List Gap), t.tr.size < n → t.tr.size < N → t.Whole b m →
    ∃ es, RunR b m ((gWay b m key n t gs).bind (gRest b m N)) es (compl true gs (pWithout N key t)) ∧ es.length ≤ t.cl
  | 0, _, _, h, _, _ => absurd h (by omega)
  | n + 1, .hid l o, gs, _, hN, h => by
    unfold gWay
    rw [if_pos (whole_hid_c h)]
    refine ⟨[], ?_, Nat.zero_le _⟩
    show RunR b m (gRest b m N (gs, .hid l o)) [] _
    unfold gRest
    rw [if_pos (whole_hid_c h)]
    exact .ret _
  | n + 1, .nod k r x y o, gs, hn, hN, h => by
    have hn : x.tr.size + y.tr.size + 1 < n + 1 := hn
    have hN : x.tr.size + y.tr.size + 1 < N := hN
    unfold gWay
    rw [if_neg (whole_nod_c h)]
    have fin : ∃ es a, RunR b m (.ask (.nod k r x y o) fun k' r' x' y' => (if k' = key then .ret (gs, .nod k' r' x' y' true) else if slt key k' = true then gWay b m key n x' (gs ++ [.hi k' r' y']) else gWay b m key n y' (gs ++ [.lo k' r' x'])).bind (gRest b m N)) es a ∧ es.length ≤ (x.cl + y.cl) + oc o ∧ a = compl true gs (pWithout N key (.nod k r x y o)) := by
      refine run_open hr h ?_
      unfold pWithout
      by_cases hk : k = key
      · rw [if_pos hk, if_pos hk]
        have hw : (PT.nod k r x y true).Whole b m := h
        obtain ⟨es, g1, g2⟩ := run_merge hr N x y [] (by omega) h.2.1 h.2.2
        refine ⟨es, compl true gs (pMerge N x y), ?_, by omega, rfl⟩
        show RunR b m (gRest b m N (gs, .nod k r x y true)) es _
        unfold gRest
        rw [if_neg (whole_nod_c hw)]
        have := g1.bind (f := fun z : PT => Prog.ret (compl true gs z)) (fs := []) (.ret _)
        rw [List.append_nil] at this
        exact this
      · rw [if_neg hk, if_neg hk]
        by_cases hs : slt key k = true
        · rw [if_pos hs, if_pos hs]
          obtain ⟨es, g1, g2⟩ := run_without hr key N n x (gs ++ [.hi k r y]) (by omega) (by omega) h.2.1
          refine ⟨es, _, g1, by omega, ?_⟩
          rw [compl_snoc]
          rfl
        · rw [if_neg hs, if_neg hs]
          obtain ⟨es, g1, g2⟩ := run_without hr key N n y (gs ++ [.lo k r x]) (by omega) (by omega) h.2.2
          refine ⟨es, _, g1, by omega, ?_⟩
          rw [compl_snoc]
          rfl
    obtain ⟨es, a, g1, g2, rfl⟩ := fin
    exact ⟨es, g1, by rw [cl_nod]; omega⟩
theorem run_spl (hr : RuleOk b m) (n : Nat) (t : PT) (ch : Chg) (hn : t.tr.size < n) (h : t.Whole b m) : ∃ es, RunR b m (gSpl b m n t ch) es (pSpl b m n t ch) ∧ es.length ≤ t.cl := by
  cases ch with
  | put k r =>
    obtain ⟨es, g1, g2⟩ := run_with hr k r n n t [] hn hn h
    exact ⟨es, g1, by omega⟩
  | rem k =>
    obtain ⟨es, g1, g2⟩ := run_without hr k n n t [] hn hn h
    exact ⟨es, g1, by omega⟩
end

/-! ### splices by links -/
section
variable {b m : Int}
inductive GapS (b m : Int) : Gap → Gap → Prop
  | lo (k : Str) (r : List Int) {x' x : PT} : Sim b m x' x → GapS b m (.lo k r x') (.lo k r x)
  | hi (k : Str) (r : List Int) {x' x : PT} : Sim b m x' x → GapS b m (.hi k r x') (.hi k r x)
theorem GapS.key {g' g : Gap} (h : GapS b m g' g) : g'.key = g.key := by
  cases h <;> rfl
theorem GapS.put {g' g : Gap} (h : GapS b m g' g) {t' t : PT} (ht : Sim b m t' t) : Sim b m (g'.put true t') (g.put true t) := by
  cases h with
  | lo k r s => exact .nod s ht
  | hi k r s => exact .nod ht s
theorem paired_one {α β : Type} {R : α → β → Prop} {a : α} {c : β} (h : R a c) : Paired R [a] [c] := .cons h .nil
theorem sim_compl {t' t : PT} (k : Sim b m t' t) : ∀ {gs' gs : List Gap}, Paired (GapS b m) gs' gs → Sim b m (compl true gs' t') (compl true gs t)
  | _, _, .nil => k
  | _, _, .cons h hs => h.put (sim_compl k hs)
structure WayS (b m : Int) (w' w : List Gap × PT) : Prop where
  gs : Paired (GapS b m) w'.1 w.1
  t : Sim b m w'.2 w.2
  e : (w.2.lnk b m).c = 0 ∨ ∃ k r x y, w.2 = .nod k r x y true
theorem sim_way (key : Str) : ∀ (n : Nat) {t' t : PT} {gs' gs : List Gap}, Sim b m t' t → Paired (GapS b m) gs' gs → SimP b m (WayS b m) (gWay b m key n t' gs') (gWay b m key n t gs)
  | 0, _, _, _, _, _, _ => .out
  | n + 1, t', t, gs', gs, h, hg => by
    unfold gWay
    rw [h.lnk]
    exact .ite (fun hc => .ret ⟨hg, h, .inl hc⟩) fun _ => .ask h fun k r x' y' x y h1 h2 => .ite (fun _ => .ret ⟨hg, .nod h1 h2, .inr ⟨_, _, _, _, rfl⟩⟩) fun _ =>
      .ite (fun _ => sim_way key n h1 (paired_app hg (paired_one (.hi k r h2)))) fun _ => sim_way key n h2 (paired_app hg (paired_one (.lo k r h1)))
theorem sim_down (key : Str) : ∀ (n : Nat) {t' t : PT} {gs' gs : List Gap}, Sim b m t' t → Paired (GapS b m) gs' gs → SimP b m (WayS b m) (gDown b m key n t' gs') (gDown b m key n t gs)
  | 0, _, _, _, _, _, _ => .out
  | n + 1, t', t, gs', gs, h, hg => by
    unfold gDown
    rw [h.lnk]
    exact .ite (fun hc => .ret ⟨hg, h, .inl hc⟩) fun _ => .ask h fun k r x' y' x y h1 h2 => .ite (fun _ => .ret ⟨hg, .nod h1 h2, .inr ⟨_, _, _, _, rfl⟩⟩) fun _ =>
      .ite (fun _ => sim_down key n h1 (paired_app hg (paired_one (.hi k r h2)))) fun _ => sim_down key n h2 (paired_app hg (paired_one (.lo k r h1)))
def TwoS (b m : Int) (p' p : PT × PT) : Prop := Sim b m p'.1 p.1 ∧ Sim b m p'.2 p.2
theorem paired_rev {α β : Type} {R : α → β → Prop} : ∀ {xs : List α} {ys : List β}, Paired R xs ys → Paired R xs.reverse ys.reverse
  | _, _, .nil => .nil
  | _, _, .cons h hs => by
    rw [List.reverse_cons, List.reverse_cons]
    exact paired_app (paired_rev hs) (paired_one h)
theorem sim_fold (key : Str) : ∀ {gs' gs : List Gap}, Paired (GapS b m) gs' gs → ∀ {p' p : PT × PT}, TwoS b m p' p → TwoS b m (gs'.foldl (foldGap key) p') (gs.foldl (foldGap key) p)
  | _, _, .nil, _, _, h => h
  | _, _, .cons (a := g') (b := g) hg hs, p', p, h => by
    refine sim_fold key hs (p' := foldGap key p' g') (p := foldGap key p g) ?_
    unfold foldGap
    rw [hg.key]
    split
    · exact ⟨h.1, hg.put h.2⟩
    · exact ⟨hg.put h.1, h.2⟩
theorem sim_folds (key : Str) {gs' gs : List Gap} (h : Paired (GapS b m) gs' gs) {p' p : PT × PT} (k : TwoS b m p' p) : TwoS b m (foldGaps key gs' p') (foldGaps key gs p) := sim_fold key (paired_rev h) k
structure Spl3S (b m : Int) (p' p : Spl3) : Prop where
  l : Sim b m p'.1 p.1
  o : p'.2.1 = p.2.1
  r : Sim b m p'.2.2 p.2.2
theorem sim_hid0 : Sim b m (hid0 b m) (hid0 b m) := Sim.hid (hid0 b m) rfl
theorem sim_openN {t' : PT} {k : Str} {r : List Int} {x y : PT} (h : Sim b m t' (.nod k r x y true)) : ∃ x' y', t' = .nod k r x' y' true ∧ Sim b m x' x ∧ Sim b m y' y := by
  generalize hu : PT.nod k r x y true = u at h
  cases h with
  | hid t s =>
    rw [← hu] at s
    exact absurd s.1 (by decide)
  | nod h1 h2 =>
    cases hu
    exact ⟨_, _, rfl, h1, h2⟩
theorem sim_cut (key : Str) {w' w : List Gap × PT} (h : WayS b m w' w) : SimP b m (Spl3S b m) (gCut b m key w') (gCut b m key w) := by
  unfold gCut
  rw [h.t.lnk]
  refine .ite (fun _ => .ret ?_) fun hc => ?_
  · have f := sim_folds key h.gs (p' := (hid0 b m, hid0 b m)) (p := (hid0 b m, hid0 b m)) ⟨sim_hid0, sim_hid0⟩
    exact ⟨f.1, rfl, f.2⟩
  · rcases h.e with z | ⟨k, r, x, y, e⟩
    · exact absurd z hc
    · have ht := h.t
      rw [e] at ht
      obtain ⟨x', y', e', h1, h2⟩ := sim_openN ht
      rw [e, e']
      have f := sim_folds key h.gs (p' := (x', y')) (p := (x, y)) ⟨h1, h2⟩
      exact .ret ⟨f.1, rfl, f.2⟩
theorem sim_split (key : Str) (n : Nat) {t' t : PT} (h : Sim b m t' t) : SimP b m (Spl3S b m) (gSplit b m key n t') (gSplit b m key n t) := (sim_way key n h .nil).bind fun _ _ k => sim_cut key k
theorem sim_merge : ∀ (n : Nat) {a' a c' c : PT} {gs' gs : List Gap}, Sim b m a' a → Sim b m c' c → Paired (GapS b m) gs' gs → SimP b m (Sim b m) (gMerge b m n a' c' gs') (gMerge b m n a c gs)
  | 0, _, _, _, _, _, _, _, _, _ => .out
  | n + 1, a', a, c', c, gs', gs, h1, h2, hg => by
    unfold gMerge
    rw [h1.lnk, h2.lnk]
    refine .ite (fun _ => .ret (sim_compl h2 hg)) fun _ => .ite (fun _ => .ret (sim_compl h1 hg)) fun _ => .ask h1 fun k r x' y' x y g1 g2 => .ask h2 fun k2 r2 x2' y2' x2 y2 g3 g4 => ?_
    exact .ite (fun _ => sim_merge n g2 (.nod g3 g4) (paired_app hg (paired_one (.lo k r g1)))) fun _ => sim_merge n (.nod g1 g2) g3 (paired_app hg (paired_one (.hi k2 r2 g4)))
theorem sim_rest (n : Nat) {w' w : List Gap × PT} (h : WayS b m w' w) : SimP b m (Sim b m) (gRest b m n w') (gRest b m n w) := by
  unfold gRest
  rw [h.t.lnk]
  refine .ite (fun _ => .ret (sim_compl h.t h.gs)) fun hc => ?_
  rcases h.e with z | ⟨k, r, x, y, e⟩
  · exact absurd z hc
  · have ht := h.t
    rw [e] at ht
    obtain ⟨x', y', e', h1, h2⟩ := sim_openN ht
    rw [e, e']
    exact (sim_merge n h1 h2 .nil).bind fun _ _ k => .ret (sim_compl k h.gs)
theorem sim_spl (n : Nat) {t' t : PT} (h : Sim b m t' t) : ∀ ch : Chg, SimP b m (Sim b m) (gSpl b m n t' ch) (gSpl b m n t ch)
  | .put k r => (sim_down k n h .nil).bind fun _ _ w => (sim_split k n w.t).bind fun _ _ p => .ret (sim_compl (.nod p.l p.r) w.gs)
  | .rem k => (sim_way k n h .nil).bind fun _ _ w => sim_rest n w
theorem shut_toPT2 (b m : Int) : ∀ t : Tree, Shut (toPT b m t)
  | .nil => rfl
  | .node k r x y => ⟨rfl, shut_toPT2 b m x, shut_toPT2 b m y⟩
/-! the head after a change -/
def gHead (b m : Int) (n : Nat) (t : PT) (ch : Chg) : Prog PyData := (gSpl b m n t ch).bind fun u => .ret (linkD (u.lnk b m))
/-- the right entries of a change -/
def ChgCert (b m : Int) (tb : Tab) (ch : Chg) (n : Nat) (es : List Ent) : Prop := RunR b m (gHead b m n (toPT b m (treeOf tb)) ch) es (linkD (headL b m (changed tb ch)))
theorem run_head (hr : RuleOk b m) {tb : Tab} (ht : TabOk tb) {ch : Chg} (hc : ch.Ok) {n : Nat} (hn : tb.length < n) : ∃ es u, RunR b m (gSpl b m n (toPT b m (treeOf tb)) ch) es u ∧ ChgCert b m tb ch n es ∧ es.length ≤ tb.length ∧ u.lnk b m = headL b m (changed tb ch) := by
  have hw : (toPT b m (treeOf tb)).Whole b m := whole_toPT (treeOf_all (P := fun k r => KeyOk k ∧ RowOk r) ht.2)
  have hz : (toPT b m (treeOf tb)).tr.size < n := by
    rw [tr_toPT]
    exact Nat.lt_of_le_of_lt (treeOf_size tb) hn
  obtain ⟨es, g1, g2⟩ := run_spl hr n _ ch hz hw
  obtain ⟨w1, w2⟩ := spl_tr hc n hz hw
  have e : (pSpl b m n (toPT b m (treeOf tb)) ch).lnk b m = headL b m (changed tb ch) := by
    rw [whole_lnk w1, w2, tr_toPT, spl_tree ht.1 ch hn]
    rfl
  rw [cl_toPT] at g2
  refine ⟨es, _, g1, ?_, Nat.le_trans g2 (treeOf_size tb), e⟩
  have := g1.bind (f := fun u => Prog.ret (linkD (u.lnk b m))) (fs := []) (.ret _)
  rw [List.append_nil, e] at this
  exact this
/-- more fuel: any two right lists are the same -/
theorem RunR.same {α : Type} {p : Prog α} {es fs : List Ent} {a c : α} (h : RunR b m p es a) (k : RunR b m p fs c) : es = fs ∧ a = c := by
  induction h generalizing fs with
  | ret a =>
    cases k
    exact ⟨rfl, rfl⟩
  | opn _ _ ih =>
    cases k with
    | opn _ k => exact ih k
  | clo _ _ _ ih =>
    cases k with
    | clo _ _ k =>
      obtain ⟨h1, h2⟩ := ih k
      exact ⟨by rw [h1], h2⟩
theorem hon_head {tb : Tab} {ch : Chg} {n : Nat} {es : List Ent} (h : ChgCert b m tb ch n es) : Hon b m (gHead b m n (.hid (headL b m tb) false) ch).toW es (linkD (headL b m (changed tb ch))) := by
  have e : (toPT b m (treeOf tb)).lnk b m = headL b m tb := toPT_lnk b m _
  have s : SimP b m Eq (gHead b m n (.hid (headL b m tb) false) ch) (gHead b m n (toPT b m (treeOf tb)) ch) := (sim_spl n (e ▸ Sim.hid _ (shut_toPT2 b m (treeOf tb))) ch).bind fun _ _ k => .ret (by rw [k.lnk])
  obtain ⟨a, rfl, hh⟩ := hon_sim h s
  exact hh
end

set_option hygiene false in
local macro_rules | `(tactic| walk_at "d") => `(tactic| simp -implicitDefEqProofs only [dSeqS, dNext, dDrop, dRet, dRetN, dIfS, dAsg, dAsgC, dgName, dgTup.eq_1, dgTup.eq_2, dgCons.eq_1, dgCons.eq_2, dgNil, dgSub, subK.eq_1, subK.eq_2, dVar, dVarF, dC, dOp, fII.eq_1, fII.eq_2, fIIc.eq_1, fIIc.eq_2, fAdd.eq_1, fAdd.eq_2, fAdd.eq_3, fAdd.eq_4, fAdd.eq_5, fAdd.eq_6, fCmp.eq_1, fCmp.eq_2, fCmp.eq_3, fEqD, fIsN.eq_1, fIsN.eq_2, isNon.eq_1, isNon.eq_2, rdV.eq_1, rdV.eq_2, rdV.eq_3, rdL.eq_1, rdL.eq_2, rdL.eq_3, dB, dAnd, dOr, dNot, dTru, dIf, dAndV, dOrV, dNotV, dChain, dNil, dCons, vals.eq_1, vals.eq_2, vals.eq_3, dTup, dLst, fIx.eq_1, fIx.eq_2, fIx.eq_3, fIx.eq_4, fIx.eq_5, dSl, dPart, dNoPart, dCB, fLen.eq_1, fLen.eq_2, fLen.eq_3, fLen.eq_4, fLen.eq_5, fInt.eq_1, fInt.eq_2, fInt.eq_3, fList.eq_1, fList.eq_2, rdS.eq_1, rdS.eq_2, rdS.eq_3, rdS.eq_4, fTup.eq_1, fTup.eq_2, fOrd.eq_1, fOrd.eq_2, fIsi.eq_1, fIsi.eq_2, tyD.eq_1, tyD.eq_2, tyD.eq_3, tyD.eq_4, tyD.eq_5, tyD.eq_6, tyD.eq_7, kb1, kb2, kb3, kb4, kb5, kb6, kb7, kb8, kb9, kb10, kb11, kb12, kb13, kb14, kb15, kb16, kb17, kb18, kb19, kb20, kb21, kb22, kb23, kb24, dSeq, seqK.eq_1, seqK.eq_2, seqK.eq_3, seqK.eq_4, seqK.eq_5, dRng1, dRng2, dRev, lstK.eq_1, lstK.eq_2, lstK.eq_3, dEnum, dZip, dBM, dBM0, fAppend.eq_1, fAppend.eq_2, fExtend.eq_1, fExtend.eq_2, fExtA.eq_1, fExtA.eq_2, fPop.eq_1, fPop.eq_2, dRevT, dRevL, f2I.eq_1, f2I.eq_2, bK.eq_1, bK.eq_2, truK.eq_1, truK.eq_2, truK.eq_3, truK.eq_4, truK.eq_5, truK.eq_6, truK.eq_7, truL.eq_1, truL.eq_2, dispK.eq_1, dispK.eq_2, ixK.eq_1, ixK.eq_2, ixS.eq_1, ixS.eq_2, ixL.eq_1, ixL.eq_2, partK.eq_1, partK.eq_2, slK.eq_1, slK.eq_2, slK.eq_3, slK.eq_4, slK.eq_5, slL.eq_1, slL.eq_2, lenLK.eq_1, lenLK.eq_2, mkL.eq_1, mkL.eq_2, isiB.eq_1, isiB.eq_2, isiK.eq_1, isiK.eq_2, frzK.eq_1, frzK.eq_2, frzK.eq_3, rng1K.eq_1, rng1K.eq_2, rng2K.eq_1, rng2K.eq_2, lst1K.eq_1, lst1K.eq_2, zipK.eq_1, zipK.eq_2, sub1K.eq_1, sub1K.eq_2, sub2K.eq_1, sub2K.eq_2, appK.eq_1, appK.eq_2, extK.eq_1, extK.eq_2, pop2K.eq_1, pop2K.eq_2, popK.eq_1, popK.eq_2, lstFK.eq_1, lstFK.eq_2, lisFK.eq_1, lisFK.eq_2, lisF2K.eq_1, lisF2K.eq_2, accK.eq_1, accK.eq_2, dVal, revTK.eq_1, revTK.eq_2, callK.eq_1, callK.eq_2, eqK.eq_1, eqK.eq_2, catK.eq_1, catK.eq_2, cellL.eq_1, cellL.eq_2, cellL.eq_3, okDi, okDb, okDn, eqvi, eqvs, dLstF, dListF, dLc, dYes, wipeE.eq_1, wipeE.eq_2, dFor, fin, finD, wOk.eq_1, wOk.eq_2, cellOk.eq_1, cellOk.eq_2, E0D, dCallP, dCallW, putW, firstRef.eq_1, firstRef.eq_2, firstRef.eq_3, shW.eq_1, shW.eq_2, unW.eq_1, unW.eq_2, inW.eq_1, inW.eq_2, shC.eq_1, shC.eq_2, unC.eq_1, unC.eq_2, inC.eq_1, inC.eq_2, dBreak, at0, at1, at2, at3, atI_last, List.getElem?_cons_zero, List.getElem?_cons_succ, List.getElem?_nil, List.set_cons_zero, List.set_cons_succ, List.map_cons, List.map_nil, List.length_cons, List.length_nil, List.replicate_succ, List.replicate_zero, List.cons_append, List.nil_append, List.append_nil, Option.map_some, Option.map_none, Option.isSome_some, if_true, if_false, ite_true, ite_false, Bool.and_true, Bool.true_and, Bool.and_false, Bool.false_and, Bool.or_true, Bool.or_false, Bool.true_or, Bool.false_or, Bool.not_true, Bool.not_false, true_and, and_true, List.take_succ_cons, List.take_zero, List.take_nil, List.drop_zero, List.drop_succ_cons, List.drop_nil, List.all_cons, List.all_nil, List.any_cons, List.any_nil, List.contains_cons, List.elem_nil, Nat.zero_add, Nat.add_zero, Nat.le_refl, Nat.reduceAdd, Nat.reduceSub, Nat.reduceLT, Nat.reduceLeDiff, Nat.sub_self, Nat.sub_zero, Nat.zero_le, decide_true, decide_false, beq_self_eq_true, Bool.false_eq_true, reduceCtorEq, List.isEmpty_cons, List.isEmpty_nil, List.dropLast_concat, dUn, unK.eq_1, unK.eq_2, dFld, fldK.eq_1, fldK.eq_2, fldK.eq_3, fldC.eq_1, fldC.eq_2, fldW.eq_1, fldW.eq_2, dMake, makK.eq_1, makK.eq_2, fld00, fld01, fld02, lenF0, lenF1, lenF2, get_end, set_end, dMethP, dMethW, isOb.eq_1, isOb.eq_2, isOb.eq_3, isObC.eq_1, isObC.eq_2, dSetF, sfK.eq_1, sfK.eq_2, sfC.eq_1, sfC.eq_2, dFz, fzK.eq_1, fzK.eq_2, fzK.eq_3, fzC.eq_1, fzC.eq_2, fzC.eq_3, dMakeRec, recK.eq_1, recK.eq_2, fld10, fld11, dMatch, dMCase.eq_1, dMCase.eq_2, dMNil, fillE.eq_1, fillE.eq_2, dAug, aug0.eq_1, aug0.eq_2, augK.eq_1, augK.eq_2, fIsiO.eq_1, fIsiO.eq_2, dCallPX, dMethWX, dRaise, raiK.eq_1, raiK.eq_2, dPar, parK.eq_1, parK.eq_2, dPar3, parK3.eq_1, parK3.eq_2, shW0, unW0, unC0, shC0, kbl1, kbl2, kbl3, kbl4, kbl5, kbl6, fInS.eq_1, fInS.eq_2, dAugF, afK.eq_1, afK.eq_2, afC.eq_1, afC.eq_2, afW.eq_1, afW.eq_2, dTry, dAct, dMakeRd, rdrK.eq_1, rdrK.eq_2, dLam4, outK, fld20, fld21, fld22, catF.eq_1, catF.eq_2, dCatF, inK.eq_1, inK.eq_2, fInD, get_end1, set_end1, at4, at5, at6, at7, at8, id])
set_option hygiene false in
local macro_rules | `(tactic| walk_at "s") => `(tactic| simp -implicitDefEqProofs only [dNext, dDrop, dRet, dRetN, dIfS, dAsg, dAsgC, dgName, dgTup.eq_1, dgTup.eq_2, dgCons.eq_1, dgCons.eq_2, dgNil, dgSub, subK.eq_1, subK.eq_2, dVar, dVarF, dC, dOp, fII.eq_1, fII.eq_2, fIIc.eq_1, fIIc.eq_2, fAdd.eq_1, fAdd.eq_2, fAdd.eq_3, fAdd.eq_4, fAdd.eq_5, fAdd.eq_6, fCmp.eq_1, fCmp.eq_2, fCmp.eq_3, fEqD, fIsN.eq_1, fIsN.eq_2, isNon.eq_1, isNon.eq_2, rdV.eq_1, rdV.eq_2, rdV.eq_3, rdL.eq_1, rdL.eq_2, rdL.eq_3, dB, dAnd, dOr, dNot, dTru, dIf, dAndV, dOrV, dNotV, dChain, dNil, dCons, vals.eq_1, vals.eq_2, vals.eq_3, dTup, dLst, fIx.eq_1, fIx.eq_2, fIx.eq_3, fIx.eq_4, fIx.eq_5, dSl, dPart, dNoPart, dCB, fLen.eq_1, fLen.eq_2, fLen.eq_3, fLen.eq_4, fLen.eq_5, fInt.eq_1, fInt.eq_2, fInt.eq_3, fList.eq_1, fList.eq_2, rdS.eq_1, rdS.eq_2, rdS.eq_3, rdS.eq_4, fTup.eq_1, fTup.eq_2, fOrd.eq_1, fOrd.eq_2, fIsi.eq_1, fIsi.eq_2, tyD.eq_1, tyD.eq_2, tyD.eq_3, tyD.eq_4, tyD.eq_5, tyD.eq_6, tyD.eq_7, kb1, kb2, kb3, kb4, kb5, kb6, kb7, kb8, kb9, kb10, kb11, kb12, kb13, kb14, kb15, kb16, kb17, kb18, kb19, kb20, kb21, kb22, kb23, kb24, dSeq, seqK.eq_1, seqK.eq_2, seqK.eq_3, seqK.eq_4, seqK.eq_5, dRng1, dRng2, dRev, lstK.eq_1, lstK.eq_2, lstK.eq_3, dEnum, dZip, dBM, dBM0, fAppend.eq_1, fAppend.eq_2, fExtend.eq_1, fExtend.eq_2, fExtA.eq_1, fExtA.eq_2, fPop.eq_1, fPop.eq_2, dRevT, dRevL, f2I.eq_1, f2I.eq_2, bK.eq_1, bK.eq_2, truK.eq_1, truK.eq_2, truK.eq_3, truK.eq_4, truK.eq_5, truK.eq_6, truK.eq_7, truL.eq_1, truL.eq_2, dispK.eq_1, dispK.eq_2, ixK.eq_1, ixK.eq_2, ixS.eq_1, ixS.eq_2, ixL.eq_1, ixL.eq_2, partK.eq_1, partK.eq_2, slK.eq_1, slK.eq_2, slK.eq_3, slK.eq_4, slK.eq_5, slL.eq_1, slL.eq_2, lenLK.eq_1, lenLK.eq_2, mkL.eq_1, mkL.eq_2, isiB.eq_1, isiB.eq_2, isiK.eq_1, isiK.eq_2, frzK.eq_1, frzK.eq_2, frzK.eq_3, rng1K.eq_1, rng1K.eq_2, rng2K.eq_1, rng2K.eq_2, lst1K.eq_1, lst1K.eq_2, zipK.eq_1, zipK.eq_2, sub1K.eq_1, sub1K.eq_2, sub2K.eq_1, sub2K.eq_2, appK.eq_1, appK.eq_2, extK.eq_1, extK.eq_2, pop2K.eq_1, pop2K.eq_2, popK.eq_1, popK.eq_2, lstFK.eq_1, lstFK.eq_2, lisFK.eq_1, lisFK.eq_2, lisF2K.eq_1, lisF2K.eq_2, accK.eq_1, accK.eq_2, dVal, revTK.eq_1, revTK.eq_2, callK.eq_1, callK.eq_2, eqK.eq_1, eqK.eq_2, catK.eq_1, catK.eq_2, cellL.eq_1, cellL.eq_2, cellL.eq_3, okDi, okDb, okDn, eqvi, eqvs, dLstF, dListF, dLc, dYes, wipeE.eq_1, wipeE.eq_2, dFor, fin, finD, wOk.eq_1, wOk.eq_2, cellOk.eq_1, cellOk.eq_2, E0D, dCallP, dCallW, putW, firstRef.eq_1, firstRef.eq_2, firstRef.eq_3, shW.eq_1, shW.eq_2, unW.eq_1, unW.eq_2, inW.eq_1, inW.eq_2, shC.eq_1, shC.eq_2, unC.eq_1, unC.eq_2, inC.eq_1, inC.eq_2, dBreak, at0, at1, at2, at3, atI_last, List.getElem?_cons_zero, List.getElem?_cons_succ, List.getElem?_nil, List.set_cons_zero, List.set_cons_succ, List.map_cons, List.map_nil, List.length_cons, List.length_nil, List.replicate_succ, List.replicate_zero, List.cons_append, List.nil_append, List.append_nil, Option.map_some, Option.map_none, Option.isSome_some, if_true, if_false, ite_true, ite_false, Bool.and_true, Bool.true_and, Bool.and_false, Bool.false_and, Bool.or_true, Bool.or_false, Bool.true_or, Bool.false_or, Bool.not_true, Bool.not_false, true_and, and_true, List.take_succ_cons, List.take_zero, List.take_nil, List.drop_zero, List.drop_succ_cons, List.drop_nil, List.all_cons, List.all_nil, List.any_cons, List.any_nil, List.contains_cons, List.elem_nil, Nat.zero_add, Nat.add_zero, Nat.le_refl, Nat.reduceAdd, Nat.reduceSub, Nat.reduceLT, Nat.reduceLeDiff, Nat.sub_self, Nat.sub_zero, Nat.zero_le, decide_true, decide_false, beq_self_eq_true, Bool.false_eq_true, reduceCtorEq, List.isEmpty_cons, List.isEmpty_nil, List.dropLast_concat, dUn, unK.eq_1, unK.eq_2, dFld, fldK.eq_1, fldK.eq_2, fldK.eq_3, fldC.eq_1, fldC.eq_2, fldW.eq_1, fldW.eq_2, dMake, makK.eq_1, makK.eq_2, fld00, fld01, fld02, lenF0, lenF1, lenF2, get_end, set_end, dMethP, dMethW, isOb.eq_1, isOb.eq_2, isOb.eq_3, isObC.eq_1, isObC.eq_2, dSetF, sfK.eq_1, sfK.eq_2, sfC.eq_1, sfC.eq_2, dFz, fzK.eq_1, fzK.eq_2, fzK.eq_3, fzC.eq_1, fzC.eq_2, fzC.eq_3, dMakeRec, recK.eq_1, recK.eq_2, fld10, fld11, dMatch, dMCase.eq_1, dMCase.eq_2, dMNil, fillE.eq_1, fillE.eq_2, dAug, aug0.eq_1, aug0.eq_2, augK.eq_1, augK.eq_2, fIsiO.eq_1, fIsiO.eq_2, dCallPX, dMethWX, dRaise, raiK.eq_1, raiK.eq_2, dPar, parK.eq_1, parK.eq_2, dPar3, parK3.eq_1, parK3.eq_2, shW0, unW0, unC0, shC0, kbl1, kbl2, kbl3, kbl4, kbl5, kbl6, fInS.eq_1, fInS.eq_2, dAugF, afK.eq_1, afK.eq_2, afC.eq_1, afC.eq_2, afW.eq_1, afW.eq_2, dTry, dAct, dMakeRd, rdrK.eq_1, rdrK.eq_2, dLam4, outK, fld20, fld21, fld22, catF.eq_1, catF.eq_2, dCatF, inK.eq_1, inK.eq_2, fInD, get_end1, set_end1, at4, at5, at6, at7, at8, id])
set_option hygiene false in
local macro_rules | `(tactic| walk_at "o") => `(tactic| simp -implicitDefEqProofs only [dSeqS, dNext, dDrop, dRet, dRetN, dIfS, dAsg, dAsgC, dgName, dgTup.eq_1, dgTup.eq_2, dgCons.eq_1, dgCons.eq_2, dgNil, dgSub, subK.eq_1, subK.eq_2, dVar, dVarF, dC, dOp, fII.eq_1, fII.eq_2, fIIc.eq_1, fIIc.eq_2, fAdd.eq_1, fAdd.eq_2, fAdd.eq_3, fAdd.eq_4, fAdd.eq_5, fAdd.eq_6, fCmp.eq_1, fCmp.eq_2, fCmp.eq_3, fEqD, fIsN.eq_1, fIsN.eq_2, isNon.eq_1, isNon.eq_2, rdV.eq_1, rdV.eq_2, rdV.eq_3, rdL.eq_1, rdL.eq_2, rdL.eq_3, dB, dAnd, dOr, dNot, dTru, dIf, dAndV, dOrV, dNotV, dChain, dNil, dCons, vals.eq_1, vals.eq_2, vals.eq_3, dTup, dLst, fIx.eq_1, fIx.eq_2, fIx.eq_3, fIx.eq_4, fIx.eq_5, dSl, dPart, dNoPart, dCB, fLen.eq_1, fLen.eq_2, fLen.eq_3, fLen.eq_4, fLen.eq_5, fInt.eq_1, fInt.eq_2, fInt.eq_3, fList.eq_1, fList.eq_2, rdS.eq_1, rdS.eq_2, rdS.eq_3, rdS.eq_4, fTup.eq_1, fTup.eq_2, fOrd.eq_1, fOrd.eq_2, fIsi.eq_1, fIsi.eq_2, tyD.eq_1, tyD.eq_2, tyD.eq_3, tyD.eq_4, tyD.eq_5, tyD.eq_6, tyD.eq_7, kb1, kb2, kb3, kb4, kb5, kb6, kb7, kb8, kb9, kb10, kb11, kb12, kb13, kb14, kb15, kb16, kb17, kb18, kb19, kb20, kb21, kb22, kb23, kb24, dSeq, seqK.eq_1, seqK.eq_2, seqK.eq_3, seqK.eq_4, seqK.eq_5, dRng1, dRng2, dRev, lstK.eq_1, lstK.eq_2, lstK.eq_3, dEnum, dZip, dBM, dBM0, fAppend.eq_1, fAppend.eq_2, fExtend.eq_1, fExtend.eq_2, fExtA.eq_1, fExtA.eq_2, fPop.eq_1, fPop.eq_2, dRevT, dRevL, f2I.eq_1, f2I.eq_2, bK.eq_1, bK.eq_2, truK.eq_1, truK.eq_2, truK.eq_3, truK.eq_4, truK.eq_5, truK.eq_6, truK.eq_7, truL.eq_1, truL.eq_2, dispK.eq_1, dispK.eq_2, ixK.eq_1, ixK.eq_2, ixS.eq_1, ixS.eq_2, ixL.eq_1, ixL.eq_2, partK.eq_1, partK.eq_2, slK.eq_1, slK.eq_2, slK.eq_3, slK.eq_4, slK.eq_5, slL.eq_1, slL.eq_2, lenLK.eq_1, lenLK.eq_2, mkL.eq_1, mkL.eq_2, isiB.eq_1, isiB.eq_2, isiK.eq_1, isiK.eq_2, frzK.eq_1, frzK.eq_2, frzK.eq_3, rng1K.eq_1, rng1K.eq_2, rng2K.eq_1, rng2K.eq_2, lst1K.eq_1, lst1K.eq_2, zipK.eq_1, zipK.eq_2, sub1K.eq_1, sub1K.eq_2, sub2K.eq_1, sub2K.eq_2, appK.eq_1, appK.eq_2, extK.eq_1, extK.eq_2, pop2K.eq_1, pop2K.eq_2, popK.eq_1, popK.eq_2, lstFK.eq_1, lstFK.eq_2, lisFK.eq_1, lisFK.eq_2, lisF2K.eq_1, lisF2K.eq_2, accK.eq_1, accK.eq_2, dVal, revTK.eq_1, revTK.eq_2, callK.eq_1, callK.eq_2, eqK.eq_1, eqK.eq_2, catK.eq_1, catK.eq_2, cellL.eq_1, cellL.eq_2, cellL.eq_3, okDi, okDb, okDn, eqvi, eqvs, dLstF, dListF, dLc, dYes, wipeE.eq_1, wipeE.eq_2, dFor, fin, finD, wOk.eq_1, wOk.eq_2, cellOk.eq_1, cellOk.eq_2, E0D, dCallP, dCallW, putW, firstRef.eq_1, firstRef.eq_2, firstRef.eq_3, shW.eq_1, shW.eq_2, unW.eq_1, unW.eq_2, inW.eq_1, inW.eq_2, shC.eq_1, shC.eq_2, unC.eq_1, unC.eq_2, inC.eq_1, inC.eq_2, dBreak, at0, at1, at2, at3, atI_last, List.getElem?_cons_zero, List.getElem?_cons_succ, List.getElem?_nil, List.set_cons_zero, List.set_cons_succ, List.map_cons, List.map_nil, List.length_cons, List.length_nil, List.replicate_succ, List.replicate_zero, List.cons_append, List.nil_append, List.append_nil, Option.map_some, Option.map_none, Option.isSome_some, if_true, if_false, ite_true, ite_false, Bool.and_true, Bool.true_and, Bool.and_false, Bool.false_and, Bool.or_true, Bool.or_false, Bool.true_or, Bool.false_or, Bool.not_true, Bool.not_false, true_and, and_true, List.take_succ_cons, List.take_zero, List.take_nil, List.drop_zero, List.drop_succ_cons, List.drop_nil, List.all_cons, List.all_nil, List.any_cons, List.any_nil, List.contains_cons, List.elem_nil, Nat.zero_add, Nat.add_zero, Nat.le_refl, Nat.reduceAdd, Nat.reduceSub, Nat.reduceLT, Nat.reduceLeDiff, Nat.sub_self, Nat.sub_zero, Nat.zero_le, decide_true, decide_false, beq_self_eq_true, Bool.false_eq_true, reduceCtorEq, List.isEmpty_cons, List.isEmpty_nil, List.dropLast_concat, dUn, unK.eq_1, unK.eq_2, dFld, fldK.eq_1, fldK.eq_2, fldK.eq_3, fldC.eq_1, fldC.eq_2, fldW.eq_1, fldW.eq_2, dMake, makK.eq_1, makK.eq_2, fld00, fld01, fld02, lenF0, lenF1, lenF2, get_end, set_end, dMethP, dMethW, isOb.eq_1, isOb.eq_2, isOb.eq_3, isObC.eq_1, isObC.eq_2, dSetF, sfK.eq_1, sfK.eq_2, sfC.eq_1, sfC.eq_2, dFz, fzK.eq_1, fzK.eq_2, fzK.eq_3, fzC.eq_1, fzC.eq_2, fzC.eq_3, dMakeRec, recK.eq_1, recK.eq_2, fld10, fld11, dMatch, dMCase.eq_1, dMCase.eq_2, dMNil, fillE.eq_1, fillE.eq_2, dAug, aug0.eq_1, aug0.eq_2, augK.eq_1, augK.eq_2, fIsiO.eq_1, fIsiO.eq_2, dCallPX, dMethWX, dRaise, raiK.eq_1, raiK.eq_2, dPar, parK.eq_1, parK.eq_2, dPar3, parK3.eq_1, parK3.eq_2, shW0, unW0, unC0, shC0, kbl1, kbl2, kbl3, kbl4, kbl5, kbl6, fInS.eq_1, fInS.eq_2, dAugF, afK.eq_1, afK.eq_2, afC.eq_1, afC.eq_2, afW.eq_1, afW.eq_2, dTry, dAct, dMakeRd, rdrK.eq_1, rdrK.eq_2, dLam4, outK, fld20, fld21, fld22, catF.eq_1, catF.eq_2, dCatF, inK.eq_1, inK.eq_2, fInD, get_end1, set_end1, at4, at5, at6, at7, at8, finX, opC, rfD_eq, Opn.win, Opn.ain, Opn.wok, Opn.aok, Opn.rule, isOb_part, no_isE, no_ent, Opn.noO, fld_link, fld_root, fld_open, ix_link0, ix_link1, ix_link2, isi_part, rootD, PT.op, not_false_eq_true, nonE_concat, last_get, dl_concat, shC0', unW0', unC0', id])
set_option hygiene false in
local macro_rules | `(tactic| walk_at "t") => `(tactic| simp -implicitDefEqProofs only [dNext, dDrop, dRet, dRetN, dIfS, dAsg, dAsgC, dgName, dgTup.eq_1, dgTup.eq_2, dgCons.eq_1, dgCons.eq_2, dgNil, dgSub, subK.eq_1, subK.eq_2, dVar, dVarF, dC, dOp, fII.eq_1, fII.eq_2, fIIc.eq_1, fIIc.eq_2, fAdd.eq_1, fAdd.eq_2, fAdd.eq_3, fAdd.eq_4, fAdd.eq_5, fAdd.eq_6, fCmp.eq_1, fCmp.eq_2, fCmp.eq_3, fEqD, fIsN.eq_1, fIsN.eq_2, isNon.eq_1, isNon.eq_2, rdV.eq_1, rdV.eq_2, rdV.eq_3, rdL.eq_1, rdL.eq_2, rdL.eq_3, dB, dAnd, dOr, dNot, dTru, dIf, dAndV, dOrV, dNotV, dChain, dNil, dCons, vals.eq_1, vals.eq_2, vals.eq_3, dTup, dLst, fIx.eq_1, fIx.eq_2, fIx.eq_3, fIx.eq_4, fIx.eq_5, dSl, dPart, dNoPart, dCB, fLen.eq_1, fLen.eq_2, fLen.eq_3, fLen.eq_4, fLen.eq_5, fInt.eq_1, fInt.eq_2, fInt.eq_3, fList.eq_1, fList.eq_2, rdS.eq_1, rdS.eq_2, rdS.eq_3, rdS.eq_4, fTup.eq_1, fTup.eq_2, fOrd.eq_1, fOrd.eq_2, fIsi.eq_1, fIsi.eq_2, tyD.eq_1, tyD.eq_2, tyD.eq_3, tyD.eq_4, tyD.eq_5, tyD.eq_6, tyD.eq_7, kb1, kb2, kb3, kb4, kb5, kb6, kb7, kb8, kb9, kb10, kb11, kb12, kb13, kb14, kb15, kb16, kb17, kb18, kb19, kb20, kb21, kb22, kb23, kb24, dSeq, seqK.eq_1, seqK.eq_2, seqK.eq_3, seqK.eq_4, seqK.eq_5, dRng1, dRng2, dRev, lstK.eq_1, lstK.eq_2, lstK.eq_3, dEnum, dZip, dBM, dBM0, fAppend.eq_1, fAppend.eq_2, fExtend.eq_1, fExtend.eq_2, fExtA.eq_1, fExtA.eq_2, fPop.eq_1, fPop.eq_2, dRevT, dRevL, f2I.eq_1, f2I.eq_2, bK.eq_1, bK.eq_2, truK.eq_1, truK.eq_2, truK.eq_3, truK.eq_4, truK.eq_5, truK.eq_6, truK.eq_7, truL.eq_1, truL.eq_2, dispK.eq_1, dispK.eq_2, ixK.eq_1, ixK.eq_2, ixS.eq_1, ixS.eq_2, ixL.eq_1, ixL.eq_2, partK.eq_1, partK.eq_2, slK.eq_1, slK.eq_2, slK.eq_3, slK.eq_4, slK.eq_5, slL.eq_1, slL.eq_2, lenLK.eq_1, lenLK.eq_2, mkL.eq_1, mkL.eq_2, isiB.eq_1, isiB.eq_2, isiK.eq_1, isiK.eq_2, frzK.eq_1, frzK.eq_2, frzK.eq_3, rng1K.eq_1, rng1K.eq_2, rng2K.eq_1, rng2K.eq_2, lst1K.eq_1, lst1K.eq_2, zipK.eq_1, zipK.eq_2, sub1K.eq_1, sub1K.eq_2, sub2K.eq_1, sub2K.eq_2, appK.eq_1, appK.eq_2, extK.eq_1, extK.eq_2, pop2K.eq_1, pop2K.eq_2, popK.eq_1, popK.eq_2, lstFK.eq_1, lstFK.eq_2, lisFK.eq_1, lisFK.eq_2, lisF2K.eq_1, lisF2K.eq_2, accK.eq_1, accK.eq_2, dVal, revTK.eq_1, revTK.eq_2, callK.eq_1, callK.eq_2, eqK.eq_1, eqK.eq_2, catK.eq_1, catK.eq_2, cellL.eq_1, cellL.eq_2, cellL.eq_3, okDi, okDb, okDn, eqvi, eqvs, dLstF, dListF, dLc, dYes, wipeE.eq_1, wipeE.eq_2, dFor, fin, finD, wOk.eq_1, wOk.eq_2, cellOk.eq_1, cellOk.eq_2, E0D, dCallP, dCallW, putW, firstRef.eq_1, firstRef.eq_2, firstRef.eq_3, shW.eq_1, shW.eq_2, unW.eq_1, unW.eq_2, inW.eq_1, inW.eq_2, shC.eq_1, shC.eq_2, unC.eq_1, unC.eq_2, inC.eq_1, inC.eq_2, dBreak, at0, at1, at2, at3, atI_last, List.getElem?_cons_zero, List.getElem?_cons_succ, List.getElem?_nil, List.set_cons_zero, List.set_cons_succ, List.map_cons, List.map_nil, List.length_cons, List.length_nil, List.replicate_succ, List.replicate_zero, List.cons_append, List.nil_append, List.append_nil, Option.map_some, Option.map_none, Option.isSome_some, if_true, if_false, ite_true, ite_false, Bool.and_true, Bool.true_and, Bool.and_false, Bool.false_and, Bool.or_true, Bool.or_false, Bool.true_or, Bool.false_or, Bool.not_true, Bool.not_false, true_and, and_true, List.take_succ_cons, List.take_zero, List.take_nil, List.drop_zero, List.drop_succ_cons, List.drop_nil, List.all_cons, List.all_nil, List.any_cons, List.any_nil, List.contains_cons, List.elem_nil, Nat.zero_add, Nat.add_zero, Nat.le_refl, Nat.reduceAdd, Nat.reduceSub, Nat.reduceLT, Nat.reduceLeDiff, Nat.sub_self, Nat.sub_zero, Nat.zero_le, decide_true, decide_false, beq_self_eq_true, Bool.false_eq_true, reduceCtorEq, List.isEmpty_cons, List.isEmpty_nil, List.dropLast_concat, dUn, unK.eq_1, unK.eq_2, dFld, fldK.eq_1, fldK.eq_2, fldK.eq_3, fldC.eq_1, fldC.eq_2, fldW.eq_1, fldW.eq_2, dMake, makK.eq_1, makK.eq_2, fld00, fld01, fld02, lenF0, lenF1, lenF2, get_end, set_end, dMethP, dMethW, isOb.eq_1, isOb.eq_2, isOb.eq_3, isObC.eq_1, isObC.eq_2, dSetF, sfK.eq_1, sfK.eq_2, sfC.eq_1, sfC.eq_2, dFz, fzK.eq_1, fzK.eq_2, fzK.eq_3, fzC.eq_1, fzC.eq_2, fzC.eq_3, dMakeRec, recK.eq_1, recK.eq_2, fld10, fld11, dMatch, dMCase.eq_1, dMCase.eq_2, dMNil, fillE.eq_1, fillE.eq_2, dAug, aug0.eq_1, aug0.eq_2, augK.eq_1, augK.eq_2, fIsiO.eq_1, fIsiO.eq_2, dCallPX, dMethWX, dRaise, raiK.eq_1, raiK.eq_2, dPar, parK.eq_1, parK.eq_2, dPar3, parK3.eq_1, parK3.eq_2, shW0, unW0, unC0, shC0, kbl1, kbl2, kbl3, kbl4, kbl5, kbl6, fInS.eq_1, fInS.eq_2, dAugF, afK.eq_1, afK.eq_2, afC.eq_1, afC.eq_2, afW.eq_1, afW.eq_2, dTry, dAct, dMakeRd, rdrK.eq_1, rdrK.eq_2, dLam4, outK, fld20, fld21, fld22, catF.eq_1, catF.eq_2, dCatF, inK.eq_1, inK.eq_2, fInD, get_end1, set_end1, at4, at5, at6, at7, at8, finX, opC, rfD_eq, Opn.win, Opn.ain, Opn.wok, Opn.aok, Opn.rule, isOb_part, no_isE, no_ent, Opn.noO, fld_link, fld_root, fld_open, ix_link0, ix_link1, ix_link2, isi_part, rootD, PT.op, not_false_eq_true, nonE_concat, last_get, dl_concat, shC0', unW0', unC0', id])
abbrev sPCertifiedChange : Stmt := topS 46
theorem scPCertifiedChange : FnScope ["rule", "table", "change", "recorder", "head"] ["rule", "table", "change"] (defScope sPCertifiedChange) := ⟨rfl, rfl, rfl, by decide +kernel, rfl, by decide +kernel, by decide +kernel⟩
def pPCertifiedChange : DSp := fun ws C Q _ => ∃ (b m : Int) (tb : Tab) (ch : Chg), ws = [.val (ruleD b m), .val (tabD tb), .val (chgD ch)] ∧ RuleOk b m ∧ TabOk tb ∧ tb.length ≤ 1000 ∧ ch.Ok ∧
  ∀ es : List Ent, ChgCert b m tb ch 20000 es → es.length ≤ tb.length → Q (.val (.tuple [linkD (headL b m (changed tb ch)), .list (es.map entD)])) C
section
variable {P : Program} {w : World} {K : PySem.W.Frag} {mg : Str → Option Value} {base : Heap} {ct : Ct}
theorem ok_PCertifiedChange  [CtOk K ct] {C_Recorder : Addr} [ClA ct C_Recorder 1] (D : Def K mg "certified_change" sPCertifiedChange ["rule", "table", "change"]) (D_PSpliced : Def K mg "spliced" sPSpliced ["opener", "tree", "change"]) (D_PTreeOf : Def K mg "tree_of" sPTreeOf ["rule", "table"]) (I_Recorder : Ini K mg "Recorder" C_Recorder "Recorder.__init__" sPRecorderInit ["self", "rule"])
    (G_PSpliced : FnOk P w K mg base (L2.CX P w) 14 D_PSpliced.f D_PSpliced.fd ["opener", "tree", "change"] (spD ct 2 3 (pPSpliced MRec))) (G_PTreeOf : FnOk P w K mg base CX0 7 D_PTreeOf.f D_PTreeOf.fd ["rule", "table"] (spD ct 0 2 pPTreeOf)) (G_RecorderI : FnOk P w K mg base CX0 1 I_Recorder.f I_Recorder.fd ["self", "rule"] (spRecI K)) : FnOk P w K mg base CX0 16 D.f D.fd ["rule", "table", "change"] (spD ct 0 3 pPCertifiedChange) := by
  refine D.F.ok scPCertifiedChange (fun vs H Q E h => spD_len h) (fun cdv A outer s H vs Q E hr h => ⟨_, (pss_cons (ps_set (i := 3) scPCertifiedChange.nd rfl (.inl rfl) (pe_make I_Recorder.M G_RecorderI (hr.mono (by omega)) (by rfl) I_Recorder.g I_Recorder.b .nil pass0 (pa_cons (pv 0) pa_nil))) <|
    pss_cons (ps_set (i := 4) scPCertifiedChange.nd rfl (.inl rfl) (pe_fldC (K := K) rfl (pe_call G_PSpliced (hr.mono (by omega)) (by rfl) D_PSpliced.m D_PSpliced.F.kp D_PSpliced.b .nil passL (pa_cons (pv 3) (pa_cons (pe_call G_PTreeOf (hr.mono (by omega)) (by rfl) D_PTreeOf.m D_PTreeOf.F.kp D_PTreeOf.b .nil pass0 (pa_cons (pv 0) (pa_cons (pv 1) pa_nil))) (pa_cons (pv 2) pa_nil)))) rfl)) <|
    pss_one (ps_ret (pe_tup (pa_cons (pv 4) (pa_cons (pe_fz (pe_fldC (K := K) rfl (pv 3) rfl)) pa_nil))))), body_ok _ (fun R => inferInstance) (by decide) (fun ws C Q R hw hC hP => ?_) h⟩)
  obtain rfl := List.eq_nil_of_length_eq_zero hC
  obtain ⟨b, m, tb, ch, rfl, hr, ht, hl, hc, h⟩ := hP
  obtain ⟨es, u, g1, g2, g3, g4⟩ := run_head hr ht hc (show tb.length < 20000 by omega)
  walk_at "t"
  refine dSeq_go ?_
  walk_at "t"
  refine dSeq_go ?_
  walk_at "t"
  refine ⟨b, m, tb, rfl, hr, ht.1, ht.fit, hl, ?_⟩
  walk_at "t"
  refine ⟨b, m, ([] : List Ent), toPT b m (treeOf tb), ch, 20000, rfl, rfl, hr, hc, by omega, g1.wp (s := []) (by show 0 + _ ≤ _; omega) ?_⟩
  rw [List.nil_append]
  show _
  simp only [opC, MRec]
  walk_at "t"
  rw [g4]
  exact ⟨by decide, h es g2 g3⟩
end

set_option hygiene false in
local macro_rules | `(tactic| walk_at "d") => `(tactic| simp -implicitDefEqProofs only [dSeqS, dNext, dDrop, dRet, dRetN, dIfS, dAsg, dAsgC, dgName, dgTup.eq_1, dgTup.eq_2, dgCons.eq_1, dgCons.eq_2, dgNil, dgSub, subK.eq_1, subK.eq_2, dVar, dVarF, dC, dOp, fII.eq_1, fII.eq_2, fIIc.eq_1, fIIc.eq_2, fAdd.eq_1, fAdd.eq_2, fAdd.eq_3, fAdd.eq_4, fAdd.eq_5, fAdd.eq_6, fCmp.eq_1, fCmp.eq_2, fCmp.eq_3, fEqD, fIsN.eq_1, fIsN.eq_2, isNon.eq_1, isNon.eq_2, rdV.eq_1, rdV.eq_2, rdV.eq_3, rdL.eq_1, rdL.eq_2, rdL.eq_3, dB, dAnd, dOr, dNot, dTru, dIf, dAndV, dOrV, dNotV, dChain, dNil, dCons, vals.eq_1, vals.eq_2, vals.eq_3, dTup, dLst, fIx.eq_1, fIx.eq_2, fIx.eq_3, fIx.eq_4, fIx.eq_5, dSl, dPart, dNoPart, dCB, fLen.eq_1, fLen.eq_2, fLen.eq_3, fLen.eq_4, fLen.eq_5, fInt.eq_1, fInt.eq_2, fInt.eq_3, fList.eq_1, fList.eq_2, rdS.eq_1, rdS.eq_2, rdS.eq_3, rdS.eq_4, fTup.eq_1, fTup.eq_2, fOrd.eq_1, fOrd.eq_2, fIsi.eq_1, fIsi.eq_2, tyD.eq_1, tyD.eq_2, tyD.eq_3, tyD.eq_4, tyD.eq_5, tyD.eq_6, tyD.eq_7, kb1, kb2, kb3, kb4, kb5, kb6, kb7, kb8, kb9, kb10, kb11, kb12, kb13, kb14, kb15, kb16, kb17, kb18, kb19, kb20, kb21, kb22, kb23, kb24, dSeq, seqK.eq_1, seqK.eq_2, seqK.eq_3, seqK.eq_4, seqK.eq_5, dRng1, dRng2, dRev, lstK.eq_1, lstK.eq_2, lstK.eq_3, dEnum, dZip, dBM, dBM0, fAppend.eq_1, fAppend.eq_2, fExtend.eq_1, fExtend.eq_2, fExtA.eq_1, fExtA.eq_2, fPop.eq_1, fPop.eq_2, dRevT, dRevL, f2I.eq_1, f2I.eq_2, bK.eq_1, bK.eq_2, truK.eq_1, truK.eq_2, truK.eq_3, truK.eq_4, truK.eq_5, truK.eq_6, truK.eq_7, truL.eq_1, truL.eq_2, dispK.eq_1, dispK.eq_2, ixK.eq_1, ixK.eq_2, ixS.eq_1, ixS.eq_2, ixL.eq_1, ixL.eq_2, partK.eq_1, partK.eq_2, slK.eq_1, slK.eq_2, slK.eq_3, slK.eq_4, slK.eq_5, slL.eq_1, slL.eq_2, lenLK.eq_1, lenLK.eq_2, mkL.eq_1, mkL.eq_2, isiB.eq_1, isiB.eq_2, isiK.eq_1, isiK.eq_2, frzK.eq_1, frzK.eq_2, frzK.eq_3, rng1K.eq_1, rng1K.eq_2, rng2K.eq_1, rng2K.eq_2, lst1K.eq_1, lst1K.eq_2, zipK.eq_1, zipK.eq_2, sub1K.eq_1, sub1K.eq_2, sub2K.eq_1, sub2K.eq_2, appK.eq_1, appK.eq_2, extK.eq_1, extK.eq_2, pop2K.eq_1, pop2K.eq_2, popK.eq_1, popK.eq_2, lstFK.eq_1, lstFK.eq_2, lisFK.eq_1, lisFK.eq_2, lisF2K.eq_1, lisF2K.eq_2, accK.eq_1, accK.eq_2, dVal, revTK.eq_1, revTK.eq_2, callK.eq_1, callK.eq_2, eqK.eq_1, eqK.eq_2, catK.eq_1, catK.eq_2, cellL.eq_1, cellL.eq_2, cellL.eq_3, okDi, okDb, okDn, eqvi, eqvs, dLstF, dListF, dLc, dYes, wipeE.eq_1, wipeE.eq_2, dFor, fin, finD, wOk.eq_1, wOk.eq_2, cellOk.eq_1, cellOk.eq_2, E0D, dCallP, dCallW, putW, firstRef.eq_1, firstRef.eq_2, firstRef.eq_3, shW.eq_1, shW.eq_2, unW.eq_1, unW.eq_2, inW.eq_1, inW.eq_2, shC.eq_1, shC.eq_2, unC.eq_1, unC.eq_2, inC.eq_1, inC.eq_2, dBreak, at0, at1, at2, at3, atI_last, List.getElem?_cons_zero, List.getElem?_cons_succ, List.getElem?_nil, List.set_cons_zero, List.set_cons_succ, List.map_cons, List.map_nil, List.length_cons, List.length_nil, List.replicate_succ, List.replicate_zero, List.cons_append, List.nil_append, List.append_nil, Option.map_some, Option.map_none, Option.isSome_some, if_true, if_false, ite_true, ite_false, Bool.and_true, Bool.true_and, Bool.and_false, Bool.false_and, Bool.or_true, Bool.or_false, Bool.true_or, Bool.false_or, Bool.not_true, Bool.not_false, true_and, and_true, List.take_succ_cons, List.take_zero, List.take_nil, List.drop_zero, List.drop_succ_cons, List.drop_nil, List.all_cons, List.all_nil, List.any_cons, List.any_nil, List.contains_cons, List.elem_nil, Nat.zero_add, Nat.add_zero, Nat.le_refl, Nat.reduceAdd, Nat.reduceSub, Nat.reduceLT, Nat.reduceLeDiff, Nat.sub_self, Nat.sub_zero, Nat.zero_le, decide_true, decide_false, beq_self_eq_true, Bool.false_eq_true, reduceCtorEq, List.isEmpty_cons, List.isEmpty_nil, List.dropLast_concat, dUn, unK.eq_1, unK.eq_2, dFld, fldK.eq_1, fldK.eq_2, fldK.eq_3, fldC.eq_1, fldC.eq_2, fldW.eq_1, fldW.eq_2, dMake, makK.eq_1, makK.eq_2, fld00, fld01, fld02, lenF0, lenF1, lenF2, get_end, set_end, dMethP, dMethW, isOb.eq_1, isOb.eq_2, isOb.eq_3, isObC.eq_1, isObC.eq_2, dSetF, sfK.eq_1, sfK.eq_2, sfC.eq_1, sfC.eq_2, dFz, fzK.eq_1, fzK.eq_2, fzK.eq_3, fzC.eq_1, fzC.eq_2, fzC.eq_3, dMakeRec, recK.eq_1, recK.eq_2, fld10, fld11, dMatch, dMCase.eq_1, dMCase.eq_2, dMNil, fillE.eq_1, fillE.eq_2, dAug, aug0.eq_1, aug0.eq_2, augK.eq_1, augK.eq_2, fIsiO.eq_1, fIsiO.eq_2, dCallPX, dMethWX, dRaise, raiK.eq_1, raiK.eq_2, dPar, parK.eq_1, parK.eq_2, dPar3, parK3.eq_1, parK3.eq_2, shW0, unW0, unC0, shC0, kbl1, kbl2, kbl3, kbl4, kbl5, kbl6, fInS.eq_1, fInS.eq_2, dAugF, afK.eq_1, afK.eq_2, afC.eq_1, afC.eq_2, afW.eq_1, afW.eq_2, dTry, dAct, dMakeRd, rdrK.eq_1, rdrK.eq_2, dLam4, outK, fld20, fld21, fld22, catF.eq_1, catF.eq_2, dCatF, inK.eq_1, inK.eq_2, fInD, get_end1, set_end1, id])
set_option hygiene false in
local macro_rules | `(tactic| walk_at "s") => `(tactic| simp -implicitDefEqProofs only [dNext, dDrop, dRet, dRetN, dIfS, dAsg, dAsgC, dgName, dgTup.eq_1, dgTup.eq_2, dgCons.eq_1, dgCons.eq_2, dgNil, dgSub, subK.eq_1, subK.eq_2, dVar, dVarF, dC, dOp, fII.eq_1, fII.eq_2, fIIc.eq_1, fIIc.eq_2, fAdd.eq_1, fAdd.eq_2, fAdd.eq_3, fAdd.eq_4, fAdd.eq_5, fAdd.eq_6, fCmp.eq_1, fCmp.eq_2, fCmp.eq_3, fEqD, fIsN.eq_1, fIsN.eq_2, isNon.eq_1, isNon.eq_2, rdV.eq_1, rdV.eq_2, rdV.eq_3, rdL.eq_1, rdL.eq_2, rdL.eq_3, dB, dAnd, dOr, dNot, dTru, dIf, dAndV, dOrV, dNotV, dChain, dNil, dCons, vals.eq_1, vals.eq_2, vals.eq_3, dTup, dLst, fIx.eq_1, fIx.eq_2, fIx.eq_3, fIx.eq_4, fIx.eq_5, dSl, dPart, dNoPart, dCB, fLen.eq_1, fLen.eq_2, fLen.eq_3, fLen.eq_4, fLen.eq_5, fInt.eq_1, fInt.eq_2, fInt.eq_3, fList.eq_1, fList.eq_2, rdS.eq_1, rdS.eq_2, rdS.eq_3, rdS.eq_4, fTup.eq_1, fTup.eq_2, fOrd.eq_1, fOrd.eq_2, fIsi.eq_1, fIsi.eq_2, tyD.eq_1, tyD.eq_2, tyD.eq_3, tyD.eq_4, tyD.eq_5, tyD.eq_6, tyD.eq_7, kb1, kb2, kb3, kb4, kb5, kb6, kb7, kb8, kb9, kb10, kb11, kb12, kb13, kb14, kb15, kb16, kb17, kb18, kb19, kb20, kb21, kb22, kb23, kb24, dSeq, seqK.eq_1, seqK.eq_2, seqK.eq_3, seqK.eq_4, seqK.eq_5, dRng1, dRng2, dRev, lstK.eq_1, lstK.eq_2, lstK.eq_3, dEnum, dZip, dBM, dBM0, fAppend.eq_1, fAppend.eq_2, fExtend.eq_1, fExtend.eq_2, fExtA.eq_1, fExtA.eq_2, fPop.eq_1, fPop.eq_2, dRevT, dRevL, f2I.eq_1, f2I.eq_2, bK.eq_1, bK.eq_2, truK.eq_1, truK.eq_2, truK.eq_3, truK.eq_4, truK.eq_5, truK.eq_6, truK.eq_7, truL.eq_1, truL.eq_2, dispK.eq_1, dispK.eq_2, ixK.eq_1, ixK.eq_2, ixS.eq_1, ixS.eq_2, ixL.eq_1, ixL.eq_2, partK.eq_1, partK.eq_2, slK.eq_1, slK.eq_2, slK.eq_3, slK.eq_4, slK.eq_5, slL.eq_1, slL.eq_2, lenLK.eq_1, lenLK.eq_2, mkL.eq_1, mkL.eq_2, isiB.eq_1, isiB.eq_2, isiK.eq_1, isiK.eq_2, frzK.eq_1, frzK.eq_2, frzK.eq_3, rng1K.eq_1, rng1K.eq_2, rng2K.eq_1, rng2K.eq_2, lst1K.eq_1, lst1K.eq_2, zipK.eq_1, zipK.eq_2, sub1K.eq_1, sub1K.eq_2, sub2K.eq_1, sub2K.eq_2, appK.eq_1, appK.eq_2, extK.eq_1, extK.eq_2, pop2K.eq_1, pop2K.eq_2, popK.eq_1, popK.eq_2, lstFK.eq_1, lstFK.eq_2, lisFK.eq_1, lisFK.eq_2, lisF2K.eq_1, lisF2K.eq_2, accK.eq_1, accK.eq_2, dVal, revTK.eq_1, revTK.eq_2, callK.eq_1, callK.eq_2, eqK.eq_1, eqK.eq_2, catK.eq_1, catK.eq_2, cellL.eq_1, cellL.eq_2, cellL.eq_3, okDi, okDb, okDn, eqvi, eqvs, dLstF, dListF, dLc, dYes, wipeE.eq_1, wipeE.eq_2, dFor, fin, finD, wOk.eq_1, wOk.eq_2, cellOk.eq_1, cellOk.eq_2, E0D, dCallP, dCallW, putW, firstRef.eq_1, firstRef.eq_2, firstRef.eq_3, shW.eq_1, shW.eq_2, unW.eq_1, unW.eq_2, inW.eq_1, inW.eq_2, shC.eq_1, shC.eq_2, unC.eq_1, unC.eq_2, inC.eq_1, inC.eq_2, dBreak, at0, at1, at2, at3, atI_last, List.getElem?_cons_zero, List.getElem?_cons_succ, List.getElem?_nil, List.set_cons_zero, List.set_cons_succ, List.map_cons, List.map_nil, List.length_cons, List.length_nil, List.replicate_succ, List.replicate_zero, List.cons_append, List.nil_append, List.append_nil, Option.map_some, Option.map_none, Option.isSome_some, if_true, if_false, ite_true, ite_false, Bool.and_true, Bool.true_and, Bool.and_false, Bool.false_and, Bool.or_true, Bool.or_false, Bool.true_or, Bool.false_or, Bool.not_true, Bool.not_false, true_and, and_true, List.take_succ_cons, List.take_zero, List.take_nil, List.drop_zero, List.drop_succ_cons, List.drop_nil, List.all_cons, List.all_nil, List.any_cons, List.any_nil, List.contains_cons, List.elem_nil, Nat.zero_add, Nat.add_zero, Nat.le_refl, Nat.reduceAdd, Nat.reduceSub, Nat.reduceLT, Nat.reduceLeDiff, Nat.sub_self, Nat.sub_zero, Nat.zero_le, decide_true, decide_false, beq_self_eq_true, Bool.false_eq_true, reduceCtorEq, List.isEmpty_cons, List.isEmpty_nil, List.dropLast_concat, dUn, unK.eq_1, unK.eq_2, dFld, fldK.eq_1, fldK.eq_2, fldK.eq_3, fldC.eq_1, fldC.eq_2, fldW.eq_1, fldW.eq_2, dMake, makK.eq_1, makK.eq_2, fld00, fld01, fld02, lenF0, lenF1, lenF2, get_end, set_end, dMethP, dMethW, isOb.eq_1, isOb.eq_2, isOb.eq_3, isObC.eq_1, isObC.eq_2, dSetF, sfK.eq_1, sfK.eq_2, sfC.eq_1, sfC.eq_2, dFz, fzK.eq_1, fzK.eq_2, fzK.eq_3, fzC.eq_1, fzC.eq_2, fzC.eq_3, dMakeRec, recK.eq_1, recK.eq_2, fld10, fld11, dMatch, dMCase.eq_1, dMCase.eq_2, dMNil, fillE.eq_1, fillE.eq_2, dAug, aug0.eq_1, aug0.eq_2, augK.eq_1, augK.eq_2, fIsiO.eq_1, fIsiO.eq_2, dCallPX, dMethWX, dRaise, raiK.eq_1, raiK.eq_2, dPar, parK.eq_1, parK.eq_2, dPar3, parK3.eq_1, parK3.eq_2, shW0, unW0, unC0, shC0, kbl1, kbl2, kbl3, kbl4, kbl5, kbl6, fInS.eq_1, fInS.eq_2, dAugF, afK.eq_1, afK.eq_2, afC.eq_1, afC.eq_2, afW.eq_1, afW.eq_2, dTry, dAct, dMakeRd, rdrK.eq_1, rdrK.eq_2, dLam4, outK, fld20, fld21, fld22, catF.eq_1, catF.eq_2, dCatF, inK.eq_1, inK.eq_2, fInD, get_end1, set_end1, id])
set_option hygiene false in
local macro_rules | `(tactic| walk_at "o") => `(tactic| simp -implicitDefEqProofs only [dSeqS, dNext, dDrop, dRet, dRetN, dIfS, dAsg, dAsgC, dgName, dgTup.eq_1, dgTup.eq_2, dgCons.eq_1, dgCons.eq_2, dgNil, dgSub, subK.eq_1, subK.eq_2, dVar, dVarF, dC, dOp, fII.eq_1, fII.eq_2, fIIc.eq_1, fIIc.eq_2, fAdd.eq_1, fAdd.eq_2, fAdd.eq_3, fAdd.eq_4, fAdd.eq_5, fAdd.eq_6, fCmp.eq_1, fCmp.eq_2, fCmp.eq_3, fEqD, fIsN.eq_1, fIsN.eq_2, isNon.eq_1, isNon.eq_2, rdV.eq_1, rdV.eq_2, rdV.eq_3, rdL.eq_1, rdL.eq_2, rdL.eq_3, dB, dAnd, dOr, dNot, dTru, dIf, dAndV, dOrV, dNotV, dChain, dNil, dCons, vals.eq_1, vals.eq_2, vals.eq_3, dTup, dLst, fIx.eq_1, fIx.eq_2, fIx.eq_3, fIx.eq_4, fIx.eq_5, dSl, dPart, dNoPart, dCB, fLen.eq_1, fLen.eq_2, fLen.eq_3, fLen.eq_4, fLen.eq_5, fInt.eq_1, fInt.eq_2, fInt.eq_3, fList.eq_1, fList.eq_2, rdS.eq_1, rdS.eq_2, rdS.eq_3, rdS.eq_4, fTup.eq_1, fTup.eq_2, fOrd.eq_1, fOrd.eq_2, fIsi.eq_1, fIsi.eq_2, tyD.eq_1, tyD.eq_2, tyD.eq_3, tyD.eq_4, tyD.eq_5, tyD.eq_6, tyD.eq_7, kb1, kb2, kb3, kb4, kb5, kb6, kb7, kb8, kb9, kb10, kb11, kb12, kb13, kb14, kb15, kb16, kb17, kb18, kb19, kb20, kb21, kb22, kb23, kb24, dSeq, seqK.eq_1, seqK.eq_2, seqK.eq_3, seqK.eq_4, seqK.eq_5, dRng1, dRng2, dRev, lstK.eq_1, lstK.eq_2, lstK.eq_3, dEnum, dZip, dBM, dBM0, fAppend.eq_1, fAppend.eq_2, fExtend.eq_1, fExtend.eq_2, fExtA.eq_1, fExtA.eq_2, fPop.eq_1, fPop.eq_2, dRevT, dRevL, f2I.eq_1, f2I.eq_2, bK.eq_1, bK.eq_2, truK.eq_1, truK.eq_2, truK.eq_3, truK.eq_4, truK.eq_5, truK.eq_6, truK.eq_7, truL.eq_1, truL.eq_2, dispK.eq_1, dispK.eq_2, ixK.eq_1, ixK.eq_2, ixS.eq_1, ixS.eq_2, ixL.eq_1, ixL.eq_2, partK.eq_1, partK.eq_2, slK.eq_1, slK.eq_2, slK.eq_3, slK.eq_4, slK.eq_5, slL.eq_1, slL.eq_2, lenLK.eq_1, lenLK.eq_2, mkL.eq_1, mkL.eq_2, isiB.eq_1, isiB.eq_2, isiK.eq_1, isiK.eq_2, frzK.eq_1, frzK.eq_2, frzK.eq_3, rng1K.eq_1, rng1K.eq_2, rng2K.eq_1, rng2K.eq_2, lst1K.eq_1, lst1K.eq_2, zipK.eq_1, zipK.eq_2, sub1K.eq_1, sub1K.eq_2, sub2K.eq_1, sub2K.eq_2, appK.eq_1, appK.eq_2, extK.eq_1, extK.eq_2, pop2K.eq_1, pop2K.eq_2, popK.eq_1, popK.eq_2, lstFK.eq_1, lstFK.eq_2, lisFK.eq_1, lisFK.eq_2, lisF2K.eq_1, lisF2K.eq_2, accK.eq_1, accK.eq_2, dVal, revTK.eq_1, revTK.eq_2, callK.eq_1, callK.eq_2, eqK.eq_1, eqK.eq_2, catK.eq_1, catK.eq_2, cellL.eq_1, cellL.eq_2, cellL.eq_3, okDi, okDb, okDn, eqvi, eqvs, dLstF, dListF, dLc, dYes, wipeE.eq_1, wipeE.eq_2, dFor, fin, finD, wOk.eq_1, wOk.eq_2, cellOk.eq_1, cellOk.eq_2, E0D, dCallP, dCallW, putW, firstRef.eq_1, firstRef.eq_2, firstRef.eq_3, shW.eq_1, shW.eq_2, unW.eq_1, unW.eq_2, inW.eq_1, inW.eq_2, shC.eq_1, shC.eq_2, unC.eq_1, unC.eq_2, inC.eq_1, inC.eq_2, dBreak, at0, at1, at2, at3, atI_last, List.getElem?_cons_zero, List.getElem?_cons_succ, List.getElem?_nil, List.set_cons_zero, List.set_cons_succ, List.map_cons, List.map_nil, List.length_cons, List.length_nil, List.replicate_succ, List.replicate_zero, List.cons_append, List.nil_append, List.append_nil, Option.map_some, Option.map_none, Option.isSome_some, if_true, if_false, ite_true, ite_false, Bool.and_true, Bool.true_and, Bool.and_false, Bool.false_and, Bool.or_true, Bool.or_false, Bool.true_or, Bool.false_or, Bool.not_true, Bool.not_false, true_and, and_true, List.take_succ_cons, List.take_zero, List.take_nil, List.drop_zero, List.drop_succ_cons, List.drop_nil, List.all_cons, List.all_nil, List.any_cons, List.any_nil, List.contains_cons, List.elem_nil, Nat.zero_add, Nat.add_zero, Nat.le_refl, Nat.reduceAdd, Nat.reduceSub, Nat.reduceLT, Nat.reduceLeDiff, Nat.sub_self, Nat.sub_zero, Nat.zero_le, decide_true, decide_false, beq_self_eq_true, Bool.false_eq_true, reduceCtorEq, List.isEmpty_cons, List.isEmpty_nil, List.dropLast_concat, dUn, unK.eq_1, unK.eq_2, dFld, fldK.eq_1, fldK.eq_2, fldK.eq_3, fldC.eq_1, fldC.eq_2, fldW.eq_1, fldW.eq_2, dMake, makK.eq_1, makK.eq_2, fld00, fld01, fld02, lenF0, lenF1, lenF2, get_end, set_end, dMethP, dMethW, isOb.eq_1, isOb.eq_2, isOb.eq_3, isObC.eq_1, isObC.eq_2, dSetF, sfK.eq_1, sfK.eq_2, sfC.eq_1, sfC.eq_2, dFz, fzK.eq_1, fzK.eq_2, fzK.eq_3, fzC.eq_1, fzC.eq_2, fzC.eq_3, dMakeRec, recK.eq_1, recK.eq_2, fld10, fld11, dMatch, dMCase.eq_1, dMCase.eq_2, dMNil, fillE.eq_1, fillE.eq_2, dAug, aug0.eq_1, aug0.eq_2, augK.eq_1, augK.eq_2, fIsiO.eq_1, fIsiO.eq_2, dCallPX, dMethWX, dRaise, raiK.eq_1, raiK.eq_2, dPar, parK.eq_1, parK.eq_2, dPar3, parK3.eq_1, parK3.eq_2, shW0, unW0, unC0, shC0, kbl1, kbl2, kbl3, kbl4, kbl5, kbl6, fInS.eq_1, fInS.eq_2, dAugF, afK.eq_1, afK.eq_2, afC.eq_1, afC.eq_2, afW.eq_1, afW.eq_2, dTry, dAct, dMakeRd, rdrK.eq_1, rdrK.eq_2, dLam4, outK, fld20, fld21, fld22, catF.eq_1, catF.eq_2, dCatF, inK.eq_1, inK.eq_2, fInD, get_end1, set_end1, finX, opC, rfD_eq, Opn.win, Opn.ain, Opn.wok, Opn.aok, Opn.rule, isOb_part, no_isE, no_ent, Opn.noO, fld_link, fld_root, fld_open, ix_link0, ix_link1, ix_link2, isi_part, rootD, PT.op, not_false_eq_true, nonE_concat, last_get, dl_concat, shC0', unW0', unC0', id])
set_option hygiene false in
local macro_rules | `(tactic| walk_at "t") => `(tactic| simp -implicitDefEqProofs only [dNext, dDrop, dRet, dRetN, dIfS, dAsg, dAsgC, dgName, dgTup.eq_1, dgTup.eq_2, dgCons.eq_1, dgCons.eq_2, dgNil, dgSub, subK.eq_1, subK.eq_2, dVar, dVarF, dC, dOp, fII.eq_1, fII.eq_2, fIIc.eq_1, fIIc.eq_2, fAdd.eq_1, fAdd.eq_2, fAdd.eq_3, fAdd.eq_4, fAdd.eq_5, fAdd.eq_6, fCmp.eq_1, fCmp.eq_2, fCmp.eq_3, fEqD, fIsN.eq_1, fIsN.eq_2, isNon.eq_1, isNon.eq_2, rdV.eq_1, rdV.eq_2, rdV.eq_3, rdL.eq_1, rdL.eq_2, rdL.eq_3, dB, dAnd, dOr, dNot, dTru, dIf, dAndV, dOrV, dNotV, dChain, dNil, dCons, vals.eq_1, vals.eq_2, vals.eq_3, dTup, dLst, fIx.eq_1, fIx.eq_2, fIx.eq_3, fIx.eq_4, fIx.eq_5, dSl, dPart, dNoPart, dCB, fLen.eq_1, fLen.eq_2, fLen.eq_3, fLen.eq_4, fLen.eq_5, fInt.eq_1, fInt.eq_2, fInt.eq_3, fList.eq_1, fList.eq_2, rdS.eq_1, rdS.eq_2, rdS.eq_3, rdS.eq_4, fTup.eq_1, fTup.eq_2, fOrd.eq_1, fOrd.eq_2, fIsi.eq_1, fIsi.eq_2, tyD.eq_1, tyD.eq_2, tyD.eq_3, tyD.eq_4, tyD.eq_5, tyD.eq_6, tyD.eq_7, kb1, kb2, kb3, kb4, kb5, kb6, kb7, kb8, kb9, kb10, kb11, kb12, kb13, kb14, kb15, kb16, kb17, kb18, kb19, kb20, kb21, kb22, kb23, kb24, dSeq, seqK.eq_1, seqK.eq_2, seqK.eq_3, seqK.eq_4, seqK.eq_5, dRng1, dRng2, dRev, lstK.eq_1, lstK.eq_2, lstK.eq_3, dEnum, dZip, dBM, dBM0, fAppend.eq_1, fAppend.eq_2, fExtend.eq_1, fExtend.eq_2, fExtA.eq_1, fExtA.eq_2, fPop.eq_1, fPop.eq_2, dRevT, dRevL, f2I.eq_1, f2I.eq_2, bK.eq_1, bK.eq_2, truK.eq_1, truK.eq_2, truK.eq_3, truK.eq_4, truK.eq_5, truK.eq_6, truK.eq_7, truL.eq_1, truL.eq_2, dispK.eq_1, dispK.eq_2, ixK.eq_1, ixK.eq_2, ixS.eq_1, ixS.eq_2, ixL.eq_1, ixL.eq_2, partK.eq_1, partK.eq_2, slK.eq_1, slK.eq_2, slK.eq_3, slK.eq_4, slK.eq_5, slL.eq_1, slL.eq_2, lenLK.eq_1, lenLK.eq_2, mkL.eq_1, mkL.eq_2, isiB.eq_1, isiB.eq_2, isiK.eq_1, isiK.eq_2, frzK.eq_1, frzK.eq_2, frzK.eq_3, rng1K.eq_1, rng1K.eq_2, rng2K.eq_1, rng2K.eq_2, lst1K.eq_1, lst1K.eq_2, zipK.eq_1, zipK.eq_2, sub1K.eq_1, sub1K.eq_2, sub2K.eq_1, sub2K.eq_2, appK.eq_1, appK.eq_2, extK.eq_1, extK.eq_2, pop2K.eq_1, pop2K.eq_2, popK.eq_1, popK.eq_2, lstFK.eq_1, lstFK.eq_2, lisFK.eq_1, lisFK.eq_2, lisF2K.eq_1, lisF2K.eq_2, accK.eq_1, accK.eq_2, dVal, revTK.eq_1, revTK.eq_2, callK.eq_1, callK.eq_2, eqK.eq_1, eqK.eq_2, catK.eq_1, catK.eq_2, cellL.eq_1, cellL.eq_2, cellL.eq_3, okDi, okDb, okDn, eqvi, eqvs, dLstF, dListF, dLc, dYes, wipeE.eq_1, wipeE.eq_2, dFor, fin, finD, wOk.eq_1, wOk.eq_2, cellOk.eq_1, cellOk.eq_2, E0D, dCallP, dCallW, putW, firstRef.eq_1, firstRef.eq_2, firstRef.eq_3, shW.eq_1, shW.eq_2, unW.eq_1, unW.eq_2, inW.eq_1, inW.eq_2, shC.eq_1, shC.eq_2, unC.eq_1, unC.eq_2, inC.eq_1, inC.eq_2, dBreak, at0, at1, at2, at3, atI_last, List.getElem?_cons_zero, List.getElem?_cons_succ, List.getElem?_nil, List.set_cons_zero, List.set_cons_succ, List.map_cons, List.map_nil, List.length_cons, List.length_nil, List.replicate_succ, List.replicate_zero, List.cons_append, List.nil_append, List.append_nil, Option.map_some, Option.map_none, Option.isSome_some, if_true, if_false, ite_true, ite_false, Bool.and_true, Bool.true_and, Bool.and_false, Bool.false_and, Bool.or_true, Bool.or_false, Bool.true_or, Bool.false_or, Bool.not_true, Bool.not_false, true_and, and_true, List.take_succ_cons, List.take_zero, List.take_nil, List.drop_zero, List.drop_succ_cons, List.drop_nil, List.all_cons, List.all_nil, List.any_cons, List.any_nil, List.contains_cons, List.elem_nil, Nat.zero_add, Nat.add_zero, Nat.le_refl, Nat.reduceAdd, Nat.reduceSub, Nat.reduceLT, Nat.reduceLeDiff, Nat.sub_self, Nat.sub_zero, Nat.zero_le, decide_true, decide_false, beq_self_eq_true, Bool.false_eq_true, reduceCtorEq, List.isEmpty_cons, List.isEmpty_nil, List.dropLast_concat, dUn, unK.eq_1, unK.eq_2, dFld, fldK.eq_1, fldK.eq_2, fldK.eq_3, fldC.eq_1, fldC.eq_2, fldW.eq_1, fldW.eq_2, dMake, makK.eq_1, makK.eq_2, fld00, fld01, fld02, lenF0, lenF1, lenF2, get_end, set_end, dMethP, dMethW, isOb.eq_1, isOb.eq_2, isOb.eq_3, isObC.eq_1, isObC.eq_2, dSetF, sfK.eq_1, sfK.eq_2, sfC.eq_1, sfC.eq_2, dFz, fzK.eq_1, fzK.eq_2, fzK.eq_3, fzC.eq_1, fzC.eq_2, fzC.eq_3, dMakeRec, recK.eq_1, recK.eq_2, fld10, fld11, dMatch, dMCase.eq_1, dMCase.eq_2, dMNil, fillE.eq_1, fillE.eq_2, dAug, aug0.eq_1, aug0.eq_2, augK.eq_1, augK.eq_2, fIsiO.eq_1, fIsiO.eq_2, dCallPX, dMethWX, dRaise, raiK.eq_1, raiK.eq_2, dPar, parK.eq_1, parK.eq_2, dPar3, parK3.eq_1, parK3.eq_2, shW0, unW0, unC0, shC0, kbl1, kbl2, kbl3, kbl4, kbl5, kbl6, fInS.eq_1, fInS.eq_2, dAugF, afK.eq_1, afK.eq_2, afC.eq_1, afC.eq_2, afW.eq_1, afW.eq_2, dTry, dAct, dMakeRd, rdrK.eq_1, rdrK.eq_2, dLam4, outK, fld20, fld21, fld22, catF.eq_1, catF.eq_2, dCatF, inK.eq_1, inK.eq_2, fInD, get_end1, set_end1, finX, opC, rfD_eq, Opn.win, Opn.ain, Opn.wok, Opn.aok, Opn.rule, isOb_part, no_isE, no_ent, Opn.noO, fld_link, fld_root, fld_open, ix_link0, ix_link1, ix_link2, isi_part, rootD, PT.op, not_false_eq_true, nonE_concat, last_get, dl_concat, shC0', unW0', unC0', id])
/-! ### what outcome makes of a walk -/
abbrev sPOutcome : Stmt := topS 45
theorem scPOutcome : FnScope ["word", "rule", "certificate", "walk", "reader", "result", "refusal"] ["word", "rule", "certificate", "walk"] (defScope sPOutcome) := ⟨rfl, rfl, rfl, by decide +kernel, rfl, by decide +kernel, by decide +kernel⟩
def pOut : DOut := fun PL wd r cs Q => ∃ b m s, r = ruleD b m ∧ cs = s.cert ∧ s.pos = 0 ∧ ∀ (Q2 : DK) (R2 : XD),
  (∀ (d : D) (s' : RdS), (if s'.pos < s'.cert.length then Q (.val (.tuple [.str "refused", .str "long", .int s'.pos])) [] else Q (.val (.tuple [wd, d])) []) → Q2 (.val d) [.obj 2 (rdF b m s'), .nil]) →
  (∀ (z : Str) (n : Int) (C : List Cell), Q (.val (.tuple [.str "refused", .str z, .int n])) [] → R2 3 [.int n, .str z] C) → PL [.ref 0] [.obj 2 (rdF b m s), .nil] Q2 R2
section
variable {ct : Ct}
theorem gives_outcome {X : Cx} {k : Nat} {g : Addr} {cd : Value} {q : Str} {C_Reader C_Refused : Addr} [ClA ct C_Reader 2] (i1 : CtOk X.K ct) (i2 : ExT X.K ct C_Refused) (hk : 2 ≤ k) (gR : X.mg "Refused" = some (.ref C_Refused)) (T : XfC X.K C_Refused) (n1 : PySem.W.findIn X.K (.ref C_Refused) "word" = some none) (n2 : PySem.W.findIn X.K (.ref C_Refused) "number" = some none)
    (I_Reader : Ini X.K X.mg "Reader" C_Reader "Reader.__init__" sPReaderInit ["self", "rule", "certificate"]) (D_PReaderFinish : Mth X.K C_Reader "finish" "Reader.finish" sPReaderFinish ["self"])
    (G_ReaderI : FnOk X.prog X.w X.K X.mg X.base CX0 1 I_Reader.f I_Reader.fd ["self", "rule", "certificate"] (spRdI X.K))
    (G_PReaderFinish : FnOk X.prog X.w X.K X.mg X.base (L2.CX X.prog X.w) 3 D_PReaderFinish.f D_PReaderFinish.fd ["self"] (spD ct 1 1 pPReaderFinish)) :
    Gives4 X k ["word", "rule", "certificate", "walk", "reader", "result", "refusal"] "outcome" (defScope sPOutcome) g cd (defBody sPOutcome) "walk" "reader" q (ttOut ct.cl pOut) := by
  intro f c' s H Q tl vs hr act l3 co ht
  haveI := i1
  haveI := i2
  obtain ⟨F, wd, r, cs, PL, QD, hz, rvs, hl, hp, hQ⟩ := ht
  haveI ia : ∀ E R, CE (ct.w E R) (tAct f c' q 3 4 tl E) (dAct 3 4 f c' q F H PL R) := fun E R => ce_act hl
  refine ⟨_, (pss_cons (ps_set (i := 4) scPOutcome.nd rfl (.inl rfl) (pe_make I_Reader.M G_ReaderI (hr.mono (by omega)) (by rfl) I_Reader.g I_Reader.b .nil pass0 (pa_cons (pv 1) (pa_cons (pv 2) pa_nil)))) <|
    pss_cons (ps_tryRC (K := X.K) (by rfl) (i := 6) rfl rfl scPOutcome.nd rfl (by rfl) ⟨rfl, by decide, .inl gR⟩ T n1 n2 (fun W pn xe Ech tk sub => pss_cons (ps_set (i := 5) scPOutcome.nd rfl (.inl rfl) (act pn xe Ech W _ _ _ tk sub)) (pss_one (ps_expr (pe_methX0 (pv 4) D_PReaderFinish.c D_PReaderFinish.M G_PReaderFinish (hr.mono (by omega)) D_PReaderFinish.b (fun pins σ H s e s' I c => tk e s' (XE.of_call I (fun cls d H' h => sub cls d σ H' I.len h) c))))))) <|
    pss_one (ps_ret (pe_tup (pa_cons (pv 0) (pa_cons (pv 5) pa_nil))))), ?_⟩
  refine body_ok (E := L2.E0) (ct := ct) (n := 0) (m := 4) (P := fun ws C Q' _ => ws = [.val wd, .val r, .val (.list cs), .fn f c' q F H] ∧ pOut PL wd r cs Q') _ (fun R => @cs_seq _ _ _ _ _ inferInstance (@cs_seq _ _ _ _ _ (cs_tryRw (h := fun E R => inferInstance)) inferInstance)) (by decide) (fun ws C Q R hw hC hP => ?_) ⟨⟨F, [], []⟩, [], [.val wd, .val r, .val (.list cs), .fn f c' q F H], QD, X0, ?_, rfl, hz, ?_, ⟨rfl, hp⟩, ?_, ?_⟩
  · obtain rfl := List.eq_nil_of_length_eq_zero hC
    obtain ⟨rfl, b, m, s, rfl, rfl, h0, hP⟩ := hP
    have e0 : rdF b m s = [.val (ruleD b m), .val (.list s.cert), .val (.int 0)] := by
      unfold rdF
      rw [h0]
      rfl
    rw [e0] at hP
    walk_at "s"
    refine dSeq_go ?_
    walk_at "s"
    refine dSeq_go ⟨by show 6 < 7; decide, ?_⟩
    refine dSeq_go ?_
    unfold dAsg
    refine ⟨_, rfl, rfl, rfl, hP _ _ (fun d s' h => ?_) (fun z n C h => ?_)⟩
    · refine ⟨d, _, rfl, rfl, rfl, ?_⟩
      walk_at "s"
      refine ⟨by decide, rfl, b, m, s', rfl, rfl, fun hl => ⟨rfl, _, _, rfl, ?_⟩, fun hl => ⟨by decide, ?_⟩⟩
      · rw [if_pos hl] at h
        exact h
      · rw [if_neg hl] at h
        exact h
    · refine ⟨rfl, .int n, .str z, rfl, ?_⟩
      first
        | exact ⟨Nat.zero_le _, rfl, h⟩
        | exact h
  · rw [List.length_append, l3]
    rfl
  · exact paired_app rvs (.cons ⟨rfl, co, Kp.refl _ _⟩ .nil)
  · intro v H' g' C' w k' f' z' l' r' hw
    obtain rfl := List.eq_nil_of_length_eq_zero l'
    exact hQ v H' g' w k' f' z' r' hw
  · exact fun _ _ _ _ _ _ _ _ _ _ _ _ z => z.elim
end

/-! ### readings -/
abbrev lamQ (x : Str) : Str := x ++ (".<locals>." : Str) ++ ("<lambda>" : Str)
/-- what a reading comes to -/
def outD (wd : Str) : Out PyData → PyData
  | .got a => .tuple [.str wd, a]
  | .ref w n => .tuple [.str "refused", .str w, .int n]
  | .end_ => .none

/-! ### read_change -/
abbrev sPReadChange : Stmt := topS 47
theorem scPReadChange : FnScope ["rule", "head", "change", "certificate"] ["rule", "head", "change", "certificate"] (defScope sPReadChange) := ⟨rfl, rfl, rfl, by decide +kernel, rfl, by decide +kernel, by decide +kernel⟩
def pPReadChange : DSp := fun ws C Q _ => ∃ (b m : Int) (l : Lnk) (q : Chg) (n : Nat) (s : RdS), ws = [.val (ruleD b m), .val (linkD l), .val (chgD q), .val (.list s.cert)] ∧ s.pos = 0 ∧ RuleOk b m ∧ q.Ok ∧ n ≤ 100000 ∧
  (gHead b m n (.hid l false) q).toW.run b m s.cert 0 ≠ .end_ ∧ Q (.val (outD "head" ((gHead b m n (.hid l false) q).toW.run b m s.cert 0))) C
section
variable {P : Program} {w : World} {K : PySem.W.Frag} {mg : Str → Option Value} {base : Heap} {ct : Ct}
theorem ok_PReadChange [CtOk K ct] {C_Reader C_Refused : Addr} [ClA ct C_Reader 2] [ExT K ct C_Refused] {c PT : Addr} [LamT ct PT (lamQ "read_change")] (D : Def K mg "read_change" sPReadChange ["rule", "head", "change", "certificate"]) (hc : D.fd.code = .ref c) (TB : LamX.TabB base mg c PT)
    (D_POutcome : Def K mg "outcome" sPOutcome ["word", "rule", "certificate", "walk"]) (D_PSpliced : Def K mg "spliced" sPSpliced ["opener", "tree", "change"]) (D_PLinkedPart : Def K mg "linked_part" sPLinkedPart ["link"])
    (gR : mg "Refused" = some (.ref C_Refused)) (T : XfC K C_Refused) (n1 : PySem.W.findIn K (.ref C_Refused) "word" = some none) (n2 : PySem.W.findIn K (.ref C_Refused) "number" = some none)
    (I_Reader : Ini K mg "Reader" C_Reader "Reader.__init__" sPReaderInit ["self", "rule", "certificate"]) (D_PReaderFinish : Mth K C_Reader "finish" "Reader.finish" sPReaderFinish ["self"])
    (G_ReaderI : FnOk P w K mg base CX0 1 I_Reader.f I_Reader.fd ["self", "rule", "certificate"] (spRdI K))
    (G_PReaderFinish : FnOk P w K mg base (L2.CX P w) 3 D_PReaderFinish.f D_PReaderFinish.fd ["self"] (spD ct 1 1 pPReaderFinish))
    (G_PSpliced_Rd : FnOk P w K mg base (L2.CX P w) 14 D_PSpliced.f D_PSpliced.fd ["opener", "tree", "change"] (spD ct 2 3 (pPSpliced MRd)))
    (G_PLinkedPart : FnOk P w K mg base CX0 3 D_PLinkedPart.f D_PLinkedPart.fd ["link"] (spD ct 0 1 pPLinkedPart)) :
    FnOk P w K mg base CX0 17 D.f D.fd ["rule", "head", "change", "certificate"] (spD ct 0 4 pPReadChange) := by
  refine RR.Fun.okC D.F scPReadChange (fun vs H Q E h => spD_len h) (fun cdv A outer s H vs Q E hcd hr h => ⟨_, (pss_one (ps_ret (pe_lam4 (X := (cxOf L2.CX0 P w K mg base ["rule", "head", "change", "certificate"] "read_change" (defScope sPReadChange) D.f cdv A outer s H E).nox) (k := 14) (a := "reader") (T := ct.cl.T) (P := PT) (by rfl) D_POutcome.m D_POutcome.F D_POutcome.b scPOutcome rfl rfl (.inl rfl) rfl (.inl rfl)
    (fun cd => gives_outcome (ct := ct) (show CtOk K ct from inferInstance) (show ExT K ct C_Refused from inferInstance) (by decide) gR T n1 n2 I_Reader D_PReaderFinish G_ReaderI G_PReaderFinish) TB (hcd.symm.trans hc) (LamT.mem (ct := ct) (P := PT) (q := lamQ "read_change")) (LamT.one (ct := ct) (P := PT) (q := lamQ "read_change")) hr (lamS1_by (by rfl)) (show ("reader" : Str) ∉ (["rule", "head", "change", "certificate"] : List Str) by decide) rfl (fun _ _ _ _ _ _ => rfl)
    (fun A outer s H E f c' hr => pe_fldC (K := K) rfl (pe_callX G_PSpliced_Rd hr (by rfl) D_PSpliced.m D_PSpliced.F.kp D_PSpliced.b passLam (pa_cons (pv 4) (pa_cons (pe_call G_PLinkedPart (hr.mono (by omega)) (by rfl) D_PLinkedPart.m D_PLinkedPart.F.kp D_PLinkedPart.b .nil pass0 (pa_cons (pv 1) pa_nil)) (pa_cons (pv 2) pa_nil)))) rfl)
    pe_str (pv 0) (pv 3)))), body_ok _ (fun R => @cs_ret _ _ _ (ce_lam4 (ct := ct.w E R) (fun E R => (inferInstance : CE (ct.w E R) _ _)) (LamT.mem (ct := ct) (P := PT) (q := lamQ "read_change")))) (by decide) (fun ws C Q R hw hC hP => ?_) h⟩)
  obtain rfl := List.eq_nil_of_length_eq_zero hC
  obtain ⟨b, m, l, q, n, s0, rfl, h0, hrm, hq, hn, hne, hQ⟩ := hP
  refine ⟨fun i w h => ?_, ?_⟩
  · match i, h with
    | 0, h => exact ⟨_, (Option.some.inj (Option.some.inj h)).symm⟩
    | 1, h => exact ⟨_, (Option.some.inj (Option.some.inj h)).symm⟩
    | 2, h => exact ⟨_, (Option.some.inj (Option.some.inj h)).symm⟩
    | 3, h => exact ⟨_, (Option.some.inj (Option.some.inj h)).symm⟩
    | n + 4, h => cases h
  · walk_at "d"
    refine ⟨_, _, _, rfl, rfl, rfl, b, m, s0, rfl, rfl, h0, fun Q2 R2 k1 k2 => ⟨_, rfl, ?_⟩⟩
    walk_at "d"
    have ed : s0.cert.drop s0.pos = s0.cert := by rw [h0]; rfl
    refine ⟨l, b, m, rfl, rfl, b, m, s0, .hid l false, q, n, rfl, rfl, hrm, hq, hn, ?_⟩
    have hw : (gHead b m n (.hid l false) q).wp MRd b m (fun w k s' => finX 2 R2 3 [.int k, .str w] (opC MRd b m s')) s0 (fun a s' => fin 2 Q2 (.val a) (opC MRd b m s')) := by
      refine wp_run _ s0 _ _ (fun a s' hc hr => ?_) (fun w k s' hr => ?_) ?_
      · rw [ed, h0] at hr
        refine ⟨Nat.le_refl _, rfl, k1 a s' ?_⟩
        unfold outIs at hr
        by_cases hl : s'.pos < s'.cert.length
        · rw [if_pos hl] at hr ⊢
          rw [hr] at hQ
          exact ⟨⟨_, rfl⟩, rfl, hQ⟩
        · rw [if_neg hl] at hr ⊢
          rw [hr] at hQ
          exact ⟨⟨_, rfl⟩, rfl, hQ⟩
      · rw [ed, h0] at hr
        rw [hr] at hQ
        exact ⟨Nat.le_refl _, rfl, k2 w k _ ⟨⟨_, rfl⟩, rfl, hQ⟩⟩
      · rw [ed, h0]
        exact hne
    have hw2 := Eq.mp (wp_bind (M := MRd) (b := b) (m := m) (fun u : RR.PT => Prog.ret (linkD (u.lnk b m))) (gSpl b m n (.hid l false) q) s0 _) hw
    refine wp_mono (fun p s' hp => ?_) (fun z j s' hx => hx) _ _ hw2
    show fldK "link" (fin 2 Q2) (.val (partD b m p)) (opC MRd b m s')
    rw [fld_link]
    exact hp
end

/-! ### members of lists -/
theorem ite_len {α : Type} {c : Prop} [Decidable c] {xs : List α} {n : Nat} (h : xs.length ≤ n) : (if c then xs else []).length ≤ n := by
  split
  · exact h
  · exact Nat.zero_le _
theorem ite_mem {α : Type} {c : Prop} [Decidable c] {xs : List α} {P : α → Prop} (h : ∀ x ∈ xs, P x) : ∀ x ∈ (if c then xs else []), P x := by
  split
  · exact h
  · exact fun x hx => by cases hx
theorem app_mem {α : Type} {P : α → Prop} {xs ys : List α} (h : ∀ x ∈ xs, P x) (k : ∀ x ∈ ys, P x) : ∀ x ∈ xs ++ ys, P x := fun x hx => (List.mem_append.mp hx).elim (h x) (k x)
theorem one_mem {α : Type} {P : α → Prop} {a : α} (h : P a) : ∀ x ∈ [a], P x := fun x hx => by
  rw [List.mem_singleton.mp hx]
  exact h
theorem cutL_toJ {α : Type} {xs : List α} {n : Int} (h : 0 ≤ n) : cutL xs none (some n) = xs.take n.toNat := by
  by_cases h2 : n.toNat ≤ xs.length
  · have := cutL_to h2
    rw [show ((n.toNat : Nat) : Int) = n by omega] at this
    exact this
  · rw [List.take_of_length_le (by omega)]
    obtain ⟨j, rfl⟩ : ∃ j : Nat, n = (j : Int) := ⟨n.toNat, by omega⟩
    unfold cutL
    rw [HT.sIx_none, HT.sIx_nat, Nat.min_eq_right (by omega)]
    exact List.take_length

/-! ### equal entries -/
theorem eqv_intsE : ∀ ns ms : List Int, PyData.eqvAll (ns.map PyData.int) (ms.map PyData.int) = decide (ns = ms)
  | [], [] => rfl
  | [], _ :: _ => rfl
  | _ :: _, [] => rfl
  | n :: ns, m :: ms => by
    show ((n == m) && PyData.eqvAll (ns.map PyData.int) (ms.map PyData.int)) = _
    rw [eqv_intsE ns ms]
    by_cases h : n = m
    · subst h
      by_cases k : ns = ms
      · subst k
        simp
      · simp [k]
    · simp [h]
theorem eqv_ent (a c : Ent) : PyData.eqv (entD a) (entD c) = decide (a = c) := by
  show ((a.key == c.key) && (PyData.eqvAll (a.row.map PyData.int) (c.row.map PyData.int) && (PyData.eqv (linkD a.l) (linkD c.l) && (PyData.eqv (linkD a.r) (linkD c.r) && true)))) = _
  rw [eqv_intsE, eqv_link, eqv_link]
  cases a
  cases c
  simp only [Ent.mk.injEq]
  simp only [Bool.and_true, Bool.decide_and]
  rfl

/-! ### verdicts as data -/
def vdD : Verdict → PyData
  | .taken => .none
  | .clash _ _ => .tuple [.str "clash"]
  | .ref w n => .tuple [.str "refused", .str w, .int ((n : Nat) : Int)]
theorem verdict_cons {b m : Int} (e : Ent) (es : List Ent) (d : PyData) (ds : List PyData) (n : Nat) : verdict b m (e :: es) (d :: ds) n = (match asEnt d with
    | none => .ref "form" n
    | some g => if (lnkOf b m e).d ≠ (lnkOf b m g).d then .ref "digest" n
      else if lnkOf b m e ≠ lnkOf b m g then .ref "sums" n
      else if e ≠ g then .clash e g else verdict b m es ds (n + 1)) := by
  (rw [verdict]) <;> (cases asEnt d <;> rfl)
theorem drop_at {α : Type} {xs : List α} {i : Nat} {x : α} (h : xs[i]? = some x) : xs.drop i = x :: xs.drop (i + 1) := by
  have h4 := List.getElem?_eq_some_iff.mp h
  rw [← h4.2]
  exact List.drop_eq_getElem_cons h4.1

/-! ### plain data with a bound on its depth -/
def Bq (n : Nat) (d : PyData) : Prop := plB d = true ∧ Sh n d
theorem Bq.mono {n m : Nat} {d : PyData} (h : Bq n d) (k : n ≤ m) : Bq m d := ⟨h.1, h.2.mono k⟩
theorem Bq.non {n : Nat} : Bq n .none := ⟨rfl, Sh.non⟩
theorem Bq.int {n : Nat} (i : Int) : Bq n (.int i) := ⟨rfl, Sh.int i⟩
theorem Bq.bool {n : Nat} (b : Bool) : Bq n (.bool b) := ⟨rfl, rfl, Nat.zero_le _⟩
theorem Bq.str {n : Nat} {s : Str} (h : s.length ≤ 1000) (k : ∀ c ∈ s.cps.toList, c < 128) : Bq n (.str s) := ⟨decide_eq_true h, Sh.str k⟩
theorem asciiQ {s : Str} (h : (s.cps.toList.all fun c => decide (c < 128)) = true) : ∀ c ∈ s.cps.toList, c < 128 := fun c hc => of_decide_eq_true (List.all_eq_true.mp h c hc)
theorem strQ {n : Nat} {s : Str} (h : (decide (s.length ≤ 1000) && s.cps.toList.all fun c => decide (c < 128)) = true) : Bq n (.str s) := by
  rw [Bool.and_eq_true] at h
  exact Bq.str (of_decide_eq_true h.1) (asciiQ h.2)
theorem plBs_all : ∀ {ds : List PyData}, (∀ d ∈ ds, plB d = true) → plBs ds = true
  | [], _ => rfl
  | d :: ds, h => by
    show (plB d && plBs ds) = true
    rw [h d List.mem_cons_self, plBs_all fun x hx => h x (List.mem_cons_of_mem _ hx)]
    rfl
theorem Bq.tup {n : Nat} {ds : List PyData} (l : ds.length ≤ 1000) (h : ∀ d ∈ ds, Bq n d) : Bq (n + 1) (.tuple ds) := by
  refine ⟨?_, Sh.tuple fun x hx => (h x hx).2⟩
  show (decide (ds.length ≤ 1000) && plBs ds) = true
  rw [decide_eq_true l, plBs_all fun d hd => (h d hd).1]
  rfl
theorem Bq.tup0 {n : Nat} : Bq (n + 1) (.tuple []) := Bq.tup (Nat.zero_le _) fun d hd => by cases hd
theorem Bq.row {n : Nat} {ns : List Int} (l : ns.length ≤ 1000) : Bq (n + 1) (rowD ns) := Bq.tup (by rw [List.length_map]; exact l) fun x hx => by
  obtain ⟨i, _, rfl⟩ := List.mem_map.mp hx
  exact Bq.int i
theorem Bq.three {n : Nat} {x y z : PyData} (hx : Bq n x) (hy : Bq n y) (hz : Bq n z) : Bq (n + 1) (.tuple [x, y, z]) := Bq.tup (by show 3 ≤ 1000; decide) fun d hd => by
  simp only [List.mem_cons, List.not_mem_nil, or_false] at hd
  rcases hd with e | e | e <;> rw [e]
  · exact hx
  · exact hy
  · exact hz
theorem Bq.four {n : Nat} {x y z w : PyData} (hx : Bq n x) (hy : Bq n y) (hz : Bq n z) (hw : Bq n w) : Bq (n + 1) (.tuple [x, y, z, w]) := Bq.tup (by show 4 ≤ 1000; decide) fun d hd => by
  simp only [List.mem_cons, List.not_mem_nil, or_false] at hd
  rcases hd with e | e | e | e <;> rw [e]
  · exact hx
  · exact hy
  · exact hz
  · exact hw
theorem Bq.sums {n : Nat} (a c e : Int) : Bq (n + 1) (.tuple [.int a, .int c, .int e]) := Bq.three (Bq.int _) (Bq.int _) (Bq.int _)
theorem Bq.link {n : Nat} (l : Lnk) : Bq (n + 2) (linkD l) := Bq.three (Bq.int _) (Bq.int _) (Bq.sums _ _ _)
theorem Bq.key {n : Nat} {s : Str} (h : KeyOk s) : Bq n (.str s) := Bq.str (by have := h.2.1; omega) h.asc
theorem Bq.ent {n : Nat} {e : Ent} (h : e.Ok) : Bq (n + 3) (entD e) := Bq.four (Bq.key h.1) ((Bq.row (n := 0) (by have := h.2.1.2.1; omega)).mono (by omega)) (Bq.link _) (Bq.link _)
theorem Bq.ents {es : List Ent} (h : ∀ e ∈ es, e.Ok) : ∀ d ∈ es.map entD, Bq 5 d := fun d hd => by
  obtain ⟨e, he, rfl⟩ := List.mem_map.mp hd
  exact (Bq.ent (n := 0) (h e he)).mono (by decide)
theorem Bq.list {n : Nat} {ds : List PyData} (h : ∀ d ∈ ds, Bq n d) : Sh (n + 1) (.list ds) := Sh.list fun d hd => (h d hd).2
theorem cutL_mem {α : Type} {xs : List α} {lo hi : Option Int} {x : α} (h : x ∈ cutL xs lo hi) : x ∈ xs := List.mem_of_mem_drop (List.mem_of_mem_take h)
theorem cutL_len {α : Type} (xs : List α) (lo hi : Option Int) : (cutL xs lo hi).length ≤ xs.length := by
  unfold cutL
  rw [List.length_take, List.length_drop]
  omega
theorem Bq.cut {n : Nat} {ds : List PyData} {lo hi : Option Int} (l : ds.length ≤ 1000) (h : ∀ d ∈ ds, Bq n d) : Bq (n + 1) (.tuple (cutL ds lo hi)) := Bq.tup (Nat.le_trans (cutL_len _ _ _) l) fun d hd => h d (cutL_mem hd)
theorem sliceQ_mem {z : Str} {lo hi : Option Int} {c : Nat} (h : c ∈ (Txt.slice z lo hi).cps.toList) : c ∈ z.cps.toList := by
  unfold Txt.slice at h
  split at h
  · exact h
  · rw [List.toList_toArray] at h
    obtain ⟨i, _, e⟩ := List.mem_filterMap.mp h
    exact Array.mem_def.mp (Array.mem_of_getElem? e)
/-- a drawn one of a list -/
theorem pick_in {ds : List PyData} {i : Int} (h0 : 0 ≤ i) (h1 : i < (ds.length : Int)) : ∃ d, atI ds i = some d ∧ d ∈ ds := by
  obtain ⟨j, x, rfl, hj, hm⟩ := draw_in h0 h1
  exact ⟨x, atI_nat hj, hm⟩

/-! ### a change's right certificate is taken -/
theorem runr_oks {b m : Int} {α : Type} {p : Prog α} {es : List Ent} {a : α} (h : RunR b m p es a) : ∀ e ∈ es, e.Ok := by
  induction h with
  | ret a => exact fun e h => nomatch h
  | opn _ _ ih => exact ih
  | clo _ ok _ ih =>
    intro e he
    rcases List.mem_cons.mp he with rfl | he
    · exact ok
    · exact ih e he
theorem readc_go {b m : Int} (hr : RuleOk b m) {tb : Tab} {ch : Chg} (hc : ch.Ok) {es : List Ent} (h : ChgCert b m tb ch 20000 es) (hl : es.length ≤ 1000) {C : List Cell} {Q : DK} {X : XD} (q : Q (.val (.tuple [.str "head", linkD (headL b m (changed tb ch))])) C) :
    pPReadChange [.val (ruleD b m), .val (linkD (headL b m tb)), .val (chgD ch), .val (.list (es.map entD))] C Q X := by
  have ho := runr_oks h
  have e := (hon_head h).run 0
  refine ⟨b, m, headL b m tb, ch, 20000, ⟨es.map entD, 0, Nat.zero_le _, fun d hd => (Bq.ents ho d hd).1, by rw [List.length_map]; omega⟩, rfl, rfl, hr, hc, by omega, ?_, ?_⟩
  · rw [e]
    exact fun z => by cases z
  · rw [e]
    exact q

/-! ### the clash of two certificates -/
noncomputable def clashM (b m : Int) : List Ent → List PyData → Option (Ent × Ent)
  | e :: es, d :: ds => if PyData.eqv (entD e) d = true then clashM b m es ds else
      match asEnt d with
      | none => none
      | some g => if (lnkOf b m e).d = (lnkOf b m g).d then some (e, g) else none
  | _, _ => none
theorem clashM_cons (b m : Int) (e : Ent) (es : List Ent) (d : PyData) (ds : List PyData) : clashM b m (e :: es) (d :: ds) = (if PyData.eqv (entD e) d = true then clashM b m es ds else
      match asEnt d with
      | none => none
      | some g => if (lnkOf b m e).d = (lnkOf b m g).d then some (e, g) else none) := by
  rw [clashM]
def pairE : Option (Ent × Ent) → PyData
  | none => .none
  | some (e, g) => .tuple [entD e, entD g]
theorem eqv_ent_iff {a c : Ent} : PyData.eqv (entD a) (entD c) = true ↔ a = c := by
  rw [eqv_ent]
  exact ⟨fun h => of_decide_eq_true h, fun h => decide_eq_true h⟩
theorem clash_of_verdict {b m : Int} : ∀ {es : List Ent} {ds : List PyData} {n : Nat} {e g : Ent}, verdict b m es ds n = .clash e g → clashM b m es ds = some (e, g)
  | [], [], _, _, _, h => by cases h
  | [], _ :: _, _, _, _, h => by cases h
  | _ :: _, [], _, _, _, h => by cases h
  | e0 :: es, d :: ds, n, e, g, h => by
    rw [verdict_cons] at h
    unfold clashM
    cases ea : asEnt d with
    | none =>
      rw [ea] at h
      cases h
    | some g0 =>
      rw [ea] at h
      obtain ⟨hd, hok⟩ := asEnt_some ea
      subst hd
      simp only at h
      split at h
      · cases h
      · rename_i hdig
        split at h
        · cases h
        · split at h
          · rename_i hne
            cases h
            rw [if_neg (fun z => hne (eqv_ent_iff.mp z))]
            dsimp only
            rw [if_pos (Classical.not_not.mp hdig)]
          · rename_i hne
            rw [if_pos (eqv_ent_iff.mpr (Classical.not_not.mp hne))]
            exact clash_of_verdict h
theorem Sh.pairE {o : Option (Ent × Ent)} (h : ∀ p, o = some p → p.1.Ok ∧ p.2.Ok) : Sh 4 (pairE o) := by
  cases o with
  | none => exact Sh.non
  | some p =>
    obtain ⟨e, g⟩ := p
    obtain ⟨h1, h2⟩ := h _ rfl
    refine Sh.tuple fun x hx => ?_
    simp only [List.mem_cons, List.not_mem_nil, or_false] at hx
    rcases hx with z | z <;> rw [z]
    · exact Sh.ent (n := 0) h1.1.asc
    · exact Sh.ent (n := 0) h2.1.asc
theorem clashM_ok {b m : Int} : ∀ {es : List Ent} {ds : List PyData} {p : Ent × Ent}, (∀ e ∈ es, e.Ok) → clashM b m es ds = some p → p.1.Ok ∧ p.2.Ok ∧ p.1 ≠ p.2 ∧ (lnkOf b m p.1).d = (lnkOf b m p.2).d ∧ entD p.2 ∈ ds
  | [], _, _, _, h => by cases h
  | _ :: _, [], _, _, h => by cases h
  | e :: es, d :: ds, p, ho, h => by
    unfold clashM at h
    split at h
    · obtain ⟨h1, h2, h3, h4, h5⟩ := clashM_ok (fun e he => ho e (List.mem_cons_of_mem _ he)) h
      exact ⟨h1, h2, h3, h4, List.mem_cons_of_mem _ h5⟩
    · rename_i hne
      cases ea : asEnt d with
      | none =>
        rw [ea] at h
        cases h
      | some g =>
        rw [ea] at h
        obtain ⟨rfl, hg⟩ := asEnt_some ea
        simp only at h
        split at h
        · rename_i hd
          cases h
          exact ⟨ho e List.mem_cons_self, hg, fun z => hne (eqv_ent_iff.mpr z), hd, List.mem_cons_self⟩
        · cases h

set_option hygiene false in
local macro_rules | `(tactic| walk_at "d") => `(tactic| simp -implicitDefEqProofs only [dSeqS, dNext, dDrop, dRet, dRetN, dIfS, dAsg, dAsgC, dgName, dgTup.eq_1, dgTup.eq_2, dgCons.eq_1, dgCons.eq_2, dgNil, dgSub, subK.eq_1, subK.eq_2, dVar, dVarF, dC, dOp, fII.eq_1, fII.eq_2, fIIc.eq_1, fIIc.eq_2, fAdd.eq_1, fAdd.eq_2, fAdd.eq_3, fAdd.eq_4, fAdd.eq_5, fAdd.eq_6, fCmp.eq_1, fCmp.eq_2, fCmp.eq_3, fEqD, fIsN.eq_1, fIsN.eq_2, isNon.eq_1, isNon.eq_2, rdV.eq_1, rdV.eq_2, rdV.eq_3, rdL.eq_1, rdL.eq_2, rdL.eq_3, dB, dAnd, dOr, dNot, dTru, dIf, dAndV, dOrV, dNotV, dChain, dNil, dCons, vals.eq_1, vals.eq_2, vals.eq_3, dTup, dLst, fIx.eq_1, fIx.eq_2, fIx.eq_3, fIx.eq_4, fIx.eq_5, dSl, dPart, dNoPart, dCB, fLen.eq_1, fLen.eq_2, fLen.eq_3, fLen.eq_4, fLen.eq_5, fInt.eq_1, fInt.eq_2, fInt.eq_3, fList.eq_1, fList.eq_2, rdS.eq_1, rdS.eq_2, rdS.eq_3, rdS.eq_4, fTup.eq_1, fTup.eq_2, fOrd.eq_1, fOrd.eq_2, fIsi.eq_1, fIsi.eq_2, tyD.eq_1, tyD.eq_2, tyD.eq_3, tyD.eq_4, tyD.eq_5, tyD.eq_6, tyD.eq_7, kb1, kb2, kb3, kb4, kb5, kb6, kb7, kb8, kb9, kb10, kb11, kb12, kb13, kb14, kb15, kb16, kb17, kb18, kb19, kb20, kb21, kb22, kb23, kb24, dSeq, seqK.eq_1, seqK.eq_2, seqK.eq_3, seqK.eq_4, seqK.eq_5, dRng1, dRng2, dRev, lstK.eq_1, lstK.eq_2, lstK.eq_3, dEnum, dZip, dBM, dBM0, fAppend.eq_1, fAppend.eq_2, fExtend.eq_1, fExtend.eq_2, fExtA.eq_1, fExtA.eq_2, fPop.eq_1, fPop.eq_2, dRevT, dRevL, f2I.eq_1, f2I.eq_2, bK.eq_1, bK.eq_2, truK.eq_1, truK.eq_2, truK.eq_3, truK.eq_4, truK.eq_5, truK.eq_6, truK.eq_7, truL.eq_1, truL.eq_2, dispK.eq_1, dispK.eq_2, ixK.eq_1, ixK.eq_2, ixS.eq_1, ixS.eq_2, ixL.eq_1, ixL.eq_2, partK.eq_1, partK.eq_2, slK.eq_1, slK.eq_2, slK.eq_3, slK.eq_4, slK.eq_5, slL.eq_1, slL.eq_2, lenLK.eq_1, lenLK.eq_2, mkL.eq_1, mkL.eq_2, isiB.eq_1, isiB.eq_2, isiK.eq_1, isiK.eq_2, frzK.eq_1, frzK.eq_2, frzK.eq_3, rng1K.eq_1, rng1K.eq_2, rng2K.eq_1, rng2K.eq_2, lst1K.eq_1, lst1K.eq_2, zipK.eq_1, zipK.eq_2, sub1K.eq_1, sub1K.eq_2, sub2K.eq_1, sub2K.eq_2, appK.eq_1, appK.eq_2, extK.eq_1, extK.eq_2, pop2K.eq_1, pop2K.eq_2, popK.eq_1, popK.eq_2, lstFK.eq_1, lstFK.eq_2, lisFK.eq_1, lisFK.eq_2, lisF2K.eq_1, lisF2K.eq_2, accK.eq_1, accK.eq_2, dVal, revTK.eq_1, revTK.eq_2, callK.eq_1, callK.eq_2, eqK.eq_1, eqK.eq_2, catK.eq_1, catK.eq_2, cellL.eq_1, cellL.eq_2, cellL.eq_3, okDi, okDb, okDn, eqvi, eqvs, dLstF, dListF, dLc, dYes, wipeE.eq_1, wipeE.eq_2, dFor, fin, finD, wOk.eq_1, wOk.eq_2, cellOk.eq_1, cellOk.eq_2, E0D, dCallP, dCallW, putW, firstRef.eq_1, firstRef.eq_2, firstRef.eq_3, shW.eq_1, shW.eq_2, unW.eq_1, unW.eq_2, inW.eq_1, inW.eq_2, shC.eq_1, shC.eq_2, unC.eq_1, unC.eq_2, inC.eq_1, inC.eq_2, dBreak, at0, at1, at2, at3, atI_last, List.getElem?_cons_zero, List.getElem?_cons_succ, List.getElem?_nil, List.set_cons_zero, List.set_cons_succ, List.map_cons, List.map_nil, List.length_cons, List.length_nil, List.replicate_succ, List.replicate_zero, List.cons_append, List.nil_append, List.append_nil, Option.map_some, Option.map_none, Option.isSome_some, if_true, if_false, ite_true, ite_false, Bool.and_true, Bool.true_and, Bool.and_false, Bool.false_and, Bool.or_true, Bool.or_false, Bool.true_or, Bool.false_or, Bool.not_true, Bool.not_false, true_and, and_true, List.take_succ_cons, List.take_zero, List.take_nil, List.drop_zero, List.drop_succ_cons, List.drop_nil, List.all_cons, List.all_nil, List.any_cons, List.any_nil, List.contains_cons, List.elem_nil, Nat.zero_add, Nat.add_zero, Nat.le_refl, Nat.reduceAdd, Nat.reduceSub, Nat.reduceLT, Nat.reduceLeDiff, Nat.sub_self, Nat.sub_zero, Nat.zero_le, decide_true, decide_false, beq_self_eq_true, Bool.false_eq_true, reduceCtorEq, List.isEmpty_cons, List.isEmpty_nil, List.dropLast_concat, dUn, unK.eq_1, unK.eq_2, dFld, fldK.eq_1, fldK.eq_2, fldK.eq_3, fldC.eq_1, fldC.eq_2, fldW.eq_1, fldW.eq_2, dMake, makK.eq_1, makK.eq_2, fld00, fld01, fld02, lenF0, lenF1, lenF2, get_end, set_end, dMethP, dMethW, isOb.eq_1, isOb.eq_2, isOb.eq_3, isObC.eq_1, isObC.eq_2, dSetF, sfK.eq_1, sfK.eq_2, sfC.eq_1, sfC.eq_2, dFz, fzK.eq_1, fzK.eq_2, fzK.eq_3, fzC.eq_1, fzC.eq_2, fzC.eq_3, dMakeRec, recK.eq_1, recK.eq_2, fld10, fld11, dMatch, dMCase.eq_1, dMCase.eq_2, dMNil, fillE.eq_1, fillE.eq_2, dAug, aug0.eq_1, aug0.eq_2, augK.eq_1, augK.eq_2, fIsiO.eq_1, fIsiO.eq_2, dCallPX, dMethWX, dRaise, raiK.eq_1, raiK.eq_2, dPar, parK.eq_1, parK.eq_2, dPar3, parK3.eq_1, parK3.eq_2, shW0, unW0, unC0, shC0, kbl1, kbl2, kbl3, kbl4, kbl5, kbl6, fInS.eq_1, fInS.eq_2, dAugF, afK.eq_1, afK.eq_2, afC.eq_1, afC.eq_2, afW.eq_1, afW.eq_2, dTry, dAct, dMakeRd, rdrK.eq_1, rdrK.eq_2, dLam4, outK, fld20, fld21, fld22, catF.eq_1, catF.eq_2, dCatF, inK.eq_1, inK.eq_2, fInD, get_end1, set_end1, at4, at5, at6, at7, at8, id])
set_option hygiene false in
local macro_rules | `(tactic| walk_at "s") => `(tactic| simp -implicitDefEqProofs only [dNext, dDrop, dRet, dRetN, dIfS, dAsg, dAsgC, dgName, dgTup.eq_1, dgTup.eq_2, dgCons.eq_1, dgCons.eq_2, dgNil, dgSub, subK.eq_1, subK.eq_2, dVar, dVarF, dC, dOp, fII.eq_1, fII.eq_2, fIIc.eq_1, fIIc.eq_2, fAdd.eq_1, fAdd.eq_2, fAdd.eq_3, fAdd.eq_4, fAdd.eq_5, fAdd.eq_6, fCmp.eq_1, fCmp.eq_2, fCmp.eq_3, fEqD, fIsN.eq_1, fIsN.eq_2, isNon.eq_1, isNon.eq_2, rdV.eq_1, rdV.eq_2, rdV.eq_3, rdL.eq_1, rdL.eq_2, rdL.eq_3, dB, dAnd, dOr, dNot, dTru, dIf, dAndV, dOrV, dNotV, dChain, dNil, dCons, vals.eq_1, vals.eq_2, vals.eq_3, dTup, dLst, fIx.eq_1, fIx.eq_2, fIx.eq_3, fIx.eq_4, fIx.eq_5, dSl, dPart, dNoPart, dCB, fLen.eq_1, fLen.eq_2, fLen.eq_3, fLen.eq_4, fLen.eq_5, fInt.eq_1, fInt.eq_2, fInt.eq_3, fList.eq_1, fList.eq_2, rdS.eq_1, rdS.eq_2, rdS.eq_3, rdS.eq_4, fTup.eq_1, fTup.eq_2, fOrd.eq_1, fOrd.eq_2, fIsi.eq_1, fIsi.eq_2, tyD.eq_1, tyD.eq_2, tyD.eq_3, tyD.eq_4, tyD.eq_5, tyD.eq_6, tyD.eq_7, kb1, kb2, kb3, kb4, kb5, kb6, kb7, kb8, kb9, kb10, kb11, kb12, kb13, kb14, kb15, kb16, kb17, kb18, kb19, kb20, kb21, kb22, kb23, kb24, dSeq, seqK.eq_1, seqK.eq_2, seqK.eq_3, seqK.eq_4, seqK.eq_5, dRng1, dRng2, dRev, lstK.eq_1, lstK.eq_2, lstK.eq_3, dEnum, dZip, dBM, dBM0, fAppend.eq_1, fAppend.eq_2, fExtend.eq_1, fExtend.eq_2, fExtA.eq_1, fExtA.eq_2, fPop.eq_1, fPop.eq_2, dRevT, dRevL, f2I.eq_1, f2I.eq_2, bK.eq_1, bK.eq_2, truK.eq_1, truK.eq_2, truK.eq_3, truK.eq_4, truK.eq_5, truK.eq_6, truK.eq_7, truL.eq_1, truL.eq_2, dispK.eq_1, dispK.eq_2, ixK.eq_1, ixK.eq_2, ixS.eq_1, ixS.eq_2, ixL.eq_1, ixL.eq_2, partK.eq_1, partK.eq_2, slK.eq_1, slK.eq_2, slK.eq_3, slK.eq_4, slK.eq_5, slL.eq_1, slL.eq_2, lenLK.eq_1, lenLK.eq_2, mkL.eq_1, mkL.eq_2, isiB.eq_1, isiB.eq_2, isiK.eq_1, isiK.eq_2, frzK.eq_1, frzK.eq_2, frzK.eq_3, rng1K.eq_1, rng1K.eq_2, rng2K.eq_1, rng2K.eq_2, lst1K.eq_1, lst1K.eq_2, zipK.eq_1, zipK.eq_2, sub1K.eq_1, sub1K.eq_2, sub2K.eq_1, sub2K.eq_2, appK.eq_1, appK.eq_2, extK.eq_1, extK.eq_2, pop2K.eq_1, pop2K.eq_2, popK.eq_1, popK.eq_2, lstFK.eq_1, lstFK.eq_2, lisFK.eq_1, lisFK.eq_2, lisF2K.eq_1, lisF2K.eq_2, accK.eq_1, accK.eq_2, dVal, revTK.eq_1, revTK.eq_2, callK.eq_1, callK.eq_2, eqK.eq_1, eqK.eq_2, catK.eq_1, catK.eq_2, cellL.eq_1, cellL.eq_2, cellL.eq_3, okDi, okDb, okDn, eqvi, eqvs, dLstF, dListF, dLc, dYes, wipeE.eq_1, wipeE.eq_2, dFor, fin, finD, wOk.eq_1, wOk.eq_2, cellOk.eq_1, cellOk.eq_2, E0D, dCallP, dCallW, putW, firstRef.eq_1, firstRef.eq_2, firstRef.eq_3, shW.eq_1, shW.eq_2, unW.eq_1, unW.eq_2, inW.eq_1, inW.eq_2, shC.eq_1, shC.eq_2, unC.eq_1, unC.eq_2, inC.eq_1, inC.eq_2, dBreak, at0, at1, at2, at3, atI_last, List.getElem?_cons_zero, List.getElem?_cons_succ, List.getElem?_nil, List.set_cons_zero, List.set_cons_succ, List.map_cons, List.map_nil, List.length_cons, List.length_nil, List.replicate_succ, List.replicate_zero, List.cons_append, List.nil_append, List.append_nil, Option.map_some, Option.map_none, Option.isSome_some, if_true, if_false, ite_true, ite_false, Bool.and_true, Bool.true_and, Bool.and_false, Bool.false_and, Bool.or_true, Bool.or_false, Bool.true_or, Bool.false_or, Bool.not_true, Bool.not_false, true_and, and_true, List.take_succ_cons, List.take_zero, List.take_nil, List.drop_zero, List.drop_succ_cons, List.drop_nil, List.all_cons, List.all_nil, List.any_cons, List.any_nil, List.contains_cons, List.elem_nil, Nat.zero_add, Nat.add_zero, Nat.le_refl, Nat.reduceAdd, Nat.reduceSub, Nat.reduceLT, Nat.reduceLeDiff, Nat.sub_self, Nat.sub_zero, Nat.zero_le, decide_true, decide_false, beq_self_eq_true, Bool.false_eq_true, reduceCtorEq, List.isEmpty_cons, List.isEmpty_nil, List.dropLast_concat, dUn, unK.eq_1, unK.eq_2, dFld, fldK.eq_1, fldK.eq_2, fldK.eq_3, fldC.eq_1, fldC.eq_2, fldW.eq_1, fldW.eq_2, dMake, makK.eq_1, makK.eq_2, fld00, fld01, fld02, lenF0, lenF1, lenF2, get_end, set_end, dMethP, dMethW, isOb.eq_1, isOb.eq_2, isOb.eq_3, isObC.eq_1, isObC.eq_2, dSetF, sfK.eq_1, sfK.eq_2, sfC.eq_1, sfC.eq_2, dFz, fzK.eq_1, fzK.eq_2, fzK.eq_3, fzC.eq_1, fzC.eq_2, fzC.eq_3, dMakeRec, recK.eq_1, recK.eq_2, fld10, fld11, dMatch, dMCase.eq_1, dMCase.eq_2, dMNil, fillE.eq_1, fillE.eq_2, dAug, aug0.eq_1, aug0.eq_2, augK.eq_1, augK.eq_2, fIsiO.eq_1, fIsiO.eq_2, dCallPX, dMethWX, dRaise, raiK.eq_1, raiK.eq_2, dPar, parK.eq_1, parK.eq_2, dPar3, parK3.eq_1, parK3.eq_2, shW0, unW0, unC0, shC0, kbl1, kbl2, kbl3, kbl4, kbl5, kbl6, fInS.eq_1, fInS.eq_2, dAugF, afK.eq_1, afK.eq_2, afC.eq_1, afC.eq_2, afW.eq_1, afW.eq_2, dTry, dAct, dMakeRd, rdrK.eq_1, rdrK.eq_2, dLam4, outK, fld20, fld21, fld22, catF.eq_1, catF.eq_2, dCatF, inK.eq_1, inK.eq_2, fInD, get_end1, set_end1, at4, at5, at6, at7, at8, id])
set_option hygiene false in
local macro_rules | `(tactic| walk_at "o") => `(tactic| simp -implicitDefEqProofs only [dSeqS, dNext, dDrop, dRet, dRetN, dIfS, dAsg, dAsgC, dgName, dgTup.eq_1, dgTup.eq_2, dgCons.eq_1, dgCons.eq_2, dgNil, dgSub, subK.eq_1, subK.eq_2, dVar, dVarF, dC, dOp, fII.eq_1, fII.eq_2, fIIc.eq_1, fIIc.eq_2, fAdd.eq_1, fAdd.eq_2, fAdd.eq_3, fAdd.eq_4, fAdd.eq_5, fAdd.eq_6, fCmp.eq_1, fCmp.eq_2, fCmp.eq_3, fEqD, fIsN.eq_1, fIsN.eq_2, isNon.eq_1, isNon.eq_2, rdV.eq_1, rdV.eq_2, rdV.eq_3, rdL.eq_1, rdL.eq_2, rdL.eq_3, dB, dAnd, dOr, dNot, dTru, dIf, dAndV, dOrV, dNotV, dChain, dNil, dCons, vals.eq_1, vals.eq_2, vals.eq_3, dTup, dLst, fIx.eq_1, fIx.eq_2, fIx.eq_3, fIx.eq_4, fIx.eq_5, dSl, dPart, dNoPart, dCB, fLen.eq_1, fLen.eq_2, fLen.eq_3, fLen.eq_4, fLen.eq_5, fInt.eq_1, fInt.eq_2, fInt.eq_3, fList.eq_1, fList.eq_2, rdS.eq_1, rdS.eq_2, rdS.eq_3, rdS.eq_4, fTup.eq_1, fTup.eq_2, fOrd.eq_1, fOrd.eq_2, fIsi.eq_1, fIsi.eq_2, tyD.eq_1, tyD.eq_2, tyD.eq_3, tyD.eq_4, tyD.eq_5, tyD.eq_6, tyD.eq_7, kb1, kb2, kb3, kb4, kb5, kb6, kb7, kb8, kb9, kb10, kb11, kb12, kb13, kb14, kb15, kb16, kb17, kb18, kb19, kb20, kb21, kb22, kb23, kb24, dSeq, seqK.eq_1, seqK.eq_2, seqK.eq_3, seqK.eq_4, seqK.eq_5, dRng1, dRng2, dRev, lstK.eq_1, lstK.eq_2, lstK.eq_3, dEnum, dZip, dBM, dBM0, fAppend.eq_1, fAppend.eq_2, fExtend.eq_1, fExtend.eq_2, fExtA.eq_1, fExtA.eq_2, fPop.eq_1, fPop.eq_2, dRevT, dRevL, f2I.eq_1, f2I.eq_2, bK.eq_1, bK.eq_2, truK.eq_1, truK.eq_2, truK.eq_3, truK.eq_4, truK.eq_5, truK.eq_6, truK.eq_7, truL.eq_1, truL.eq_2, dispK.eq_1, dispK.eq_2, ixK.eq_1, ixK.eq_2, ixS.eq_1, ixS.eq_2, ixL.eq_1, ixL.eq_2, partK.eq_1, partK.eq_2, slK.eq_1, slK.eq_2, slK.eq_3, slK.eq_4, slK.eq_5, slL.eq_1, slL.eq_2, lenLK.eq_1, lenLK.eq_2, mkL.eq_1, mkL.eq_2, isiB.eq_1, isiB.eq_2, isiK.eq_1, isiK.eq_2, frzK.eq_1, frzK.eq_2, frzK.eq_3, rng1K.eq_1, rng1K.eq_2, rng2K.eq_1, rng2K.eq_2, lst1K.eq_1, lst1K.eq_2, zipK.eq_1, zipK.eq_2, sub1K.eq_1, sub1K.eq_2, sub2K.eq_1, sub2K.eq_2, appK.eq_1, appK.eq_2, extK.eq_1, extK.eq_2, pop2K.eq_1, pop2K.eq_2, popK.eq_1, popK.eq_2, lstFK.eq_1, lstFK.eq_2, lisFK.eq_1, lisFK.eq_2, lisF2K.eq_1, lisF2K.eq_2, accK.eq_1, accK.eq_2, dVal, revTK.eq_1, revTK.eq_2, callK.eq_1, callK.eq_2, eqK.eq_1, eqK.eq_2, catK.eq_1, catK.eq_2, cellL.eq_1, cellL.eq_2, cellL.eq_3, okDi, okDb, okDn, eqvi, eqvs, dLstF, dListF, dLc, dYes, wipeE.eq_1, wipeE.eq_2, dFor, fin, finD, wOk.eq_1, wOk.eq_2, cellOk.eq_1, cellOk.eq_2, E0D, dCallP, dCallW, putW, firstRef.eq_1, firstRef.eq_2, firstRef.eq_3, shW.eq_1, shW.eq_2, unW.eq_1, unW.eq_2, inW.eq_1, inW.eq_2, shC.eq_1, shC.eq_2, unC.eq_1, unC.eq_2, inC.eq_1, inC.eq_2, dBreak, at0, at1, at2, at3, atI_last, List.getElem?_cons_zero, List.getElem?_cons_succ, List.getElem?_nil, List.set_cons_zero, List.set_cons_succ, List.map_cons, List.map_nil, List.length_cons, List.length_nil, List.replicate_succ, List.replicate_zero, List.cons_append, List.nil_append, List.append_nil, Option.map_some, Option.map_none, Option.isSome_some, if_true, if_false, ite_true, ite_false, Bool.and_true, Bool.true_and, Bool.and_false, Bool.false_and, Bool.or_true, Bool.or_false, Bool.true_or, Bool.false_or, Bool.not_true, Bool.not_false, true_and, and_true, List.take_succ_cons, List.take_zero, List.take_nil, List.drop_zero, List.drop_succ_cons, List.drop_nil, List.all_cons, List.all_nil, List.any_cons, List.any_nil, List.contains_cons, List.elem_nil, Nat.zero_add, Nat.add_zero, Nat.le_refl, Nat.reduceAdd, Nat.reduceSub, Nat.reduceLT, Nat.reduceLeDiff, Nat.sub_self, Nat.sub_zero, Nat.zero_le, decide_true, decide_false, beq_self_eq_true, Bool.false_eq_true, reduceCtorEq, List.isEmpty_cons, List.isEmpty_nil, List.dropLast_concat, dUn, unK.eq_1, unK.eq_2, dFld, fldK.eq_1, fldK.eq_2, fldK.eq_3, fldC.eq_1, fldC.eq_2, fldW.eq_1, fldW.eq_2, dMake, makK.eq_1, makK.eq_2, fld00, fld01, fld02, lenF0, lenF1, lenF2, get_end, set_end, dMethP, dMethW, isOb.eq_1, isOb.eq_2, isOb.eq_3, isObC.eq_1, isObC.eq_2, dSetF, sfK.eq_1, sfK.eq_2, sfC.eq_1, sfC.eq_2, dFz, fzK.eq_1, fzK.eq_2, fzK.eq_3, fzC.eq_1, fzC.eq_2, fzC.eq_3, dMakeRec, recK.eq_1, recK.eq_2, fld10, fld11, dMatch, dMCase.eq_1, dMCase.eq_2, dMNil, fillE.eq_1, fillE.eq_2, dAug, aug0.eq_1, aug0.eq_2, augK.eq_1, augK.eq_2, fIsiO.eq_1, fIsiO.eq_2, dCallPX, dMethWX, dRaise, raiK.eq_1, raiK.eq_2, dPar, parK.eq_1, parK.eq_2, dPar3, parK3.eq_1, parK3.eq_2, shW0, unW0, unC0, shC0, kbl1, kbl2, kbl3, kbl4, kbl5, kbl6, fInS.eq_1, fInS.eq_2, dAugF, afK.eq_1, afK.eq_2, afC.eq_1, afC.eq_2, afW.eq_1, afW.eq_2, dTry, dAct, dMakeRd, rdrK.eq_1, rdrK.eq_2, dLam4, outK, fld20, fld21, fld22, catF.eq_1, catF.eq_2, dCatF, inK.eq_1, inK.eq_2, fInD, get_end1, set_end1, at4, at5, at6, at7, at8, finX, opC, rfD_eq, Opn.win, Opn.ain, Opn.wok, Opn.aok, Opn.rule, isOb_part, no_isE, no_ent, Opn.noO, fld_link, fld_root, fld_open, ix_link0, ix_link1, ix_link2, isi_part, rootD, PT.op, not_false_eq_true, nonE_concat, last_get, dl_concat, shC0', unW0', unC0', id])
set_option hygiene false in
local macro_rules | `(tactic| walk_at "t") => `(tactic| simp -implicitDefEqProofs only [dNext, dDrop, dRet, dRetN, dIfS, dAsg, dAsgC, dgName, dgTup.eq_1, dgTup.eq_2, dgCons.eq_1, dgCons.eq_2, dgNil, dgSub, subK.eq_1, subK.eq_2, dVar, dVarF, dC, dOp, fII.eq_1, fII.eq_2, fIIc.eq_1, fIIc.eq_2, fAdd.eq_1, fAdd.eq_2, fAdd.eq_3, fAdd.eq_4, fAdd.eq_5, fAdd.eq_6, fCmp.eq_1, fCmp.eq_2, fCmp.eq_3, fEqD, fIsN.eq_1, fIsN.eq_2, isNon.eq_1, isNon.eq_2, rdV.eq_1, rdV.eq_2, rdV.eq_3, rdL.eq_1, rdL.eq_2, rdL.eq_3, dB, dAnd, dOr, dNot, dTru, dIf, dAndV, dOrV, dNotV, dChain, dNil, dCons, vals.eq_1, vals.eq_2, vals.eq_3, dTup, dLst, fIx.eq_1, fIx.eq_2, fIx.eq_3, fIx.eq_4, fIx.eq_5, dSl, dPart, dNoPart, dCB, fLen.eq_1, fLen.eq_2, fLen.eq_3, fLen.eq_4, fLen.eq_5, fInt.eq_1, fInt.eq_2, fInt.eq_3, fList.eq_1, fList.eq_2, rdS.eq_1, rdS.eq_2, rdS.eq_3, rdS.eq_4, fTup.eq_1, fTup.eq_2, fOrd.eq_1, fOrd.eq_2, fIsi.eq_1, fIsi.eq_2, tyD.eq_1, tyD.eq_2, tyD.eq_3, tyD.eq_4, tyD.eq_5, tyD.eq_6, tyD.eq_7, kb1, kb2, kb3, kb4, kb5, kb6, kb7, kb8, kb9, kb10, kb11, kb12, kb13, kb14, kb15, kb16, kb17, kb18, kb19, kb20, kb21, kb22, kb23, kb24, dSeq, seqK.eq_1, seqK.eq_2, seqK.eq_3, seqK.eq_4, seqK.eq_5, dRng1, dRng2, dRev, lstK.eq_1, lstK.eq_2, lstK.eq_3, dEnum, dZip, dBM, dBM0, fAppend.eq_1, fAppend.eq_2, fExtend.eq_1, fExtend.eq_2, fExtA.eq_1, fExtA.eq_2, fPop.eq_1, fPop.eq_2, dRevT, dRevL, f2I.eq_1, f2I.eq_2, bK.eq_1, bK.eq_2, truK.eq_1, truK.eq_2, truK.eq_3, truK.eq_4, truK.eq_5, truK.eq_6, truK.eq_7, truL.eq_1, truL.eq_2, dispK.eq_1, dispK.eq_2, ixK.eq_1, ixK.eq_2, ixS.eq_1, ixS.eq_2, ixL.eq_1, ixL.eq_2, partK.eq_1, partK.eq_2, slK.eq_1, slK.eq_2, slK.eq_3, slK.eq_4, slK.eq_5, slL.eq_1, slL.eq_2, lenLK.eq_1, lenLK.eq_2, mkL.eq_1, mkL.eq_2, isiB.eq_1, isiB.eq_2, isiK.eq_1, isiK.eq_2, frzK.eq_1, frzK.eq_2, frzK.eq_3, rng1K.eq_1, rng1K.eq_2, rng2K.eq_1, rng2K.eq_2, lst1K.eq_1, lst1K.eq_2, zipK.eq_1, zipK.eq_2, sub1K.eq_1, sub1K.eq_2, sub2K.eq_1, sub2K.eq_2, appK.eq_1, appK.eq_2, extK.eq_1, extK.eq_2, pop2K.eq_1, pop2K.eq_2, popK.eq_1, popK.eq_2, lstFK.eq_1, lstFK.eq_2, lisFK.eq_1, lisFK.eq_2, lisF2K.eq_1, lisF2K.eq_2, accK.eq_1, accK.eq_2, dVal, revTK.eq_1, revTK.eq_2, callK.eq_1, callK.eq_2, eqK.eq_1, eqK.eq_2, catK.eq_1, catK.eq_2, cellL.eq_1, cellL.eq_2, cellL.eq_3, okDi, okDb, okDn, eqvi, eqvs, dLstF, dListF, dLc, dYes, wipeE.eq_1, wipeE.eq_2, dFor, fin, finD, wOk.eq_1, wOk.eq_2, cellOk.eq_1, cellOk.eq_2, E0D, dCallP, dCallW, putW, firstRef.eq_1, firstRef.eq_2, firstRef.eq_3, shW.eq_1, shW.eq_2, unW.eq_1, unW.eq_2, inW.eq_1, inW.eq_2, shC.eq_1, shC.eq_2, unC.eq_1, unC.eq_2, inC.eq_1, inC.eq_2, dBreak, at0, at1, at2, at3, atI_last, List.getElem?_cons_zero, List.getElem?_cons_succ, List.getElem?_nil, List.set_cons_zero, List.set_cons_succ, List.map_cons, List.map_nil, List.length_cons, List.length_nil, List.replicate_succ, List.replicate_zero, List.cons_append, List.nil_append, List.append_nil, Option.map_some, Option.map_none, Option.isSome_some, if_true, if_false, ite_true, ite_false, Bool.and_true, Bool.true_and, Bool.and_false, Bool.false_and, Bool.or_true, Bool.or_false, Bool.true_or, Bool.false_or, Bool.not_true, Bool.not_false, true_and, and_true, List.take_succ_cons, List.take_zero, List.take_nil, List.drop_zero, List.drop_succ_cons, List.drop_nil, List.all_cons, List.all_nil, List.any_cons, List.any_nil, List.contains_cons, List.elem_nil, Nat.zero_add, Nat.add_zero, Nat.le_refl, Nat.reduceAdd, Nat.reduceSub, Nat.reduceLT, Nat.reduceLeDiff, Nat.sub_self, Nat.sub_zero, Nat.zero_le, decide_true, decide_false, beq_self_eq_true, Bool.false_eq_true, reduceCtorEq, List.isEmpty_cons, List.isEmpty_nil, List.dropLast_concat, dUn, unK.eq_1, unK.eq_2, dFld, fldK.eq_1, fldK.eq_2, fldK.eq_3, fldC.eq_1, fldC.eq_2, fldW.eq_1, fldW.eq_2, dMake, makK.eq_1, makK.eq_2, fld00, fld01, fld02, lenF0, lenF1, lenF2, get_end, set_end, dMethP, dMethW, isOb.eq_1, isOb.eq_2, isOb.eq_3, isObC.eq_1, isObC.eq_2, dSetF, sfK.eq_1, sfK.eq_2, sfC.eq_1, sfC.eq_2, dFz, fzK.eq_1, fzK.eq_2, fzK.eq_3, fzC.eq_1, fzC.eq_2, fzC.eq_3, dMakeRec, recK.eq_1, recK.eq_2, fld10, fld11, dMatch, dMCase.eq_1, dMCase.eq_2, dMNil, fillE.eq_1, fillE.eq_2, dAug, aug0.eq_1, aug0.eq_2, augK.eq_1, augK.eq_2, fIsiO.eq_1, fIsiO.eq_2, dCallPX, dMethWX, dRaise, raiK.eq_1, raiK.eq_2, dPar, parK.eq_1, parK.eq_2, dPar3, parK3.eq_1, parK3.eq_2, shW0, unW0, unC0, shC0, kbl1, kbl2, kbl3, kbl4, kbl5, kbl6, fInS.eq_1, fInS.eq_2, dAugF, afK.eq_1, afK.eq_2, afC.eq_1, afC.eq_2, afW.eq_1, afW.eq_2, dTry, dAct, dMakeRd, rdrK.eq_1, rdrK.eq_2, dLam4, outK, fld20, fld21, fld22, catF.eq_1, catF.eq_2, dCatF, inK.eq_1, inK.eq_2, fInD, get_end1, set_end1, at4, at5, at6, at7, at8, finX, opC, rfD_eq, Opn.win, Opn.ain, Opn.wok, Opn.aok, Opn.rule, isOb_part, no_isE, no_ent, Opn.noO, fld_link, fld_root, fld_open, ix_link0, ix_link1, ix_link2, isi_part, rootD, PT.op, not_false_eq_true, nonE_concat, last_get, dl_concat, shC0', unW0', unC0', id])
abbrev sLaw : Stmt := topS 64
theorem scLaw : FnScope ["script", "state", "rule", "goal", "left", "table", "head", "k", "change", "pair", "extra", "lost", "told"] ["script"] (defScope sLaw) := ⟨rfl, rfl, rfl, by decide +kernel, rfl, by decide +kernel, by decide +kernel⟩
theorem changed_tab {tb : Tab} (h : TabOk tb) {ch : Chg} (hc : ch.Ok) : TabOk (changed tb ch) := ⟨changed_sorted h.1 ch, changed_ok h.2 hc⟩
theorem eqv_pair (a c : Str × List Int) : PyData.eqv (pairD a) (pairD c) = decide (a = c) := by
  show ((a.1 == c.1) && (PyData.eqvAll (a.2.map PyData.int) (c.2.map PyData.int) && true)) = _
  rw [eqv_ints]
  obtain ⟨a1, a2⟩ := a
  obtain ⟨c1, c2⟩ := c
  simp only [Prod.mk.injEq]
  simp only [Bool.and_true, Bool.decide_and]
  rfl
def notIn (g : Tab) (p : Str × List Int) : Bool := !((g.map pairD).any fun z => PyData.eqv z (pairD p))
theorem notIn_f {g : Tab} {p : Str × List Int} (h : notIn g p = false) : p ∈ g := by
  have h2 : ((g.map pairD).any fun z => PyData.eqv z (pairD p)) = true := by
    cases e : (g.map pairD).any fun z => PyData.eqv z (pairD p) with
    | true => rfl
    | false =>
      unfold notIn at h
      rw [e] at h
      cases h
  obtain ⟨z, hz, hv⟩ := List.any_eq_true.mp h2
  obtain ⟨q, hq, rfl⟩ := List.mem_map.mp hz
  rw [eqv_pair] at hv
  rw [← of_decide_eq_true hv]
  exact hq
theorem sub_of {g tb : Tab} (h : tb.filter (notIn g) = []) : ∀ p ∈ tb, p ∈ g := fun p hp => notIn_f (by
  cases e : notIn g p with
  | false => rfl
  | true =>
    have : p ∈ tb.filter (notIn g) := List.mem_filter.mpr ⟨hp, e⟩
    rw [h] at this
    cases this)
/-- tables with the same rows are the same -/
theorem tab_ext : ∀ {xs ys : Tab}, (xs.map (·.1)).Pairwise Lt → (ys.map (·.1)).Pairwise Lt → (∀ p ∈ xs, p ∈ ys) → (∀ p ∈ ys, p ∈ xs) → xs = ys
  | [], [], _, _, _, _ => rfl
  | [], y :: _, _, _, _, h => by cases h y List.mem_cons_self
  | x :: _, [], _, _, h, _ => by cases h x List.mem_cons_self
  | x :: xs, y :: ys, hx, hy, h1, h2 => by
    rw [List.map_cons, List.pairwise_cons] at hx hy
    have lx : ∀ p ∈ xs, Lt x.1 p.1 := fun p hp => hx.1 _ (List.mem_map.mpr ⟨p, hp, rfl⟩)
    have ly : ∀ p ∈ ys, Lt y.1 p.1 := fun p hp => hy.1 _ (List.mem_map.mpr ⟨p, hp, rfl⟩)
    have e : x = y := by
      rcases List.mem_cons.mp (h1 x List.mem_cons_self) with e | hm
      · exact e
      · rcases List.mem_cons.mp (h2 y List.mem_cons_self) with e | hm2
        · exact e.symm
        · exact absurd (lx y hm2) (ly x hm).asym
    subst e
    rw [tab_ext hx.2 hy.2 (fun p hp => ?_) (fun p hp => ?_)]
    · rcases List.mem_cons.mp (h1 p (List.mem_cons_of_mem _ hp)) with e | hm
      · exact absurd (lx p hp) (by rw [e]; exact Lt.irrefl)
      · exact hm
    · rcases List.mem_cons.mp (h2 p (List.mem_cons_of_mem _ hp)) with e | hm
      · exact absurd (ly p hp) (by rw [e]; exact Lt.irrefl)
      · exact hm
theorem erase_mem {α : Type} : ∀ {xs : List α} {n : Nat} {x : α}, x ∈ xs.eraseIdx n → x ∈ xs
  | [], _, _, h => h
  | _ :: _, 0, _, h => List.mem_cons_of_mem _ h
  | y :: xs, n + 1, x, h => by
    rcases List.mem_cons.mp h with e | h
    · rw [e]; exact List.mem_cons_self
    · exact List.mem_cons_of_mem _ (erase_mem h)
theorem erase_len {α : Type} : ∀ (xs : List α) (n : Nat), (xs.eraseIdx n).length ≤ xs.length
  | [], _ => Nat.le_refl _
  | _ :: xs, 0 => Nat.le_succ _
  | y :: xs, n + 1 => Nat.succ_le_succ (erase_len xs n)
theorem erase_map {α β : Type} (f : α → β) : ∀ (xs : List α) (n : Nat), (xs.map f).eraseIdx n = (xs.eraseIdx n).map f
  | [], _ => rfl
  | _ :: xs, 0 => rfl
  | y :: xs, n + 1 => congrArg (f y :: ·) (erase_map f xs n)
theorem seqIx_nat {n j : Nat} (h : j < n) : seqIndex? ((j : Nat) : Int) n = some j := (ixN_seq (by
  unfold ixN
  rw [if_pos (by omega), if_pos (by omega), Int.toNat_natCast])).1
section
variable {P : Program} {w : World} {K : PySem.W.Frag} {mg : Str → Option Value} {base : Heap} {ct : Ct}
theorem ok_Law (D : Def K mg "law" sLaw ["script"]) (D_LRule : Def K mg "_law_rule" sLRule ["state"]) (D_LTable : Def K mg "_law_table" sLTable ["state", "most"]) (D_LTree : Def K mg "_law_tree" sLTree ["rule", "table"]) (D_LSomeKey : Def K mg "_law_some_key" sLSomeKey ["state", "table"]) (D_LDraw : Def K mg "_law_draw" sLDraw ["state", "limit"]) (D_PReadChange : Def K mg "read_change" sPReadChange ["rule", "head", "change", "certificate"]) (D_PCertifiedChange : Def K mg "certified_change" sPCertifiedChange ["rule", "table", "change"]) (D_LChanged : Def K mg "_law_changed" sLChanged ["table", "change"]) (m_len : mg "len" = none) (m_list : mg "list" = none) (m_range : mg "range" = none)
    (G_LRule : FnOk P w K mg base CX0 2 D_LRule.f D_LRule.fd ["state"] (spD ct 1 1 pLRule)) (G_LTable : FnOk P w K mg base CX0 3 D_LTable.f D_LTable.fd ["state", "most"] (spD ct 1 2 pLTable)) (G_LTree : ∀ n, FnOk P w K mg base CX0 (n + 12) D_LTree.f D_LTree.fd ["rule", "table"] (spD ct 0 2 (pLTree n))) (G_LSomeKey : FnOk P w K mg base CX0 3 D_LSomeKey.f D_LSomeKey.fd ["state", "table"] (spD ct 1 2 pLSomeKey)) (G_LDraw : FnOk P w K mg base CX0 1 D_LDraw.f D_LDraw.fd ["state", "limit"] (spD ct 1 2 pLDraw)) (G_PReadChange : FnOk P w K mg base CX0 17 D_PReadChange.f D_PReadChange.fd ["rule", "head", "change", "certificate"] (spD ct 0 4 pPReadChange)) (G_PCertifiedChange : FnOk P w K mg base CX0 16 D_PCertifiedChange.f D_PCertifiedChange.fd ["rule", "table", "change"] (spD ct 0 3 pPCertifiedChange)) (G_LChanged : FnOk P w K mg base CX0 1 D_LChanged.f D_LChanged.fd ["table", "change"] (spD ct 0 2 pLChanged)) : FnOk P w K mg base CX0 230 D.f D.fd ["script"] (spLaw K ct.cl.T) := by
  refine D.F.ok scLaw (fun vs H Q E h => by obtain ⟨a, ns, rfl, _⟩ := h; rfl) (fun cdv A outer s H vs Q E hr h => ⟨_, (pss_cons (psC (ps_set (i := 1) scLaw.nd rfl (.inl rfl) (pe_lst (pa_cons pe_int (pa_cons pe_int (pa_cons (pe_callTy call_listA (by rfl) m_list (by decide +kernel) (pa_cons (pv 0) pa_nil)) (pa_cons pe_int pa_nil))))))) <|
    pss_cons (ps_set (i := 2) scLaw.nd rfl (.inl rfl) (pe_call G_LRule (hr.mono (by omega)) (by rfl) D_LRule.m D_LRule.F.kp D_LRule.b .nil pass0 (pa_cons (pv 1) pa_nil))) <|
    pss_cons (ps_set (i := 3) scLaw.nd rfl (.inr rfl) (pe_call G_LTable (hr.mono (by omega)) (by rfl) D_LTable.m D_LTable.F.kp D_LTable.b .nil pass0 (pa_cons (pv 1) (pa_cons pe_int pa_nil)))) <|
    pss_cons (psC (ps_set (i := 4) scLaw.nd rfl (.inl rfl) (pe_callTy call_listA (by rfl) m_list (by decide +kernel) (pa_cons (pv 3) pa_nil)))) <|
    pss_cons (ps_set (i := 5) scLaw.nd rfl (.inr rfl) (pe_lst pa_nil)) <|
    pss_cons (ps_set (i := 6) scLaw.nd rfl (.inl rfl) (pe_ix ix_seq (pe_call (G_LTree 45) (hr.mono (by omega)) (by rfl) D_LTree.m D_LTree.F.kp D_LTree.b .nil pass0 (pa_cons (pv 2) (pa_cons (pe_lst pa_nil) pa_nil))) pe_int (fun _ _ => rfl))) <|
    pss_cons (ps_for PassesOwn.never rfl (pi_range1 (by rfl) m_range (pa_cons pe_int pa_nil)) (pg_name (i := 7) scLaw.nd rfl (Or.inl rfl))
      (pss_cons (ps_set (i := 8) scLaw.nd rfl (.inl rfl) (pe_tup (pa_cons pe_str (pa_cons (pe_call G_LSomeKey (hr.mono (by omega)) (by rfl) D_LSomeKey.m D_LSomeKey.F.kp D_LSomeKey.b .nil pass0 (pa_cons (pv 1) (pa_cons (pv 5) pa_nil))) pa_nil)))) <|
        pss_cons (ps_if (PW.pt (pw_and (pt_cmpR op_gtA (pe_callB call_lenA (by rfl) m_len (by decide +kernel) (pa_cons (pv 4) pa_nil)) pe_int (nomark _)) (pw_and1 (pt_cmpR op_gtA (pe_call G_LDraw (hr.mono (by omega)) (by rfl) D_LDraw.m D_LDraw.F.kp D_LDraw.b .nil pass0 (pa_cons (pv 1) (pa_cons pe_int pa_nil))) pe_int (nomark _)))))
          (pss_cons (ps_set (i := 9) scLaw.nd rfl (.inl rfl) (pe_bm PySem.F.plainAttrs_list PySem.F.slot_list_pop PySem.F.type_list_pop mt_popAt (pv 4) (pa_cons (pe_call G_LDraw (hr.mono (by omega)) (by rfl) D_LDraw.m D_LDraw.F.kp D_LDraw.b .nil pass0 (pa_cons (pv 1) (pa_cons (pe_callB call_lenA (by rfl) m_len (by decide +kernel) (pa_cons (pv 4) pa_nil)) pa_nil))) pa_nil))) <|
            pss_one (ps_set (i := 8) scLaw.nd rfl (.inl rfl) (pe_tup (pa_cons pe_str (pa_cons (pe_ix ix_seq (pv 9) pe_int (fun _ _ => rfl)) (pa_cons (pe_ix ix_seq (pv 9) pe_int (fun _ _ => rfl)) pa_nil)))))) (pss_one (ps_if (pt_cmpR (op_eqD hr.units) (pe_callB call_lenA (by rfl) m_len (by decide +kernel) (pa_cons (pv 4) pa_nil)) pe_int (nomark _))
              (pss_cons (ps_setLc (i := 10) (own := [("pair", 9)]) (g := (gName 9)) (by rfl) scLaw.nd rfl rfl (sw_true rfl rfl rfl (by decide +kernel)) (pi_seqA (pv 5))
        (blkOk_by (own := [("pair", 9)]) (N := ["script", "state", "rule", "goal", "left", "table", "head", "k", "change", "pair", "extra", "lost", "told"]) (sc := defScope sLaw) (by decide +kernel))
        (fun _ _ _ _ _ => (pg_name (i := 9) scLaw.nd rfl (Or.inl rfl))) (fun _ _ _ _ _ => pts_one (pt_cmpR (op_notInDC (K := K) rfl (hu65 hr)) (pv 9) (pv 3) (by with_unfolding_all rfl)))
        (fun _ _ _ _ _ => (pv 9))) <|
                pss_cons (ps_setLc (i := 11) (own := [("pair", 9)]) (g := (gName 9)) (by rfl) scLaw.nd rfl rfl (sw_true rfl rfl rfl (by decide +kernel)) (pi_seqA (pv 3))
        (blkOk_by (own := [("pair", 9)]) (N := ["script", "state", "rule", "goal", "left", "table", "head", "k", "change", "pair", "extra", "lost", "told"]) (sc := defScope sLaw) (by decide +kernel))
        (fun _ _ _ _ _ => (pg_name (i := 9) scLaw.nd rfl (Or.inl rfl))) (fun _ _ _ _ _ => pts_one (pt_cmpR (op_notInDC (K := K) rfl (hu65 hr)) (pv 9) (pv 5) (by with_unfolding_all rfl)))
        (fun _ _ _ _ _ => (pv 9))) <|
                pss_one (ps_if (PW.pt (pw_and (pt_cmpR op_gtA (pe_callB call_lenA (by rfl) m_len (by decide +kernel) (pa_cons (pv 10) pa_nil)) pe_int (nomark _)) (pw_and1 (pt_cmpR (op_eqD hr.units) (pe_callB call_lenA (by rfl) m_len (by decide +kernel) (pa_cons (pv 11) pa_nil)) pe_int (nomark _)))))
                  (pss_one (ps_set (i := 8) scLaw.nd rfl (.inl rfl) (pe_tup (pa_cons pe_str (pa_cons (pe_ix ix_seq (pe_ix ix_seq (pv 10) pe_int (fun _ _ => rfl)) pe_int (fun _ _ => rfl)) pa_nil))))) (pss_one (ps_if (pt_cmpR op_gtA (pe_callB call_lenA (by rfl) m_len (by decide +kernel) (pa_cons (pv 11) pa_nil)) pe_int (nomark _))
                      (pss_one (ps_set (i := 8) scLaw.nd rfl (.inl rfl) (pe_tup (pa_cons pe_str (pa_cons (pe_ix ix_seq (pe_ix ix_seq (pv 11) pe_int (fun _ _ => rfl)) pe_int (fun _ _ => rfl)) (pa_cons (pe_ix ix_seq (pe_ix ix_seq (pv 11) pe_int (fun _ _ => rfl)) pe_int (fun _ _ => rfl)) pa_nil)))))) (pss_one (ps_ret (pe_cmpR (op_eqD hr.units) (pv 6) (pe_ix ix_seq (pe_call (G_LTree 45) (hr.mono (by omega)) (by rfl) D_LTree.m D_LTree.F.kp D_LTree.b .nil pass0 (pa_cons (pv 2) (pa_cons (pv 3) pa_nil))) pe_int (fun _ _ => rfl)) (nomark _)))))))) pss_nil))) <|
        pss_cons (ps_set (i := 12) scLaw.nd rfl (.inl rfl) (pe_call G_PReadChange (hr.mono (by omega)) (by rfl) D_PReadChange.m D_PReadChange.F.kp D_PReadChange.b .nil pass0 (pa_cons (pv 2) (pa_cons (pv 6) (pa_cons (pv 8) (pa_cons (pe_ix ix_seq (pe_call G_PCertifiedChange (hr.mono (by omega)) (by rfl) D_PCertifiedChange.m D_PCertifiedChange.F.kp D_PCertifiedChange.b .nil pass0 (pa_cons (pv 2) (pa_cons (pe_callTy call_listA (by rfl) m_list (by decide +kernel) (pa_cons (pv 5) pa_nil)) (pa_cons (pv 8) pa_nil)))) pe_int (fun _ _ => rfl)) pa_nil)))))) <|
        pss_cons (ps_set (i := 5) scLaw.nd rfl (.inr rfl) (pe_call G_LChanged (hr.mono (by omega)) (by rfl) D_LChanged.m D_LChanged.F.kp D_LChanged.b .nil pass0 (pa_cons (pv 5) (pa_cons (pv 8) pa_nil)))) <|
        pss_cons (ps_if (pt_cmpR (op_neD hr.units) (pv 12) (pe_tup (pa_cons pe_str (pa_cons (pe_ix ix_seq (pe_call (G_LTree 45) (hr.mono (by omega)) (by rfl) D_LTree.m D_LTree.F.kp D_LTree.b .nil pass0 (pa_cons (pv 2) (pa_cons (pv 5) pa_nil))) pe_int (fun _ _ => rfl)) pa_nil))) (nomark _))
          (pss_one (ps_ret pe_bl)) pss_nil) <|
        pss_one (ps_set (i := 6) scLaw.nd rfl (.inl rfl) (pe_ix ix_seq (pv 12) pe_int (fun _ _ => rfl))))) <|
    pss_one (ps_ret pe_bl)), law_body (ct := ct) (N := ["script", "state", "rule", "goal", "left", "table", "head", "k", "change", "pair", "extra", "lost", "told"]) inferInstance (by decide) (fun ns hns => ?_) h⟩)
  walk_at "t"
  refine dSeq_go ?_
  walk_at "t"
  refine ⟨_, rfl, rfl, st0_ok ns, fun b m l1 hr s1 => ?_⟩
  walk_at "t"
  refine dSeq_go ?_
  walk_at "t"
  refine ⟨9, l1, rfl, rfl, s1, by decide, by decide, fun gl l2 hgl hlen s2 => ?_⟩
  walk_at "t"
  refine dSeq_go ?_
  walk_at "t"
  refine dSeq_go ?_
  walk_at "t"
  refine dSeq_go ?_
  walk_at "t"
  refine ⟨b, m, [], rfl, hr, fun p hp => (by cases hp), by decide, by decide, ?_⟩
  obtain ⟨r, et⟩ := treeD_head b m (treeOf [])
  rw [et]
  walk_at "t"
  refine dSeq_go ?_
  walk_at "t"
  refine ⟨by decide, by decide, ?_⟩
  refine dForGo_range (Int.toNat 30) (fun i E C => ∃ (l : List PyData) (ls tb : Tab) (y7 y8 y9 y10 y11 y12 : Option W), StL l ∧ KeysOk ls ∧ ls.length ≤ 9 ∧ TabOk tb ∧ tb.length ≤ i ∧ C = [.lst l, .lst (ls.map pairD)] ∧ E = [none, some (.ref 0), some (.val (ruleD b m)), some (.val (tabD gl)), some (.ref 1), some (.val (tabD tb)), some (.val (linkD (headL b m tb))), y7, y8, y9, y10, y11, y12]) ?_ ?_ ⟨l2, gl, [], _, _, _, _, _, _, s2, hgl.keys, by omega, ⟨.nil, fun p hp => by cases hp⟩, Nat.le_refl _, rfl, rfl⟩
  · rintro k E C hk ⟨l, ls, tb, y7, y8, y9, y10, y11, y12, s, hls, hll, htb, htl, rfl, rfl⟩ N hN
    have hk : k < 30 := hk
    walk_at "t"
    refine dSeq_go ?_
    walk_at "t"
    refine ⟨l, tb, rfl, rfl, s, htb.keys, by omega, fun k0 l4 hk0 s4 => ?_⟩
    walk_at "t"
    refine ⟨by decide, ?_⟩
    refine dSeq_cut (fun E C => ∃ (l : List PyData) (ls : Tab) (ch : Chg) (y9 y10 y11 : Option W), StL l ∧ KeysOk ls ∧ ls.length ≤ 9 ∧ ch.Ok ∧ C = [.lst l, .lst (ls.map pairD)] ∧ E = [none, some (.ref 0), some (.val (ruleD b m)), some (.val (tabD gl)), some (.ref 1), some (.val (tabD tb)), some (.val (linkD (headL b m tb))), some (.val (.int (0 + (k : Nat)))), some (.val (chgD ch)), y9, y10, y11, y12]) (fun M hM => ?_) ?_
    · walk_at "t"
      rw [List.length_map]
      have keep : ∀ (l' : List PyData) (z9 z10 z11 : Option W), StL l' → M [none, some (.ref 0), some (.val (ruleD b m)), some (.val (tabD gl)), some (.ref 1), some (.val (tabD tb)), some (.val (linkD (headL b m tb))), some (.val (.int (0 + (k : Nat)))), some (.val (.tuple [.str "remove", .str k0])), z9, z10, z11, y12] [.lst l', .lst (ls.map pairD)] := fun l' z9 z10 z11 h => hM _ _ ⟨l', ls, .rem k0, _, _, _, h, hls, hll, hk0, rfl, rfl⟩
      refine ifd (fun hpos => ?_) (fun hz => ?_)
      · refine ⟨4, l4, rfl, rfl, s4, by decide, by decide, fun c l5 c0 c1 s5 => ?_⟩
        walk_at "t"
        refine ifd (fun hc => ?_) (fun hc => ?_)
        · refine dSeq_go ?_
          walk_at "t"
          rw [List.length_map]
          refine ⟨_, l5, rfl, rfl, s5, hpos, by omega, fun a l6 a0 a1 s6 => ?_⟩
          obtain ⟨j, p, rfl, hj, hpm⟩ := draw_in a0 a1
          have hjl : j < ls.length := (List.getElem?_eq_some_iff.mp hj).1
          (try walk_at "t")
          refine ⟨by omega, by omega, j, pairD p, seqIx_nat (by rw [List.length_map]; exact hjl), by rw [List.getElem?_map, hj]; rfl, ?_⟩
          rw [erase_map]
          unfold pairD
          walk_at "t"
          have he := erase_len ls j
          exact ⟨by decide, hM _ _ ⟨l6, ls.eraseIdx j, .put p.1 p.2, _, _, _, s6, fun q hq => hls q (erase_mem hq), by omega, hls p hpm, rfl, rfl⟩⟩
        · rw [List.length_map]
          refine ifd (fun z => False.elim (by omega)) (fun _ => keep _ _ _ _ s5)
      · refine ifd (fun _ => ?_) (fun z => absurd (show ((ls.length : Nat) : Int) = 0 by omega) z)
        refine dSeq_go ?_
        walk_at "t"
        have okt : okD (.list (tb.map pairD)) := okD_tb htb.keys
        have okg : okD (.list (gl.map pairD)) := okD_tb hgl.keys
        have okp : ∀ p : Str × List Int, KeyOk p.1 → okD (pairD p) := fun p h => (Sh.pair (n := 0) h).ok (by decide)
        refine dLcGo_over pairD (notIn gl) pairD tb [] (big2 (by show 0 + _ ≤ _; omega)) (fun p hp K L h1 h2 => ?_) ?_
        · unfold notIn at h1 h2
          walk_at "t"
          refine ⟨okp p (htb.keys p hp).1, okg, ?_⟩
          split
          · rename_i z
            exact h1 z
          · rename_i z
            exact h2 (Bool.eq_false_iff.mpr z)
        rw [List.nil_append]
        generalize hex : tb.filter (notIn gl) = ex
        have exm : ∀ p ∈ ex, p ∈ tb := fun p hp => by
          rw [← hex] at hp
          exact (List.mem_filter.mp hp).1
        refine dSeq_go ?_
        walk_at "t"
        refine dLcGo_over pairD (notIn tb) pairD gl [] (big2 (by show 0 + _ ≤ _; omega)) (fun p hp K L h1 h2 => ?_) ?_
        · unfold notIn at h1 h2
          walk_at "t"
          refine ⟨okp p (hgl.keys p hp).1, okt, ?_⟩
          split
          · rename_i z
            exact h1 z
          · rename_i z
            exact h2 (Bool.eq_false_iff.mpr z)
        rw [List.nil_append]
        generalize hlo : gl.filter (notIn tb) = lo
        have lom : ∀ p ∈ lo, p ∈ gl := fun p hp => by
          rw [← hlo] at hp
          exact (List.mem_filter.mp hp).1
        rw [List.length_map, List.length_map]
        refine ifd (fun hx => ?_) (fun hx => ?_)
        refine ifd (fun hl => ?_) (fun hl => ?_)
        · cases ex with
          | nil => exact absurd hx (by decide)
          | cons p ps =>
            have hpk := (htb.keys p (exm p List.mem_cons_self)).1
            rw [List.map_cons]
            unfold pairD
            walk_at "t"
            exact ⟨by decide, hM _ _ ⟨l4, ls, .rem p.1, _, _, _, s4, hls, hll, hpk, rfl, rfl⟩⟩
        all_goals
          refine ifd (fun hl2 => ?_) (fun hl2 => ?_)
          · cases lo with
            | nil => exact absurd hl2 (by decide)
            | cons p ps =>
              have hpk := hgl.keys p (lom p List.mem_cons_self)
              rw [List.map_cons]
              unfold pairD
              walk_at "t"
              exact ⟨by decide, hM _ _ ⟨l4, ls, .put p.1 p.2, _, _, _, s4, hls, hll, hpk, rfl, rfl⟩⟩
          · have e1 : ex = [] := List.eq_nil_of_length_eq_zero (by omega)
            have e2 : lo = [] := List.eq_nil_of_length_eq_zero (by omega)
            rw [e1] at hex
            rw [e2] at hlo
            have e3 : tb = gl := tab_ext htb.1 hgl.1 (sub_of hex) (sub_of hlo)
            refine ⟨b, m, gl, rfl, hr, hgl.fit, by omega, by omega, ?_⟩
            obtain ⟨r3, et3⟩ := treeD_head b m (treeOf gl)
            rw [et3]
            walk_at "t"
            refine ⟨okD_link _, okD_link _, ?_⟩
            rw [e3]
            have e4 : PyData.eqv (linkD (headL b m gl)) (linkD ((treeOf gl).lnk b m)) = true := eqvR (okD_link _)
            rw [e4]
            rfl
    · rintro E C ⟨l5, ls5, ch, y9, y10, y11, s5, hls5, hll5, hc, rfl, rfl⟩
      have hct := changed_tab htb hc
      have hcl := changed_len tb ch
      refine dSeq_go ?_
      walk_at "t"
      refine ⟨b, m, tb, ch, rfl, hr, htb, by omega, hc, fun es hes hel => ?_⟩
      walk_at "t"
      refine readc_go hr hc hes (by omega) ?_
      refine dSeq_go ?_
      walk_at "t"
      refine ⟨tb, ch, rfl, by omega, htb.keys, hc, ?_⟩
      walk_at "t"
      refine dSeq_go ?_
      walk_at "t"
      refine ⟨b, m, changed tb ch, rfl, hr, hct.fit, by omega, by omega, ?_⟩
      obtain ⟨r2, et2⟩ := treeD_head b m (treeOf (changed tb ch))
      rw [et2]
      walk_at "t"
      have okh : okD (.tuple [.str "head", linkD (headL b m (changed tb ch))]) := (Sh.tuple (n := 4) fun x hx => by
        simp only [List.mem_cons, List.not_mem_nil, or_false] at hx
        rcases hx with z | z <;> rw [z]
        · exact Sh.str (asciiQ (by decide +kernel))
        · exact Sh.link _).ok (by decide)
      refine ⟨by decide, neq_go okh ?_⟩
      (try walk_at "t")
      exact hN _ _ ⟨l5, ls5, _, _, _, _, _, _, _, s5, hls5, hll5, hct, by omega, rfl, rfl⟩
  · rintro E C ⟨l, ls, tb, y7, y8, y9, y10, y11, y12, s, hls, hll, htb, htl, rfl, rfl⟩
    walk_at "t"
    rfl
end

set_option maxHeartbeats 0 in
theorem all_mk {l : PySem.W.OpenLaw} {w : World} {K : PySem.W.Frag} {h : Heap} {mg : Str → Option Value} {fa f1 f2 f3 f4 f5 f6 f7 f8 f9 f10 f11 f12 f13 f14 f15 f16 f17 f18 f19 f20 f21 f22 f23 f24 f25 f26 f27 f28 f29 f30 f31 f32 f33 f34 f35 f36 f37 f38 f39 f40 f41 f42 f43 f44 f45 f46 f47 f48 f49 f50 f51 f52 f53 f54 f55 f56 C_Part C_Recorder C_Reader C_Refused cT_read_change PT_read_change : Addr} (X : K.In h) (G : h.Ns mainGlobals mg) (hfa : mg "law" = some (.ref fa))
    {od1 an1 od2 an2 od3 an3 od4 an4 od5 an5 od6 an6 od7 an7 od8 an8 od9 an9 od10 an10 od11 an11 od12 an12 od13 an13 od14 an14 od15 an15 od16 an16 od17 an17 od18 an18 od19 an19 od20 an20 od21 an21 od22 an22 od23 an23 od24 an24 od25 an25 od26 an26 od27 an27 od28 an28 od29 an29 od30 an30 od31 an31 od32 an32 od33 an33 od34 an34 od35 an35 od36 an36 od37 an37 od38 an38 od39 an39 od40 an40 od41 an41 od42 an42 od43 an43 od44 an44 od45 an45 od46 an46 od47 an47 od48 an48 od49 an49 od50 an50 od51 an51 od52 an52 od53 an53 od54 an54 od55 an55 od56 an56 : Option Addr} {sl1 sl2 sl3 sl4 sl5 sl6 sl7 sl8 sl9 sl10 sl11 sl12 sl13 sl14 sl15 sl16 sl17 sl18 sl19 sl20 sl21 sl22 sl23 sl24 sl25 sl26 sl27 sl28 sl29 sl30 sl31 sl32 sl33 sl34 sl35 sl36 sl37 sl38 sl39 sl40 sl41 sl42 sl43 sl44 sl45 sl46 sl47 sl48 sl49 sl50 sl51 sl52 sl53 sl54 sl55 sl56 : Array (Option Value)} {oc1 kV1 dc1 pm1 cd1 ct1 oc2 kV2 dc2 pm2 cd2 ct2 oc3 kV3 dc3 pm3 cd3 ct3 oc4 kV4 dc4 pm4 cd4 ct4 oc5 kV5 dc5 pm5 cd5 ct5 oc6 kV6 dc6 pm6 cd6 ct6 oc7 kV7 dc7 pm7 cd7 ct7 oc8 kV8 dc8 pm8 cd8 ct8 oc9 kV9 dc9 pm9 cd9 ct9 oc10 kV10 dc10 pm10 cd10 ct10 oc11 kV11 dc11 pm11 cd11 ct11 oc12 kV12 dc12 pm12 cd12 ct12 oc13 kV13 dc13 pm13 cd13 ct13 oc14 kV14 dc14 pm14 cd14 ct14 oc15 kV15 dc15 pm15 cd15 ct15 oc16 kV16 dc16 pm16 cd16 ct16 oc17 kV17 dc17 pm17 cd17 ct17 oc18 kV18 dc18 pm18 cd18 ct18 oc19 kV19 dc19 pm19 cd19 ct19 oc20 kV20 dc20 pm20 cd20 ct20 oc21 kV21 dc21 pm21 cd21 ct21 oc22 kV22 dc22 pm22 cd22 ct22 oc23 kV23 dc23 pm23 cd23 ct23 oc24 kV24 dc24 pm24 cd24 ct24 oc25 kV25 dc25 pm25 cd25 ct25 oc26 kV26 dc26 pm26 cd26 ct26 oc27 kV27 dc27 pm27 cd27 ct27 oc28 kV28 dc28 pm28 cd28 ct28 oc29 kV29 dc29 pm29 cd29 ct29 oc30 kV30 dc30 pm30 cd30 ct30 oc31 kV31 dc31 pm31 ct31 oc32 kV32 dc32 pm32 cd32 ct32 oc33 kV33 dc33 pm33 cd33 ct33 oc34 kV34 dc34 pm34 cd34 ct34 oc35 kV35 dc35 pm35 cd35 ct35 oc36 kV36 dc36 pm36 cd36 ct36 oc37 kV37 dc37 pm37 cd37 ct37 oc38 kV38 dc38 pm38 cd38 ct38 oc39 kV39 dc39 pm39 cd39 ct39 oc40 kV40 dc40 pm40 cd40 ct40 oc41 kV41 dc41 pm41 cd41 ct41 oc42 kV42 dc42 pm42 cd42 ct42 oc43 kV43 dc43 pm43 cd43 ct43 oc44 kV44 dc44 pm44 cd44 ct44 oc45 kV45 dc45 pm45 cd45 ct45 oc46 kV46 dc46 pm46 cd46 ct46 oc47 kV47 dc47 pm47 cd47 ct47 oc48 kV48 dc48 pm48 cd48 ct48 oc49 kV49 dc49 pm49 cd49 ct49 oc50 kV50 dc50 pm50 cd50 ct50 oc51 kV51 dc51 pm51 cd51 ct51 oc52 kV52 dc52 pm52 cd52 ct52 oc53 kV53 dc53 pm53 cd53 ct53 oc54 kV54 dc54 pm54 cd54 ct54 oc55 kV55 dc55 pm55 cd55 ct55 oc56 kV56 dc56 pm56 cd56 ct56 : Value}
    (a1 : PySem.W.nsIn K mainGlobals "has_key_signs" = some (some (.ref f1)))
    (l1 : K.lookup f1 = some ⟨oc1, od1, .func (PySem.W.fnOf "has_key_signs" "has_key_signs" (defArgs sPHasKeySigns) (defBody sPHasKeySigns) (defScope sPHasKeySigns) .none kV1 dc1 pm1 an1 cd1 ct1), sl1⟩) (e1 : PySem.W.codeIn K cd1 "has_key_signs" = true) (k1 : PySem.W.keepIn K (.ref f1) = true)
    (a2 : PySem.W.nsIn K mainGlobals "is_key" = some (some (.ref f2)))
    (l2 : K.lookup f2 = some ⟨oc2, od2, .func (PySem.W.fnOf "is_key" "is_key" (defArgs sPIsKey) (defBody sPIsKey) (defScope sPIsKey) .none kV2 dc2 pm2 an2 cd2 ct2), sl2⟩) (e2 : PySem.W.codeIn K cd2 "is_key" = true) (k2 : PySem.W.keepIn K (.ref f2) = true)
    (a3 : PySem.W.nsIn K mainGlobals "is_row" = some (some (.ref f3)))
    (l3 : K.lookup f3 = some ⟨oc3, od3, .func (PySem.W.fnOf "is_row" "is_row" (defArgs sPIsRow) (defBody sPIsRow) (defScope sPIsRow) .none kV3 dc3 pm3 an3 cd3 ct3), sl3⟩) (e3 : PySem.W.codeIn K cd3 "is_row" = true) (k3 : PySem.W.keepIn K (.ref f3) = true)
    (a4 : PySem.W.nsIn K mainGlobals "column_of" = some (some (.ref f4)))
    (l4 : K.lookup f4 = some ⟨oc4, od4, .func (PySem.W.fnOf "column_of" "column_of" (defArgs sPColumnOf) (defBody sPColumnOf) (defScope sPColumnOf) .none kV4 dc4 pm4 an4 cd4 ct4), sl4⟩) (e4 : PySem.W.codeIn K cd4 "column_of" = true) (k4 : PySem.W.keepIn K (.ref f4) = true)
    (a5 : PySem.W.nsIn K mainGlobals "encode" = some (some (.ref f5)))
    (l5 : K.lookup f5 = some ⟨oc5, od5, .func (PySem.W.fnOf "encode" "encode" (defArgs sPEncode) (defBody sPEncode) (defScope sPEncode) .none kV5 dc5 pm5 an5 cd5 ct5), sl5⟩) (e5 : PySem.W.codeIn K cd5 "encode" = true) (k5 : PySem.W.keepIn K (.ref f5) = true)
    (a6 : PySem.W.nsIn K mainGlobals "digest" = some (some (.ref f6)))
    (l6 : K.lookup f6 = some ⟨oc6, od6, .func (PySem.W.fnOf "digest" "digest" (defArgs sPDigest) (defBody sPDigest) (defScope sPDigest) .none kV6 dc6 pm6 an6 cd6 ct6), sl6⟩) (e6 : PySem.W.codeIn K cd6 "digest" = true) (k6 : PySem.W.keepIn K (.ref f6) = true)
    (a7 : PySem.W.nsIn K mainGlobals "is_number" = some (some (.ref f7)))
    (l7 : K.lookup f7 = some ⟨oc7, od7, .func (PySem.W.fnOf "is_number" "is_number" (defArgs sPIsNumber) (defBody sPIsNumber) (defScope sPIsNumber) .none kV7 dc7 pm7 an7 cd7 ct7), sl7⟩) (e7 : PySem.W.codeIn K cd7 "is_number" = true) (k7 : PySem.W.keepIn K (.ref f7) = true)
    (a8 : PySem.W.nsIn K mainGlobals "are_numbers" = some (some (.ref f8)))
    (l8 : K.lookup f8 = some ⟨oc8, od8, .func (PySem.W.fnOf "are_numbers" "are_numbers" (defArgs sPAreNumbers) (defBody sPAreNumbers) (defScope sPAreNumbers) .none kV8 dc8 pm8 an8 cd8 ct8), sl8⟩) (e8 : PySem.W.codeIn K cd8 "are_numbers" = true) (k8 : PySem.W.keepIn K (.ref f8) = true)
    (a9 : PySem.W.nsIn K mainGlobals "is_link" = some (some (.ref f9)))
    (l9 : K.lookup f9 = some ⟨oc9, od9, .func (PySem.W.fnOf "is_link" "is_link" (defArgs sPIsLink) (defBody sPIsLink) (defScope sPIsLink) .none kV9 dc9 pm9 an9 cd9 ct9), sl9⟩) (e9 : PySem.W.codeIn K cd9 "is_link" = true) (k9 : PySem.W.keepIn K (.ref f9) = true)
    (a10 : PySem.W.nsIn K mainGlobals "is_entry" = some (some (.ref f10)))
    (l10 : K.lookup f10 = some ⟨oc10, od10, .func (PySem.W.fnOf "is_entry" "is_entry" (defArgs sPIsEntry) (defBody sPIsEntry) (defScope sPIsEntry) .none kV10 dc10 pm10 an10 cd10 ct10), sl10⟩) (e10 : PySem.W.codeIn K cd10 "is_entry" = true) (k10 : PySem.W.keepIn K (.ref f10) = true)
    (a11 : PySem.W.nsIn K mainGlobals "entry_digest" = some (some (.ref f11)))
    (l11 : K.lookup f11 = some ⟨oc11, od11, .func (PySem.W.fnOf "entry_digest" "entry_digest" (defArgs sPEntryDigest) (defBody sPEntryDigest) (defScope sPEntryDigest) .none kV11 dc11 pm11 an11 cd11 ct11), sl11⟩) (e11 : PySem.W.codeIn K cd11 "entry_digest" = true) (k11 : PySem.W.keepIn K (.ref f11) = true)
    (a12 : PySem.W.nsIn K mainGlobals "entry_link" = some (some (.ref f12)))
    (l12 : K.lookup f12 = some ⟨oc12, od12, .func (PySem.W.fnOf "entry_link" "entry_link" (defArgs sPEntryLink) (defBody sPEntryLink) (defScope sPEntryLink) .none kV12 dc12 pm12 an12 cd12 ct12), sl12⟩) (e12 : PySem.W.codeIn K cd12 "entry_link" = true) (k12 : PySem.W.keepIn K (.ref f12) = true)
    (a13 : PySem.W.nsIn K mainGlobals "empty_link" = some (some (.ref f13)))
    (l13 : K.lookup f13 = some ⟨oc13, od13, .func (PySem.W.fnOf "empty_link" "empty_link" (defArgs sPEmptyLink) (defBody sPEmptyLink) (defScope sPEmptyLink) .none kV13 dc13 pm13 an13 cd13 ct13), sl13⟩) (e13 : PySem.W.codeIn K cd13 "empty_link" = true) (k13 : PySem.W.keepIn K (.ref f13) = true)
    (a14 : PySem.W.nsIn K mainGlobals "rank" = some (some (.ref f14)))
    (l14 : K.lookup f14 = some ⟨oc14, od14, .func (PySem.W.fnOf "rank" "rank" (defArgs sPRank) (defBody sPRank) (defScope sPRank) .none kV14 dc14 pm14 an14 cd14 ct14), sl14⟩) (e14 : PySem.W.codeIn K cd14 "rank" = true) (k14 : PySem.W.keepIn K (.ref f14) = true)
    (a15 : PySem.W.nsIn K mainGlobals "stands_above" = some (some (.ref f15)))
    (l15 : K.lookup f15 = some ⟨oc15, od15, .func (PySem.W.fnOf "stands_above" "stands_above" (defArgs sPStandsAbove) (defBody sPStandsAbove) (defScope sPStandsAbove) .none kV15 dc15 pm15 an15 cd15 ct15), sl15⟩) (e15 : PySem.W.codeIn K cd15 "stands_above" = true) (k15 : PySem.W.keepIn K (.ref f15) = true)
    (a16 : PySem.W.nsIn K mainGlobals "linked_part" = some (some (.ref f16)))
    (l16 : K.lookup f16 = some ⟨oc16, od16, .func (PySem.W.fnOf "linked_part" "linked_part" (defArgs sPLinkedPart) (defBody sPLinkedPart) (defScope sPLinkedPart) .none kV16 dc16 pm16 an16 cd16 ct16), sl16⟩) (e16 : PySem.W.codeIn K cd16 "linked_part" = true) (k16 : PySem.W.keepIn K (.ref f16) = true)
    (a17 : PySem.W.nsIn K mainGlobals "empty_part" = some (some (.ref f17)))
    (l17 : K.lookup f17 = some ⟨oc17, od17, .func (PySem.W.fnOf "empty_part" "empty_part" (defArgs sPEmptyPart) (defBody sPEmptyPart) (defScope sPEmptyPart) .none kV17 dc17 pm17 an17 cd17 ct17), sl17⟩) (e17 : PySem.W.codeIn K cd17 "empty_part" = true) (k17 : PySem.W.keepIn K (.ref f17) = true)
    (a18 : PySem.W.nsIn K mainGlobals "rooted_part" = some (some (.ref f18)))
    (l18 : K.lookup f18 = some ⟨oc18, od18, .func (PySem.W.fnOf "rooted_part" "rooted_part" (defArgs sPRootedPart) (defBody sPRootedPart) (defScope sPRootedPart) .none kV18 dc18 pm18 an18 cd18 ct18), sl18⟩) (e18 : PySem.W.codeIn K cd18 "rooted_part" = true) (k18 : PySem.W.keepIn K (.ref f18) = true)
    (a19 : PySem.W.nsIn K mainGlobals "completed" = some (some (.ref f19)))
    (l19 : K.lookup f19 = some ⟨oc19, od19, .func (PySem.W.fnOf "completed" "completed" (defArgs sPCompleted) (defBody sPCompleted) (defScope sPCompleted) .none kV19 dc19 pm19 an19 cd19 ct19), sl19⟩) (e19 : PySem.W.codeIn K cd19 "completed" = true) (k19 : PySem.W.keepIn K (.ref f19) = true)
    (a20 : PySem.W.nsIn K mainGlobals "tree_of" = some (some (.ref f20)))
    (l20 : K.lookup f20 = some ⟨oc20, od20, .func (PySem.W.fnOf "tree_of" "tree_of" (defArgs sPTreeOf) (defBody sPTreeOf) (defScope sPTreeOf) .none kV20 dc20 pm20 an20 cd20 ct20), sl20⟩) (e20 : PySem.W.codeIn K cd20 "tree_of" = true) (k20 : PySem.W.keepIn K (.ref f20) = true)
    (a21 : PySem.W.nsIn K mainGlobals "fault_of" = some (some (.ref f21)))
    (l21 : K.lookup f21 = some ⟨oc21, od21, .func (PySem.W.fnOf "fault_of" "fault_of" (defArgs sPFaultOf) (defBody sPFaultOf) (defScope sPFaultOf) .none kV21 dc21 pm21 an21 cd21 ct21), sl21⟩) (e21 : PySem.W.codeIn K cd21 "fault_of" = true) (k21 : PySem.W.keepIn K (.ref f21) = true)
    (a22 : PySem.W.nsIn K mainGlobals "way_on" = some (some (.ref f22)))
    (l22 : K.lookup f22 = some ⟨oc22, od22, .func (PySem.W.fnOf "way_on" "way_on" (defArgs sPWayOn) (defBody sPWayOn) (defScope sPWayOn) .none kV22 dc22 pm22 an22 cd22 ct22), sl22⟩) (e22 : PySem.W.codeIn K cd22 "way_on" = true) (k22 : PySem.W.keepIn K (.ref f22) = true)
    (a23 : PySem.W.nsIn K mainGlobals "way_to" = some (some (.ref f23)))
    (l23 : K.lookup f23 = some ⟨oc23, od23, .func (PySem.W.fnOf "way_to" "way_to" (defArgs sPWayTo) (defBody sPWayTo) (defScope sPWayTo) .none kV23 dc23 pm23 an23 cd23 ct23), sl23⟩) (e23 : PySem.W.codeIn K cd23 "way_to" = true) (k23 : PySem.W.keepIn K (.ref f23) = true)
    (a24 : PySem.W.nsIn K mainGlobals "split" = some (some (.ref f24)))
    (l24 : K.lookup f24 = some ⟨oc24, od24, .func (PySem.W.fnOf "split" "split" (defArgs sPSplit) (defBody sPSplit) (defScope sPSplit) .none kV24 dc24 pm24 an24 cd24 ct24), sl24⟩) (e24 : PySem.W.codeIn K cd24 "split" = true) (k24 : PySem.W.keepIn K (.ref f24) = true)
    (a25 : PySem.W.nsIn K mainGlobals "merged" = some (some (.ref f25)))
    (l25 : K.lookup f25 = some ⟨oc25, od25, .func (PySem.W.fnOf "merged" "merged" (defArgs sPMerged) (defBody sPMerged) (defScope sPMerged) .none kV25 dc25 pm25 an25 cd25 ct25), sl25⟩) (e25 : PySem.W.codeIn K cd25 "merged" = true) (k25 : PySem.W.keepIn K (.ref f25) = true)
    (a26 : PySem.W.nsIn K mainGlobals "with_row" = some (some (.ref f26)))
    (l26 : K.lookup f26 = some ⟨oc26, od26, .func (PySem.W.fnOf "with_row" "with_row" (defArgs sPWithRow) (defBody sPWithRow) (defScope sPWithRow) .none kV26 dc26 pm26 an26 cd26 ct26), sl26⟩) (e26 : PySem.W.codeIn K cd26 "with_row" = true) (k26 : PySem.W.keepIn K (.ref f26) = true)
    (a27 : PySem.W.nsIn K mainGlobals "without_row" = some (some (.ref f27)))
    (l27 : K.lookup f27 = some ⟨oc27, od27, .func (PySem.W.fnOf "without_row" "without_row" (defArgs sPWithoutRow) (defBody sPWithoutRow) (defScope sPWithoutRow) .none kV27 dc27 pm27 an27 cd27 ct27), sl27⟩) (e27 : PySem.W.codeIn K cd27 "without_row" = true) (k27 : PySem.W.keepIn K (.ref f27) = true)
    (a28 : PySem.W.nsIn K mainGlobals "spliced" = some (some (.ref f28)))
    (l28 : K.lookup f28 = some ⟨oc28, od28, .func (PySem.W.fnOf "spliced" "spliced" (defArgs sPSpliced) (defBody sPSpliced) (defScope sPSpliced) .none kV28 dc28 pm28 an28 cd28 ct28), sl28⟩) (e28 : PySem.W.codeIn K cd28 "spliced" = true) (k28 : PySem.W.keepIn K (.ref f28) = true)
    (a29 : PySem.W.nsIn K mainGlobals "outcome" = some (some (.ref f29)))
    (l29 : K.lookup f29 = some ⟨oc29, od29, .func (PySem.W.fnOf "outcome" "outcome" (defArgs sPOutcome) (defBody sPOutcome) (defScope sPOutcome) .none kV29 dc29 pm29 an29 cd29 ct29), sl29⟩) (e29 : PySem.W.codeIn K cd29 "outcome" = true) (k29 : PySem.W.keepIn K (.ref f29) = true)
    (a30 : PySem.W.nsIn K mainGlobals "certified_change" = some (some (.ref f30)))
    (l30 : K.lookup f30 = some ⟨oc30, od30, .func (PySem.W.fnOf "certified_change" "certified_change" (defArgs sPCertifiedChange) (defBody sPCertifiedChange) (defScope sPCertifiedChange) .none kV30 dc30 pm30 an30 cd30 ct30), sl30⟩) (e30 : PySem.W.codeIn K cd30 "certified_change" = true) (k30 : PySem.W.keepIn K (.ref f30) = true)
    (a31 : PySem.W.nsIn K mainGlobals "read_change" = some (some (.ref f31)))
    (l31 : K.lookup f31 = some ⟨oc31, od31, .func (PySem.W.fnOf "read_change" "read_change" (defArgs sPReadChange) (defBody sPReadChange) (defScope sPReadChange) .none kV31 dc31 pm31 an31 (.ref cT_read_change) ct31), sl31⟩) (e31 : PySem.W.codeIn K (.ref cT_read_change) "read_change" = true) (k31 : PySem.W.keepIn K (.ref f31) = true)
    (a32 : PySem.W.nsIn K mainGlobals "_law_draw" = some (some (.ref f32)))
    (l32 : K.lookup f32 = some ⟨oc32, od32, .func (PySem.W.fnOf "_law_draw" "_law_draw" (defArgs sDraw) (defBody sDraw) (defScope sDraw) .none kV32 dc32 pm32 an32 cd32 ct32), sl32⟩) (e32 : PySem.W.codeIn K cd32 "_law_draw" = true) (k32 : PySem.W.keepIn K (.ref f32) = true)
    (a33 : PySem.W.nsIn K mainGlobals "_law_rule" = some (some (.ref f33)))
    (l33 : K.lookup f33 = some ⟨oc33, od33, .func (PySem.W.fnOf "_law_rule" "_law_rule" (defArgs sLRule) (defBody sLRule) (defScope sLRule) .none kV33 dc33 pm33 an33 cd33 ct33), sl33⟩) (e33 : PySem.W.codeIn K cd33 "_law_rule" = true) (k33 : PySem.W.keepIn K (.ref f33) = true)
    (a34 : PySem.W.nsIn K mainGlobals "_law_codes" = some (some (.ref f34)))
    (l34 : K.lookup f34 = some ⟨oc34, od34, .func (PySem.W.fnOf "_law_codes" "_law_codes" (defArgs sLCodes) (defBody sLCodes) (defScope sLCodes) .none kV34 dc34 pm34 an34 cd34 ct34), sl34⟩) (e34 : PySem.W.codeIn K cd34 "_law_codes" = true) (k34 : PySem.W.keepIn K (.ref f34) = true)
    (a35 : PySem.W.nsIn K mainGlobals "_law_encode" = some (some (.ref f35)))
    (l35 : K.lookup f35 = some ⟨oc35, od35, .func (PySem.W.fnOf "_law_encode" "_law_encode" (defArgs sLEncode) (defBody sLEncode) (defScope sLEncode) .none kV35 dc35 pm35 an35 cd35 ct35), sl35⟩) (e35 : PySem.W.codeIn K cd35 "_law_encode" = true) (k35 : PySem.W.keepIn K (.ref f35) = true)
    (a36 : PySem.W.nsIn K mainGlobals "_law_digest" = some (some (.ref f36)))
    (l36 : K.lookup f36 = some ⟨oc36, od36, .func (PySem.W.fnOf "_law_digest" "_law_digest" (defArgs sLDigest) (defBody sLDigest) (defScope sLDigest) .none kV36 dc36 pm36 an36 cd36 ct36), sl36⟩) (e36 : PySem.W.codeIn K cd36 "_law_digest" = true) (k36 : PySem.W.keepIn K (.ref f36) = true)
    (a37 : PySem.W.nsIn K mainGlobals "_law_key" = some (some (.ref f37)))
    (l37 : K.lookup f37 = some ⟨oc37, od37, .func (PySem.W.fnOf "_law_key" "_law_key" (defArgs sKey) (defBody sKey) (defScope sKey) .none kV37 dc37 pm37 an37 cd37 ct37), sl37⟩) (e37 : PySem.W.codeIn K cd37 "_law_key" = true) (k37 : PySem.W.keepIn K (.ref f37) = true)
    (a38 : PySem.W.nsIn K mainGlobals "_law_row" = some (some (.ref f38)))
    (l38 : K.lookup f38 = some ⟨oc38, od38, .func (PySem.W.fnOf "_law_row" "_law_row" (defArgs sRow) (defBody sRow) (defScope sRow) .none kV38 dc38 pm38 an38 cd38 ct38), sl38⟩) (e38 : PySem.W.codeIn K cd38 "_law_row" = true) (k38 : PySem.W.keepIn K (.ref f38) = true)
    (a39 : PySem.W.nsIn K mainGlobals "_law_table" = some (some (.ref f39)))
    (l39 : K.lookup f39 = some ⟨oc39, od39, .func (PySem.W.fnOf "_law_table" "_law_table" (defArgs sTable) (defBody sTable) (defScope sTable) .none kV39 dc39 pm39 an39 cd39 ct39), sl39⟩) (e39 : PySem.W.codeIn K cd39 "_law_table" = true) (k39 : PySem.W.keepIn K (.ref f39) = true)
    (a40 : PySem.W.nsIn K mainGlobals "_law_some_key" = some (some (.ref f40)))
    (l40 : K.lookup f40 = some ⟨oc40, od40, .func (PySem.W.fnOf "_law_some_key" "_law_some_key" (defArgs sLSomeKey) (defBody sLSomeKey) (defScope sLSomeKey) .none kV40 dc40 pm40 an40 cd40 ct40), sl40⟩) (e40 : PySem.W.codeIn K cd40 "_law_some_key" = true) (k40 : PySem.W.keepIn K (.ref f40) = true)
    (a41 : PySem.W.nsIn K mainGlobals "_law_cell" = some (some (.ref f41)))
    (l41 : K.lookup f41 = some ⟨oc41, od41, .func (PySem.W.fnOf "_law_cell" "_law_cell" (defArgs sLCell) (defBody sLCell) (defScope sLCell) .none kV41 dc41 pm41 an41 cd41 ct41), sl41⟩) (e41 : PySem.W.codeIn K cd41 "_law_cell" = true) (k41 : PySem.W.keepIn K (.ref f41) = true)
    (a42 : PySem.W.nsIn K mainGlobals "_law_changed" = some (some (.ref f42)))
    (l42 : K.lookup f42 = some ⟨oc42, od42, .func (PySem.W.fnOf "_law_changed" "_law_changed" (defArgs sLChanged) (defBody sLChanged) (defScope sLChanged) .none kV42 dc42 pm42 an42 cd42 ct42), sl42⟩) (e42 : PySem.W.codeIn K cd42 "_law_changed" = true) (k42 : PySem.W.keepIn K (.ref f42) = true)
    (a43 : PySem.W.nsIn K mainGlobals "_law_rank" = some (some (.ref f43)))
    (l43 : K.lookup f43 = some ⟨oc43, od43, .func (PySem.W.fnOf "_law_rank" "_law_rank" (defArgs sLRank) (defBody sLRank) (defScope sLRank) .none kV43 dc43 pm43 an43 cd43 ct43), sl43⟩) (e43 : PySem.W.codeIn K cd43 "_law_rank" = true) (k43 : PySem.W.keepIn K (.ref f43) = true)
    (a44 : PySem.W.nsIn K mainGlobals "_law_top" = some (some (.ref f44)))
    (l44 : K.lookup f44 = some ⟨oc44, od44, .func (PySem.W.fnOf "_law_top" "_law_top" (defArgs sLTop) (defBody sLTop) (defScope sLTop) .none kV44 dc44 pm44 an44 cd44 ct44), sl44⟩) (e44 : PySem.W.codeIn K cd44 "_law_top" = true) (k44 : PySem.W.keepIn K (.ref f44) = true)
    (a45 : PySem.W.nsIn K mainGlobals "_law_tree" = some (some (.ref f45)))
    (l45 : K.lookup f45 = some ⟨oc45, od45, .func (PySem.W.fnOf "_law_tree" "_law_tree" (defArgs sLTree) (defBody sLTree) (defScope sLTree) .none kV45 dc45 pm45 an45 cd45 ct45), sl45⟩) (e45 : PySem.W.codeIn K cd45 "_law_tree" = true) (k45 : PySem.W.keepIn K (.ref f45) = true)
    (a46 : PySem.W.nsIn K mainGlobals "_law_link" = some (some (.ref f46)))
    (l46 : K.lookup f46 = some ⟨oc46, od46, .func (PySem.W.fnOf "_law_link" "_law_link" (defArgs sLLink) (defBody sLLink) (defScope sLLink) .none kV46 dc46 pm46 an46 cd46 ct46), sl46⟩) (e46 : PySem.W.codeIn K cd46 "_law_link" = true) (k46 : PySem.W.keepIn K (.ref f46) = true)
    (a47 : PySem.W.findIn K (.ref C_Part) "__init__" = some (some (.ref f47))) (i47 : PySem.W.isFn K (.ref f47) = true)
    (l47 : K.lookup f47 = some ⟨oc47, od47, .func (PySem.W.fnOf "__init__" "Part.__init__" (defArgs sPPartInit) (defBody sPPartInit) (defScope sPPartInit) .none kV47 dc47 pm47 an47 cd47 ct47), sl47⟩) (e47 : PySem.W.codeIn K cd47 "Part.__init__" = true) (k47 : PySem.W.keepIn K (.ref f47) = true)
    (a48 : PySem.W.findIn K (.ref C_Recorder) "__init__" = some (some (.ref f48))) (i48 : PySem.W.isFn K (.ref f48) = true)
    (l48 : K.lookup f48 = some ⟨oc48, od48, .func (PySem.W.fnOf "__init__" "Recorder.__init__" (defArgs sPRecorderInit) (defBody sPRecorderInit) (defScope sPRecorderInit) .none kV48 dc48 pm48 an48 cd48 ct48), sl48⟩) (e48 : PySem.W.codeIn K cd48 "Recorder.__init__" = true) (k48 : PySem.W.keepIn K (.ref f48) = true)
    (a49 : PySem.W.findIn K (.ref C_Reader) "__init__" = some (some (.ref f49))) (i49 : PySem.W.isFn K (.ref f49) = true)
    (l49 : K.lookup f49 = some ⟨oc49, od49, .func (PySem.W.fnOf "__init__" "Reader.__init__" (defArgs sPReaderInit) (defBody sPReaderInit) (defScope sPReaderInit) .none kV49 dc49 pm49 an49 cd49 ct49), sl49⟩) (e49 : PySem.W.codeIn K cd49 "Reader.__init__" = true) (k49 : PySem.W.keepIn K (.ref f49) = true)
    (a50 : PySem.W.findIn K (.ref C_Refused) "__init__" = some (some (.ref f50))) (i50 : PySem.W.typeIn K (.ref f50) = some (.type "function"))
    (l50 : K.lookup f50 = some ⟨oc50, od50, .func (PySem.W.fnOf "__init__" "Refused.__init__" (defArgs sPRefusedInit) (defBody sPRefusedInit) (defScope sPRefusedInit) .none kV50 dc50 pm50 an50 cd50 ct50), sl50⟩) (e50 : PySem.W.codeIn K cd50 "Refused.__init__" = true) (k50 : PySem.W.keepIn K (.ref f50) = true)
    (a51 : PySem.W.findIn K (.ref C_Part) "entry" = some (some (.ref f51))) (i51 : PySem.W.isFn K (.ref f51) = true)
    (l51 : K.lookup f51 = some ⟨oc51, od51, .func (PySem.W.fnOf "entry" "Part.entry" (defArgs sPPartEntry) (defBody sPPartEntry) (defScope sPPartEntry) .none kV51 dc51 pm51 an51 cd51 ct51), sl51⟩) (e51 : PySem.W.codeIn K cd51 "Part.entry" = true) (k51 : PySem.W.keepIn K (.ref f51) = true)
    (a52 : PySem.W.findIn K (.ref C_Part) "is_empty" = some (some (.ref f52))) (i52 : PySem.W.isFn K (.ref f52) = true)
    (l52 : K.lookup f52 = some ⟨oc52, od52, .func (PySem.W.fnOf "is_empty" "Part.is_empty" (defArgs sPPartIsEmpty) (defBody sPPartIsEmpty) (defScope sPPartIsEmpty) .none kV52 dc52 pm52 an52 cd52 ct52), sl52⟩) (e52 : PySem.W.codeIn K cd52 "Part.is_empty" = true) (k52 : PySem.W.keepIn K (.ref f52) = true)
    (a53 : PySem.W.findIn K (.ref C_Reader) "finish" = some (some (.ref f53))) (i53 : PySem.W.isFn K (.ref f53) = true)
    (l53 : K.lookup f53 = some ⟨oc53, od53, .func (PySem.W.fnOf "finish" "Reader.finish" (defArgs sPReaderFinish) (defBody sPReaderFinish) (defScope sPReaderFinish) .none kV53 dc53 pm53 an53 cd53 ct53), sl53⟩) (e53 : PySem.W.codeIn K cd53 "Reader.finish" = true) (k53 : PySem.W.keepIn K (.ref f53) = true)
    (a54 : PySem.W.findIn K (.ref C_Reader) "opened" = some (some (.ref f54))) (i54 : PySem.W.isFn K (.ref f54) = true)
    (l54 : K.lookup f54 = some ⟨oc54, od54, .func (PySem.W.fnOf "opened" "Reader.opened" (defArgs sPReaderOpened) (defBody sPReaderOpened) (defScope sPReaderOpened) .none kV54 dc54 pm54 an54 cd54 ct54), sl54⟩) (e54 : PySem.W.codeIn K cd54 "Reader.opened" = true) (k54 : PySem.W.keepIn K (.ref f54) = true)
    (a55 : PySem.W.findIn K (.ref C_Recorder) "opened" = some (some (.ref f55))) (i55 : PySem.W.isFn K (.ref f55) = true)
    (l55 : K.lookup f55 = some ⟨oc55, od55, .func (PySem.W.fnOf "opened" "Recorder.opened" (defArgs sPRecorderOpened) (defBody sPRecorderOpened) (defScope sPRecorderOpened) .none kV55 dc55 pm55 an55 cd55 ct55), sl55⟩) (e55 : PySem.W.codeIn K cd55 "Recorder.opened" = true) (k55 : PySem.W.keepIn K (.ref f55) = true)
    (a56 : PySem.W.nsIn K mainGlobals "law" = some (some (.ref f56)))
    (l56 : K.lookup f56 = some ⟨oc56, od56, .func (PySem.W.fnOf "law" "law" (defArgs sLaw) (defBody sLaw) (defScope sLaw) .none kV56 dc56 pm56 an56 cd56 ct56), sl56⟩) (e56 : PySem.W.codeIn K cd56 "law" = true) (k56 : PySem.W.keepIn K (.ref f56) = true)
    (aC_Part : PySem.W.nsIn K mainGlobals "Part" = some (some (.ref C_Part))) (pg_Part : PySem.W.plainGet K C_Part Str.empty = true) (hd_Part : PySem.W.hasDictIn K C_Part = true) (po_Part : PySem.W.plainOver K C_Part = true) (sa_Part : PySem.W.findIn K (.ref C_Part) "__setattr__" = some (some (.builtin "object.__setattr__"))) (mk_Part : PySem.W.makesIn K C_Part = true) (kc_Part : PySem.W.keepIn K (.ref C_Part) = true)
    (n_Part_link : PySem.W.findIn K (.ref C_Part) "link" = some none)
    (n_Part_root : PySem.W.findIn K (.ref C_Part) "root" = some none)
    (n_Part_is_open : PySem.W.findIn K (.ref C_Part) "is_open" = some none)
    (aC_Recorder : PySem.W.nsIn K mainGlobals "Recorder" = some (some (.ref C_Recorder))) (pg_Recorder : PySem.W.plainGet K C_Recorder Str.empty = true) (hd_Recorder : PySem.W.hasDictIn K C_Recorder = true) (po_Recorder : PySem.W.plainOver K C_Recorder = true) (sa_Recorder : PySem.W.findIn K (.ref C_Recorder) "__setattr__" = some (some (.builtin "object.__setattr__"))) (mk_Recorder : PySem.W.makesIn K C_Recorder = true) (kc_Recorder : PySem.W.keepIn K (.ref C_Recorder) = true)
    (n_Recorder_rule : PySem.W.findIn K (.ref C_Recorder) "rule" = some none)
    (n_Recorder_certificate : PySem.W.findIn K (.ref C_Recorder) "certificate" = some none)
    (aC_Reader : PySem.W.nsIn K mainGlobals "Reader" = some (some (.ref C_Reader))) (pg_Reader : PySem.W.plainGet K C_Reader Str.empty = true) (hd_Reader : PySem.W.hasDictIn K C_Reader = true) (po_Reader : PySem.W.plainOver K C_Reader = true) (sa_Reader : PySem.W.findIn K (.ref C_Reader) "__setattr__" = some (some (.builtin "object.__setattr__"))) (mk_Reader : PySem.W.makesIn K C_Reader = true) (kc_Reader : PySem.W.keepIn K (.ref C_Reader) = true)
    (n_Reader_rule : PySem.W.findIn K (.ref C_Reader) "rule" = some none)
    (n_Reader_certificate : PySem.W.findIn K (.ref C_Reader) "certificate" = some none)
    (n_Reader_position : PySem.W.findIn K (.ref C_Reader) "position" = some none)
    (aC_Refused : PySem.W.nsIn K mainGlobals "Refused" = some (some (.ref C_Refused))) (lx_Refused : K.lookup C_Refused = some (excClassObj nm_Refused qn_Refused C_Refused N_Refused bs_Refused bm_Refused true sn_Refused sub_Refused ab_Refused col_Refused dd_Refused k0_Refused k1_Refused k2_Refused k3_Refused k5_Refused "ValueError.__new__")) (rv_Refused : PySem.HandSPX.refsVE bm_Refused = true) (sx_Refused : PySem.W.findIn K (.ref C_Refused) "__setattr__" = some (some (.builtin "object.__setattr__"))) (ex_Refused : PySem.W.subIn K (.ref C_Refused) (.type "BaseException") = some true) (ty_Refused : PySem.W.typeIn K (.ref C_Refused) = some (.type "type")) (kc_Refused : PySem.W.keepIn K (.ref C_Refused) = true) (ga_Refused : PySem.W.findIn K (.ref C_Refused) "__getattribute__" = some (some (.builtin "BaseException.__getattribute__"))) (gg_Refused : PySem.W.findIn K (.ref C_Refused) "__getattr__" = some none) (hx_Refused : PySem.W.hasDictIn K C_Refused = true) (mx_Refused : PySem.W.exmOne K (.ref C_Refused) (.ref C_Refused) = some true)
    (n_Refused_number : PySem.W.findIn K (.ref C_Refused) "number" = some none)
    (n_Refused_word : PySem.W.findIn K (.ref C_Refused) "word" = some none)
    (tC_read_change : PySem.W.codeHdIn K cT_read_change PT_read_change = true) (tN_read_change : K.lookup PT_read_change = none) (tT_read_change : h.get? PT_read_change = some { cls := .none, data := .fields #[] })
    {tk1 tk2 tk3 tk4 : Tok} (q1 : PySem.W.nsIn K mainGlobals "GREATEST_NUMBER" = some (some (.int 65535 tk1))) (q2 : PySem.W.nsIn K mainGlobals "KEY_SIGNS" = some (some (.str "abcdefghijklmnopqrstuvwxyz0123456789" tk2))) (q3 : PySem.W.nsIn K mainGlobals "LONGEST_KEY" = some (some (.int 8 tk3))) (q4 : PySem.W.nsIn K mainGlobals "WIDEST_ROW" = some (some (.int 3 tk4)))
    (z1 : PySem.W.nsIn K mainGlobals "all" = some none) (z2 : PySem.W.nsIn K mainGlobals "bool" = some none) (z3 : PySem.W.nsIn K mainGlobals "int" = some none) (z4 : PySem.W.nsIn K mainGlobals "isinstance" = some none) (z5 : PySem.W.nsIn K mainGlobals "len" = some none) (z6 : PySem.W.nsIn K mainGlobals "list" = some none) (z7 : PySem.W.nsIn K mainGlobals "ord" = some none) (z8 : PySem.W.nsIn K mainGlobals "range" = some none) (z9 : PySem.W.nsIn K mainGlobals "reversed" = some none) (z10 : PySem.W.nsIn K mainGlobals "sorted" = some none) (z11 : PySem.W.nsIn K mainGlobals "str" = some none) (z12 : PySem.W.nsIn K mainGlobals "tuple" = some none) :
    LamX.LawAtS l w K CX0 230 63 "script" mg fa h := by
  have e := hfa.symm.trans (PySem.W.mg_of X G a56)
  cases e
  have F1 := fun_mk (st := sPHasKeySigns) l1 e1 k1
  have b1 := F1.binds (ps := ["text"]) fun _ _ _ _ _ _ us hl => match us, hl with | [_], _ => rfl
  let d_has_key_signs : Def K mg "has_key_signs" sPHasKeySigns ["text"] := ⟨_, _, F1, b1, PySem.W.mg_of X G a1⟩
  have F2 := fun_mk (st := sPIsKey) l2 e2 k2
  have b2 := F2.binds (ps := ["text"]) fun _ _ _ _ _ _ us hl => match us, hl with | [_], _ => rfl
  let d_is_key : Def K mg "is_key" sPIsKey ["text"] := ⟨_, _, F2, b2, PySem.W.mg_of X G a2⟩
  have F3 := fun_mk (st := sPIsRow) l3 e3 k3
  have b3 := F3.binds (ps := ["numbers"]) fun _ _ _ _ _ _ us hl => match us, hl with | [_], _ => rfl
  let d_is_row : Def K mg "is_row" sPIsRow ["numbers"] := ⟨_, _, F3, b3, PySem.W.mg_of X G a3⟩
  have F4 := fun_mk (st := sPColumnOf) l4 e4 k4
  have b4 := F4.binds (ps := ["row", "column"]) fun _ _ _ _ _ _ us hl => match us, hl with | [_, _], _ => rfl
  let d_column_of : Def K mg "column_of" sPColumnOf ["row", "column"] := ⟨_, _, F4, b4, PySem.W.mg_of X G a4⟩
  have F5 := fun_mk (st := sPEncode) l5 e5 k5
  have b5 := F5.binds (ps := ["value"]) fun _ _ _ _ _ _ us hl => match us, hl with | [_], _ => rfl
  let d_encode : Def K mg "encode" sPEncode ["value"] := ⟨_, _, F5, b5, PySem.W.mg_of X G a5⟩
  have F6 := fun_mk (st := sPDigest) l6 e6 k6
  have b6 := F6.binds (ps := ["rule", "value"]) fun _ _ _ _ _ _ us hl => match us, hl with | [_, _], _ => rfl
  let d_digest : Def K mg "digest" sPDigest ["rule", "value"] := ⟨_, _, F6, b6, PySem.W.mg_of X G a6⟩
  have F7 := fun_mk (st := sPIsNumber) l7 e7 k7
  have b7 := F7.binds (ps := ["value"]) fun _ _ _ _ _ _ us hl => match us, hl with | [_], _ => rfl
  let d_is_number : Def K mg "is_number" sPIsNumber ["value"] := ⟨_, _, F7, b7, PySem.W.mg_of X G a7⟩
  have F8 := fun_mk (st := sPAreNumbers) l8 e8 k8
  have b8 := F8.binds (ps := ["value"]) fun _ _ _ _ _ _ us hl => match us, hl with | [_], _ => rfl
  let d_are_numbers : Def K mg "are_numbers" sPAreNumbers ["value"] := ⟨_, _, F8, b8, PySem.W.mg_of X G a8⟩
  have F9 := fun_mk (st := sPIsLink) l9 e9 k9
  have b9 := F9.binds (ps := ["value"]) fun _ _ _ _ _ _ us hl => match us, hl with | [_], _ => rfl
  let d_is_link : Def K mg "is_link" sPIsLink ["value"] := ⟨_, _, F9, b9, PySem.W.mg_of X G a9⟩
  have F10 := fun_mk (st := sPIsEntry) l10 e10 k10
  have b10 := F10.binds (ps := ["value"]) fun _ _ _ _ _ _ us hl => match us, hl with | [_], _ => rfl
  let d_is_entry : Def K mg "is_entry" sPIsEntry ["value"] := ⟨_, _, F10, b10, PySem.W.mg_of X G a10⟩
  have F11 := fun_mk (st := sPEntryDigest) l11 e11 k11
  have b11 := F11.binds (ps := ["rule", "entry"]) fun _ _ _ _ _ _ us hl => match us, hl with | [_, _], _ => rfl
  let d_entry_digest : Def K mg "entry_digest" sPEntryDigest ["rule", "entry"] := ⟨_, _, F11, b11, PySem.W.mg_of X G a11⟩
  have F12 := fun_mk (st := sPEntryLink) l12 e12 k12
  have b12 := F12.binds (ps := ["rule", "entry"]) fun _ _ _ _ _ _ us hl => match us, hl with | [_, _], _ => rfl
  let d_entry_link : Def K mg "entry_link" sPEntryLink ["rule", "entry"] := ⟨_, _, F12, b12, PySem.W.mg_of X G a12⟩
  have F13 := fun_mk (st := sPEmptyLink) l13 e13 k13
  have b13 := F13.binds (ps := ["rule"]) fun _ _ _ _ _ _ us hl => match us, hl with | [_], _ => rfl
  let d_empty_link : Def K mg "empty_link" sPEmptyLink ["rule"] := ⟨_, _, F13, b13, PySem.W.mg_of X G a13⟩
  have F14 := fun_mk (st := sPRank) l14 e14 k14
  have b14 := F14.binds (ps := ["key"]) fun _ _ _ _ _ _ us hl => match us, hl with | [_], _ => rfl
  let d_rank : Def K mg "rank" sPRank ["key"] := ⟨_, _, F14, b14, PySem.W.mg_of X G a14⟩
  have F15 := fun_mk (st := sPStandsAbove) l15 e15 k15
  have b15 := F15.binds (ps := ["key", "other"]) fun _ _ _ _ _ _ us hl => match us, hl with | [_, _], _ => rfl
  let d_stands_above : Def K mg "stands_above" sPStandsAbove ["key", "other"] := ⟨_, _, F15, b15, PySem.W.mg_of X G a15⟩
  have F16 := fun_mk (st := sPLinkedPart) l16 e16 k16
  have b16 := F16.binds (ps := ["link"]) fun _ _ _ _ _ _ us hl => match us, hl with | [_], _ => rfl
  let d_linked_part : Def K mg "linked_part" sPLinkedPart ["link"] := ⟨_, _, F16, b16, PySem.W.mg_of X G a16⟩
  have F17 := fun_mk (st := sPEmptyPart) l17 e17 k17
  have b17 := F17.binds (ps := ["rule"]) fun _ _ _ _ _ _ us hl => match us, hl with | [_], _ => rfl
  let d_empty_part : Def K mg "empty_part" sPEmptyPart ["rule"] := ⟨_, _, F17, b17, PySem.W.mg_of X G a17⟩
  have F18 := fun_mk (st := sPRootedPart) l18 e18 k18
  have b18 := F18.binds (ps := ["rule", "root", "is_open"]) fun _ _ _ _ _ _ us hl => match us, hl with | [_, _, _], _ => rfl
  let d_rooted_part : Def K mg "rooted_part" sPRootedPart ["rule", "root", "is_open"] := ⟨_, _, F18, b18, PySem.W.mg_of X G a18⟩
  have F19 := fun_mk (st := sPCompleted) l19 e19 k19
  have b19 := F19.binds (ps := ["rule", "gaps", "part", "is_open"]) fun _ _ _ _ _ _ us hl => match us, hl with | [_, _, _, _], _ => rfl
  let d_completed : Def K mg "completed" sPCompleted ["rule", "gaps", "part", "is_open"] := ⟨_, _, F19, b19, PySem.W.mg_of X G a19⟩
  have F20 := fun_mk (st := sPTreeOf) l20 e20 k20
  have b20 := F20.binds (ps := ["rule", "table"]) fun _ _ _ _ _ _ us hl => match us, hl with | [_, _], _ => rfl
  let d_tree_of : Def K mg "tree_of" sPTreeOf ["rule", "table"] := ⟨_, _, F20, b20, PySem.W.mg_of X G a20⟩
  have F21 := fun_mk (st := sPFaultOf) l21 e21 k21
  have b21 := F21.binds (ps := ["rule", "entry", "link"]) fun _ _ _ _ _ _ us hl => match us, hl with | [_, _, _], _ => rfl
  let d_fault_of : Def K mg "fault_of" sPFaultOf ["rule", "entry", "link"] := ⟨_, _, F21, b21, PySem.W.mg_of X G a21⟩
  have F22 := fun_mk (st := sPWayOn) l22 e22 k22
  have b22 := F22.binds (ps := ["root", "key"]) fun _ _ _ _ _ _ us hl => match us, hl with | [_, _], _ => rfl
  let d_way_on : Def K mg "way_on" sPWayOn ["root", "key"] := ⟨_, _, F22, b22, PySem.W.mg_of X G a22⟩
  have F23 := fun_mk (st := sPWayTo) l23 e23 k23
  have b23 := F23.binds (ps := ["opener", "part", "key"]) fun _ _ _ _ _ _ us hl => match us, hl with | [_, _, _], _ => rfl
  let d_way_to : Def K mg "way_to" sPWayTo ["opener", "part", "key"] := ⟨_, _, F23, b23, PySem.W.mg_of X G a23⟩
  have F24 := fun_mk (st := sPSplit) l24 e24 k24
  have b24 := F24.binds (ps := ["opener", "part", "key"]) fun _ _ _ _ _ _ us hl => match us, hl with | [_, _, _], _ => rfl
  let d_split : Def K mg "split" sPSplit ["opener", "part", "key"] := ⟨_, _, F24, b24, PySem.W.mg_of X G a24⟩
  have F25 := fun_mk (st := sPMerged) l25 e25 k25
  have b25 := F25.binds (ps := ["opener", "first", "second"]) fun _ _ _ _ _ _ us hl => match us, hl with | [_, _, _], _ => rfl
  let d_merged : Def K mg "merged" sPMerged ["opener", "first", "second"] := ⟨_, _, F25, b25, PySem.W.mg_of X G a25⟩
  have F26 := fun_mk (st := sPWithRow) l26 e26 k26
  have b26 := F26.binds (ps := ["opener", "tree", "key", "row"]) fun _ _ _ _ _ _ us hl => match us, hl with | [_, _, _, _], _ => rfl
  let d_with_row : Def K mg "with_row" sPWithRow ["opener", "tree", "key", "row"] := ⟨_, _, F26, b26, PySem.W.mg_of X G a26⟩
  have F27 := fun_mk (st := sPWithoutRow) l27 e27 k27
  have b27 := F27.binds (ps := ["opener", "tree", "key"]) fun _ _ _ _ _ _ us hl => match us, hl with | [_, _, _], _ => rfl
  let d_without_row : Def K mg "without_row" sPWithoutRow ["opener", "tree", "key"] := ⟨_, _, F27, b27, PySem.W.mg_of X G a27⟩
  have F28 := fun_mk (st := sPSpliced) l28 e28 k28
  have b28 := F28.binds (ps := ["opener", "tree", "change"]) fun _ _ _ _ _ _ us hl => match us, hl with | [_, _, _], _ => rfl
  let d_spliced : Def K mg "spliced" sPSpliced ["opener", "tree", "change"] := ⟨_, _, F28, b28, PySem.W.mg_of X G a28⟩
  have F29 := fun_mk (st := sPOutcome) l29 e29 k29
  have b29 := F29.binds (ps := ["word", "rule", "certificate", "walk"]) fun _ _ _ _ _ _ us hl => match us, hl with | [_, _, _, _], _ => rfl
  let d_outcome : Def K mg "outcome" sPOutcome ["word", "rule", "certificate", "walk"] := ⟨_, _, F29, b29, PySem.W.mg_of X G a29⟩
  have F30 := fun_mk (st := sPCertifiedChange) l30 e30 k30
  have b30 := F30.binds (ps := ["rule", "table", "change"]) fun _ _ _ _ _ _ us hl => match us, hl with | [_, _, _], _ => rfl
  let d_certified_change : Def K mg "certified_change" sPCertifiedChange ["rule", "table", "change"] := ⟨_, _, F30, b30, PySem.W.mg_of X G a30⟩
  have F31 := fun_mk (st := sPReadChange) l31 e31 k31
  have b31 := F31.binds (ps := ["rule", "head", "change", "certificate"]) fun _ _ _ _ _ _ us hl => match us, hl with | [_, _, _, _], _ => rfl
  let d_read_change : Def K mg "read_change" sPReadChange ["rule", "head", "change", "certificate"] := ⟨_, _, F31, b31, PySem.W.mg_of X G a31⟩
  have F32 := fun_mk (st := sDraw) l32 e32 k32
  have b32 := F32.binds (ps := ["state", "limit"]) fun _ _ _ _ _ _ us hl => match us, hl with | [_, _], _ => rfl
  let d__law_draw : Def K mg "_law_draw" sDraw ["state", "limit"] := ⟨_, _, F32, b32, PySem.W.mg_of X G a32⟩
  have F33 := fun_mk (st := sLRule) l33 e33 k33
  have b33 := F33.binds (ps := ["state"]) fun _ _ _ _ _ _ us hl => match us, hl with | [_], _ => rfl
  let d__law_rule : Def K mg "_law_rule" sLRule ["state"] := ⟨_, _, F33, b33, PySem.W.mg_of X G a33⟩
  have F34 := fun_mk (st := sLCodes) l34 e34 k34
  have b34 := F34.binds (ps := ["text"]) fun _ _ _ _ _ _ us hl => match us, hl with | [_], _ => rfl
  let d__law_codes : Def K mg "_law_codes" sLCodes ["text"] := ⟨_, _, F34, b34, PySem.W.mg_of X G a34⟩
  have F35 := fun_mk (st := sLEncode) l35 e35 k35
  have b35 := F35.binds (ps := ["value"]) fun _ _ _ _ _ _ us hl => match us, hl with | [_], _ => rfl
  let d__law_encode : Def K mg "_law_encode" sLEncode ["value"] := ⟨_, _, F35, b35, PySem.W.mg_of X G a35⟩
  have F36 := fun_mk (st := sLDigest) l36 e36 k36
  have b36 := F36.binds (ps := ["rule", "value"]) fun _ _ _ _ _ _ us hl => match us, hl with | [_, _], _ => rfl
  let d__law_digest : Def K mg "_law_digest" sLDigest ["rule", "value"] := ⟨_, _, F36, b36, PySem.W.mg_of X G a36⟩
  have F37 := fun_mk (st := sKey) l37 e37 k37
  have b37 := F37.binds (ps := ["state"]) fun _ _ _ _ _ _ us hl => match us, hl with | [_], _ => rfl
  let d__law_key : Def K mg "_law_key" sKey ["state"] := ⟨_, _, F37, b37, PySem.W.mg_of X G a37⟩
  have F38 := fun_mk (st := sRow) l38 e38 k38
  have b38 := F38.binds (ps := ["state"]) fun _ _ _ _ _ _ us hl => match us, hl with | [_], _ => rfl
  let d__law_row : Def K mg "_law_row" sRow ["state"] := ⟨_, _, F38, b38, PySem.W.mg_of X G a38⟩
  have F39 := fun_mk (st := sTable) l39 e39 k39
  have b39 := F39.binds (ps := ["state", "most"]) fun _ _ _ _ _ _ us hl => match us, hl with | [_, _], _ => rfl
  let d__law_table : Def K mg "_law_table" sTable ["state", "most"] := ⟨_, _, F39, b39, PySem.W.mg_of X G a39⟩
  have F40 := fun_mk (st := sLSomeKey) l40 e40 k40
  have b40 := F40.binds (ps := ["state", "table"]) fun _ _ _ _ _ _ us hl => match us, hl with | [_, _], _ => rfl
  let d__law_some_key : Def K mg "_law_some_key" sLSomeKey ["state", "table"] := ⟨_, _, F40, b40, PySem.W.mg_of X G a40⟩
  have F41 := fun_mk (st := sLCell) l41 e41 k41
  have b41 := F41.binds (ps := ["row", "column"]) fun _ _ _ _ _ _ us hl => match us, hl with | [_, _], _ => rfl
  let d__law_cell : Def K mg "_law_cell" sLCell ["row", "column"] := ⟨_, _, F41, b41, PySem.W.mg_of X G a41⟩
  have F42 := fun_mk (st := sLChanged) l42 e42 k42
  have b42 := F42.binds (ps := ["table", "change"]) fun _ _ _ _ _ _ us hl => match us, hl with | [_, _], _ => rfl
  let d__law_changed : Def K mg "_law_changed" sLChanged ["table", "change"] := ⟨_, _, F42, b42, PySem.W.mg_of X G a42⟩
  have F43 := fun_mk (st := sLRank) l43 e43 k43
  have b43 := F43.binds (ps := ["key"]) fun _ _ _ _ _ _ us hl => match us, hl with | [_], _ => rfl
  let d__law_rank : Def K mg "_law_rank" sLRank ["key"] := ⟨_, _, F43, b43, PySem.W.mg_of X G a43⟩
  have F44 := fun_mk (st := sLTop) l44 e44 k44
  have b44 := F44.binds (ps := ["table"]) fun _ _ _ _ _ _ us hl => match us, hl with | [_], _ => rfl
  let d__law_top : Def K mg "_law_top" sLTop ["table"] := ⟨_, _, F44, b44, PySem.W.mg_of X G a44⟩
  have F45 := fun_mk (st := sLTree) l45 e45 k45
  have b45 := F45.binds (ps := ["rule", "table"]) fun _ _ _ _ _ _ us hl => match us, hl with | [_, _], _ => rfl
  let d__law_tree : Def K mg "_law_tree" sLTree ["rule", "table"] := ⟨_, _, F45, b45, PySem.W.mg_of X G a45⟩
  have F46 := fun_mk (st := sLLink) l46 e46 k46
  have b46 := F46.binds (ps := ["rule", "entry"]) fun _ _ _ _ _ _ us hl => match us, hl with | [_, _], _ => rfl
  let d__law_link : Def K mg "_law_link" sLLink ["rule", "entry"] := ⟨_, _, F46, b46, PySem.W.mg_of X G a46⟩
  have F47 := fun_mk (st := sPPartInit) l47 e47 k47
  have b47 := F47.binds (ps := ["self", "link", "root", "is_open"]) fun _ _ _ _ _ _ us hl => match us, hl with | [_, _, _, _], _ => rfl
  let I_Part : Ini K mg "Part" C_Part "Part.__init__" sPPartInit ["self", "link", "root", "is_open"] := ⟨_, _, F47, b47, ⟨mk_Part, a47, i47, kc_Part⟩, PySem.W.mg_of X G aC_Part⟩
  have F48 := fun_mk (st := sPRecorderInit) l48 e48 k48
  have b48 := F48.binds (ps := ["self", "rule"]) fun _ _ _ _ _ _ us hl => match us, hl with | [_, _], _ => rfl
  let I_Recorder : Ini K mg "Recorder" C_Recorder "Recorder.__init__" sPRecorderInit ["self", "rule"] := ⟨_, _, F48, b48, ⟨mk_Recorder, a48, i48, kc_Recorder⟩, PySem.W.mg_of X G aC_Recorder⟩
  have F49 := fun_mk (st := sPReaderInit) l49 e49 k49
  have b49 := F49.binds (ps := ["self", "rule", "certificate"]) fun _ _ _ _ _ _ us hl => match us, hl with | [_, _, _], _ => rfl
  let I_Reader : Ini K mg "Reader" C_Reader "Reader.__init__" sPReaderInit ["self", "rule", "certificate"] := ⟨_, _, F49, b49, ⟨mk_Reader, a49, i49, kc_Reader⟩, PySem.W.mg_of X G aC_Reader⟩
  have F50 := fun_mk (st := sPRefusedInit) l50 e50 k50
  have b50 := F50.binds (ps := ["self", "word", "number"]) fun _ _ _ _ _ _ us hl => match us, hl with | [_, _, _], _ => rfl
  let I_Refused : Xni K mg "Refused" C_Refused "Refused.__init__" sPRefusedInit ["self", "word", "number"] := ⟨_, _, F50, b50, PySem.W.mg_of X G aC_Refused, ⟨⟨_, _, _, _, _, _, _, _, _, _, _, _, _, _, _, lx_Refused, rv_Refused⟩, sx_Refused, ex_Refused, ty_Refused, kc_Refused⟩, a50, i50⟩
  have F51 := fun_mk (st := sPPartEntry) l51 e51 k51
  have b51 := F51.binds (ps := ["self"]) fun _ _ _ _ _ _ us hl => match us, hl with | [_], _ => rfl
  let d_Part_entry : Mth K C_Part "entry" "Part.entry" sPPartEntry ["self"] := ⟨_, _, F51, b51, ⟨pg_Part, hd_Part, po_Part, sa_Part⟩, ⟨a51, i51, k51⟩⟩
  have F52 := fun_mk (st := sPPartIsEmpty) l52 e52 k52
  have b52 := F52.binds (ps := ["self"]) fun _ _ _ _ _ _ us hl => match us, hl with | [_], _ => rfl
  let d_Part_is_empty : Mth K C_Part "is_empty" "Part.is_empty" sPPartIsEmpty ["self"] := ⟨_, _, F52, b52, ⟨pg_Part, hd_Part, po_Part, sa_Part⟩, ⟨a52, i52, k52⟩⟩
  have F53 := fun_mk (st := sPReaderFinish) l53 e53 k53
  have b53 := F53.binds (ps := ["self"]) fun _ _ _ _ _ _ us hl => match us, hl with | [_], _ => rfl
  let d_Reader_finish : Mth K C_Reader "finish" "Reader.finish" sPReaderFinish ["self"] := ⟨_, _, F53, b53, ⟨pg_Reader, hd_Reader, po_Reader, sa_Reader⟩, ⟨a53, i53, k53⟩⟩
  have F54 := fun_mk (st := sPReaderOpened) l54 e54 k54
  have b54 := F54.binds (ps := ["self", "part"]) fun _ _ _ _ _ _ us hl => match us, hl with | [_, _], _ => rfl
  let d_Reader_opened : Mth K C_Reader "opened" "Reader.opened" sPReaderOpened ["self", "part"] := ⟨_, _, F54, b54, ⟨pg_Reader, hd_Reader, po_Reader, sa_Reader⟩, ⟨a54, i54, k54⟩⟩
  have F55 := fun_mk (st := sPRecorderOpened) l55 e55 k55
  have b55 := F55.binds (ps := ["self", "part"]) fun _ _ _ _ _ _ us hl => match us, hl with | [_, _], _ => rfl
  let d_Recorder_opened : Mth K C_Recorder "opened" "Recorder.opened" sPRecorderOpened ["self", "part"] := ⟨_, _, F55, b55, ⟨pg_Recorder, hd_Recorder, po_Recorder, sa_Recorder⟩, ⟨a55, i55, k55⟩⟩
  have F56 := fun_mk (st := sLaw) l56 e56 k56
  have b56 := F56.binds (ps := ["script"]) fun _ _ _ _ _ _ us hl => match us, hl with | [_], _ => rfl
  let d_law : Def K mg "law" sLaw ["script"] := ⟨_, _, F56, b56, PySem.W.mg_of X G a56⟩
  have m_all := PySem.W.mg_none_of X G z1
  have m_bool := PySem.W.mg_none_of X G z2
  have m_int := PySem.W.mg_none_of X G z3
  have m_isinstance := PySem.W.mg_none_of X G z4
  have m_len := PySem.W.mg_none_of X G z5
  have m_list := PySem.W.mg_none_of X G z6
  have m_ord := PySem.W.mg_none_of X G z7
  have m_range := PySem.W.mg_none_of X G z8
  have m_reversed := PySem.W.mg_none_of X G z9
  have m_sorted := PySem.W.mg_none_of X G z10
  have m_str := PySem.W.mg_none_of X G z11
  have m_tuple := PySem.W.mg_none_of X G z12
  have c_GREATEST_NUMBER := PySem.W.mg_of X G q1
  have c_KEY_SIGNS := PySem.W.mg_of X G q2
  have c_LONGEST_KEY := PySem.W.mg_of X G q3
  have c_WIDEST_ROW := PySem.W.mg_of X G q4
  have c_Refused := PySem.W.mg_of X G aC_Refused
  have T_Refused : XfC K C_Refused := ⟨ga_Refused, gg_Refused, ex_Refused, hx_Refused⟩
  have hc_read_change : d_read_change.fd.code = .ref cT_read_change := rfl
  let ct : Ct := ⟨clT [(0, C_Part), (1, C_Recorder), (2, C_Reader)] [(3, C_Refused)] [(PT_read_change, lamQ "read_change")], E0, X0⟩
  haveI : CtOk K ct := ctOk_of fun p hp => by
    simp only [List.mem_cons, List.not_mem_nil, or_false] at hp
    rcases hp with rfl | rfl | rfl
    · refine ⟨⟨pg_Part, hd_Part, po_Part, sa_Part⟩, fun f hf => ?_⟩
      have hf' : f ∈ (["link", "root", "is_open"] : List Str) := hf
      simp only [List.mem_cons, List.not_mem_nil, or_false] at hf'
      rcases hf' with rfl | rfl | rfl
      · exact n_Part_link
      · exact n_Part_root
      · exact n_Part_is_open
    · refine ⟨⟨pg_Recorder, hd_Recorder, po_Recorder, sa_Recorder⟩, fun f hf => ?_⟩
      have hf' : f ∈ (["rule", "certificate"] : List Str) := hf
      simp only [List.mem_cons, List.not_mem_nil, or_false] at hf'
      rcases hf' with rfl | rfl
      · exact n_Recorder_rule
      · exact n_Recorder_certificate
    · refine ⟨⟨pg_Reader, hd_Reader, po_Reader, sa_Reader⟩, fun f hf => ?_⟩
      have hf' : f ∈ (["rule", "certificate", "position"] : List Str) := hf
      simp only [List.mem_cons, List.not_mem_nil, or_false] at hf'
      rcases hf' with rfl | rfl | rfl
      · exact n_Reader_rule
      · exact n_Reader_certificate
      · exact n_Reader_position
  haveI : ExT K ct C_Refused := ⟨rfl, mx_Refused⟩
  haveI : ExA K ct C_Refused 3 := ⟨rfl, I_Refused.ox, fun f hf => by
    have hf' : f ∈ (["number", "word"] : List Str) := hf
    simp only [List.mem_cons, List.not_mem_nil, or_false] at hf'
    rcases hf' with rfl | rfl
    · exact n_Refused_number
    · exact n_Refused_word⟩
  haveI : LamT ct PT_read_change (lamQ "read_change") := ⟨List.mem_singleton.mpr rfl, fun p hp _ => by rw [List.mem_singleton.mp hp]⟩
  haveI : ClA ct C_Part 0 := ⟨rfl⟩
  haveI : ClA ct C_Recorder 1 := ⟨rfl⟩
  haveI : ClA ct C_Reader 2 := ⟨rfl⟩
  refine ⟨PySem.W.fnOf "law" "law" (defArgs sLaw) (defBody sLaw) (defScope sLaw) .none kV56 dc56 pm56 an56 cd56 ct56, [(cT_read_change, PT_read_change)], spLaw K [(PT_read_change, lamQ "read_change")], (fun p hp => by
    simp only [List.mem_cons, List.not_mem_nil, or_false] at hp
    rcases hp with rfl
    · exact tT_read_change), (fun p hp => by
    simp only [List.mem_cons, List.not_mem_nil, or_false] at hp
    rcases hp with rfl
    · exact tN_read_change), (fun p hp => by
    simp only [List.mem_cons, List.not_mem_nil, or_false] at hp
    rcases hp with rfl
    · exact PySem.W.codeHd_of_K X tC_read_change), fun s v => .of_eq rfl, fun H a ns hl _ hH hS => ⟨a, ns, rfl, hS, hl, (fun p hp => by
    simp only [List.mem_cons, List.not_mem_nil, or_false] at hp
    rcases hp with rfl
    · exact LamX.TabS.nil (hH (cT_read_change, PT_read_change) (by simp))), fun _ => rfl⟩, fun base _ _ TBs => ?_⟩
  have TB_read_change := TBs (cT_read_change, PT_read_change) (by simp)
  have GD := ok_draw (P := l.prog) (w := w) (mg := mg) (base := base) d__law_draw m_len m_int
  have GK := ok_key d__law_key d__law_draw m_range GD
  have GR := ok_row d__law_row d__law_draw m_range m_tuple GD
  have GT := ok_table d__law_table d__law_draw d__law_key d__law_row m_range m_sorted GD GK GR
  have G_LDraw := br_draw (ct := ct) GD
  have G_LKey := br_key (ct := ct) GK
  have G_LTable := br_table (ct := ct) GT
  have G_PEncode := ok_PEncode (P := l.prog) (w := w) (mg := mg) (base := base) (ct := ct) d_encode m_int m_isinstance m_len m_ord m_str
  have G_PDigest := ok_PDigest (P := l.prog) (w := w) (mg := mg) (base := base) (ct := ct) d_digest d_encode m_len G_PEncode
  have G_LCodes := ok_LCodes (P := l.prog) (w := w) (mg := mg) (base := base) (ct := ct) d__law_codes m_ord
  have G_LEncode := ok_LEncode (P := l.prog) (w := w) (mg := mg) (base := base) (ct := ct) d__law_encode d__law_codes m_isinstance m_len m_str m_tuple G_LCodes
  have G_LDigest := ok_LDigest (P := l.prog) (w := w) (mg := mg) (base := base) (ct := ct) d__law_digest d__law_encode m_int m_len G_LEncode
  have G_LRule := ok_LRule (P := l.prog) (w := w) (mg := mg) (base := base) (ct := ct) d__law_rule d__law_draw G_LDraw
  have G_LSomeKey := ok_LSomeKey (P := l.prog) (w := w) (mg := mg) (base := base) (ct := ct) d__law_some_key d__law_draw d__law_key m_len G_LDraw G_LKey
  have G_LChanged := ok_LChanged (P := l.prog) (w := w) (mg := mg) (base := base) (ct := ct) d__law_changed
  have G_LCell := ok_LCell (P := l.prog) (w := w) (mg := mg) (base := base) (ct := ct) d__law_cell m_len
  have G_LRank := ok_LRank (P := l.prog) (w := w) (mg := mg) (base := base) (ct := ct) d__law_rank d__law_codes m_int G_LCodes
  have G_LTop := ok_LTop (P := l.prog) (w := w) (mg := mg) (base := base) (ct := ct) d__law_top d__law_rank m_len m_range G_LRank
  have G_LLink := ok_LLink (P := l.prog) (w := w) (mg := mg) (base := base) (ct := ct) d__law_link d__law_cell d__law_digest m_range m_tuple G_LCell G_LDigest
  have G_LTree := ok_LTree (P := l.prog) (w := w) (mg := mg) (base := base) (ct := ct) d__law_tree d__law_digest d__law_top d__law_link m_len G_LDigest G_LTop G_LLink
  have G_PRank := ok_PRank (P := l.prog) (w := w) (mg := mg) (base := base) (ct := ct) d_rank m_ord
  have G_PStandsAbove := ok_PStandsAbove (P := l.prog) (w := w) (mg := mg) (base := base) (ct := ct) d_stands_above d_rank G_PRank
  have G_PColumnOf := ok_PColumnOf (P := l.prog) (w := w) (mg := mg) (base := base) (ct := ct) d_column_of m_len
  have G_PEntryDigest := ok_PEntryDigest (P := l.prog) (w := w) (mg := mg) (base := base) (ct := ct) d_entry_digest d_digest G_PDigest
  have G_PEntryLink := ok_PEntryLink (P := l.prog) (w := w) (mg := mg) (base := base) (ct := ct) d_entry_link d_column_of d_entry_digest m_range m_tuple c_WIDEST_ROW G_PColumnOf G_PEntryDigest
  have G_PEmptyLink := ok_PEmptyLink (P := l.prog) (w := w) (mg := mg) (base := base) (ct := ct) d_empty_link d_digest G_PDigest
  have G_PartI := ok_PartI (P := l.prog) (w := w) (mg := mg) (base := base) I_Part
  have G_PLinkedPart := ok_PLinkedPart (P := l.prog) (w := w) (mg := mg) (base := base) (ct := ct) d_linked_part I_Part G_PartI
  have G_PEmptyPart := ok_PEmptyPart (P := l.prog) (w := w) (mg := mg) (base := base) (ct := ct) d_empty_part d_linked_part d_empty_link G_PLinkedPart G_PEmptyLink
  have G_PRootedPart := ok_PRootedPart (P := l.prog) (w := w) (mg := mg) (base := base) (ct := ct) d_rooted_part d_entry_link I_Part G_PEntryLink G_PartI
  have G_PCompleted := ok_PCompleted (P := l.prog) (w := w) (mg := mg) (base := base) (ct := ct) d_completed d_rooted_part m_reversed G_PRootedPart
  have G_PTreeOf := ok_PTreeOf (P := l.prog) (w := w) (mg := mg) (base := base) (ct := ct) d_tree_of d_stands_above d_completed d_empty_part G_PStandsAbove G_PCompleted G_PEmptyPart
  have G_RecorderI := ok_RecorderI (P := l.prog) (w := w) (mg := mg) (base := base) I_Recorder
  have G_PPartIsEmpty := ok_PPartIsEmpty (P := l.prog) (w := w) (mg := mg) (base := base) (ct := ct) d_Part_is_empty
  have G_PPartEntry := ok_PPartEntry (P := l.prog) (w := w) (mg := mg) (base := base) (ct := ct) d_Part_entry
  have G_PRecorderOpened := ok_PRecorderOpened (P := l.prog) (w := w) (mg := mg) (base := base) (ct := ct) d_Recorder_opened d_Part_entry I_Part G_PPartEntry G_PartI
  have G_OpRec := op_rec (P := l.prog) (w := w) (mg := mg) (base := base) (ct := ct) G_PRecorderOpened
  have G_PWayOn := ok_PWayOn (P := l.prog) (w := w) (mg := mg) (base := base) (ct := ct) d_way_on
  have G_PWayTo_Rec := ok_PWayTo (P := l.prog) (w := w) (mg := mg) (base := base) (ct := ct) MRec d_way_to d_Part_is_empty d_way_on d_Recorder_opened G_PPartIsEmpty G_PWayOn G_OpRec
  have G_PSplit_Rec := ok_PSplit (P := l.prog) (w := w) (mg := mg) (base := base) (ct := ct) MRec d_split d_way_to d_Part_is_empty d_empty_part d_completed d_Recorder_opened m_reversed G_PWayTo_Rec G_PPartIsEmpty G_PEmptyPart G_PCompleted G_OpRec
  have G_PMerged_Rec := ok_PMerged (P := l.prog) (w := w) (mg := mg) (base := base) (ct := ct) MRec d_merged d_Part_is_empty d_stands_above d_completed d_Recorder_opened G_PPartIsEmpty G_PStandsAbove G_PCompleted G_OpRec
  have G_PWithRow_Rec := ok_PWithRow (P := l.prog) (w := w) (mg := mg) (base := base) (ct := ct) MRec d_with_row d_Part_is_empty d_stands_above d_way_on d_split d_completed d_rooted_part d_Recorder_opened G_PPartIsEmpty G_PStandsAbove G_PWayOn G_PSplit_Rec G_PCompleted G_PRootedPart G_OpRec
  have G_PWithoutRow_Rec := ok_PWithoutRow (P := l.prog) (w := w) (mg := mg) (base := base) (ct := ct) MRec d_without_row d_way_to d_Part_is_empty d_merged d_completed d_Recorder_opened G_PWayTo_Rec G_PPartIsEmpty G_PMerged_Rec G_PCompleted G_OpRec
  have G_PSpliced_Rec := ok_PSpliced (P := l.prog) (w := w) (mg := mg) (base := base) (ct := ct) MRec d_spliced d_with_row d_without_row d_Recorder_opened G_PWithRow_Rec G_PWithoutRow_Rec G_OpRec
  have G_PIsNumber := ok_PIsNumber (P := l.prog) (w := w) (mg := mg) (base := base) (ct := ct) d_is_number m_bool m_int m_isinstance
  have G_PAreNumbers := ok_PAreNumbers (P := l.prog) (w := w) (mg := mg) (base := base) (ct := ct) d_are_numbers d_is_number m_all m_isinstance m_tuple G_PIsNumber
  have G_PIsLink := ok_PIsLink (P := l.prog) (w := w) (mg := mg) (base := base) (ct := ct) d_is_link d_are_numbers d_is_number m_isinstance m_len m_tuple c_WIDEST_ROW G_PAreNumbers G_PIsNumber
  have G_PHasKeySigns := ok_PHasKeySigns (P := l.prog) (w := w) (mg := mg) (base := base) (ct := ct) d_has_key_signs m_all c_KEY_SIGNS
  have G_PIsKey := ok_PIsKey (P := l.prog) (w := w) (mg := mg) (base := base) (ct := ct) d_is_key d_has_key_signs m_len c_LONGEST_KEY G_PHasKeySigns
  have G_PIsRow := ok_PIsRow (P := l.prog) (w := w) (mg := mg) (base := base) (ct := ct) d_is_row m_all m_len c_GREATEST_NUMBER c_WIDEST_ROW
  have G_RefusedI := ok_RefusedI (P := l.prog) (w := w) (mg := mg) (base := base) I_Refused
  have G_ReaderI := ok_ReaderI (P := l.prog) (w := w) (mg := mg) (base := base) I_Reader
  have G_PIsEntry := ok_PIsEntry (P := l.prog) (w := w) (mg := mg) (base := base) (ct := ct) d_is_entry d_is_key d_is_link d_is_row d_are_numbers m_isinstance m_len m_str m_tuple G_PIsKey G_PIsLink G_PIsRow G_PAreNumbers
  have G_PFaultOf := ok_PFaultOf (P := l.prog) (w := w) (mg := mg) (base := base) (ct := ct) d_fault_of d_is_entry d_entry_link G_PIsEntry G_PEntryLink
  have G_PReaderOpened := ok_PReaderOpened (P := l.prog) (w := w) (mg := mg) (base := base) (ct := ct) d_Reader_opened d_fault_of d_linked_part I_Refused I_Part m_len G_PFaultOf G_PLinkedPart G_RefusedI G_PartI
  have G_PReaderFinish := ok_PReaderFinish (P := l.prog) (w := w) (mg := mg) (base := base) (ct := ct) d_Reader_finish I_Refused m_len G_RefusedI
  have G_PCertifiedChange := ok_PCertifiedChange (P := l.prog) (w := w) (mg := mg) (base := base) (ct := ct) d_certified_change d_spliced d_tree_of I_Recorder G_PSpliced_Rec G_PTreeOf G_RecorderI
  have G_OpRd := G_PReaderOpened
  have G_PWayTo_Rd := ok_PWayTo (P := l.prog) (w := w) (mg := mg) (base := base) (ct := ct) MRd d_way_to d_Part_is_empty d_way_on d_Reader_opened G_PPartIsEmpty G_PWayOn G_OpRd
  have G_PSplit_Rd := ok_PSplit (P := l.prog) (w := w) (mg := mg) (base := base) (ct := ct) MRd d_split d_way_to d_Part_is_empty d_empty_part d_completed d_Reader_opened m_reversed G_PWayTo_Rd G_PPartIsEmpty G_PEmptyPart G_PCompleted G_OpRd
  have G_PMerged_Rd := ok_PMerged (P := l.prog) (w := w) (mg := mg) (base := base) (ct := ct) MRd d_merged d_Part_is_empty d_stands_above d_completed d_Reader_opened G_PPartIsEmpty G_PStandsAbove G_PCompleted G_OpRd
  have G_PWithRow_Rd := ok_PWithRow (P := l.prog) (w := w) (mg := mg) (base := base) (ct := ct) MRd d_with_row d_Part_is_empty d_stands_above d_way_on d_split d_completed d_rooted_part d_Reader_opened G_PPartIsEmpty G_PStandsAbove G_PWayOn G_PSplit_Rd G_PCompleted G_PRootedPart G_OpRd
  have G_PWithoutRow_Rd := ok_PWithoutRow (P := l.prog) (w := w) (mg := mg) (base := base) (ct := ct) MRd d_without_row d_way_to d_Part_is_empty d_merged d_completed d_Reader_opened G_PWayTo_Rd G_PPartIsEmpty G_PMerged_Rd G_PCompleted G_OpRd
  have G_PSpliced_Rd := ok_PSpliced (P := l.prog) (w := w) (mg := mg) (base := base) (ct := ct) MRd d_spliced d_with_row d_without_row d_Reader_opened G_PWithRow_Rd G_PWithoutRow_Rd G_OpRd
  have G_PReadChange := ok_PReadChange (P := l.prog) (w := w) (mg := mg) (base := base) (ct := ct) d_read_change hc_read_change TB_read_change d_outcome d_spliced d_linked_part c_Refused T_Refused n_Refused_word n_Refused_number I_Reader d_Reader_finish G_ReaderI G_PReaderFinish G_PSpliced_Rd G_PLinkedPart
  have W := ok_Law (P := l.prog) (w := w) (base := base) (ct := ct) d_law d__law_rule d__law_table d__law_tree d__law_some_key d__law_draw d_read_change d_certified_change d__law_changed m_len m_list m_range G_LRule G_LTable G_LTree G_LSomeKey G_LDraw G_PReadChange G_PCertifiedChange G_LChanged
  exact W
end RR
open PySem PySem.W PyProof.Rows
set_option maxRecDepth 100000 in
set_option maxHeartbeats 0 in
theorem PySem.Challenge.cw_rightrows_k14_whole_order_of_putting_holds : PySem.Challenge.rw_rightrows_k14_whole_order_of_putting.Holds := by
  w_on; o_law; k_head; (case hw => w_witness2)
  k_fill
  refine LamX.walk_ofTs (l := PySem.Challenge.rw_rightrows_k14_whole_order_of_putting) (n := 63) (k := 230) (x := "script") (CX := fun _ => L2.CX0) rfl (by decide) rfl ⟨rfl, by decide, by decide⟩ (fun w h Y => PySem.W.km_in_of Y) ?F (fun _ _ _ _ _ h => h)
  case F =>
    intro w mg fa h Y KX G hmg
    refine' RR.all_mk KX G hmg ?a1 ?l1 ?e1 ?k1 ?a2 ?l2 ?e2 ?k2 ?a3 ?l3 ?e3 ?k3 ?a4 ?l4 ?e4 ?k4 ?a5 ?l5 ?e5 ?k5 ?a6 ?l6 ?e6 ?k6 ?a7 ?l7 ?e7 ?k7 ?a8 ?l8 ?e8 ?k8 ?a9 ?l9 ?e9 ?k9 ?a10 ?l10 ?e10 ?k10 ?a11 ?l11 ?e11 ?k11 ?a12 ?l12 ?e12 ?k12 ?a13 ?l13 ?e13 ?k13 ?a14 ?l14 ?e14 ?k14 ?a15 ?l15 ?e15 ?k15 ?a16 ?l16 ?e16 ?k16 ?a17 ?l17 ?e17 ?k17 ?a18 ?l18 ?e18 ?k18 ?a19 ?l19 ?e19 ?k19 ?a20 ?l20 ?e20 ?k20 ?a21 ?l21 ?e21 ?k21 ?a22 ?l22 ?e22 ?k22 ?a23 ?l23 ?e23 ?k23 ?a24 ?l24 ?e24 ?k24 ?a25 ?l25 ?e25 ?k25 ?a26 ?l26 ?e26 ?k26 ?a27 ?l27 ?e27 ?k27 ?a28 ?l28 ?e28 ?k28 ?a29 ?l29 ?e29 ?k29 ?a30 ?l30 ?e30 ?k30 ?a31 ?l31 ?e31 ?k31 ?a32 ?l32 ?e32 ?k32 ?a33 ?l33 ?e33 ?k33 ?a34 ?l34 ?e34 ?k34 ?a35 ?l35 ?e35 ?k35 ?a36 ?l36 ?e36 ?k36 ?a37 ?l37 ?e37 ?k37 ?a38 ?l38 ?e38 ?k38 ?a39 ?l39 ?e39 ?k39 ?a40 ?l40 ?e40 ?k40 ?a41 ?l41 ?e41 ?k41 ?a42 ?l42 ?e42 ?k42 ?a43 ?l43 ?e43 ?k43 ?a44 ?l44 ?e44 ?k44 ?a45 ?l45 ?e45 ?k45 ?a46 ?l46 ?e46 ?k46 ?a47 ?i47 ?l47 ?e47 ?k47 ?a48 ?i48 ?l48 ?e48 ?k48 ?a49 ?i49 ?l49 ?e49 ?k49 ?a50 ?i50 ?l50 ?e50 ?k50 ?a51 ?i51 ?l51 ?e51 ?k51 ?a52 ?i52 ?l52 ?e52 ?k52 ?a53 ?i53 ?l53 ?e53 ?k53 ?a54 ?i54 ?l54 ?e54 ?k54 ?a55 ?i55 ?l55 ?e55 ?k55 ?a56 ?l56 ?e56 ?k56 ?aC_Part ?pg_Part ?hd_Part ?po_Part ?sa_Part ?mk_Part ?kc_Part ?n_Part_link ?n_Part_root ?n_Part_is_open ?aC_Recorder ?pg_Recorder ?hd_Recorder ?po_Recorder ?sa_Recorder ?mk_Recorder ?kc_Recorder ?n_Recorder_rule ?n_Recorder_certificate ?aC_Reader ?pg_Reader ?hd_Reader ?po_Reader ?sa_Reader ?mk_Reader ?kc_Reader ?n_Reader_rule ?n_Reader_certificate ?n_Reader_position ?aC_Refused ?lx_Refused ?rv_Refused ?sx_Refused ?ex_Refused ?ty_Refused ?kc_Refused ?ga_Refused ?gg_Refused ?hx_Refused ?mx_Refused ?n_Refused_number ?n_Refused_word ?tC_read_change ?tN_read_change ?tT_read_change ?q1 ?q2 ?q3 ?q4 ?z1 ?z2 ?z3 ?z4 ?z5 ?z6 ?z7 ?z8 ?z9 ?z10 ?z11 ?z12
    (case aC_Part => k_is); (case aC_Recorder => k_is); (case aC_Reader => k_is); (case aC_Refused => k_is); (case a1 => k_is); (case l1 => k_is)
    (case e1 => k_is); (case k1 => k_is); (case a2 => k_is); (case l2 => k_is); (case e2 => k_is); (case k2 => k_is)
    (case a3 => k_is); (case l3 => k_is); (case e3 => k_is); (case k3 => k_is); (case a4 => k_is); (case l4 => k_is)
    (case e4 => k_is); (case k4 => k_is); (case a5 => k_is); (case l5 => k_is); (case e5 => k_is); (case k5 => k_is)
    (case a6 => k_is); (case l6 => k_is); (case e6 => k_is); (case k6 => k_is); (case a7 => k_is); (case l7 => k_is)
    (case e7 => k_is); (case k7 => k_is); (case a8 => k_is); (case l8 => k_is); (case e8 => k_is); (case k8 => k_is)
    (case a9 => k_is); (case l9 => k_is); (case e9 => k_is); (case k9 => k_is); (case a10 => k_is); (case l10 => k_is)
    (case e10 => k_is); (case k10 => k_is); (case a11 => k_is); (case l11 => k_is); (case e11 => k_is); (case k11 => k_is)
    (case a12 => k_is); (case l12 => k_is); (case e12 => k_is); (case k12 => k_is); (case a13 => k_is); (case l13 => k_is)
    (case e13 => k_is); (case k13 => k_is); (case a14 => k_is); (case l14 => k_is); (case e14 => k_is); (case k14 => k_is)
    (case a15 => k_is); (case l15 => k_is); (case e15 => k_is); (case k15 => k_is); (case a16 => k_is); (case l16 => k_is)
    (case e16 => k_is); (case k16 => k_is); (case a17 => k_is); (case l17 => k_is); (case e17 => k_is); (case k17 => k_is)
    (case a18 => k_is); (case l18 => k_is); (case e18 => k_is); (case k18 => k_is); (case a19 => k_is); (case l19 => k_is)
    (case e19 => k_is); (case k19 => k_is); (case a20 => k_is); (case l20 => k_is); (case e20 => k_is); (case k20 => k_is)
    (case a21 => k_is); (case l21 => k_is); (case e21 => k_is); (case k21 => k_is); (case a22 => k_is); (case l22 => k_is)
    (case e22 => k_is); (case k22 => k_is); (case a23 => k_is); (case l23 => k_is); (case e23 => k_is); (case k23 => k_is)
    (case a24 => k_is); (case l24 => k_is); (case e24 => k_is); (case k24 => k_is); (case a25 => k_is); (case l25 => k_is)
    (case e25 => k_is); (case k25 => k_is); (case a26 => k_is); (case l26 => k_is); (case e26 => k_is); (case k26 => k_is)
    (case a27 => k_is); (case l27 => k_is); (case e27 => k_is); (case k27 => k_is); (case a28 => k_is); (case l28 => k_is)
    (case e28 => k_is); (case k28 => k_is); (case a29 => k_is); (case l29 => k_is); (case e29 => k_is); (case k29 => k_is)
    (case a30 => k_is); (case l30 => k_is); (case e30 => k_is); (case k30 => k_is); (case a31 => k_is); (case l31 => k_is)
    (case e31 => k_is); (case k31 => k_is); (case a32 => k_is); (case l32 => k_is); (case e32 => k_is); (case k32 => k_is)
    (case a33 => k_is); (case l33 => k_is); (case e33 => k_is); (case k33 => k_is); (case a34 => k_is); (case l34 => k_is)
    (case e34 => k_is); (case k34 => k_is); (case a35 => k_is); (case l35 => k_is); (case e35 => k_is); (case k35 => k_is)
    (case a36 => k_is); (case l36 => k_is); (case e36 => k_is); (case k36 => k_is); (case a37 => k_is); (case l37 => k_is)
    (case e37 => k_is); (case k37 => k_is); (case a38 => k_is); (case l38 => k_is); (case e38 => k_is); (case k38 => k_is)
    (case a39 => k_is); (case l39 => k_is); (case e39 => k_is); (case k39 => k_is); (case a40 => k_is); (case l40 => k_is)
    (case e40 => k_is); (case k40 => k_is); (case a41 => k_is); (case l41 => k_is); (case e41 => k_is); (case k41 => k_is)
    (case a42 => k_is); (case l42 => k_is); (case e42 => k_is); (case k42 => k_is); (case a43 => k_is); (case l43 => k_is)
    (case e43 => k_is); (case k43 => k_is); (case a44 => k_is); (case l44 => k_is); (case e44 => k_is); (case k44 => k_is)
    (case a45 => k_is); (case l45 => k_is); (case e45 => k_is); (case k45 => k_is); (case a46 => k_is); (case l46 => k_is)
    (case e46 => k_is); (case k46 => k_is); (case a47 => k_is); (case i47 => k_is); (case l47 => k_is); (case e47 => k_is)
    (case k47 => k_is); (case a48 => k_is); (case i48 => k_is); (case l48 => k_is); (case e48 => k_is); (case k48 => k_is)
    (case a49 => k_is); (case i49 => k_is); (case l49 => k_is); (case e49 => k_is); (case k49 => k_is); (case a50 => k_is)
    (case i50 => k_is); (case l50 => k_is); (case e50 => k_is); (case k50 => k_is); (case a51 => k_is); (case i51 => k_is)
    (case l51 => k_is); (case e51 => k_is); (case k51 => k_is); (case a52 => k_is); (case i52 => k_is); (case l52 => k_is)
    (case e52 => k_is); (case k52 => k_is); (case a53 => k_is); (case i53 => k_is); (case l53 => k_is); (case e53 => k_is)
    (case k53 => k_is); (case a54 => k_is); (case i54 => k_is); (case l54 => k_is); (case e54 => k_is); (case k54 => k_is)
    (case a55 => k_is); (case i55 => k_is); (case l55 => k_is); (case e55 => k_is); (case k55 => k_is); (case a56 => k_is)
    (case l56 => k_is); (case e56 => k_is); (case k56 => k_is); (case pg_Part => k_is); (case hd_Part => k_is); (case po_Part => k_is)
    (case sa_Part => k_is); (case mk_Part => k_is); (case kc_Part => k_is); (case n_Part_link => k_is); (case n_Part_root => k_is); (case n_Part_is_open => k_is)
    (case pg_Recorder => k_is); (case hd_Recorder => k_is); (case po_Recorder => k_is); (case sa_Recorder => k_is); (case mk_Recorder => k_is); (case kc_Recorder => k_is)
    (case n_Recorder_rule => k_is); (case n_Recorder_certificate => k_is); (case pg_Reader => k_is); (case hd_Reader => k_is); (case po_Reader => k_is); (case sa_Reader => k_is)
    (case mk_Reader => k_is); (case kc_Reader => k_is); (case n_Reader_rule => k_is); (case n_Reader_certificate => k_is); (case n_Reader_position => k_is); (case lx_Refused => k_is)
    (case rv_Refused => rfl); (case sx_Refused => k_is); (case ex_Refused => k_is); (case ty_Refused => k_is); (case kc_Refused => k_is); (case ga_Refused => k_is)
    (case gg_Refused => k_is); (case hx_Refused => k_is); (case mx_Refused => kts_exm); (case n_Refused_number => k_is); (case n_Refused_word => k_is); (case tT_read_change => exact PySem.W.km_tabs_of Y _ (List.mem_cons_self))
    (case q1 => k_is); (case q2 => k_is); (case q3 => k_is); (case q4 => k_is); (case z1 => k_is); (case z2 => k_is)
    (case z3 => k_is); (case z4 => k_is); (case z5 => k_is); (case z6 => k_is); (case z7 => k_is); (case z8 => k_is)
    (case z9 => k_is); (case z10 => k_is); (case z11 => k_is); (case z12 => k_is); (case tC_read_change => kernel_rfl); (case tN_read_change => kernel_rfl)
