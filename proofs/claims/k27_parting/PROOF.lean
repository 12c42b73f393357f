import PyProof.Rows.All
import Wide.All
import OpenK.AllK
import Wide.FinOn
import HandS.ForMost
import HandS.ForExc
import HandS.ExcInit
import HandS.Defaults
import KE.KStateDown
import HandS.Head0
import HandS.Head1
import HandS.Head2
import HandS.HeadEnd
import HandS.HeadHook1
import HandS.HeadHook2
import HandS.HeadHook3
import HandS.HeadHook4
import HandS.HeadWalk
import PySem.Challenge.RW_rightrows_k27_parting
import HandS.Wide
import HandS.Codes
import HandS.More
import HandS.IsInst
import HandS.Walk
import HandS.TupAny
import HandS.Lambda
import HandS.Style
import PyProof.RulesMatchSeq
import PyProof.Rows.MatchSeqLen
import HandS.ExcField
import PyProof.StrLawsIn
import HandS.Deep
import HandS.Strs
import HandS.Set
import HandS.SetFor
import HandS.SetTxt0
import HandS.SetBool
import KE.GoesMore
import HandS.Text
import HandS.ExcIs
import HandS.ExcValue
import HandS.ExcOwn
import HandS.RaiseMore
import KE.SortKeyHeap
import KE.KSortKey
import HandS.SortKw
import HandS.DictComp
set_option Elab.async false
set_option linter.all false
set_option maxRecDepth 100000
set_option synthInstance.maxSize 100000
set_option synthInstance.maxHeartbeats 0
namespace RR
open PySem PySem.Spec PyProof.Rows L2
/-! ### the head by names -/
theorem funOfD {K : PySem.W.Frag} {x q : Str} {st : Stmt} {p : Str × Option Str} {fd : FuncData} (F : FunD K x q (defArgs st) (defBody st) (defScope st) [] [] (He.fAd K p) fd) : Fun K x q st (He.fAd K p) fd := by
  obtain ⟨⟨oc, od, dV, kV, doc, pm, an, cdv, ct, osl, e, l, c, d, k⟩, kp⟩ := F
  rcases d with ⟨_, rfl⟩ | ⟨h, _⟩
  · exact ⟨⟨oc, od, kV, doc, pm, an, cdv, ct, osl, e, l, c⟩, kp⟩
  · exact absurd rfl h
theorem codeOfF {K : PySem.W.Frag} {x q : Str} {st : Stmt} {p : Str × Option Str} {fd : FuncData} (F : Fun K x q st (He.fAd K p) fd) : fd.code = .ref (He.cT K p).1 := by
  obtain ⟨⟨oc, od, kV, doc, pm, an, cdv, ct, osl, e, l, c⟩, _⟩ := F
  obtain ⟨c', rfl⟩ := He.codeIn_ref c
  subst e
  show _ = Value.ref (He.codeOf K p)
  rw [He.codeOf_eq l rfl]
def OexO (K : PySem.W.Frag) (C : Addr) : Prop := ∃ nm q N bs bm sn sub ab col dd k0 k1 k2 k3 k5, K.lookup C = some (excClassObj nm q C N bs bm true sn sub ab col dd k0 k1 k2 k3 k5 "ValueError.__new__") ∧ PySem.HandSPX.refsVE bm = true
def oexB (K : PySem.W.Frag) (C : Addr) : Bool := match K.lookup C with
  | some ⟨.type "type", _, .cls cd, sl⟩ => (match cd.mro, sl.toList with
    | .ref C' :: bm, [_, _, _, _, some (.builtin n), _] => C' == C && n == "ValueError.__new__" && !cd.hasDel && cd.hasDict && PySem.HandSPX.refsVE bm
    | _, _ => false)
  | _ => false
theorem oexB_ok {K : PySem.W.Frag} {C : Addr} (q : oexB K C = true) : OexO K C := by
  unfold oexB at q
  split at q
  · rename_i dd cd sl ho
    split at q
    · rename_i C' bm k0 k1 k2 k3 n k5 hm hs
      simp only [Bool.and_eq_true, beq_iff_eq, Bool.not_eq_true'] at q
      obtain ⟨⟨⟨⟨rfl, rfl⟩, hdel⟩, hdic⟩, ht⟩ := q
      obtain ⟨nm, bs, mro, ns, qn, hd, sn, sub, ab, col, del⟩ := cd
      dsimp only at hm hdel hdic
      subst hm hdel hdic
      have hsl : sl = #[k0, k1, k2, k3, some (.builtin "ValueError.__new__"), k5] := by
        obtain ⟨l⟩ := sl
        simp only at hs
        rw [hs]
      subst hsl
      exact ⟨nm, qn, ns, bs, bm, sn, sub, ab, col, dd, k0, k1, k2, k3, k5, ho, ht⟩
    · cases q
  · cases q
/-! ### what is looked at: the functions, their code, the classes and what they hold -/
def frL {α β : Type} : List α → (List α → β) → β
  | [], k => k []
  | a :: l, k => frL l fun l => k (a :: l)
theorem frL_eq {α β : Type} : ∀ (l : List α) (k : List α → β), frL l k = k l
  | [], _ => rfl
  | a :: l, k => frL_eq l fun l => k (a :: l)
def refsE (o : Obj) : List Addr := match o.data with
  | .func fd => He.refV fd.code
  | .cls cd => cd.ns :: cd.mro.flatMap He.refV
  | .dict es _ => es.toList.flatMap fun e => He.refV e.val
  | _ => []
def reachE (g : Addr → Option Obj) : Nat → List Addr → Nat → List Addr → List Addr
  | 0, _, _, acc => acc
  | n + 1, l, seen, acc => match l with
    | [] => acc
    | a :: r => HandSHeadRun.frNat a fun a => match Nat.beq (Nat.land seen (Nat.shiftLeft 1 a)) 0 with
      | false => reachE g n r seen acc
      | true => HandSHeadRun.frNat (Nat.lor seen (Nat.shiftLeft 1 a)) fun seen => match g a with
        | some o => reachE g n (refsE o ++ r) seen (a :: acc)
        | none => reachE g n r seen acc
def asE (g : Addr → Option Obj) : List Addr := reachE g 4000 [mainGlobals] 0 []
def frE (g : Addr → Option Obj) : PySem.W.Frag := He.frG g (asE g)
def tabsE (g : Addr → Option Obj) (tf : List He.Defn) (K : PySem.W.Frag) : Bool := tf.all fun p => PySem.W.codeHdIn K (He.cT K p).1 (He.cT K p).2 && ((K.lookup (He.cT K p).2).isNone && (match g (He.cT K p).2 with
  | some o => He.emptyTab o
  | none => false))
def obsE (fa : List He.Fa) (fn : List He.DefD) (ts : List He.Tab) (tf : List He.Defn) (ex : PySem.W.Frag → Bool) (g : Addr → Option Obj) : He.AlX := frL (frE g) fun K => (He.obsT fa fn ts K, ex K && tabsE g tf K)
theorem saysE_of {fa : List He.Fa} {fn : List He.DefD} {ts : List He.Tab} {tf : List He.Defn} {ex : PySem.W.Frag → Bool} {w : World} {h : Heap} (e : obsE fa fn ts tf ex h.get? = He.valX fn ts w) : He.SaysX fa fn ts tf ex w h (frE h.get?) := by
  unfold obsE at e
  rw [frL_eq] at e
  have e1 : He.obsT fa fn ts (frE h.get?) = He.valT fn ts w := congrArg (fun z : He.AlX => z.1) e
  have e2 : (ex (frE h.get?) && tabsE h.get? tf (frE h.get?)) = true := congrArg (fun z : He.AlX => z.2) e
  obtain ⟨h1, h2⟩ := He.ba e2
  have key : ∀ p ∈ tf, PySem.W.codeHdIn (frE h.get?) (He.cT (frE h.get?) p).1 (He.cT (frE h.get?) p).2 = true ∧ (frE h.get?).lookup (He.cT (frE h.get?) p).2 = none ∧ ∃ o, h.get? (He.cT (frE h.get?) p).2 = some o ∧ He.emptyTab o = true := fun p hp => by
    obtain ⟨h3, h4⟩ := He.ba (List.all_eq_true.mp h2 p hp)
    obtain ⟨h5, h6⟩ := He.ba h4
    refine ⟨h3, Option.isNone_iff_eq_none.mp h5, ?_⟩
    cases q : h.get? (He.cT (frE h.get?) p).2 with
    | none =>
      rw [q] at h6
      cases h6
    | some o =>
      rw [q] at h6
      exact ⟨o, rfl, h6⟩
  exact ⟨e1, h1, fun p hp => (key p hp).1, fun p hp => (key p hp).2.1, fun p hp => by
    obtain ⟨_, _, o, q, z⟩ := key p hp
    rw [q, He.emptyTab_eq z]⟩
def hookE (fa : List He.Fa) (fn : List He.DefD) (ts : List He.Tab) (tf : List He.Defn) (ex : PySem.W.Frag → Bool) : PySem.W.Hook where
  α := He.AlX
  obs := fun s => obsE fa fn ts tf ex s.heap.get?
  val := fun w => He.valX fn ts w
  says := fun w h => ∃ K : PySem.W.Frag, K.In h ∧ He.SaysX fa fn ts tf ex w h K
  of := fun _ _ e => ⟨_, He.frG_in, saysE_of e⟩
  keeps := fun _ _ _ ⟨K, hK, c⟩ k => ⟨K, PySem.W.Frag.In.keeps hK k, ⟨c.t, c.more, c.hd, c.out, fun p hp => k _ _ (c.empty p hp)⟩⟩
theorem obsE_eq {fa : List He.Fa} {fn : List He.DefD} {ts : List He.Tab} {tf : List He.Defn} {ex : PySem.W.Frag → Bool} {g : Addr → Option Obj} {s : Shared} (h : ∀ a, g a = s.heap.get? a) : obsE fa fn ts tf ex g = (hookE fa fn ts tf ex).obs s := by
  have e : g = s.heap.get? := funext h
  rw [e] <;> rfl
def topH (i : Nat) : Stmt := PySem.Challenge.pw_rightrows_k27_parting.main.body.getD i (.Pass ⟨0, 0, 0, 0⟩)
/-! ### the head: the top in one kernel run, what it leaves told by names -/
def hx0 (K : PySem.W.Frag) : List Bool := [
  decide (PySem.W.nsIn K mainGlobals "parting" = some (some (.ref (He.ga K "parting")))),
  decide (PySem.W.nsIn K mainGlobals "_law_draw" = some (some (.ref (He.ga K "_law_draw")))),
  decide (PySem.W.nsIn K mainGlobals "_law_rule" = some (some (.ref (He.ga K "_law_rule")))),
  decide (PySem.W.nsIn K mainGlobals "_law_codes" = some (some (.ref (He.ga K "_law_codes")))),
  decide (PySem.W.nsIn K mainGlobals "_law_encode" = some (some (.ref (He.ga K "_law_encode")))),
  decide (PySem.W.nsIn K mainGlobals "_law_digest" = some (some (.ref (He.ga K "_law_digest")))),
  decide (PySem.W.nsIn K mainGlobals "_law_key" = some (some (.ref (He.ga K "_law_key")))),
  decide (PySem.W.nsIn K mainGlobals "_law_row" = some (some (.ref (He.ga K "_law_row")))),
  decide (PySem.W.nsIn K mainGlobals "_law_table" = some (some (.ref (He.ga K "_law_table")))),
  decide (PySem.W.nsIn K mainGlobals "_law_cell" = some (some (.ref (He.ga K "_law_cell")))),
  decide (PySem.W.nsIn K mainGlobals "_law_rank" = some (some (.ref (He.ga K "_law_rank")))),
  decide (PySem.W.nsIn K mainGlobals "_law_top" = some (some (.ref (He.ga K "_law_top")))),
  decide (PySem.W.nsIn K mainGlobals "_law_tree" = some (some (.ref (He.ga K "_law_tree")))),
  decide (PySem.W.nsIn K mainGlobals "_law_link" = some (some (.ref (He.ga K "_law_link")))),
  decide (PySem.W.nsIn K mainGlobals "_law_chain" = some (some (.ref (He.ga K "_law_chain")))),
  decide (PySem.W.nsIn K mainGlobals "_law_places" = some (some (.ref (He.ga K "_law_places")))),
  decide (PySem.W.nsIn K mainGlobals "_law_heights" = some (some (.ref (He.ga K "_law_heights")))),
  decide (PySem.W.nsIn K mainGlobals "_law_secret" = some (some (.ref (He.ga K "_law_secret")))),
  decide (PySem.W.nsIn K mainGlobals "_law_seal" = some (some (.ref (He.ga K "_law_seal")))),
  decide (PySem.W.nsIn K mainGlobals "_law_sealed" = some (some (.ref (He.ga K "_law_sealed"))))]
def hx1 (K : PySem.W.Frag) : List Bool := [
  decide (PySem.W.nsIn K mainGlobals "_law_list" = some (some (.ref (He.ga K "_law_list")))),
  decide (PySem.W.nsIn K mainGlobals "law" = some (some (.ref (He.ga K "law")))),
  decide (PySem.W.nsIn K mainGlobals "int" = some none),
  decide (PySem.W.nsIn K mainGlobals "isinstance" = some none),
  decide (PySem.W.nsIn K mainGlobals "len" = some none),
  decide (PySem.W.nsIn K mainGlobals "list" = some none),
  decide (PySem.W.nsIn K mainGlobals "ord" = some none),
  decide (PySem.W.nsIn K mainGlobals "range" = some none),
  decide (PySem.W.nsIn K mainGlobals "sorted" = some none),
  decide (PySem.W.nsIn K mainGlobals "str" = some none),
  decide (PySem.W.nsIn K mainGlobals "tuple" = some none)]
def hex (K : PySem.W.Frag) : Bool := (hx0 K).all id && ((hx1 K).all id && (true))
def hd1 : He.DefD := ⟨("parting", none), "parting", "parting", defArgs (topH 1), defBody (topH 1), defScope (topH 1), [], []⟩
def hd2 : He.DefD := ⟨("_law_draw", none), "_law_draw", "_law_draw", defArgs (topH 3), defBody (topH 3), defScope (topH 3), [], []⟩
def hd3 : He.DefD := ⟨("_law_rule", none), "_law_rule", "_law_rule", defArgs (topH 4), defBody (topH 4), defScope (topH 4), [], []⟩
def hd4 : He.DefD := ⟨("_law_codes", none), "_law_codes", "_law_codes", defArgs (topH 5), defBody (topH 5), defScope (topH 5), [], []⟩
def hd5 : He.DefD := ⟨("_law_encode", none), "_law_encode", "_law_encode", defArgs (topH 6), defBody (topH 6), defScope (topH 6), [], []⟩
def hd6 : He.DefD := ⟨("_law_digest", none), "_law_digest", "_law_digest", defArgs (topH 7), defBody (topH 7), defScope (topH 7), [], []⟩
def hd7 : He.DefD := ⟨("_law_key", none), "_law_key", "_law_key", defArgs (topH 8), defBody (topH 8), defScope (topH 8), [], []⟩
def hd8 : He.DefD := ⟨("_law_row", none), "_law_row", "_law_row", defArgs (topH 9), defBody (topH 9), defScope (topH 9), [], []⟩
def hd9 : He.DefD := ⟨("_law_table", none), "_law_table", "_law_table", defArgs (topH 10), defBody (topH 10), defScope (topH 10), [], []⟩
def hd10 : He.DefD := ⟨("_law_cell", none), "_law_cell", "_law_cell", defArgs (topH 11), defBody (topH 11), defScope (topH 11), [], []⟩
def hd11 : He.DefD := ⟨("_law_rank", none), "_law_rank", "_law_rank", defArgs (topH 12), defBody (topH 12), defScope (topH 12), [], []⟩
def hd12 : He.DefD := ⟨("_law_top", none), "_law_top", "_law_top", defArgs (topH 13), defBody (topH 13), defScope (topH 13), [], []⟩
def hd13 : He.DefD := ⟨("_law_tree", none), "_law_tree", "_law_tree", defArgs (topH 14), defBody (topH 14), defScope (topH 14), [], []⟩
def hd14 : He.DefD := ⟨("_law_link", none), "_law_link", "_law_link", defArgs (topH 15), defBody (topH 15), defScope (topH 15), [], []⟩
def hd15 : He.DefD := ⟨("_law_chain", none), "_law_chain", "_law_chain", defArgs (topH 16), defBody (topH 16), defScope (topH 16), [], []⟩
def hd16 : He.DefD := ⟨("_law_places", none), "_law_places", "_law_places", defArgs (topH 17), defBody (topH 17), defScope (topH 17), [], []⟩
def hd17 : He.DefD := ⟨("_law_heights", none), "_law_heights", "_law_heights", defArgs (topH 18), defBody (topH 18), defScope (topH 18), [], []⟩
def hd18 : He.DefD := ⟨("_law_secret", none), "_law_secret", "_law_secret", defArgs (topH 19), defBody (topH 19), defScope (topH 19), [], []⟩
def hd19 : He.DefD := ⟨("_law_seal", none), "_law_seal", "_law_seal", defArgs (topH 20), defBody (topH 20), defScope (topH 20), [], []⟩
def hd20 : He.DefD := ⟨("_law_sealed", none), "_law_sealed", "_law_sealed", defArgs (topH 21), defBody (topH 21), defScope (topH 21), [], []⟩
def hd21 : He.DefD := ⟨("_law_list", none), "_law_list", "_law_list", defArgs (topH 22), defBody (topH 22), defScope (topH 22), [], []⟩
def hd22 : He.DefD := ⟨("law", none), "law", "law", defArgs (topH 23), defBody (topH 23), defScope (topH 23), [], []⟩
def hfn0 : List He.DefD := [hd1, hd2, hd3, hd4, hd5, hd6, hd7, hd8, hd9, hd10, hd11, hd12, hd13, hd14, hd15, hd16, hd17, hd18, hd19, hd20, hd21, hd22]
def hfn : List He.DefD := hfn0
def hfa : List He.Fa := []
def htf : List He.Defn := [("parting", none)]
def hnames0 : List PySem.Str := ["parting", "_law_draw", "_law_rule", "_law_codes", "_law_encode", "_law_digest", "_law_key", "_law_row", "_law_table", "_law_cell", "_law_rank", "_law_top", "_law_tree", "_law_link", "_law_chain", "_law_places", "_law_heights", "_law_secret", "_law_seal", "_law_sealed", "_law_list"]
def hnames : List PySem.Str := hnames0
abbrev hR : PySem.W.OpenRow := PySem.W.OpenLaw.row PySem.Challenge.rw_rightrows_k27_parting
abbrev hqv : Program := PySem.W.view hR.prog [23]
abbrev hhk : PySem.W.Hook := hookE hfa hfn [] htf hex
def hob (s : PySem.W.SharedT) : He.AlX := obsE hfa hfn [] htf hex (HandSHeadRun.getT s)
theorem hob_eq (s : PySem.W.SharedT) : hob s = hhk.obs s.abs := obsE_eq (HandSHeadRun.getT_eq s)
set_option maxHeartbeats 0 in
theorem hrun (w : World) : HandSHeadRun.RunEq hR hqv hhk hob 20000 hnames w := by
  intro os
  kernel_rfl
/-! ### data, cells -/
abbrev D := PyData
abbrev D.obj (c : Int) (ds : List D) : D := .dict [(.int c, .list ds)]
/-- the classes: address, fields in order -/
structure Cl where
  f : Int → Option (Addr × List Str)
  /-- the classes of exceptions -/
  x : Int → Option (Addr × List Str)
  T : List (Addr × Str)
instance : CoeFun Cl fun _ => Int → Option (Addr × List Str) := ⟨Cl.f⟩
/-- the first member's first member -/
def k00D : D → Option Int
  | .tuple (.tuple (.int n :: _) :: _) => some n
  | _ => none
inductive W where
  | val (d : D)
  | ref (k : Nat)
  | ty (n : String)
  /-- a function made by a def: its code, its name, what stood when it was made -/
  | fn (f c : Addr) (q : Str) (F0 : Addr → Prop) (H0 : Hp)
  /-- a dict that stands: what it holds, each under its first member's first member -/
  | dct (ds : List D)
inductive Cell where
  | lst (ds : List D)
  | frz (ds : List D)
  /-- lists that are named from within data, by their addresses -/
  | pool (os : Addr → Option (List D))
  | obj (c : Int) (ws : List W)
  | nil
/-- how an exception leaves: class, fields, cells -/
abbrev XD := Int → List D → List Cell → Prop
/-- the classes, and what is wanted of an exception, by the heap and by the data -/
structure Ct where
  cl : Cl
  E : XK
  R : XD
instance : Coe Ct Cl := ⟨Ct.cl⟩
mutual
inductive RD (ct : Cl) (F : Addr → Prop) (H : Hp) : V → D → Prop
  | non : RD ct F H .non .none
  | int (i : Int) : RD ct F H (.int i) (.int i)
  | str (x : Str) : RD ct F H (.str x) (.str x)
  | bl (b : Bool) : RD ct F H (.bl b) (.bool b)
  | tup {a : Addr} {xs : List V} {ds : List D} : H a = some (.tup xs) → RDs ct F H xs ds → RD ct F H (.ref a) (.tuple ds)
  | lst {a : Addr} {xs : List V} {ds : List D} : F a → H a = some (.lst xs) → RDs ct F H xs ds → RD ct F H (.ref a) (.list ds)
  | obj {a C dx : Addr} {c : Int} {ns : List Str} {vs : List V} {ds : List D} : F a → ct c = some (C, ns) → H a = some (.ins C dx (ns.zip vs)) → vs.length = ns.length → RDs ct F H vs ds → RD ct F H (.ref a) (.dict [(.int c, .list ds)])
  | prf (a : Addr) : RD ct F H (.ref a) (.dict [(.none, .int (a : Nat))])
inductive RDs (ct : Cl) (F : Addr → Prop) (H : Hp) : List V → List D → Prop
  | nil : RDs ct F H [] []
  | cons {v : V} {vs : List V} {d : D} {ds : List D} : RD ct F H v d → RDs ct F H vs ds → RDs ct F H (v :: vs) (d :: ds)
end
/-- tuples and what is frozen stand -/
def Kp (F : Addr → Prop) (H : Hp) (F' : Addr → Prop) (H' : Hp) : Prop := (∀ a xs, H a = some (.tup xs) → H' a = some (.tup xs)) ∧ ∀ a, F a → F' a ∧ H' a = H a
theorem Kp.refl (F : Addr → Prop) (H : Hp) : Kp F H F H := ⟨fun _ _ h => h, fun _ h => ⟨h, rfl⟩⟩
theorem Kp.trans {F F1 F2 : Addr → Prop} {H H1 H2 : Hp} (a : Kp F H F1 H1) (b : Kp F1 H1 F2 H2) : Kp F H F2 H2 :=
  ⟨fun c xs h => b.1 c xs (a.1 c xs h), fun c h => ⟨(b.2 c (a.2 c h).1).1, ((b.2 c (a.2 c h).1).2).trans (a.2 c h).2⟩⟩
section
variable {ct : Cl} {F F' : Addr → Prop} {H H' : Hp}
mutual
theorem RD.mono (k : Kp F H F' H') : ∀ (d : D) (v : V), RD ct F H v d → RD ct F' H' v d
  | .none, v, h => by cases h; exact .non
  | .bool b, v, h => by cases h; exact .bl b
  | .int i, v, h => by cases h; exact .int i
  | .str x, v, h => by cases h; exact .str x
  | .tuple ds, v, h => by
    cases h with
    | tup h hs => exact .tup (k.1 _ _ h) (RDs.mono k ds _ hs)
  | .list ds, v, h => by
    cases h with
    | lst f h hs => exact .lst (k.2 _ f).1 ((k.2 _ f).2.trans h) (RDs.mono k ds _ hs)
  | .dict [(.int c, .list ds)], v, h => by
    cases h with
    | obj f hc h hl hs => exact .obj (k.2 _ f).1 hc ((k.2 _ f).2.trans h) hl (RDs.mono k ds _ hs)
  | .dict [], v, h => by cases h
  | .dict [(.none, .int i)], v, h => by cases h with | prf a => exact .prf a
  | .dict [(.none, .none)], v, h => by cases h
  | .dict [(.none, .bool _)], v, h => by cases h
  | .dict [(.none, .str _)], v, h => by cases h
  | .dict [(.none, .tuple _)], v, h => by cases h
  | .dict [(.none, .list _)], v, h => by cases h
  | .dict [(.none, .dict _)], v, h => by cases h
  | .dict ((.none, _) :: _ :: _), v, h => by cases h
  | .dict ((.bool _, _) :: _), v, h => by cases h
  | .dict ((.str _, _) :: _), v, h => by cases h
  | .dict ((.tuple _, _) :: _), v, h => by cases h
  | .dict ((.list _, _) :: _), v, h => by cases h
  | .dict ((.dict _, _) :: _), v, h => by cases h
  | .dict ((.int _, .none) :: _), v, h => by cases h
  | .dict ((.int _, .bool _) :: _), v, h => by cases h
  | .dict ((.int _, .int _) :: _), v, h => by cases h
  | .dict ((.int _, .str _) :: _), v, h => by cases h
  | .dict ((.int _, .tuple _) :: _), v, h => by cases h
  | .dict ((.int _, .dict _) :: _), v, h => by cases h
  | .dict ((.int _, .list _) :: _ :: _), v, h => by cases h
theorem RDs.mono (k : Kp F H F' H') : ∀ (ds : List D) (vs : List V), RDs ct F H vs ds → RDs ct F' H' vs ds
  | [], vs, h => by cases h; exact .nil
  | d :: ds, vs, h => by
    cases h with
    | cons h hs => exact .cons (RD.mono k d _ h) (RDs.mono k ds _ hs)
end
theorem RDs.length : ∀ {vs : List V} {ds : List D}, RDs ct F H vs ds → vs.length = ds.length
  | _, _, .nil => rfl
  | _, _, .cons _ h => congrArg Nat.succ (RDs.length h)
theorem RDs.get : ∀ {vs : List V} {ds : List D}, RDs ct F H vs ds → ∀ (i : Nat) (d : D), ds[i]? = some d → ∃ v, vs[i]? = some v ∧ RD ct F H v d
  | _, _, .nil, i, v, h => by simp at h
  | _, _, .cons h1 h, 0, v, e => ⟨_, rfl, by
      have e2 := Option.some.inj e
      rw [← e2]
      exact h1⟩
  | _, _, .cons h1 h, i + 1, v, e => RDs.get h i v e
theorem RDs.get' : ∀ {vs : List V} {ds : List D}, RDs ct F H vs ds → ∀ (i : Nat) (v : V), vs[i]? = some v → ∃ d, ds[i]? = some d ∧ RD ct F H v d
  | _, _, .nil, i, v, h => by simp at h
  | _, _, .cons h1 h, 0, v, e => ⟨_, rfl, by
      have e2 := Option.some.inj e
      rw [← e2]
      exact h1⟩
  | _, _, .cons h1 h, i + 1, v, e => RDs.get' h i v e
theorem RDs.app : ∀ {vs ws : List V} {ds es : List D}, RDs ct F H vs ds → RDs ct F H ws es → RDs ct F H (vs ++ ws) (ds ++ es)
  | _, _, _, _, .nil, h => h
  | _, _, _, _, .cons h1 h2, h => .cons h1 (RDs.app h2 h)
theorem RDs.take : ∀ {vs : List V} {ds : List D} (n : Nat), RDs ct F H vs ds → RDs ct F H (vs.take n) (ds.take n)
  | _, _, 0, _ => .nil
  | _, _, n + 1, .nil => .nil
  | _, _, n + 1, .cons h1 h2 => .cons h1 (RDs.take n h2)
theorem RDs.drop : ∀ {vs : List V} {ds : List D} (n : Nat), RDs ct F H vs ds → RDs ct F H (vs.drop n) (ds.drop n)
  | _, _, 0, h => h
  | _, _, n + 1, .nil => .nil
  | _, _, n + 1, .cons h1 h2 => RDs.drop n h2
theorem RDs.rev : ∀ {vs : List V} {ds : List D}, RDs ct F H vs ds → RDs ct F H vs.reverse ds.reverse
  | _, _, .nil => .nil
  | _, _, .cons h1 h2 => by
    rw [List.reverse_cons, List.reverse_cons]
    exact RDs.app (RDs.rev h2) (.cons h1 .nil)
theorem RDs.set : ∀ {vs : List V} {ds : List D} (i : Nat) {v : V} {d : D}, RDs ct F H vs ds → RD ct F H v d → RDs ct F H (vs.set i v) (ds.set i d)
  | _, _, _, _, _, .nil, _ => .nil
  | _, _, 0, _, _, .cons h1 h2, h => .cons h h2
  | _, _, i + 1, _, _, .cons h1 h2, h => .cons h1 (RDs.set i h2 h)
end
/-! ### the ghost -/
structure Gh where
  F : Addr → Prop
  as : List Addr
  ms : List (List Addr)
structure Bs where
  g : Gh
  H : Hp
abbrev Bs.F (B : Bs) : Addr → Prop := B.g.F
abbrev Bs.M (B : Bs) : List Addr := B.g.ms.flatten
def RW (ct : Cl) (g : Gh) (H : Hp) (v : V) : W → Prop
  | .val d => RD ct g.F H v d
  | .ref k => ∃ a, g.as[k]? = some a ∧ v = .ref a
  | .ty n => v = .ty n
  | .fn f c q F0 H0 => v = .ref f ∧ H c = some (LamX.CodeO c q) ∧ Kp F0 H0 g.F H
  | .dct ds => ∃ a kvs, v = .ref a ∧ g.F a ∧ H a = some (.dK kvs) ∧ kvs.map (·.1) = ds.map (fun d => (Sum.inl ((k00D d).getD 0) : Key)) ∧ RDs ct g.F H (kvs.map (·.2)) ds
def RWs (ct : Cl) (g : Gh) (H : Hp) : List V → List W → Prop := Paired (RW ct g H)
/-- a cell at a, with what of it may be written -/
def CellAt (ct : Cl) (g : Gh) (H : Hp) (a : Addr) (m : List Addr) : Cell → Prop
  | .lst ds => m = [a] ∧ ∃ xs, H a = some (.lst xs) ∧ RDs ct g.F H xs ds
  | .frz ds => m = [] ∧ g.F a ∧ ∃ xs, H a = some (.lst xs) ∧ RDs ct g.F H xs ds
  | .obj c ws => m = [a] ∧ ∃ C ns dx vs, ct c = some (C, ns) ∧ H a = some (.ins C dx (ns.zip vs)) ∧ vs.length ≤ ns.length ∧ RWs ct g H vs ws
  | .pool os => (∀ b, b ∈ m ↔ os b ≠ none) ∧ ∀ b ds, os b = some ds → ∃ xs, H b = some (.lst xs) ∧ RDs ct g.F H xs ds
  | .nil => m = []
/-- the cells stand -/
structure Clz (ct : Cl) (g : Gh) (H : Hp) (C : List Cell) : Prop where
  la : g.as.length = C.length
  lm : g.ms.length = C.length
  at_ : ∀ (k : Nat) (c : Cell), C[k]? = some c → ∃ a m, g.as[k]? = some a ∧ g.ms[k]? = some m ∧ CellAt ct g H a m c
  nd : g.ms.flatten.Nodup
  ap : ∀ a ∈ g.ms.flatten, ¬ g.F a
  lv : ∀ a, g.F a → H a ≠ none
  tb : LamX.Tabs ct.T H
  tf : ∀ p ∈ ct.T, ¬ g.F p.1
/-- ghosts one behind the other -/
structure Gk (g : Gh) (H : Hp) (g' : Gh) (H' : Hp) : Prop where
  kp : Kp g.F H g'.F H'
  as : ∀ (k : Nat) (a : Addr), g.as[k]? = some a → g'.as[k]? = some a
  ex : ∀ c q, H c = some (LamX.CodeO c q) → H' c = some (LamX.CodeO c q)
theorem Gk.refl (g : Gh) (H : Hp) : Gk g H g H := ⟨Kp.refl _ _, fun _ _ h => h, fun _ _ h => h⟩
theorem Gk.trans {g g1 g2 : Gh} {H H1 H2 : Hp} (a : Gk g H g1 H1) (b : Gk g1 H1 g2 H2) : Gk g H g2 H2 := ⟨a.kp.trans b.kp, fun k x h => b.as k x (a.as k x h), fun c q h => b.ex c q (a.ex c q h)⟩
theorem RW.mono {ct : Cl} {g g' : Gh} {H H' : Hp} (k : Gk g H g' H') : ∀ {v : V} {w : W}, RW ct g H v w → RW ct g' H' v w
  | v, .val d, h => RD.mono k.kp d v h
  | v, .ref i, ⟨a, h, e⟩ => ⟨a, k.as i a h, e⟩
  | v, .ty n, h => h
  | v, .fn f c q F0 H0, h => ⟨h.1, k.ex c q h.2.1, h.2.2.trans k.kp⟩
  | v, .dct ds, ⟨a, kvs, e, f, h, hk, hs⟩ => ⟨a, kvs, e, (k.kp.2 a f).1, ((k.kp.2 a f).2).trans h, hk, RDs.mono k.kp _ _ hs⟩
theorem codeO_lst {c : Addr} {q : Str} {xs : List V} : LamX.CodeO c q ≠ .lst xs := fun z => by
  unfold LamX.CodeO at z
  cases z
theorem codeO_ins {c : Addr} {q : Str} {C dx : Addr} {fs : List (Str × V)} : LamX.CodeO c q ≠ .ins C dx fs := fun z => by
  unfold LamX.CodeO at z
  cases z
theorem RWs.mono {ct : Cl} {g g' : Gh} {H H' : Hp} (k : Gk g H g' H') {vs : List V} {ws : List W} (h : RWs ct g H vs ws) : RWs ct g' H' vs ws := Paired.mapP h fun _ _ => RW.mono k
/-- what a body may rely on: since its entry all but M stands, what is frozen or written beside M is new -/
structure Fr0 (B : Bs) (g : Gh) (H : Hp) : Prop where
  kt : ∀ a xs, B.H a = some (.tup xs) → H a = some (.tup xs)
  keep : ∀ a o, B.H a = some o → (∀ ps, o ≠ .tbl ps) → a ∉ B.M → H a = some o
  tl : ∀ a ps, B.H a = some (.tbl ps) → ∃ qs, H a = some (.tbl qs)
  newF : ∀ a, g.F a → B.F a ∨ B.H a = none ∨ a ∈ B.M
  newM : ∀ a ∈ g.ms.flatten, a ∈ B.M ∨ B.H a = none
abbrev Ev := List (Option W)
/-- an exception, its class and its fields -/
def XV (ct : Cl) (g : Gh) (H : Hp) (cls : Value) (d : Option Addr) (c : Int) (ds : List D) : Prop :=
  ∃ (C : Addr) (ns : List Str), ct.x c = some (C, ns) ∧ cls = .ref C ∧ (ns = [] ∧ ds = [] ∧ d = none ∨ ∃ (dx : Addr) (vs : List V), d = some dx ∧ H dx = some (.xd (ns.zip vs)) ∧ vs.length = ns.length ∧ RDs ct g.F H vs ds)
def XOk (ct : Ct) (B : Bs) : Prop := ∀ g' H' C' cls d c ds, Gk B.g B.H g' H' → Fr0 B g' H' → Clz ct g' H' C' → XV ct g' H' cls d c ds → ct.R c ds C' → ct.E cls d H'
structure Rel (ct : Ct) (B : Bs) (g : Gh) (σ : L2.St) (H : Hp) (E : Ev) (C : List Cell) : Prop where
  env : ∀ (i : Nat) (w : W), E[i]? = some (some w) → ∃ v, σ[i]? = some (some v) ∧ RW ct g H v w
  len : σ.length = E.length
  cs : Clz ct g H C
  fr : Fr0 B g H
  gg : Gk B.g B.H g H
  xo : XOk ct B
theorem Rel.gk {ct : Ct} {B : Bs} {g g' : Gh} {σ : L2.St} {H H' : Hp} {E : Ev} {C C' : List Cell} (R : Rel ct B g σ H E C) (k : Gk g H g' H') (c : Clz ct g' H' C') (f : Fr0 B g' H') : Rel ct B g' σ H' E C' :=
  ⟨fun i w h => by
    obtain ⟨v, h1, h2⟩ := R.env i w h
    exact ⟨v, h1, h2.mono k⟩, R.len, c, f, R.gg.trans k, R.xo⟩
/-! ### readings -/
abbrev DK := W → List Cell → Prop
abbrev DE := Ev → List Cell → DK → Prop
abbrev DT := Ev → List Cell → (Bool → List Cell → Prop) → Prop
abbrev DA := Ev → List Cell → (List W → List Cell → Prop) → Prop
structure DEnds where
  nx : Ev → List Cell → Prop
  rt : DK
  bk : Ev → List Cell → Prop := fun _ _ => False
  ct : Ev → List Cell → Prop := fun _ _ => False
abbrev DS := DEnds → Ev → List Cell → Prop
def PostE (ct : Ct) (B : Bs) (g : Gh) (H : Hp) (σ : L2.St) (E : Ev) (Q : DK) : VK := fun v H' => ∃ g' C' w, Gk g H g' H' ∧ Rel ct B g' σ H' E C' ∧ RW ct g' H' v w ∧ Q w C'
def ImE (ct : Ct) (tt : TE) (t : DE) : Prop := ∀ B g σ H E C Q (K : VK), Rel ct B g σ H E C → (∀ v H', PostE ct B g H σ E Q v H' → K v H') → t E C Q → tt σ H K
def PostT (ct : Ct) (B : Bs) (g : Gh) (H : Hp) (σ : L2.St) (E : Ev) (Q : Bool → List Cell → Prop) : Bool → Hp → Prop := fun b H' => ∃ g' C', Gk g H g' H' ∧ Rel ct B g' σ H' E C' ∧ Q b C'
def ImT (ct : Ct) (tt : TT) (t : DT) : Prop := ∀ B g σ H E C Q (K : Bool → Hp → Prop), Rel ct B g σ H E C → (∀ v H', PostT ct B g H σ E Q v H' → K v H') → t E C Q → tt σ H K
def PostA (ct : Ct) (B : Bs) (g : Gh) (H : Hp) (σ : L2.St) (E : Ev) (Q : List W → List Cell → Prop) : List V → Hp → Prop := fun vs H' => ∃ g' C' ws, Gk g H g' H' ∧ Rel ct B g' σ H' E C' ∧ RWs ct g' H' vs ws ∧ Q ws C'
def ImA (ct : Ct) (tt : TA) (t : DA) : Prop := ∀ B g σ H E C Q (K : List V → Hp → Prop), Rel ct B g σ H E C → (∀ v H', PostA ct B g H σ E Q v H' → K v H') → t E C Q → tt σ H K
/-- the ends -/
structure EndsOk (ct : Ct) (B : Bs) (g : Gh) (H : Hp) (DD : DEnds) (D : Ends) : Prop where
  nx : ∀ σ' H' g' E' C', Gk g H g' H' → Rel ct B g' σ' H' E' C' → DD.nx E' C' → D.nx σ' H'
  rt : ∀ v σ' H' g' E' C' w, Gk g H g' H' → Rel ct B g' σ' H' E' C' → RW ct g' H' v w → DD.rt w C' → D.rt v H'
  bk : ∀ σ' H' g' E' C', Gk g H g' H' → Rel ct B g' σ' H' E' C' → DD.bk E' C' → D.bk σ' H'
  ct : ∀ σ' H' g' E' C', Gk g H g' H' → Rel ct B g' σ' H' E' C' → DD.ct E' C' → D.ct σ' H'
theorem EndsOk.later {ct : Ct} {B : Bs} {g g1 : Gh} {H H1 : Hp} {DD : DEnds} {D : Ends} (e : EndsOk ct B g H DD D) (k : Gk g H g1 H1) : EndsOk ct B g1 H1 DD D :=
  ⟨fun σ' H' g' E' C' a => e.nx σ' H' g' E' C' (k.trans a), fun v σ' H' g' E' C' w a => e.rt v σ' H' g' E' C' w (k.trans a), fun σ' H' g' E' C' a => e.bk σ' H' g' E' C' (k.trans a), fun σ' H' g' E' C' a => e.ct σ' H' g' E' C' (k.trans a)⟩
def ImS (ct : Ct) (tt : TS) (t : DS) : Prop := ∀ B g σ H E C D DD, Rel ct B g σ H E C → EndsOk ct B g H DD D → t DD E C → tt D σ H
/-- behind an expression: on with what was wanted -/
theorem PostE.later {ct : Ct} {B : Bs} {g g1 : Gh} {H H1 H' : Hp} {σ : L2.St} {E : Ev} {Q : DK} {v : V} (k : Gk g H g1 H1) (h : PostE ct B g1 H1 σ E Q v H') : PostE ct B g H σ E Q v H' := by
  obtain ⟨g', C', w, k', r⟩ := h
  exact ⟨g', C', w, k.trans k', r⟩
/-! ### the ghost's steps -/
theorem flat_apart {ms : List (List Addr)} (nd : ms.flatten.Nodup) : ∀ {k j : Nat} {m1 m2 : List Addr} {a : Addr}, ms[k]? = some m1 → ms[j]? = some m2 → k ≠ j → a ∈ m1 → a ∉ m2 := by
  induction ms with
  | nil =>
    intro k j m1 m2 a h
    simp at h
  | cons m r ih =>
    intro k j m1 m2 a h1 h2 hn ha hb
    rw [List.flatten_cons, List.nodup_append] at nd
    have mem : ∀ {i : Nat} {q : List Addr}, r[i]? = some q → ∀ x ∈ q, x ∈ r.flatten := fun h x hx => List.mem_flatten.mpr ⟨_, List.mem_of_getElem? h, hx⟩
    cases k with
    | zero =>
      have e1 : m = m1 := Option.some.inj h1
      subst e1
      cases j with
      | zero => exact hn rfl
      | succ j => exact nd.2.2 a ha a (mem h2 a hb) rfl
    | succ k =>
      cases j with
      | zero =>
        have e2 : m = m2 := Option.some.inj h2
        subst e2
        exact nd.2.2 a hb a (mem h1 a ha) rfl
      | succ j => exact ih nd.2.1 h1 h2 (fun e => hn (by rw [e])) ha hb
theorem mem_flat {ms : List (List Addr)} {k : Nat} {m : List Addr} {a : Addr} (h : ms[k]? = some m) (ha : a ∈ m) : a ∈ ms.flatten := List.mem_flatten.mpr ⟨_, List.mem_of_getElem? h, ha⟩
section
variable {ct : Cl} {B : Bs} {g g' : Gh} {σ : L2.St} {H H' : Hp} {E : Ev} {C C' : List Cell}
/-- a cell whose own object stands -/
theorem CellAt.keep {a : Addr} {m : List Addr} {c : Cell} (h : CellAt ct g H a m c) (k : Gk g H g' H') (ha : ∀ b ∈ m, H' b = H b) : CellAt ct g' H' a m c := by
  cases c with
  | lst ds =>
    obtain ⟨e, xs, h1, h2⟩ := h
    exact ⟨e, xs, (ha a (by rw [e]; exact List.mem_singleton.mpr rfl)).trans h1, RDs.mono k.kp _ _ h2⟩
  | frz ds =>
    obtain ⟨e, f, xs, h1, h2⟩ := h
    exact ⟨e, (k.kp.2 _ f).1, xs, (k.kp.2 _ f).2.trans h1, RDs.mono k.kp _ _ h2⟩
  | obj c ws =>
    obtain ⟨e, Cc, ns, dx, vs, h1, h2, h3, h4⟩ := h
    exact ⟨e, Cc, ns, dx, vs, h1, (ha a (by rw [e]; exact List.mem_singleton.mpr rfl)).trans h2, h3, h4.mono k⟩
  | pool os =>
    obtain ⟨e, hs⟩ := h
    refine ⟨e, fun b ds hb => ?_⟩
    obtain ⟨xs, h1, h2⟩ := hs b ds hb
    exact ⟨xs, (ha b ((e b).mpr (by rw [hb]; exact fun z => nomatch z))).trans h1, RDs.mono k.kp _ _ h2⟩
  | nil => exact h
/-- what may be written is a list or an instance -/
theorem CellAt.li {a : Addr} {m : List Addr} {c : Cell} (h : CellAt ct g H a m c) : ∀ b ∈ m, (∃ xs, H b = Option.some (HO.lst xs)) ∨ ∃ C dx fs, H b = Option.some (HO.ins C dx fs) := by
  intro b hb
  cases c with
  | lst ds =>
    obtain ⟨rfl, xs, h1, h2⟩ := h
    rw [List.mem_singleton.mp hb]
    exact .inl ⟨xs, h1⟩
  | frz ds =>
    obtain ⟨rfl, _⟩ := h
    cases hb
  | obj c ws =>
    obtain ⟨rfl, Cc, ns, dx, vs, h1, h2, h3, h4⟩ := h
    rw [List.mem_singleton.mp hb]
    exact .inr ⟨_, _, _, h2⟩
  | pool os =>
    obtain ⟨e, hs⟩ := h
    cases q : os b with
    | none => exact absurd q ((e b).mp hb)
    | some ds =>
      obtain ⟨xs, h1, _⟩ := hs b ds q
      exact .inl ⟨xs, h1⟩
  | nil =>
    cases (show m = [] from h)
    cases hb
theorem CellAt.some {a : Addr} {m : List Addr} {c : Cell} (h : CellAt ct g H a m c) : ∀ b ∈ m, H b ≠ none := fun b hb => by
  rcases h.li b hb with ⟨xs, e⟩ | ⟨_, _, _, e⟩ <;> rw [e] <;> exact fun z => nomatch z
theorem CellAt.ob {a : Addr} {m : List Addr} {c : Cell} (h : CellAt ct g H a m c) : ∀ b ∈ m, ∃ o : HO, H b = Option.some o ∧ ∀ ps, o ≠ HO.tbl ps := fun b hb => by
  rcases h.li b hb with ⟨xs, e⟩ | ⟨_, _, _, e⟩
  · exact ⟨_, e, fun _ z => nomatch z⟩
  · exact ⟨_, e, fun _ z => nomatch z⟩
/-- tables stand where only lists and instances are written -/
theorem tabs_ext2 {T : List (Addr × Str)} {H H' : Hp} (t : LamX.Tabs T H) (e : ∀ b o, H b = some o → (∀ xs, o ≠ .lst xs) → (∀ C dx fs, o ≠ .ins C dx fs) → H' b = some o) : LamX.Tabs T H' := fun p hp => by
  obtain ⟨ps, h1, h2, h3⟩ := t p hp
  refine ⟨ps, e _ _ h1 (fun _ z => nomatch z) (fun _ _ _ z => nomatch z), h2, fun pos cv hc => ?_⟩
  obtain ⟨c, e1, e2⟩ := h3 pos cv hc
  exact ⟨c, e1, e _ _ e2 (fun _ z => by unfold LamX.CodeO at z; cases z) (fun _ _ _ z => by unfold LamX.CodeO at z; cases z)⟩
theorem tabs_new {T : List (Addr × Str)} {H : Hp} {p : Addr} {o : HO} (t : LamX.Tabs T H) (hp : H p = none) : LamX.Tabs T (upd H p o) := t.ext fun b o h => by
  rw [upd_ne (ne_of_none h hp)]
  exact h
theorem tab_some {T : List (Addr × Str)} {H : Hp} (t : LamX.Tabs T H) : ∀ p ∈ T, ∃ ps, H p.1 = some (.tbl ps) := fun p hp => by
  obtain ⟨ps, h, _⟩ := t p hp
  exact ⟨ps, h⟩
/-- something new is laid that is never written: a tuple, or what is frozen -/
def Gh.fz (g : Gh) (b : Bool) (p : Addr) : Gh := ⟨fun a => g.F a ∨ (b = true ∧ a = p), g.as, g.ms⟩
theorem gk_new {p : Addr} {o : HO} (b : Bool) (hp : H p = none) (lv : ∀ a, g.F a → H a ≠ none) : Gk g H (g.fz b p) (upd H p o) :=
  ⟨⟨fun a xs h => by rw [upd_ne (ne_of_none h hp)]; exact h, fun a h => ⟨.inl h, upd_ne fun e => lv a h (by rw [e]; exact hp)⟩⟩, fun _ _ h => h, fun c q h => by rw [upd_ne (ne_of_none h hp)]; exact h⟩
theorem Clz.mutIn (c : Clz ct g H C) : ∀ a ∈ g.ms.flatten, ∃ (k : Nat) (x : Cell) (a' : Addr) (m : List Addr), C[k]? = some x ∧ g.as[k]? = some a' ∧ g.ms[k]? = some m ∧ a ∈ m ∧ CellAt ct g H a' m x := fun a ha => by
  obtain ⟨m, hm, ham⟩ := List.mem_flatten.mp ha
  obtain ⟨k, hk⟩ := List.getElem?_of_mem hm
  have hk2 : k < C.length := by rw [← c.lm]; exact (List.getElem?_eq_some_iff.mp hk).1
  obtain ⟨a', m', h1, h2, h3⟩ := c.at_ k _ (List.getElem?_eq_getElem hk2)
  rw [hk] at h2
  cases h2
  exact ⟨k, _, a', m, List.getElem?_eq_getElem hk2, h1, hk, ham, h3⟩
theorem Clz.mutSome (c : Clz ct g H C) : ∀ a ∈ g.ms.flatten, H a ≠ none := fun a ha => by
  obtain ⟨k, x, a', m, h1, h2, h3, h4, h5⟩ := c.mutIn a ha
  exact h5.some a h4
theorem Clz.new {p : Addr} {o : HO} {b : Bool} (c : Clz ct g H C) (hp : H p = none) : Clz ct (g.fz b p) (upd H p o) C :=
  ⟨c.la, c.lm, fun k x h => by
    obtain ⟨a, m, h1, h2, h3⟩ := c.at_ k x h
    exact ⟨a, m, h1, h2, h3.keep (gk_new b hp c.lv) fun b hb => upd_ne fun e => h3.some b hb (by rw [e]; exact hp)⟩, c.nd, fun a ha h => by
    rcases h with h | ⟨_, h⟩
    · exact c.ap a ha h
    · exact c.mutSome a ha (by rw [h]; exact hp), fun a h => by
    rcases h with h | ⟨_, h⟩
    · rw [upd_ne (fun e => c.lv a h (by rw [e]; exact hp))]
      exact c.lv a h
    · rw [h, upd_same]
      exact (fun z => nomatch z), tabs_new c.tb hp, fun q hq h => by
    rcases h with h | ⟨_, h⟩
    · exact c.tf q hq h
    · obtain ⟨ps, e⟩ := tab_some c.tb q hq
      rw [h, hp] at e
      cases e⟩
theorem Fr0.fresh (f : Fr0 B g H) {p : Addr} (hp : H p = none) : B.H p = none ∨ p ∈ B.M := by
  by_cases h : p ∈ B.M
  · exact .inr h
  · refine .inl ?_
    cases e : B.H p with
    | none => rfl
    | some o =>
      by_cases ht : ∃ ps, o = .tbl ps
      · obtain ⟨ps, rfl⟩ := ht
        obtain ⟨qs, e2⟩ := f.tl p ps e
        rw [e2] at hp
        cases hp
      · rw [f.keep p o e (fun ps z => ht ⟨ps, z⟩) h] at hp
        cases hp
theorem Fr0.new {p : Addr} {o : HO} {b : Bool} (f : Fr0 B g H) (hp : H p = none) : Fr0 B (g.fz b p) (upd H p o) :=
  ⟨fun a xs h => by
    have h2 := f.kt a xs h
    rw [upd_ne (ne_of_none h2 hp)]
    exact h2, fun a u h hu hm => by
    have h2 := f.keep a u h hu hm
    rw [upd_ne (ne_of_none h2 hp)]
    exact h2, fun a ps h => by
    obtain ⟨qs, h2⟩ := f.tl a ps h
    exact ⟨qs, by rw [upd_ne (ne_of_none h2 hp)]; exact h2⟩, fun a h => by
    rcases h with h | ⟨_, h⟩
    · exact f.newF a h
    · rw [h]
      exact .inr (f.fresh hp), f.newM⟩
theorem Rel.new {ct : Ct} {p : Addr} {o : HO} (b : Bool) (R : Rel ct B g σ H E C) (hp : H p = none) : Gk g H (g.fz b p) (upd H p o) ∧ Rel ct B (g.fz b p) σ (upd H p o) E C :=
  have k := gk_new (o := o) b hp R.cs.lv
  ⟨k, R.gk k (R.cs.new hp) (R.fr.new hp)⟩
/-- a new cell -/
def Gh.ad (g : Gh) (p : Addr) : Gh := ⟨g.F, g.as ++ [p], g.ms ++ [[p]]⟩
theorem gk_ad {p : Addr} {o : HO} (hp : H p = none) (lv : ∀ a, g.F a → H a ≠ none) : Gk g H (g.ad p) (upd H p o) :=
  ⟨⟨fun a xs h => by rw [upd_ne (ne_of_none h hp)]; exact h, fun a h => ⟨h, upd_ne fun e => lv a h (by rw [e]; exact hp)⟩⟩, fun k a h => by
    show (g.as ++ [p])[k]? = some a
    rw [List.getElem?_append_left (List.getElem?_eq_some_iff.mp h).1]
    exact h, fun c q h => by rw [upd_ne (ne_of_none h hp)]; exact h⟩
theorem Rel.ad {ct : Ct} {p : Addr} {o : HO} {c : Cell} (R : Rel ct B g σ H E C) (hp : H p = none) (new : Gk g H (g.ad p) (upd H p o) → CellAt ct (g.ad p) (upd H p o) p [p] c) :
    Gk g H (g.ad p) (upd H p o) ∧ Rel ct B (g.ad p) σ (upd H p o) E (C ++ [c]) ∧ (g.ad p).as[C.length]? = some p := by
  have k := gk_ad (o := o) hp R.cs.lv
  have fl : (g.ad p).ms.flatten = g.ms.flatten ++ [p] := by
    show (g.ms ++ [[p]]).flatten = _
    rw [List.flatten_append]
    rfl
  have hl : (g.ad p).as[C.length]? = some p := by
    show (g.as ++ [p])[C.length]? = some p
    rw [← R.cs.la]
    exact List.getElem?_concat_length
  refine ⟨k, R.gk k ⟨?_, ?_, fun j x h => ?_, ?_, fun a ha h => ?_, fun a h => ?_, tabs_new R.cs.tb hp, R.cs.tf⟩ ⟨fun a xs h => ?_, fun a u h hu hm => ?_, fun a ps h => ?_, fun a h => R.fr.newF a h, fun a ha => ?_⟩, hl⟩
  · show (g.as ++ [p]).length = _
    rw [List.length_append, List.length_append, R.cs.la]
    rfl
  · show (g.ms ++ [[p]]).length = _
    rw [List.length_append, List.length_append, R.cs.lm]
    rfl
  · by_cases hj : j < C.length
    · rw [List.getElem?_append_left hj] at h
      obtain ⟨a, m, h1, h2, h3⟩ := R.cs.at_ j x h
      refine ⟨a, m, k.as _ _ h1, ?_, h3.keep k fun b hb => upd_ne fun e => h3.some b hb (by rw [e]; exact hp)⟩
      show (g.ms ++ [[p]])[j]? = some m
      rw [List.getElem?_append_left (List.getElem?_eq_some_iff.mp h2).1]
      exact h2
    · have hj2 : j < (C ++ [c]).length := (List.getElem?_eq_some_iff.mp h).1
      rw [List.length_append] at hj2
      have e : j = C.length := by simp at hj2; omega
      subst e
      rw [List.getElem?_concat_length] at h
      cases h
      refine ⟨p, [p], hl, ?_, new k⟩
      show (g.ms ++ [[p]])[C.length]? = some [p]
      rw [← R.cs.lm]
      exact List.getElem?_concat_length
  · rw [fl, List.nodup_append]
    refine ⟨R.cs.nd, by simp, fun a ha b hb e => ?_⟩
    have e2 : b = p := by simpa using hb
    rw [e2] at e
    exact R.cs.mutSome a ha (by rw [e]; exact hp)
  · rw [fl, List.mem_append] at ha
    rcases ha with ha | ha
    · exact R.cs.ap a ha h
    · have e2 : a = p := by simpa using ha
      exact R.cs.lv a h (by rw [e2]; exact hp)
  · rw [upd_ne (fun e => R.cs.lv a h (by rw [e]; exact hp))]
    exact R.cs.lv a h
  · have h2 := R.fr.kt a xs h
    rw [upd_ne (ne_of_none h2 hp)]
    exact h2
  · have h2 := R.fr.keep a u h hu hm
    rw [upd_ne (ne_of_none h2 hp)]
    exact h2
  · obtain ⟨qs, h2⟩ := R.fr.tl a ps h
    exact ⟨qs, by rw [upd_ne (ne_of_none h2 hp)]; exact h2⟩
  · rw [fl, List.mem_append] at ha
    rcases ha with ha | ha
    · exact R.fr.newM a ha
    · have e2 : a = p := by simpa using ha
      rw [e2]
      exact (R.fr.fresh hp).symm
/-- a cell is written -/
theorem Rel.put {ct : Ct} {a : Addr} {o : HO} {k : Nat} {c c' : Cell} (R : Rel ct B g σ H E C) (hc : C[k]? = some c) (ha : g.as[k]? = some a) (hm : g.ms[k]? = some [a]) (hca : CellAt ct g H a [a] c) (ht : ∀ xs, H a ≠ some (.tup xs))
    (new : Gk g H g (upd H a o) → CellAt ct g (upd H a o) a [a] c') : Gk g H g (upd H a o) ∧ Rel ct B g σ (upd H a o) E (C.set k c') := by
  have hin : a ∈ g.ms.flatten := mem_flat hm (List.mem_singleton.mpr rfl)
  have hF : ¬ g.F a := R.cs.ap a hin
  have hob : (∃ xs, H a = some (.lst xs)) ∨ ∃ C' dx fs, H a = some (.ins C' dx fs) := hca.li a (List.mem_singleton.mpr rfl)
  have kk : Gk g H g (upd H a o) := ⟨⟨fun b xs h => by rw [upd_ne (fun e => ht xs (by rw [← e]; exact h))]; exact h, fun b h => ⟨h, upd_ne fun e => hF (by rw [← e]; exact h)⟩⟩, fun _ _ h => h, fun c q h => by
    rw [upd_ne fun e => ?_]
    · exact h
    · rw [e] at h
      rcases hob with ⟨xs, z⟩ | ⟨C', dx, fs, z⟩
      · rw [z] at h
        exact codeO_lst (Option.some.inj h).symm
      · rw [z] at h
        exact codeO_ins (Option.some.inj h).symm⟩
  have hk : k < C.length := (List.getElem?_eq_some_iff.mp hc).1
  refine ⟨kk, R.gk kk ⟨by rw [List.length_set]; exact R.cs.la, by rw [List.length_set]; exact R.cs.lm, fun j x h => ?_, R.cs.nd, R.cs.ap, fun b h => ?_, tabs_ext2 R.cs.tb fun b u h n1 n2 => ?_, R.cs.tf⟩ ⟨fun b xs h => kk.kp.1 b xs (R.fr.kt b xs h), fun b u h hu hb => ?_, fun b ps h => ?_, R.fr.newF, R.fr.newM⟩⟩
  · by_cases e : k = j
    · subst e
      rw [List.getElem?_set_self hk] at h
      cases h
      exact ⟨a, [a], ha, hm, new kk⟩
    · rw [List.getElem?_set_ne e] at h
      obtain ⟨a', m', h1, h2, h3⟩ := R.cs.at_ j x h
      exact ⟨a', m', h1, h2, h3.keep kk fun b hb => upd_ne fun e2 => flat_apart R.cs.nd hm h2 e (List.mem_singleton.mpr rfl) (by rw [← e2]; exact hb)⟩
  · rw [(kk.kp.2 b h).2]
    exact R.cs.lv b h
  · rw [upd_ne fun e => ?_]
    · exact h
    · rw [e] at h
      rcases hob with ⟨xs, z⟩ | ⟨C', dx, fs, z⟩
      · rw [z] at h
        exact n1 _ (Option.some.inj h).symm
      · rw [z] at h
        exact n2 _ _ _ (Option.some.inj h).symm
  · by_cases e : b = a
    · rw [e] at hb
      rcases R.fr.newM a hin with q | q
      · exact absurd q hb
      · rw [e, q] at h
        cases h
    · rw [upd_ne e]
      exact R.fr.keep b u h hu hb
  · obtain ⟨qs, h2⟩ := R.fr.tl b ps h
    refine ⟨qs, ?_⟩
    rw [upd_ne fun e => ?_]
    · exact h2
    · rw [e] at h2
      rcases hob with ⟨xs, z⟩ | ⟨C', dx, fs, z⟩ <;> rw [z] at h2 <;> cases h2
/-- a list is frozen -/
def Gh.ice (g : Gh) (k : Nat) (a : Addr) : Gh := ⟨fun b => g.F b ∨ b = a, g.as, g.ms.set k []⟩
theorem flat_set {ms : List (List Addr)} : ∀ {k : Nat} {a : Addr}, ms[k]? = some [a] → ms.flatten.Nodup → (∀ b ∈ (ms.set k []).flatten, b ∈ ms.flatten ∧ b ≠ a) ∧ (ms.set k []).flatten.Nodup := by
  induction ms with
  | nil =>
    intro k a h
    simp at h
  | cons m r ih =>
    intro k a h nd
    rw [List.flatten_cons, List.nodup_append] at nd
    cases k with
    | zero =>
      have e : m = [a] := Option.some.inj h
      subst e
      refine ⟨fun b hb => ?_, ?_⟩
      · have hb2 : b ∈ r.flatten := hb
        exact ⟨by rw [List.flatten_cons]; exact List.mem_append_right _ hb2, fun e => nd.2.2 a (List.mem_singleton.mpr rfl) b hb2 e.symm⟩
      · exact nd.2.1
    | succ k =>
      obtain ⟨h1, h2⟩ := ih (k := k) (a := a) h nd.2.1
      have hr : a ∈ r.flatten := mem_flat (k := k) h (List.mem_singleton.mpr rfl)
      refine ⟨fun b hb => ?_, ?_⟩
      · have hb2 : b ∈ m ++ (r.set k []).flatten := hb
        rw [List.flatten_cons]
        rcases List.mem_append.mp hb2 with q | q
        · exact ⟨List.mem_append_left _ q, fun e => nd.2.2 b q a hr e⟩
        · exact ⟨List.mem_append_right _ (h1 b q).1, (h1 b q).2⟩
      · show (m ++ (r.set k []).flatten).Nodup
        rw [List.nodup_append]
        exact ⟨nd.1, h2, fun x hx y hy => nd.2.2 x hx y (h1 y hy).1⟩
theorem Rel.ice {ct : Ct} {a : Addr} {k : Nat} {ds : List D} (R : Rel ct B g σ H E C) (hc : C[k]? = some (.lst ds)) (ha : g.as[k]? = some a) : Gk g H (g.ice k a) H ∧ Rel ct B (g.ice k a) σ H E (C.set k (.frz ds)) ∧ RD ct (g.ice k a).F H (.ref a) (.list ds) := by
  obtain ⟨a', m, h1, h2, e, xs, h3, h4⟩ := R.cs.at_ k _ hc
  rw [ha] at h1
  cases h1
  subst e
  have kk : Gk g H (g.ice k a) H := ⟨⟨fun _ _ h => h, fun b h => ⟨.inl h, rfl⟩⟩, fun _ _ h => h, fun _ _ h => h⟩
  have hk : k < C.length := (List.getElem?_eq_some_iff.mp hc).1
  have hkm : k < g.ms.length := (List.getElem?_eq_some_iff.mp h2).1
  obtain ⟨f1, f2⟩ := flat_set h2 R.cs.nd
  refine ⟨kk, R.gk kk ⟨by rw [List.length_set]; exact R.cs.la, by rw [List.length_set]; show (g.ms.set k []).length = _; rw [List.length_set]; exact R.cs.lm, fun j x h => ?_, f2, fun b hb h => ?_, fun b h => ?_, R.cs.tb, fun q hq h => ?_⟩ ⟨R.fr.kt, R.fr.keep, R.fr.tl, fun b h => ?_, fun b hb => R.fr.newM b (f1 b hb).1⟩, .lst (.inr rfl) h3 (RDs.mono kk.kp _ _ h4)⟩
  · by_cases e : k = j
    · subst e
      rw [List.getElem?_set_self hk] at h
      cases h
      exact ⟨a, [], ha, List.getElem?_set_self hkm, rfl, .inr rfl, xs, h3, RDs.mono kk.kp _ _ h4⟩
    · rw [List.getElem?_set_ne e] at h
      obtain ⟨a', m', q1, q2, q3⟩ := R.cs.at_ j x h
      exact ⟨a', m', q1, by show (g.ms.set k [])[j]? = some m'; rw [List.getElem?_set_ne e]; exact q2, q3.keep kk (fun _ _ => rfl)⟩
  · rcases h with h | h
    · exact R.cs.ap b (f1 b hb).1 h
    · exact (f1 b hb).2 h
  · rcases h with h | h
    · exact R.cs.lv b h
    · rw [h, h3]
      exact fun z => nomatch z
  · rcases h with h | h
    · exact R.cs.tf q hq h
    · obtain ⟨ps, e⟩ := tab_some R.cs.tb q hq
      rw [h, h3] at e
      cases e
  · rcases h with h | h
    · exact R.fr.newF b h
    · rw [h]
      rcases R.fr.newM a (mem_flat h2 (List.mem_singleton.mpr rfl)) with q | q
      · exact .inr (.inr q)
      · exact .inr (.inl q)
end
/-- the list of a value or a cell -/
def cellL : Option Cell → Option (List D)
  | some (.lst ds) => some ds
  | some (.frz ds) => some ds
  | _ => none
def rdL (C : List Cell) : W → Option (List D)
  | .val (.list ds) => some ds
  | .ref k => cellL C[k]?
  | _ => none
theorem rdL_ok {ct : Cl} {g : Gh} {H : Hp} {C : List Cell} {v : V} {w : W} {ds : List D} (c : Clz ct g H C) (r : RW ct g H v w) (h : rdL C w = some ds) : ∃ a xs, v = .ref a ∧ H a = some (.lst xs) ∧ RDs ct g.F H xs ds := by
  unfold rdL at h
  split at h
  · cases h
    cases r with
    | lst f h1 h2 => exact ⟨_, _, rfl, h1, h2⟩
  · rename_i k
    obtain ⟨a, ha, rfl⟩ := r
    unfold cellL at h
    split at h
    · rename_i ds' e
      cases h
      obtain ⟨a', m, h1, h2, e2, xs, h3, h4⟩ := c.at_ k _ e
      rw [ha] at h1
      cases h1
      exact ⟨a, xs, rfl, h3, h4⟩
    · rename_i ds' e
      cases h
      obtain ⟨a', m, h1, h2, e2, f, xs, h3, h4⟩ := c.at_ k _ e
      rw [ha] at h1
      cases h1
      exact ⟨a, xs, rfl, h3, h4⟩
    · cases h
  · cases h
class CE (ct : Ct) (tt : TE) (t : outParam DE) : Prop where run : ImE ct tt t
class CT (ct : Ct) (tt : TT) (t : outParam DT) : Prop where run : ImT ct tt t
class CA (ct : Ct) (tt : TA) (t : outParam DA) : Prop where run : ImA ct tt t
class CS (ct : Ct) (tt : TS) (t : outParam DS) : Prop where run : ImS ct tt t
abbrev F2 := W → W → List Cell → DK → Prop
abbrev FC := List W → List Cell → DK → Prop
class CR2 (ct : Ct) (r : R2) (f : outParam F2) : Prop where
  run : ∀ B g σ H E C Q v u x y (K : VK), Rel ct B g σ H E C → (∀ v H', PostE ct B g H σ E Q v H' → K v H') → RW ct g H v x → RW ct g H u y → f x y C Q → r v u H K
class CC (ct : Ct) (r : List V → Hp → VK → Prop) (f : outParam FC) : Prop where
  run : ∀ B g σ H E C Q vs ws (K : VK), Rel ct B g σ H E C → (∀ v H', PostE ct B g H σ E Q v H' → K v H') → RWs ct g H vs ws → f ws C Q → r vs H K
section
variable {ct : Ct} {B : Bs} {g : Gh} {σ : L2.St} {H : Hp} {E : Ev} {C : List Cell} {Q : DK} {K : VK}
theorem post_val {v : V} {w : W} (R : Rel ct B g σ H E C) (r : RW ct g H v w) (k : ∀ v H', PostE ct B g H σ E Q v H' → K v H') (q : Q w C) : K v H := k _ _ ⟨g, C, w, Gk.refl _ _, R, r, q⟩
theorem post_tup {p : Addr} {xs : List V} {ds : List D} (R : Rel ct B g σ H E C) (hp : H p = none) (hx : RDs ct g.F H xs ds) (kk : ∀ v H', PostE ct B g H σ E Q v H' → K v H') (q : Q (.val (.tuple ds)) C) : K (.ref p) (upd H p (.tup xs)) :=
  have k := R.new (o := .tup xs) false hp
  kk _ _ ⟨_, C, .val (.tuple ds), k.1, k.2, RD.tup upd_same (RDs.mono k.1.kp _ _ hx), q⟩
theorem post_lst {p : Addr} {xs : List V} {ds : List D} (R : Rel ct B g σ H E C) (hp : H p = none) (hx : RDs ct g.F H xs ds) (kk : ∀ v H', PostE ct B g H σ E Q v H' → K v H') (q : Q (.val (.list ds)) C) : K (.ref p) (upd H p (.lst xs)) :=
  have k := R.new (o := .lst xs) true hp
  kk _ _ ⟨_, C, .val (.list ds), k.1, k.2, RD.lst (.inr ⟨rfl, rfl⟩) upd_same (RDs.mono k.1.kp _ _ hx), q⟩
theorem PostE.back {g1 : Gh} {H1 H' : Hp} {v : V} (k : Gk g H g1 H1) (h : PostE ct B g1 H1 σ E Q v H') : PostE ct B g H σ E Q v H' := h.later k
theorem PostT.back {g1 : Gh} {H1 H' : Hp} {b : Bool} {Q : Bool → List Cell → Prop} (k : Gk g H g1 H1) (h : PostT ct B g1 H1 σ E Q b H') : PostT ct B g H σ E Q b H' := by
  obtain ⟨g', C', k', r⟩ := h
  exact ⟨g', C', k.trans k', r⟩
end
/-! ### names and constants -/
def dVar (i : Nat) : DE := fun E C Q => match E[i]? with
  | some (some w) => Q w C
  | _ => False
instance ce_var {ct : Ct} {i : Nat} : CE ct (tVar i) (dVar i) := ⟨fun B g σ H E C Q K R k h => by
  unfold dVar at h
  split at h
  · rename_i w e
    obtain ⟨v, h1, h2⟩ := R.env i w e
    exact ⟨v, h1, post_val R h2 k h⟩
  · exact h.elim⟩
/-- a name whose list is frozen from here on -/
def tVarF (i : Nat) : TE := tVar i
def dVarF (i : Nat) : DE := fun E C Q => match E[i]? with
  | some (some (.ref k)) => (match C[k]? with
    | some (.lst ds) => Q (.val (.list ds)) (C.set k (.frz ds))
    | some (.frz ds) => Q (.val (.list ds)) C
    | _ => False)
  | _ => False
instance ce_varF {ct : Ct} {i : Nat} : CE ct (tVarF i) (dVarF i) := ⟨fun B g σ H E C Q K R k h => by
  unfold dVarF at h
  split at h
  · rename_i j e
    obtain ⟨v, h1, a, h2, rfl⟩ := R.env i _ e
    refine ⟨_, h1, ?_⟩
    split at h
    · rename_i ds e2
      obtain ⟨q1, q2, q3⟩ := R.ice e2 h2
      exact k _ _ ⟨_, _, .val (.list ds), q1, q2, q3, h⟩
    · rename_i ds e2
      obtain ⟨a', m, q1, q2, q3, f, xs, q4, q5⟩ := R.cs.at_ j _ e2
      rw [h2] at q1
      cases q1
      exact post_val R (w := .val (.list ds)) (RD.lst f q4 q5) k h
    · exact h.elim
  · exact h.elim⟩
def dC (d : D) : DE := fun _ C Q => Q (.val d) C
instance ce_int {ct : Ct} {i : Int} : CE ct (tC (.int i)) (dC (.int i)) := ⟨fun B g σ H E C Q K R k h => post_val R (w := .val (.int i)) (.int i) k h⟩
instance ce_str {ct : Ct} {i : Str} : CE ct (tC (.str i)) (dC (.str i)) := ⟨fun B g σ H E C Q K R k h => post_val R (w := .val (.str i)) (.str i) k h⟩
instance ce_bl {ct : Ct} {i : Bool} : CE ct (tC (.bl i)) (dC (.bool i)) := ⟨fun B g σ H E C Q K R k h => post_val R (w := .val (.bool i)) (.bl i) k h⟩
instance ce_non {ct : Ct} : CE ct (tC .non) (dC .none) := ⟨fun B g σ H E C Q K R k h => post_val R (w := .val .none) .non k h⟩
/-! ### operators -/
def dOp (f : F2) (a b : DE) : DE := fun E C Q => a E C fun x C1 => b E C1 fun y C2 => f x y C2 Q
instance ce_op {ct : Ct} {r : R2} {f : F2} {ta tb : TE} {a b : DE} [hr : CR2 ct r f] [ha : CE ct ta a] [hb : CE ct tb b] : CE ct (tOp r ta tb) (dOp f a b) := ⟨fun B g σ H E C Q K R k h => by
  refine ha.run B g σ H E C _ _ R (fun v H1 ⟨g1, C1, x, k1, R1, r1, h1⟩ => ?_) h
  refine hb.run B g1 σ H1 E C1 _ _ R1 (fun u H2 ⟨g2, C2, y, k2, R2, r2, h2⟩ => ?_) h1
  exact hr.run B g2 σ H2 E C2 Q v u x y K R2 (fun v' H' p => k v' H' ((p.later k2).later k1)) (r1.mono k2) r2 h2⟩
def fII (h : Int → Int → D) : W → W → List Cell → DK → Prop
  | .val (.int i), .val (.int j), C, Q => Q (.val (h i j)) C
  | _, _, _, _ => False
def fIIc (c : Int → Int → Prop) (h : Int → Int → D) : W → W → List Cell → DK → Prop
  | .val (.int i), .val (.int j), C, Q => c i j ∧ Q (.val (h i j)) C
  | _, _, _, _ => False
theorem rw_int {ct : Cl} {g : Gh} {H : Hp} {v : V} {i : Int} (h : RW ct g H v (.val (.int i))) : v = .int i := by
  cases (show RD ct g.F H v (.int i) from h)
  rfl
theorem rw_str {ct : Cl} {g : Gh} {H : Hp} {v : V} {i : Str} (h : RW ct g H v (.val (.str i))) : v = .str i := by
  cases (show RD ct g.F H v (.str i) from h)
  rfl
theorem rw_bool {ct : Cl} {g : Gh} {H : Hp} {v : V} {i : Bool} (h : RW ct g H v (.val (.bool i))) : v = .bl i := by
  cases (show RD ct g.F H v (.bool i) from h)
  rfl
theorem rw_tup {ct : Cl} {g : Gh} {H : Hp} {v : V} {ds : List D} (h : RW ct g H v (.val (.tuple ds))) : ∃ a xs, v = .ref a ∧ H a = some (.tup xs) ∧ RDs ct g.F H xs ds := by
  cases (show RD ct g.F H v (.tuple ds) from h) with
  | tup h1 h2 => exact ⟨_, _, rfl, h1, h2⟩
instance cr_ii {ct : Ct} {h : Int → Int → Int} : CR2 ct (rI0 fun i j => .int (h i j)) (fII fun i j => .int (h i j)) := ⟨fun B g σ H E C Q v u x y K R k rx ry q => by
  unfold fII at q
  try dsimp only at q
  split at q
  · exact ⟨_, _, rw_int rx, rw_int ry, post_val R (w := .val (.int _)) (.int _) k q⟩
  · exact q.elim⟩
instance cr_ib {ct : Ct} {h : Int → Int → Bool} : CR2 ct (rI0 fun i j => .bl (h i j)) (fII fun i j => .bool (h i j)) := ⟨fun B g σ H E C Q v u x y K R k rx ry q => by
  unfold fII at q
  try dsimp only at q
  split at q
  · exact ⟨_, _, rw_int rx, rw_int ry, post_val R (w := .val (.bool _)) (.bl _) k q⟩
  · exact q.elim⟩
instance cr_iic {ct : Ct} {c : Int → Int → Prop} {h : Int → Int → Int} : CR2 ct (rI c fun i j => .int (h i j)) (fIIc c fun i j => .int (h i j)) := ⟨fun B g σ H E C Q v u x y K R k rx ry q => by
  unfold fIIc at q
  try dsimp only at q
  split at q
  · exact ⟨_, _, rw_int rx, rw_int ry, q.1, post_val R (w := .val (.int _)) (.int _) k q.2⟩
  · exact q.elim⟩
/-- + of ints, texts, tuples, lists -/
def rAddA (K : PySem.W.Frag) : R2 := fun x y H Q => (rI0 fun i j => .int (i + j)) x y H Q ∨ (∃ i j, x = .str i ∧ y = .str j ∧ i.length + j.length ≤ sizeLine ∧ Q (.str (i ++ j)) H) ∨ rCatA K x y H Q ∨ rCat x y H Q
theorem op_addA {X : Cx} : OpR X (binaryOp .Add) (rAddA X.K) := op_add.or (op_add_str.or (op_catA.or op_cat))
def catK : Option (List D) → Option (List D) → List Cell → DK → Prop
  | some xs, some ys, C, Q => xs.length + ys.length ≤ sizeLine ∧ Q (.val (.list (xs ++ ys))) C
  | _, _, _, _ => False
def fAdd : W → W → List Cell → DK → Prop
  | .val (.int i), .val (.int j), C, Q => Q (.val (.int (i + j))) C
  | .val (.str a), .val (.str b), C, Q => a.length + b.length ≤ sizeLine ∧ Q (.val (.str (a ++ b))) C
  | .val (.tuple a), .val (.tuple b), C, Q => a.length + b.length ≤ sizeLine ∧ Q (.val (.tuple (a ++ b))) C
  | .val (.list a), y, C, Q => catK (some a) (rdL C y) C Q
  | .ref k, y, C, Q => catK (rdL C (.ref k)) (rdL C y) C Q
  | _, _, _, _ => False
theorem catK_ok {ct : Ct} {B : Bs} {g : Gh} {σ : L2.St} {H : Hp} {E : Ev} {C : List Cell} {Q : DK} {v u : V} {x y : W} {k : VK} (R : Rel ct B g σ H E C) (kk : ∀ v H', PostE ct B g H σ E Q v H' → k v H') (rx : RW ct g H v x) (ry : RW ct g H u y) (q : catK (rdL C x) (rdL C y) C Q) : rCat v u H k := by
  unfold catK at q
  split at q
  · rename_i xs ys e1 e2
    obtain ⟨a, us, rfl, h1, h2⟩ := rdL_ok R.cs rx e1
    obtain ⟨b, ws, rfl, h3, h4⟩ := rdL_ok R.cs ry e2
    refine ⟨a, b, us, ws, rfl, rfl, h1, h3, by rw [h2.length, h4.length]; exact q.1, fun p hp => ?_⟩
    exact post_lst R hp (h2.app h4) kk q.2
  · exact q.elim
instance cr_add {ct : Ct} {K : PySem.W.Frag} : CR2 ct (rAddA K) fAdd := ⟨fun B g σ H E C Q v u x y k R kk rx ry q => by
  unfold fAdd at q
  try dsimp only at q
  split at q
  · exact .inl ⟨_, _, rw_int rx, rw_int ry, post_val R (w := .val (.int _)) (.int _) kk q⟩
  · exact .inr (.inl ⟨_, _, rw_str rx, rw_str ry, q.1, post_val R (w := .val (.str _)) (.str _) kk q.2⟩)
  · obtain ⟨a, xs, rfl, h1, h2⟩ := rw_tup rx
    obtain ⟨b, ys, rfl, h3, h4⟩ := rw_tup ry
    refine .inr (.inr (.inl ⟨a, b, xs, ys, rfl, rfl, SqT.of h1, SqT.of h3, by rw [h2.length, h4.length]; exact q.1, fun e => ?_, fun _ e => ?_, fun _ _ p hp => ?_⟩))
    · subst e
      cases h2
      exact post_val R ry kk q.2
    · subst e
      cases h4
      rw [List.append_nil] at q
      exact post_val R rx kk q.2
    · exact post_tup R hp (h2.app h4) kk q.2
  · exact .inr (.inr (.inr (catK_ok R kk rx ry q)))
  · exact .inr (.inr (.inr (catK_ok R kk rx ry q)))
  · exact q.elim⟩
/-- comparisons of ints and of texts -/
def rCmpA (f : Int → Int → Bool) (h : Str → Str → Bool) : R2 := fun x y H Q => (rI0 fun i j => .bl (f i j)) x y H Q ∨ (∃ i j, x = .str i ∧ y = .str j ∧ Q (.bl (h i j)) H)
abbrev ltS (a b : Str) : Bool := decide (a.cps.toList < b.cps.toList)
theorem op_ltA {X : Cx} : OpR X (compareOp .Lt) (rCmpA (fun i j => decide (i < j)) fun a b => ltS a b) := op_lt.or op_lt_str
theorem op_leA {X : Cx} : OpR X (compareOp .LtE) (rCmpA (fun i j => decide (i ≤ j)) fun a b => !ltS b a) := op_le.or op_le_str
theorem op_gtA {X : Cx} : OpR X (compareOp .Gt) (rCmpA (fun i j => decide (j < i)) fun a b => ltS b a) := op_gt.or op_gt_str
theorem op_geA {X : Cx} : OpR X (compareOp .GtE) (rCmpA (fun i j => decide (j ≤ i)) fun a b => !ltS a b) := op_ge.or op_ge_str
def fCmp (f : Int → Int → Bool) (h : Str → Str → Bool) : W → W → List Cell → DK → Prop
  | .val (.int i), .val (.int j), C, Q => Q (.val (.bool (f i j))) C
  | .val (.str a), .val (.str b), C, Q => Q (.val (.bool (h a b))) C
  | _, _, _, _ => False
instance cr_cmp {ct : Ct} {f : Int → Int → Bool} {h : Str → Str → Bool} : CR2 ct (rCmpA f h) (fCmp f h) := ⟨fun B g σ H E C Q v u x y k R kk rx ry q => by
  unfold fCmp at q
  try dsimp only at q
  split at q
  · exact .inl ⟨_, _, rw_int rx, rw_int ry, post_val R (w := .val (.bool _)) (.bl _) kk q⟩
  · exact .inr ⟨_, _, rw_str rx, rw_str ry, post_val R (w := .val (.bool _)) (.bl _) kk q⟩
  · exact q.elim⟩
/-- == and != of data -/
def rdV (C : List Cell) : W → Option D
  | .val d => some d
  | .ref k => (rdL C (.ref k)).map .list
  | _ => none
mutual
theorem RD.dp {ct : Cl} {F : Addr → Prop} {H : Hp} {K : PySem.W.Frag} : ∀ (d : D) (v : V), RD ct F H v d → d.canLay0 = true → Dp K H v d
  | .none, _, .non, _ => .non
  | .int _, _, .int i, _ => .int i
  | .str _, _, .str i, _ => .str i
  | .bool _, _, .bl i, _ => .bl i
  | .tuple ds, _, .tup h hs, s => .tup (SqT.of h) (RDs.dp ds _ hs s)
  | .list ds, _, .lst f h hs, s => .lst (SqL.of h) (RDs.dp ds _ hs s)
  | .dict _, _, .obj _ _ _ _ _, s => nomatch s
theorem RDs.dp {ct : Cl} {F : Addr → Prop} {H : Hp} {K : PySem.W.Frag} : ∀ (ds : List D) (vs : List V), RDs ct F H vs ds → PyData.canLayAll0 ds = true → DpAll K H vs ds
  | [], _, .nil, _ => .nil
  | d :: ds, _, .cons h hs, s => by
    have s' : (d.canLay0 && PyData.canLayAll0 ds) = true := s
    rw [Bool.and_eq_true] at s'
    exact .cons (RD.dp d _ h s'.1) (RDs.dp ds _ hs s'.2)
end
theorem rdV_ok {ct : Cl} {g : Gh} {H : Hp} {C : List Cell} {v : V} {w : W} {d : D} {K : PySem.W.Frag} (c : Clz ct g H C) (r : RW ct g H v w) (h : rdV C w = some d) (l : d.canLay0 = true) : Dp K H v d := by
  cases w with
  | val d' =>
    have e : d' = d := Option.some.inj h
    rw [e] at r
    exact RD.dp d v r l
  | ref k =>
    have h' : (rdL C (.ref k)).map PyData.list = some d := h
    cases e : rdL C (.ref k) with
    | none =>
      rw [e] at h'
      cases h'
    | some ds =>
      rw [e] at h'
      cases h'
      obtain ⟨a, xs, rfl, h1, h2⟩ := rdL_ok c r e
      exact .lst (SqL.of h1) (RDs.dp ds xs h2 l)
  | ty n => cases h
  | fn => cases h
  | dct ds => cases h
abbrev okD (d : D) : Prop := SeqAt.shaped d = true
theorem okD.lay {d : D} (h : okD d) : d.canLay0 = true := by
  unfold okD SeqAt.shaped at h
  rw [Bool.and_eq_true] at h
  exact h.1
def eqK (f : Bool → Bool) : Option D → Option D → List Cell → DK → Prop
  | some d, some e, C, Q => okD d ∧ okD e ∧ Q (.val (.bool (f (PyData.eqv d e)))) C
  | _, _, _, _ => False
def fEqD (f : Bool → Bool) (x y : W) (C : List Cell) (Q : DK) : Prop := eqK f (rdV C x) (rdV C y) C Q
instance cr_eqD {ct : Ct} {K : PySem.W.Frag} : CR2 ct (rEqD K) (fEqD id) := ⟨fun B g σ H E C Q v u x y k R kk rx ry q => by
  unfold fEqD eqK at q
  try dsimp only at q
  split at q
  · rename_i d e h1 h2
    exact ⟨d, e, rdV_ok R.cs rx h1 (okD.lay q.1), rdV_ok R.cs ry h2 (okD.lay q.2.1), q.1, q.2.1, post_val R (w := .val (.bool _)) (.bl _) kk q.2.2⟩
  · exact q.elim⟩
instance cr_neD {ct : Ct} {K : PySem.W.Frag} : CR2 ct (rNeD K) (fEqD not) := ⟨fun B g σ H E C Q v u x y k R kk rx ry q => by
  unfold fEqD eqK at q
  try dsimp only at q
  split at q
  · rename_i d e h1 h2
    exact ⟨d, e, rdV_ok R.cs rx h1 (okD.lay q.1), rdV_ok R.cs ry h2 (okD.lay q.2.1), q.1, q.2.1, post_val R (w := .val (.bool _)) (.bl _) kk q.2.2⟩
  · exact q.elim⟩
/-- is None, is not None -/
def isNon : W → Bool
  | .val .none => true
  | _ => false
theorem isNon_ok {ct : Cl} {g : Gh} {H : Hp} {v : V} {w : W} (r : RW ct g H v w) : decide (v = .non) = isNon w := by
  cases w with
  | val d =>
    cases (show RD ct g.F H v d from r) <;> first | rfl | exact decide_eq_false (fun z => nomatch z)
  | ref k =>
    obtain ⟨a, _, rfl⟩ := r
    exact decide_eq_false (fun z => nomatch z)
  | ty n =>
    cases (show v = .ty n from r)
    exact decide_eq_false (fun z => nomatch z)
  | fn f c q F0 H0 =>
    obtain ⟨rfl, _⟩ := r
    exact decide_eq_false (fun z => nomatch z)
  | dct ds =>
    obtain ⟨a, kvs, rfl, _⟩ := r
    exact decide_eq_false (fun z => nomatch z)
def rIsN (f : Bool → Bool) : R2 := fun x y H Q => y = .non ∧ Q (.bl (f (decide (x = .non)))) H
theorem op_isNA {X : Cx} : OpR X (compareOp .Is) (rIsN id) := op_isN
theorem op_notNA {X : Cx} : OpR X (compareOp .IsNot) (rIsN not) := op_notN
def fIsN (f : Bool → Bool) : W → W → List Cell → DK → Prop
  | x, .val .none, C, Q => Q (.val (.bool (f (isNon x)))) C
  | _, _, _, _ => False
instance cr_isN {ct : Ct} {f : Bool → Bool} : CR2 ct (rIsN f) (fIsN f) := ⟨fun B g σ H E C Q v u x y k R kk rx ry q => by
  unfold fIsN at q
  try dsimp only at q
  split at q
  · cases (show RD ct g.F H u .none from ry)
    refine ⟨rfl, ?_⟩
    rw [isNon_ok rx]
    exact post_val R (w := .val (.bool _)) (.bl _) kk q
  · exact q.elim⟩
/-! ### tests -/
def bK (Q : Bool → List Cell → Prop) : W → List Cell → Prop
  | .val (.bool b), C1 => Q b C1
  | _, _ => False
def dB (a : DE) : DT := fun E C Q => a E C (bK Q)
theorem bl_of {ct : Cl} {g : Gh} {H : Hp} {v : V} {b : Bool} (h : RW ct g H v (.val (.bool b))) : v = .bl b := rw_bool h
instance ct_b {ct : Ct} {t : TE} {a : DE} [h : CE ct t a] : CT ct (tB t) (dB a) := ⟨fun B g σ H E C Q K R k q => by
  refine h.run B g σ H E C _ _ R (fun v H1 ⟨g1, C1, x, k1, R1, r1, q1⟩ => ?_) q
  unfold bK at q1
  split at q1
  · exact ⟨_, rw_bool r1, k _ _ ⟨g1, C1, k1, R1, q1⟩⟩
  · exact q1.elim⟩
instance ct_test {ct : Ct} {t : TE} {a : DE} [h : CE ct t a] : CT ct (tTest t) (dB a) := ⟨fun B g σ H E C Q K R k q => by
  refine h.run B g σ H E C _ _ R (fun v H1 ⟨g1, C1, x, k1, R1, r1, q1⟩ => ?_) q
  unfold bK at q1
  split at q1
  · exact ⟨_, rw_bool r1, k _ _ ⟨g1, C1, k1, R1, q1⟩⟩
  · exact q1.elim⟩
def dAnd (a b : DT) : DT := fun E C Q => a E C fun c C1 => if c = true then b E C1 Q else Q false C1
def dOr (a b : DT) : DT := fun E C Q => a E C fun c C1 => if c = true then Q true C1 else b E C1 Q
def dNot (a : DT) : DT := fun E C Q => a E C fun c C1 => Q (!c) C1
instance ct_and {ct : Ct} {t u : TT} {a b : DT} [ha : CT ct t a] [hb : CT ct u b] : CT ct (tAnd t u) (dAnd a b) := ⟨fun B g σ H E C Q K R k q => by
  refine ha.run B g σ H E C _ _ R (fun c H1 ⟨g1, C1, k1, R1, q1⟩ => ?_) q
  cases c with
  | true => exact iteT (hb.run B g1 σ H1 E C1 _ _ R1 (fun v H' p => k v H' (p.back k1)) q1)
  | false => exact iteF (k _ _ ⟨g1, C1, k1, R1, q1⟩)⟩
instance ct_or {ct : Ct} {t u : TT} {a b : DT} [ha : CT ct t a] [hb : CT ct u b] : CT ct (tOr t u) (dOr a b) := ⟨fun B g σ H E C Q K R k q => by
  refine ha.run B g σ H E C _ _ R (fun c H1 ⟨g1, C1, k1, R1, q1⟩ => ?_) q
  cases c with
  | true => exact iteT (k _ _ ⟨g1, C1, k1, R1, q1⟩)
  | false => exact iteF (hb.run B g1 σ H1 E C1 _ _ R1 (fun v H' p => k v H' (p.back k1)) q1)⟩
instance ct_not {ct : Ct} {t : TT} {a : DT} [ha : CT ct t a] : CT ct (tNot t) (dNot a) := ⟨fun B g σ H E C Q K R k q =>
  ha.run B g σ H E C _ _ R (fun c H1 ⟨g1, C1, k1, R1, q1⟩ => k _ _ ⟨g1, C1, k1, R1, q1⟩) q⟩
/-- truth -/
def tTruA (K : PySem.W.Frag) (ta : TE) : TT := fun σ H Q => ta σ H fun x H' => ∃ k, TruV K x H' k ∧ Q k H'
theorem pt_truA {X : Cx} {a : Expr} {ta : TE} (ha : PE X a ta) (he : ∀ whole, isTrue a X.env whole = (do let v ← whole; standAt a.pos; holding [v] (truthy v)) := by intro _; rfl) : PT X a (tTruA X.K ta) := pt_truth ha he
def truL (Q : Bool → List Cell → Prop) : Option (List D) → List Cell → Prop
  | some ds, C1 => Q (!ds.isEmpty) C1
  | none, _ => False
def truK (Q : Bool → List Cell → Prop) : W → List Cell → Prop
  | .val (.bool b), C1 => Q b C1
  | .val (.int i), C1 => Q (i != 0) C1
  | .val (.tuple ds), C1 => Q (!ds.isEmpty) C1
  | .val .none, C1 => Q false C1
  | .val (.list ds), C1 => Q (!ds.isEmpty) C1
  | .ref k, C1 => truL Q (cellL C1[k]?) C1
  | _, _ => False
def dTru (a : DE) : DT := fun E C Q => a E C (truK Q)
theorem empty_eq {ct : Cl} {F : Addr → Prop} {H : Hp} {xs : List V} {ds : List D} (h : RDs ct F H xs ds) : xs.isEmpty = ds.isEmpty := by
  cases h <;> rfl
instance ct_tru {ct : Ct} {K : PySem.W.Frag} {t : TE} {a : DE} [h : CE ct t a] : CT ct (tTruA K t) (dTru a) := ⟨fun B g σ H E C Q K R k q => by
  refine h.run B g σ H E C _ _ R (fun v H1 ⟨g1, C1, x, k1, R1, r1, q1⟩ => ?_) q
  unfold truK at q1
  split at q1
  · exact ⟨_, by rw [rw_bool r1]; exact rfl, k _ _ ⟨g1, C1, k1, R1, q1⟩⟩
  · exact ⟨_, by rw [rw_int r1]; exact rfl, k _ _ ⟨g1, C1, k1, R1, q1⟩⟩
  · obtain ⟨a, xs, rfl, h1, h2⟩ := rw_tup r1
    exact ⟨_, .inr (.inl ⟨xs, SqT.of h1, by rw [empty_eq h2]⟩), k _ _ ⟨g1, C1, k1, R1, q1⟩⟩
  · cases (show RD ct g1.F H1 v .none from r1)
    exact ⟨_, rfl, k _ _ ⟨g1, C1, k1, R1, q1⟩⟩
  · obtain ⟨a, xs, rfl, h1, h2⟩ := rdL_ok R1.cs r1 rfl
    exact ⟨_, .inl ⟨xs, SqL.of h1, by rw [empty_eq h2]⟩, k _ _ ⟨g1, _, k1, R1, q1⟩⟩
  · unfold truL at q1
    split at q1
    · rename_i ds e
      obtain ⟨a, xs, rfl, h1, h2⟩ := rdL_ok R1.cs r1 e
      exact ⟨_, .inl ⟨xs, SqL.of h1, by rw [empty_eq h2]⟩, k _ _ ⟨g1, _, k1, R1, q1⟩⟩
    · exact q1.elim
  · exact q1.elim⟩
/-! ### values by truth -/
def dIf (c : DT) (a b : DE) : DE := fun E C Q => c E C fun x C1 => if x = true then a E C1 Q else b E C1 Q
instance ce_if {ct : Ct} {tc : TT} {ta tb : TE} {c : DT} {a b : DE} [hc : CT ct tc c] [ha : CE ct ta a] [hb : CE ct tb b] : CE ct (tIf tc ta tb) (dIf c a b) := ⟨fun B g σ H E C Q K R k q => by
  refine hc.run B g σ H E C _ _ R (fun c H1 ⟨g1, C1, k1, R1, q1⟩ => ?_) q
  cases c with
  | true => exact iteT (ha.run B g1 σ H1 E C1 _ _ R1 (fun v H' p => k v H' (p.back k1)) q1)
  | false => exact iteF (hb.run B g1 σ H1 E C1 _ _ R1 (fun v H' p => k v H' (p.back k1)) q1)⟩
def dAndV (a b : DE) : DE := fun E C Q => a E C (bK fun c C1 => if c = true then b E C1 Q else Q (.val (.bool false)) C1)
def dOrV (a b : DE) : DE := fun E C Q => a E C (bK fun c C1 => if c = true then Q (.val (.bool true)) C1 else b E C1 Q)
def dNotV (a : DE) : DE := fun E C Q => a E C (bK fun c C1 => Q (.val (.bool (!c))) C1)
instance ce_andV {ct : Ct} {ta tb : TE} {a b : DE} [ha : CE ct ta a] [hb : CE ct tb b] : CE ct (tAndV ta tb) (dAndV a b) := ⟨fun B g σ H E C Q K R k q => by
  refine ha.run B g σ H E C _ _ R (fun v H1 ⟨g1, C1, x, k1, R1, r1, q1⟩ => ?_) q
  unfold bK at q1
  split at q1
  · rename_i c
    refine ⟨c, rw_bool r1, ?_⟩
    cases c with
    | true => exact iteT (hb.run B g1 σ H1 E C1 _ _ R1 (fun v H' p => k v H' (p.back k1)) q1)
    | false => exact iteF (k _ _ ⟨g1, C1, .val (.bool false), k1, R1, RD.bl _, q1⟩)
  · exact q1.elim⟩
instance ce_orV {ct : Ct} {ta tb : TE} {a b : DE} [ha : CE ct ta a] [hb : CE ct tb b] : CE ct (tOrV ta tb) (dOrV a b) := ⟨fun B g σ H E C Q K R k q => by
  refine ha.run B g σ H E C _ _ R (fun v H1 ⟨g1, C1, x, k1, R1, r1, q1⟩ => ?_) q
  unfold bK at q1
  split at q1
  · rename_i c
    refine ⟨c, rw_bool r1, ?_⟩
    cases c with
    | true => exact iteT (k _ _ ⟨g1, C1, .val (.bool true), k1, R1, RD.bl _, q1⟩)
    | false => exact iteF (hb.run B g1 σ H1 E C1 _ _ R1 (fun v H' p => k v H' (p.back k1)) q1)
  · exact q1.elim⟩
instance ce_notV {ct : Ct} {ta : TE} {a : DE} [ha : CE ct ta a] : CE ct (tNotV ta) (dNotV a) := ⟨fun B g σ H E C Q K R k q => by
  refine ha.run B g σ H E C _ _ R (fun v H1 ⟨g1, C1, x, k1, R1, r1, q1⟩ => ?_) q
  unfold bK at q1
  split at q1
  · exact ⟨_, rw_bool r1, k _ _ ⟨g1, C1, .val (.bool _), k1, R1, RD.bl _, q1⟩⟩
  · exact q1.elim⟩
def dChain (f h : F2) (a b c : DE) : DE := fun E C Q => a E C fun x C1 => b E C1 fun y C2 => f x y C2 (bK fun k C3 => if k = true then c E C3 fun w C4 => h y w C4 Q else Q (.val (.bool false)) C3)
instance ce_chain {ct : Ct} {r r' : R2} {f h : F2} {ta tb tc : TE} {a b c : DE} [hr : CR2 ct r f] [hr' : CR2 ct r' h] [ha : CE ct ta a] [hb : CE ct tb b] [hc : CE ct tc c] : CE ct (tChain r r' ta tb tc) (dChain f h a b c) := ⟨fun B g σ H E C Q K R k q => by
  refine ha.run B g σ H E C _ _ R (fun v H1 ⟨g1, C1, x, k1, R1, r1, q1⟩ => ?_) q
  refine hb.run B g1 σ H1 E C1 _ _ R1 (fun u H2 ⟨g2, C2, y, k2, R2, r2, q2⟩ => ?_) q1
  refine hr.run B g2 σ H2 E C2 _ v u x y _ R2 (fun z H3 ⟨g3, C3, zw, k3, R3, r3, q3⟩ => ?_) (r1.mono k2) r2 q2
  unfold bK at q3
  split at q3
  · rename_i kb
    refine ⟨kb, rw_bool r3, ?_⟩
    cases kb with
    | true =>
      refine iteT (hc.run B g3 σ H3 E C3 _ _ R3 (fun w' H4 ⟨g4, C4, w4, k4, R4, r4, q4⟩ => ?_) q3)
      exact hr'.run B g4 σ H4 E C4 Q u w' y w4 K R4 (fun v' H' p => k v' H' ((((p.back k4).back k3).back k2).back k1)) ((r2.mono k3).mono k4) r4 q4
    | false => exact iteF (k _ _ ⟨g3, C3, .val (.bool false), (k1.trans k2).trans k3, R3, RD.bl _, q3⟩)
  · exact q3.elim⟩
/-! ### argument lists, displays -/
def dNil : DA := fun _ C Q => Q [] C
def dCons (a : DE) (r : DA) : DA := fun E C Q => a E C fun x C1 => r E C1 fun xs C2 => Q (x :: xs) C2
instance ca_nil {ct : Ct} : CA ct tNil dNil := ⟨fun B g σ H E C Q K R k q => k _ _ ⟨g, C, [], Gk.refl _ _, R, .nil, q⟩⟩
instance ca_cons {ct : Ct} {ta : TE} {tr : TA} {a : DE} {r : DA} [ha : CE ct ta a] [hr : CA ct tr r] : CA ct (tCons ta tr) (dCons a r) := ⟨fun B g σ H E C Q K R k q => by
  refine ha.run B g σ H E C _ _ R (fun v H1 ⟨g1, C1, x, k1, R1, r1, q1⟩ => ?_) q
  refine hr.run B g1 σ H1 E C1 _ _ R1 (fun vs H2 ⟨g2, C2, xs, k2, R2, r2, q2⟩ => ?_) q1
  exact k _ _ ⟨g2, C2, x :: xs, k1.trans k2, R2, .cons (r1.mono k2) r2, q2⟩⟩
/-- all are data -/
def vals : List W → Option (List D)
  | [] => some []
  | .val d :: ws => (vals ws).map (d :: ·)
  | _ :: _ => none
theorem vals_ok {ct : Cl} {g : Gh} {H : Hp} : ∀ {vs : List V} {ws : List W} {ds : List D}, RWs ct g H vs ws → vals ws = some ds → RDs ct g.F H vs ds
  | _, _, _, .nil, h => by
    cases h
    exact .nil
  | _, _, _, .cons (b := .val d) (l₂ := ws) r rs, h => by
    have h' : (vals ws).map (d :: ·) = some _ := h
    cases e : vals ws with
    | none =>
      rw [e] at h'
      cases h'
    | some es =>
      rw [e] at h'
      cases h'
      exact .cons r (vals_ok rs e)
  | _, _, _, .cons (b := .ref k) r rs, h => nomatch h
  | _, _, _, .cons (b := .ty k) r rs, h => nomatch h
  | _, _, _, .cons (b := .fn ..) r rs, h => nomatch h
  | _, _, _, .cons (b := .dct ..) r rs, h => nomatch h
def dispK (f : List D → D) (Q : DK) : Option (List D) → List Cell → Prop
  | some ds, C1 => ds.length ≤ sizeLine ∧ Q (.val (f ds)) C1
  | none, _ => False
def dTup (a : DA) : DE := fun E C Q => a E C fun ws C1 => dispK .tuple Q (vals ws) C1
instance ce_tup {ct : Ct} {t : TA} {a : DA} [h : CA ct t a] : CE ct (tTup t) (dTup a) := ⟨fun B g σ H E C Q K R k q => by
  refine h.run B g σ H E C _ _ R (fun vs H1 ⟨g1, C1, ws, k1, R1, r1, q1⟩ => ?_) q
  unfold dispK at q1
  dsimp only at q1
  split at q1
  · rename_i ds e
    have hd := vals_ok r1 e
    refine ⟨by rw [hd.length]; exact q1.1, fun p hp => ?_⟩
    exact post_tup R1 hp hd (fun v H' p => k v H' (p.back k1)) q1.2
  · exact q1.elim⟩
def dLst (a : DA) : DE := fun E C Q => a E C fun ws C1 => dispK .list Q (vals ws) C1
instance ce_lst {ct : Ct} {t : TA} {a : DA} [h : CA ct t a] : CE ct (tLst t) (dLst a) := ⟨fun B g σ H E C Q K R k q => by
  refine h.run B g σ H E C _ _ R (fun vs H1 ⟨g1, C1, ws, k1, R1, r1, q1⟩ => ?_) q
  unfold dispK at q1
  dsimp only at q1
  split at q1
  · rename_i ds e
    have hd := vals_ok r1 e
    refine ⟨by rw [hd.length]; exact q1.1, fun p hp => ?_⟩
    exact post_lst R1 hp hd (fun v H' p => k v H' (p.back k1)) q1.2
  · exact q1.elim⟩
/-! ### index -/
theorem atI_ex {α β : Type} {xs : List α} {ds : List β} {i : Int} {d : β} (hl : xs.length = ds.length) (h : atI ds i = some d) : ∃ (j : Nat) (v : α), atI xs i = some v ∧ xs[j]? = some v ∧ ds[j]? = some d := by
  unfold atI at h ⊢
  rw [hl]
  cases e : ixN ds.length i with
  | none =>
    rw [e] at h
    cases h
  | some j =>
    rw [e] at h
    have h2 : ds[j]? = some d := h
    have hj : j < xs.length := by rw [hl]; exact (List.getElem?_eq_some_iff.mp h2).1
    exact ⟨j, xs[j], List.getElem?_eq_getElem hj, List.getElem?_eq_getElem hj, h2⟩
theorem RDs.atI {ct : Cl} {F : Addr → Prop} {H : Hp} {xs : List V} {ds : List D} (h : RDs ct F H xs ds) {i : Int} {d : D} (e : L2.atI ds i = some d) : ∃ v, L2.atI xs i = some v ∧ RD ct F H v d := by
  obtain ⟨j, v, h1, h2, h3⟩ := atI_ex h.length e
  obtain ⟨v', h4, h5⟩ := h.get j d h3
  rw [h2] at h4
  cases h4
  exact ⟨v, h1, h5⟩
def ixK (Q : DK) : Option D → List Cell → Prop
  | some d, C => Q (.val d) C
  | none, _ => False
def ixS (Q : DK) : Option Nat → List Cell → Prop
  | some c, C => Q (.val (.str ⟨#[c]⟩)) C
  | none, _ => False
def ixL (Q : DK) (i : Int) : Option (List D) → List Cell → Prop
  | some ds, C => ixK Q (atI ds i) C
  | none, _ => False
def fIx : W → W → List Cell → DK → Prop
  | .val (.tuple ds), .val (.int i), C, Q => ixK Q (atI ds i) C
  | .val (.str z), .val (.int i), C, Q => z.length ≤ sizeLine ∧ ixS Q (atI z.cps.toList i) C
  | .val (.list ds), .val (.int i), C, Q => ixK Q (atI ds i) C
  | .ref k, .val (.int i), C, Q => ixL Q i (cellL C[k]?) C
  | _, _, _, _ => False
theorem ixK_ok {ct : Ct} {B : Bs} {g : Gh} {σ : L2.St} {H : Hp} {E : Ev} {C : List Cell} {Q : DK} {k : VK} {ds : List D} {i : Int} {xs : List V} (R : Rel ct B g σ H E C) (kk : ∀ v H', PostE ct B g H σ E Q v H' → k v H') (r : RDs ct g.F H xs ds) (q : ixK Q (atI ds i) C) : ∃ v, atI xs i = some v ∧ k v H := by
  unfold ixK at q
  split at q
  · rename_i d e
    obtain ⟨v, h3, h4⟩ := r.atI e
    exact ⟨v, h3, post_val R (w := .val d) h4 kk q⟩
  · exact q.elim
instance cr_ix {ct : Ct} {K : PySem.W.Frag} : CR2 ct (rIx K) fIx := ⟨fun B g σ H E C Q v u x y k R kk rx ry q => by
  unfold fIx at q
  split at q
  · obtain ⟨a, xs, rfl, h1, h2⟩ := rw_tup rx
    obtain ⟨v', h3, h4⟩ := ixK_ok R kk h2 q
    exact .inr (.inl ⟨a, xs, _, v', rfl, rw_int ry, SqT.of h1, h3, h4⟩)
  · obtain ⟨hz, q⟩ := q
    unfold ixS at q
    split at q
    · rename_i c e
      exact .inr (.inr ⟨_, _, c, rw_str rx, rw_int ry, hz, e, post_val R (w := .val (.str _)) (.str _) kk q⟩)
    · exact q.elim
  · obtain ⟨a, xs, rfl, h1, h2⟩ := rdL_ok R.cs rx rfl
    obtain ⟨v', h3, h4⟩ := ixK_ok R kk h2 q
    exact .inl ⟨a, xs, _, v', rfl, rw_int ry, SqL.of h1, h3, h4⟩
  · unfold ixL at q
    split at q
    · rename_i ds e
      obtain ⟨a, xs, rfl, h1, h2⟩ := rdL_ok R.cs rx e
      obtain ⟨v', h3, h4⟩ := ixK_ok R kk h2 q
      exact .inl ⟨a, xs, _, v', rfl, rw_int ry, SqL.of h1, h3, h4⟩
    · exact q.elim
  · exact q.elim⟩
/-! ### slices -/
abbrev DO := Ev → List Cell → (Option Int → List Cell → Prop) → Prop
def PostO (ct : Ct) (B : Bs) (g : Gh) (H : Hp) (σ : L2.St) (E : Ev) (Q : Option Int → List Cell → Prop) : Option Int → Hp → Prop := fun b H' => ∃ g' C', Gk g H g' H' ∧ Rel ct B g' σ H' E C' ∧ Q b C'
class CO (ct : Ct) (tt : TO) (t : outParam DO) : Prop where
  run : ∀ B g σ H E C Q (K : Option Int → Hp → Prop), Rel ct B g σ H E C → (∀ v H', PostO ct B g H σ E Q v H' → K v H') → t E C Q → tt σ H K
def dNoPart : DO := fun _ C Q => Q none C
def partK (Q : Option Int → List Cell → Prop) : W → List Cell → Prop
  | .val (.int i), C1 => Q (some i) C1
  | _, _ => False
def dPart (a : DE) : DO := fun E C Q => a E C (partK Q)
instance co_none {ct : Ct} : CO ct tNoPart dNoPart := ⟨fun B g σ H E C Q K R k q => k _ _ ⟨g, C, Gk.refl _ _, R, q⟩⟩
instance co_part {ct : Ct} {t : TE} {a : DE} [h : CE ct t a] : CO ct (tPart t) (dPart a) := ⟨fun B g σ H E C Q K R k q => by
  refine h.run B g σ H E C _ _ R (fun v H1 ⟨g1, C1, x, k1, R1, r1, q1⟩ => ?_) q
  unfold partK at q1
  split at q1
  · exact ⟨_, rw_int r1, k _ _ ⟨g1, _, k1, R1, q1⟩⟩
  · exact q1.elim⟩
def cutL {α : Type} (xs : List α) (lo hi : Option Int) : List α := (xs.drop (HT.sIx xs.length 0 lo)).take (HT.sIx xs.length xs.length hi - HT.sIx xs.length 0 lo)
theorem RDs.cut {ct : Cl} {F : Addr → Prop} {H : Hp} {xs : List V} {ds : List D} (h : RDs ct F H xs ds) (lo hi : Option Int) : RDs ct F H (cutV xs lo hi) (cutL ds lo hi) := by
  unfold cutV cutL
  rw [h.length]
  exact (h.drop _).take _
theorem cutL_full {α : Type} {xs : List α} {lo hi : Option Int} (h : HT.sIx xs.length 0 lo = 0 ∧ HT.sIx xs.length xs.length hi = xs.length) : cutL xs lo hi = xs := by
  unfold cutL
  rw [h.1, h.2, List.drop_zero, Nat.sub_zero, List.take_length]
def rSlN (K : PySem.W.Frag) : V → Option Int → Option Int → Hp → VK → Prop := fun x lo hi H Q => rSlL K x lo hi H Q ∨ rSlA K x lo hi H Q ∨ C8.rSlX x lo hi H Q
theorem sl_any {X : Cx} : SlR X (rSlN X.K) := sl_list.or (sl_tupA.or C8.sl_txt)
def slL (lo hi : Option Int) (Q : DK) : Option (List D) → List Cell → Prop
  | some ds, C => Q (.val (.list (cutL ds lo hi))) C
  | none, _ => False
def slK (lo hi : Option Int) (Q : DK) : W → List Cell → Prop
  | .val (.tuple ds), C => Q (.val (.tuple (cutL ds lo hi))) C
  | .val (.str z), C => z.length ≤ sizeLine ∧ Q (.val (.str (Txt.slice z lo hi))) C
  | .val (.list ds), C => Q (.val (.list (cutL ds lo hi))) C
  | .ref k, C => slL lo hi Q (cellL C[k]?) C
  | _, _ => False
def dSl (a : DE) (l h : DO) : DE := fun E C Q => a E C fun x C1 => l E C1 fun lo C2 => h E C2 fun hi C3 => slK lo hi Q x C3
instance ce_sl {ct : Ct} {K : PySem.W.Frag} {t : TE} {tl th : TO} {a : DE} {l h : DO} [ha : CE ct t a] [hl : CO ct tl l] [hh : CO ct th h] : CE ct (tSl (rSlN K) t tl th) (dSl a l h) := ⟨fun B g σ H E C Q K' R k q => by
  refine ha.run B g σ H E C _ _ R (fun v H1 ⟨g1, C1, x, k1, R1, r1, q1⟩ => ?_) q
  refine hl.run B g1 σ H1 E C1 _ _ R1 (fun lo H2 ⟨g2, C2, k2, R2, q2⟩ => ?_) q1
  refine hh.run B g2 σ H2 E C2 _ _ R2 (fun hi H3 ⟨g3, C3, k3, R3, q3⟩ => ?_) q2
  have k23 := k2.trans k3
  have r3 := r1.mono k23
  have kk : ∀ v' H', PostE ct B g3 H3 σ E Q v' H' → K' v' H' := fun v' H' p => k v' H' (p.back (k1.trans k23))
  unfold slK at q3
  dsimp only at q3
  split at q3
  · obtain ⟨b, xs, rfl, h1, h2⟩ := rw_tup r3
    refine .inr (.inl ⟨b, xs, rfl, SqT.of h1, fun z => ?_, fun _ p hp => post_tup R3 hp (h2.cut lo hi) kk q3⟩)
    rw [h2.length] at z
    rw [cutL_full z] at q3
    exact post_val R3 r3 kk q3
  · exact .inr (.inr ⟨_, rw_str r3, q3.1, post_val R3 (w := .val (.str _)) (.str _) kk q3.2⟩)
  · obtain ⟨b, xs, rfl, h1, h2⟩ := rdL_ok R3.cs r3 rfl
    exact .inl ⟨b, xs, rfl, SqL.of h1, fun p hp => post_lst R3 hp (h2.cut lo hi) kk q3⟩
  · unfold slL at q3
    split at q3
    · rename_i ds e
      obtain ⟨b, xs, rfl, h1, h2⟩ := rdL_ok R3.cs r3 e
      exact .inl ⟨b, xs, rfl, SqL.of h1, fun p hp => post_lst R3 hp (h2.cut lo hi) kk q3⟩
    · exact q3.elim
  · exact q3.elim⟩
/-! ### built-in functions -/
def dCB (f : FC) (a : DA) : DE := fun E C Q => a E C fun ws C1 => f ws C1 Q
instance ce_cb {ct : Ct} {r : List V → Hp → VK → Prop} {f : FC} {t : TA} {a : DA} [hr : CC ct r f] [ha : CA ct t a] : CE ct (tCB r t) (dCB f a) := ⟨fun B g σ H E C Q K R k q => by
  refine ha.run B g σ H E C _ _ R (fun vs H1 ⟨g1, C1, ws, k1, R1, r1, q1⟩ => ?_) q
  exact hr.run B g1 σ H1 E C1 Q vs ws K R1 (fun v H' p => k v H' (p.back k1)) r1 q1⟩
theorem rws1 {ct : Cl} {g : Gh} {H : Hp} {vs : List V} {w : W} (h : RWs ct g H vs [w]) : ∃ v, vs = [v] ∧ RW ct g H v w := by
  cases h with
  | cons r rs =>
    cases rs
    exact ⟨_, rfl, r⟩
theorem rws2 {ct : Cl} {g : Gh} {H : Hp} {vs : List V} {w u : W} (h : RWs ct g H vs [w, u]) : ∃ v x, vs = [v, x] ∧ RW ct g H v w ∧ RW ct g H x u := by
  cases h with
  | cons r rs =>
    obtain ⟨x, rfl, h2⟩ := rws1 rs
    exact ⟨_, _, rfl, r, h2⟩
def rLenA (K : PySem.W.Frag) : List V → Hp → VK → Prop := fun xs H Q => (∃ p ys, xs = [.ref p] ∧ (SqL K H p ys ∨ SqT K H p ys) ∧ Q (.int ys.length) H) ∨ (∃ z, xs = [.str z] ∧ z.length ≤ sizeLine ∧ Q (.int z.length) H)
theorem call_lenA {X : Cx} : CallR X (.builtin "len") (rLenA X.K) := call_len_seq.or call_len_str
def lenLK (Q : DK) : Option (List D) → List Cell → Prop
  | some ds, C => Q (.val (.int ds.length)) C
  | none, _ => False
def fLen : List W → List Cell → DK → Prop
  | [.val (.tuple ds)], C, Q => Q (.val (.int ds.length)) C
  | [.val (.str z)], C, Q => z.length ≤ sizeLine ∧ Q (.val (.int z.length)) C
  | [.val (.list ds)], C, Q => Q (.val (.int ds.length)) C
  | [.ref k], C, Q => lenLK Q (cellL C[k]?) C
  | _, _, _ => False
instance cc_len {ct : Ct} {K : PySem.W.Frag} : CC ct (rLenA K) fLen := ⟨fun B g σ H E C Q vs ws K' R k r q => by
  unfold fLen at q
  split at q
  · obtain ⟨v, rfl, r1⟩ := rws1 r
    obtain ⟨a, xs, rfl, h1, h2⟩ := rw_tup r1
    refine .inl ⟨a, xs, rfl, .inr (SqT.of h1), ?_⟩
    rw [h2.length]
    exact post_val R (w := .val (.int _)) (.int _) k q
  · obtain ⟨v, rfl, r1⟩ := rws1 r
    exact .inr ⟨_, by rw [rw_str r1], q.1, post_val R (w := .val (.int _)) (.int _) k q.2⟩
  · obtain ⟨v, rfl, r1⟩ := rws1 r
    obtain ⟨a, xs, rfl, h1, h2⟩ := rdL_ok R.cs r1 rfl
    refine .inl ⟨a, xs, rfl, .inl (SqL.of h1), ?_⟩
    rw [h2.length]
    exact post_val R (w := .val (.int _)) (.int _) k q
  · obtain ⟨v, rfl, r1⟩ := rws1 r
    unfold lenLK at q
    split at q
    · rename_i ds e
      obtain ⟨a, xs, rfl, h1, h2⟩ := rdL_ok R.cs r1 e
      refine .inl ⟨a, xs, rfl, .inl (SqL.of h1), ?_⟩
      rw [h2.length]
      exact post_val R (w := .val (.int _)) (.int _) k q
    · exact q.elim
  · exact q.elim⟩
def rIntA : List V → Hp → VK → Prop := fun xs H Q => (∃ i, xs = [.int i] ∧ Q (.int i) H) ∨ ∃ k, xs = [.bl k] ∧ Q (.int (if k then 1 else 0)) H
theorem call_intA {X : Cx} : CallR X (.type "int") rIntA := call_int1
def fInt : List W → List Cell → DK → Prop
  | [.val (.int i)], C, Q => Q (.val (.int i)) C
  | [.val (.bool b)], C, Q => Q (.val (.int (if b then 1 else 0))) C
  | _, _, _ => False
instance cc_int {ct : Ct} : CC ct rIntA fInt := ⟨fun B g σ H E C Q vs ws K' R k r q => by
  unfold fInt at q
  split at q
  · obtain ⟨v, rfl, r1⟩ := rws1 r
    exact .inl ⟨_, by rw [rw_int r1], post_val R (w := .val (.int _)) (.int _) k q⟩
  · obtain ⟨v, rfl, r1⟩ := rws1 r
    exact .inr ⟨_, by rw [rw_bool r1], post_val R (w := .val (.int _)) (.int _) k q⟩
  · exact q.elim⟩
def rListA (K : PySem.W.Frag) : List V → Hp → VK → Prop := fun xs H Q => ∃ p ys, xs = [.ref p] ∧ (SqL K H p ys ∨ SqT K H p ys) ∧ ∀ l, H l = none → Q (.ref l) (upd H l (.lst ys))
theorem call_listA {X : Cx} : CallR X (.type "list") (rListA X.K) := call_list_of
/-- the items of a list or a tuple -/
def rdS (C : List Cell) : W → Option (List D)
  | .val (.tuple ds) => some ds
  | .val (.list ds) => some ds
  | .ref k => cellL C[k]?
  | _ => none
theorem rdS_ok {ct : Cl} {g : Gh} {H : Hp} {C : List Cell} {v : V} {w : W} {ds : List D} {K : PySem.W.Frag} (c : Clz ct g H C) (r : RW ct g H v w) (h : rdS C w = some ds) : ∃ a xs, v = .ref a ∧ (SqL K H a xs ∨ SqT K H a xs) ∧ RDs ct g.F H xs ds := by
  unfold rdS at h
  split at h
  · cases h
    obtain ⟨a, xs, rfl, h1, h2⟩ := rw_tup r
    exact ⟨a, xs, rfl, .inr (SqT.of h1), h2⟩
  · obtain ⟨a, xs, rfl, h1, h2⟩ := rdL_ok c r h
    exact ⟨a, xs, rfl, .inl (SqL.of h1), h2⟩
  · obtain ⟨a, xs, rfl, h1, h2⟩ := rdL_ok c r h
    exact ⟨a, xs, rfl, .inl (SqL.of h1), h2⟩
  · cases h
def mkL (f : List D → D) (Q : DK) : Option (List D) → List Cell → Prop
  | some ds, C => Q (.val (f ds)) C
  | none, _ => False
def fList : List W → List Cell → DK → Prop
  | [x], C, Q => mkL .list Q (rdS C x) C
  | _, _, _ => False
instance cc_list {ct : Ct} {K : PySem.W.Frag} : CC ct (rListA K) fList := ⟨fun B g σ H E C Q vs ws K' R k r q => by
  unfold fList at q
  split at q
  · obtain ⟨v, rfl, r1⟩ := rws1 r
    unfold mkL at q
    split at q
    · rename_i ds e
      obtain ⟨a, xs, rfl, h1, h2⟩ := rdS_ok (K := K) R.cs r1 e
      exact ⟨a, xs, rfl, h1, fun l hl => post_lst R hl h2 k q⟩
    · exact q.elim
  · exact q.elim⟩
def rTupA (K : PySem.W.Frag) : List V → Hp → VK → Prop := fun xs H Q => ∃ p ys, xs = [.ref p] ∧ ((SqL K H p ys ∧ ∀ l, H l = none → Q (.ref l) (upd H l (.tup ys))) ∨ (SqT K H p ys ∧ Q (.ref p) H))
theorem call_tupA {X : Cx} : CallR X (.type "tuple") (rTupA X.K) := call_tuple_of
def fTup : List W → List Cell → DK → Prop
  | [x], C, Q => mkL .tuple Q (rdL C x) C
  | _, _, _ => False
instance cc_tup {ct : Ct} {K : PySem.W.Frag} : CC ct (rTupA K) fTup := ⟨fun B g σ H E C Q vs ws K' R k r q => by
  unfold fTup at q
  split at q
  · obtain ⟨v, rfl, r1⟩ := rws1 r
    unfold mkL at q
    split at q
    · rename_i ds e
      obtain ⟨a, xs, rfl, h1, h2⟩ := rdL_ok R.cs r1 e
      exact ⟨a, xs, rfl, .inl ⟨SqL.of h1, fun l hl => post_tup R hl h2 k q⟩⟩
    · exact q.elim
  · exact q.elim⟩
def rOrd : List V → Hp → VK → Prop := fun xs H Q => ∃ x, xs = [.str x] ∧ x.length = 1 ∧ Q (.int (x.cps.getD 0 0 : Nat)) H
theorem call_ordA {X : Cx} : CallR X (.builtin "ord") rOrd := call_ord
def fOrd : List W → List Cell → DK → Prop
  | [.val (.str x)], C, Q => x.length = 1 ∧ Q (.val (.int (x.cps.getD 0 0 : Nat))) C
  | _, _, _ => False
instance cc_ord {ct : Ct} : CC ct rOrd fOrd := ⟨fun B g σ H E C Q vs ws K' R k r q => by
  unfold fOrd at q
  split at q
  · obtain ⟨v, rfl, r1⟩ := rws1 r
    exact ⟨_, by rw [rw_str r1], q.1, post_val R (w := .val (.int _)) (.int _) k q.2⟩
  · exact q.elim⟩
theorem RDs.ints_eq {ct : Cl} {F : Addr → Prop} {H : Hp} : ∀ {xs : List V} {ns : List Int}, RDs ct F H xs (ns.map .int) → xs = ns.map V.int
  | _, [], h => by
    cases h
    rfl
  | _, n :: ns, h => by
    cases h with
    | cons h1 h2 =>
      cases h1
      rw [RDs.ints_eq h2]
      rfl
theorem RDs.bls_eq {ct : Cl} {F : Addr → Prop} {H : Hp} : ∀ {xs : List V} {ns : List Bool}, RDs ct F H xs (ns.map .bool) → xs = ns.map V.bl
  | _, [], h => by
    cases h
    rfl
  | _, n :: ns, h => by
    cases h with
    | cons h1 h2 =>
      cases h1
      rw [RDs.bls_eq h2]
      rfl
def fSum : FC := fun ws C Q => ∃ (x : W) (ns : List Int), ws = [x] ∧ rdL C x = some (ns.map PyData.int) ∧ Q (.val (.int ns.sum)) C
instance cc_sum {ct : Ct} {K : PySem.W.Frag} : CC ct (rSum K) fSum := ⟨fun B g σ H E C Q vs ws K' R k r q => by
  obtain ⟨x, ns, rfl, e, q⟩ := q
  obtain ⟨v, rfl, r1⟩ := rws1 r
  obtain ⟨a, xs, rfl, h1, h2⟩ := rdL_ok R.cs r1 e
  rw [h2.ints_eq] at h1
  exact ⟨a, ns, rfl, SqL.of h1, post_val R (w := .val (.int _)) (.int _) k q⟩⟩
def fAll : FC := fun ws C Q => ∃ (x : W) (bs : List Bool), ws = [x] ∧ rdL C x = some (bs.map PyData.bool) ∧ Q (.val (.bool (bs.all id))) C
instance cc_all {ct : Ct} {K : PySem.W.Frag} : CC ct (rAll K) fAll := ⟨fun B g σ H E C Q vs ws K' R k r q => by
  obtain ⟨x, ns, rfl, e, q⟩ := q
  obtain ⟨v, rfl, r1⟩ := rws1 r
  obtain ⟨a, xs, rfl, h1, h2⟩ := rdL_ok R.cs r1 e
  rw [h2.bls_eq] at h1
  exact ⟨a, ns, rfl, SqL.of h1, post_val R (w := .val (.bool _)) (.bl _) k q⟩⟩
/-- isinstance -/
def tyD (C : List Cell) : W → Option String
  | .val .none => some "NoneType"
  | .val (.bool _) => some "bool"
  | .val (.int _) => some "int"
  | .val (.str _) => some "str"
  | .val (.tuple _) => some "tuple"
  | .val (.list _) => some "list"
  | _ => none
theorem tyD_ok {ct : Cl} {g : Gh} {H : Hp} {C : List Cell} {v : V} {w : W} {t : String} {K : PySem.W.Frag} (r : RW ct g H v w) (h : tyD C w = some t) : TyX K H v (.type t) := by
  unfold tyD at h
  split at h
  · cases h
    cases (show RD ct g.F H v .none from r)
    exact .base .non
  · cases h
    rw [rw_bool r]
    exact .base (.bl _)
  · cases h
    rw [rw_int r]
    exact .base (.int _)
  · cases h
    rw [rw_str r]
    exact .base (.str _)
  · cases h
    obtain ⟨a, xs, rfl, h1, h2⟩ := rw_tup r
    exact .base (.tup h1)
  · cases h
    cases (show RD ct g.F H v (.list _) from r) with
    | lst f h1 h2 => exact .base (.lst h1)
  · cases h
def isiB (Q : DK) : Option Bool → List Cell → Prop
  | some b, C => Q (.val (.bool b)) C
  | none, _ => False
def isiK (n : String) (Q : DK) : Option String → List Cell → Prop
  | some t, C => isiB Q (kitB t n) C
  | none, _ => False
def fIsi : List W → List Cell → DK → Prop
  | [x, .ty n], C, Q => isiK n Q (tyD C x) C
  | _, _, _ => False
instance cc_isi {ct : Ct} {K : PySem.W.Frag} : CC ct (rIsi K) fIsi := ⟨fun B g σ H E C Q vs ws K' R k r q => by
  unfold fIsi at q
  split at q
  · obtain ⟨v, x, rfl, r1, r2⟩ := rws2 r
    unfold isiK at q
    split at q
    · rename_i t e
      unfold isiB at q
      split at q
      · rename_i b e2
        exact ⟨v, x, .type t, _, b, rfl, by rw [show x = .ty _ from r2]; exact .ty _, tyD_ok r1 e, kit_ty e2, post_val R (w := .val (.bool _)) (.bl _) k q⟩
      · exact q.elim
    · exact q.elim
  · exact q.elim⟩
instance ce_ty {ct : Ct} {n : String} : CE ct (tC (.ty n)) (fun E C Q => Q (.ty n) C) := ⟨fun B g σ H E C Q K R k h => post_val R (w := .ty n) rfl k h⟩
theorem kb1 : kitB "int" "int" = some true := by decide +kernel
theorem kb2 : kitB "bool" "int" = some true := by decide +kernel
theorem kb3 : kitB "str" "int" = some false := by decide +kernel
theorem kb4 : kitB "tuple" "int" = some false := by decide +kernel
theorem kb5 : kitB "list" "int" = some false := by decide +kernel
theorem kb6 : kitB "NoneType" "int" = some false := by decide +kernel
theorem kb7 : kitB "int" "bool" = some false := by decide +kernel
theorem kb8 : kitB "bool" "bool" = some true := by decide +kernel
theorem kb9 : kitB "str" "bool" = some false := by decide +kernel
theorem kb10 : kitB "tuple" "bool" = some false := by decide +kernel
theorem kb11 : kitB "list" "bool" = some false := by decide +kernel
theorem kb12 : kitB "NoneType" "bool" = some false := by decide +kernel
theorem kb13 : kitB "int" "str" = some false := by decide +kernel
theorem kb14 : kitB "bool" "str" = some false := by decide +kernel
theorem kb15 : kitB "str" "str" = some true := by decide +kernel
theorem kb16 : kitB "tuple" "str" = some false := by decide +kernel
theorem kb17 : kitB "list" "str" = some false := by decide +kernel
theorem kb18 : kitB "NoneType" "str" = some false := by decide +kernel
theorem kb19 : kitB "int" "tuple" = some false := by decide +kernel
theorem kb20 : kitB "bool" "tuple" = some false := by decide +kernel
theorem kb21 : kitB "str" "tuple" = some false := by decide +kernel
theorem kb22 : kitB "tuple" "tuple" = some true := by decide +kernel
theorem kb23 : kitB "list" "tuple" = some false := by decide +kernel
theorem kb24 : kitB "NoneType" "tuple" = some false := by decide +kernel
/-! ### another base -/
abbrev Bs.of (g : Gh) (H : Hp) : Bs := ⟨g, H⟩
theorem Fr0.self (g : Gh) (H : Hp) : Fr0 (Bs.of g H) g H := ⟨fun _ _ h => h, fun _ _ h _ _ => h, fun _ ps h => ⟨ps, h⟩, fun _ h => .inl h, fun _ h => .inl h⟩
theorem Fr0.comp {B : Bs} {g g' : Gh} {H H' : Hp} (f : Fr0 B g H) (f' : Fr0 (Bs.of g H) g' H') : Fr0 B g' H' := by
  have fresh : ∀ a, H a = none → B.H a = none ∨ a ∈ B.M := fun a h => f.fresh h
  refine ⟨fun a xs h => f'.kt a xs (f.kt a xs h), fun a o h hu hm => ?_, fun a ps h => ?_, fun a h => ?_, fun a h => ?_⟩
  · refine f'.keep a o (f.keep a o h hu hm) hu fun hin => ?_
    rcases f.newM a hin with q | q
    · exact hm q
    · rw [q] at h
      cases h
  · obtain ⟨qs, h2⟩ := f.tl a ps h
    exact f'.tl a qs h2
  · rcases f'.newF a h with q | q | q
    · exact f.newF a q
    · exact .inr (fresh a q)
    · exact .inr ((f.newM a q).symm)
  · rcases f'.newM a h with q | q
    · exact f.newM a q
    · exact (fresh a q).symm
theorem Rel.self {ct : Ct} {B : Bs} {g : Gh} {σ : L2.St} {H : Hp} {E : Ev} {C : List Cell} (R : Rel ct B g σ H E C) : Rel ct (Bs.of g H) g σ H E C := ⟨R.env, R.len, R.cs, Fr0.self g H, Gk.refl _ _, fun g' H' C' cls d c ds k f => R.xo g' H' C' cls d c ds (R.gg.trans k) (R.fr.comp f)⟩
/-! ### sequences that are walked -/
def iSeqA (K : PySem.W.Frag) (tl : TE) : TI := fun σ H R => tl σ H fun x H1 => (∃ a, x = .ref a ∧ (∃ xs, SqL K H1 a xs) ∧ R (Itl K a) H1) ∨ (∃ a, x = .ref a ∧ (∃ xs, SqT K H1 a xs) ∧ R (Itt K a) H1) ∨ (∃ z, x = .str z ∧ R (Its z) H1)
theorem pi_seqA {X : Cx} {tg l : Expr} {tl : TE} (hl : PE X l tl) : PI X tg l (iSeqA X.K tl) := by
  refine ⟨fun pins s σ H R I h => ?_⟩
  refine thn (hl.run pins s σ H _ I h) fun v s1 ⟨x, H1, I1, r1, q1⟩ => ?_
  rcases q1 with ⟨a, e, ⟨xs, hq⟩, q⟩ | ⟨a, e, ⟨xs, hq⟩, q⟩ | ⟨z, e, q⟩
  · subst e
    cases r1
    obtain ⟨its, rv, p, hz⟩ := I1.list hq
    refine wpAny_pyIter_list p.isList ?_
    refine ⟨s1.heap.objs.size, [s1.heap.objs.size], _, _, H1, rfl, I1.kept (t' := s1.toks) fun b o e => Heap.get?_push_of_some _ e, turn_list a _, ⟨_, Heap.get?_push_size _ rfl, rfl, rfl⟩, fun b hb => ?_, q⟩
    have e : b = s1.heap.objs.size := by simpa using hb
    subst e
    exact I1.fpOk (Nat.le_refl _) (I1.hok.fresh (Nat.le_refl _))
  · subst e
    cases r1
    obtain ⟨its, rv, p, hz⟩ := I1.tuple hq
    refine wpAny_pyIter_tuple (show s1.heap.IsTuple a its.toArray from p) ?_
    refine ⟨s1.heap.objs.size, [s1.heap.objs.size], _, _, H1, rfl, I1.kept (t' := s1.toks) fun b o e => Heap.get?_push_of_some _ e, turn_tuple a _, ⟨_, Heap.get?_push_size _ rfl, rfl, rfl⟩, fun b hb => ?_, q⟩
    have e : b = s1.heap.objs.size := by simpa using hb
    subst e
    exact I1.fpOk (Nat.le_refl _) (I1.hok.fresh (Nat.le_refl _))
  · subst e
    obtain ⟨t, rfl⟩ := r1
    cases ha : z.cps.all (· < 128)
    · exact wpAny_pyIter_wide ha (pi_one (tk := s1.toks) I1 _ (turn_str _ z t "str_iterator" (.inr rfl)) ⟨_, Heap.get?_push_size _ rfl, rfl, rfl⟩ q)
    · exact wpAny_pyIter_ascii ha (pi_one (tk := s1.toks) I1 _ (turn_str _ z t "str_ascii_iterator" (.inl rfl)) ⟨_, Heap.get?_push_size _ rfl, rfl, rfl⟩ q)
/-- the walk gives the data, one after the other, whatever else goes on -/
structure IterOk (ct : Cl) (J : It) (g : Gh) (H : Hp) (ds : List D) : Prop where
  go : ∀ g' H', Gk g H g' H' → ∀ i, i < ds.length → J.go i H'
  stop : ∀ g' H', Gk g H g' H' → J.stop ds.length H'
  yld : ∀ g' H', Gk g H g' H' → ∀ i x H'' d, ds[i]? = some d → J.yld i H' x H'' → (H'' = H' ∨ ∃ T xs, H' T = none ∧ H'' = upd H' T (.tup xs)) ∧ ∀ g'', Gk g' H' g'' H'' → RD ct g''.F H'' x d
abbrev DI := Ev → List Cell → (List D → List Cell → Prop) → Prop
class CI (ct : Ct) (wi : TI) (t : outParam DI) : Prop where
  run : ∀ B g σ H E C Q (K : It → Hp → Prop), Rel ct B g σ H E C → (∀ J H' g' C' ds, Gk g H g' H' → Rel ct B g' σ H' E C' → IterOk ct J g' H' ds → Q ds C' → K J H') → t E C Q → wi σ H K
theorem iter_list {ct : Cl} {K : PySem.W.Frag} {g : Gh} {H : Hp} {a : Addr} {xs : List V} {ds : List D} (f : g.F a) (h : H a = some (.lst xs)) (r : RDs ct g.F H xs ds) : IterOk ct (Itl K a) g H ds := by
  have at_ : ∀ g' H', Gk g H g' H' → SqL K H' a xs := fun g' H' k => SqL.of ((k.kp.2 a f).2.trans h)
  refine ⟨fun g' H' k i hi => walk_list.goes i H' (by rw [r.length]; exact hi) (at_ g' H' k), fun g' H' k => ?_, fun g' H' k i x H'' d hd y => ?_⟩
  · have q := walk_list.stops H' (at_ g' H' k)
    rw [r.length] at q
    exact q
  · obtain ⟨v, hv, rv⟩ := r.get i d hd
    obtain ⟨e, hx⟩ := walk_list.yields i H' x H'' (List.getElem?_eq_some_iff.mp hv).1 (at_ g' H' k) y
    rw [hv] at hx
    cases hx
    exact ⟨.inl e, fun g'' k' => RD.mono (k.trans k').kp _ _ rv⟩
theorem iter_tup {ct : Cl} {K : PySem.W.Frag} {g : Gh} {H : Hp} {a : Addr} {xs : List V} {ds : List D} (h : H a = some (.tup xs)) (r : RDs ct g.F H xs ds) : IterOk ct (Itt K a) g H ds := by
  have at_ : ∀ g' H', Gk g H g' H' → SqT K H' a xs := fun g' H' k => SqT.of (k.kp.1 a xs h)
  refine ⟨fun g' H' k i hi => walk_tup.goes i H' (by rw [r.length]; exact hi) (at_ g' H' k), fun g' H' k => ?_, fun g' H' k i x H'' d hd y => ?_⟩
  · have q := walk_tup.stops H' (at_ g' H' k)
    rw [r.length] at q
    exact q
  · obtain ⟨v, hv, rv⟩ := r.get i d hd
    obtain ⟨e, hx⟩ := walk_tup.yields i H' x H'' (List.getElem?_eq_some_iff.mp hv).1 (at_ g' H' k) y
    rw [hv] at hx
    cases hx
    exact ⟨.inl e, fun g'' k' => RD.mono (k.trans k').kp _ _ rv⟩
def chars (z : Str) : List D := z.cps.toList.map fun c => .str ⟨#[c]⟩
theorem chars_len (z : Str) : (chars z).length = z.cps.size := by
  unfold chars
  rw [List.length_map, Array.length_toList]
theorem iter_str {ct : Cl} {g : Gh} {H : Hp} {z : Str} : IterOk ct (Its z) g H (chars z) := by
  refine ⟨fun g' H' k i hi => walk_str.goes i H' (by rw [← chars_len]; exact hi) True.intro, fun g' H' k => ?_, fun g' H' k i x H'' d hd y => ?_⟩
  · rw [chars_len]
    exact walk_str.stops H' True.intro
  · have hi : i < z.cps.size := by
      rw [← chars_len]
      exact (List.getElem?_eq_some_iff.mp hd).1
    obtain ⟨e, c, hc, rfl⟩ := walk_str.yields i H' x H'' hi True.intro y
    unfold chars at hd
    rw [List.getElem?_map, Array.getElem?_toList, hc] at hd
    cases hd
    exact ⟨.inl e, fun _ _ => .str _⟩
/-- the items of what a value or a cell holds; a list is frozen then -/
def frzK (k : Nat) (Q : List D → List Cell → Prop) : Option Cell → List Cell → Prop
  | some (.lst ds), C => Q ds (C.set k (.frz ds))
  | some (.frz ds), C => Q ds C
  | _, _ => False
def seqK (Q : List D → List Cell → Prop) : W → List Cell → Prop
  | .val (.list ds), C => Q ds C
  | .val (.tuple ds), C => Q ds C
  | .val (.str z), C => Q (chars z) C
  | .ref k, C => frzK k Q C[k]? C
  | _, _ => False
def dSeq (a : DE) : DI := fun E C Q => a E C (seqK Q)
instance ci_seq {ct : Ct} {K : PySem.W.Frag} {t : TE} {a : DE} [h : CE ct t a] : CI ct (iSeqA K t) (dSeq a) := ⟨fun B g σ H E C Q K' R k q => by
  refine h.run B g σ H E C _ _ R (fun v H1 ⟨g1, C1, x, k1, R1, r1, q1⟩ => ?_) q
  unfold seqK at q1
  split at q1
  · rename_i ds
    cases (show RD ct g1.F H1 v (.list ds) from r1) with
    | lst f h1 h2 => exact .inl ⟨_, rfl, ⟨_, SqL.of h1⟩, k _ _ g1 C1 ds k1 R1 (iter_list f h1 h2) q1⟩
  · rename_i ds
    obtain ⟨a, xs, rfl, h1, h2⟩ := rw_tup r1
    exact .inr (.inl ⟨_, rfl, ⟨_, SqT.of h1⟩, k _ _ g1 C1 ds k1 R1 (iter_tup h1 h2) q1⟩)
  · exact .inr (.inr ⟨_, rw_str r1, k _ _ g1 C1 _ k1 R1 iter_str q1⟩)
  · rename_i j
    obtain ⟨a, ha, rfl⟩ := r1
    unfold frzK at q1
    split at q1
    · rename_i ds e
      obtain ⟨k2, R2, r2⟩ := R1.ice e ha
      cases r2 with
      | lst f h1 h2 => exact .inl ⟨_, rfl, ⟨_, SqL.of h1⟩, k _ _ _ _ ds (k1.trans k2) R2 (iter_list f h1 h2) q1⟩
    · rename_i ds e
      obtain ⟨a', m, q2, q3, q4, f, xs, h1, h2⟩ := R1.cs.at_ j _ e
      rw [ha] at q2
      cases q2
      exact .inl ⟨_, rfl, ⟨_, SqL.of h1⟩, k _ _ g1 _ ds k1 R1 (iter_list f h1 h2) q1⟩
    · exact q1.elim
  · exact q1.elim⟩
/-- ranges -/
def rangeD (lo : Int) (n : Nat) : List D := (List.range n).map fun i => .int (lo + (i : Nat))
theorem iter_range {ct : Cl} {g : Gh} {H : Hp} {lo : Int} {n : Nat} : IterOk ct (Itr lo n) g H (rangeD lo n) := by
  have hl : (rangeD lo n).length = n := by
    unfold rangeD
    rw [List.length_map, List.length_range]
  refine ⟨fun g' H' k i hi => walk_range.goes i H' (by rw [← hl]; exact hi) True.intro, fun g' H' k => ?_, fun g' H' k i x H'' d hd y => ?_⟩
  · rw [hl]
    exact walk_range.stops H' True.intro
  · have hi : i < n := by
      rw [← hl]
      exact (List.getElem?_eq_some_iff.mp hd).1
    obtain ⟨e, rfl⟩ := walk_range.yields i H' x H'' hi True.intro y
    unfold rangeD at hd
    rw [List.getElem?_map, List.getElem?_range hi] at hd
    cases hd
    exact ⟨.inl e, fun _ _ => .int _⟩
def rng1K (Q : List D → List Cell → Prop) : List W → List Cell → Prop
  | [.val (.int j)], C1 => -(2 ^ 62) ≤ j ∧ j < 2 ^ 62 ∧ Q (rangeD 0 j.toNat) C1
  | _, _ => False
def dRng1 (a : DA) : DI := fun E C Q => a E C (rng1K Q)
instance ci_rng1 {ct : Ct} {t : TA} {a : DA} [h : CA ct t a] : CI ct (iRng1 t) (dRng1 a) := ⟨fun B g σ H E C Q K' R k q => by
  refine h.run B g σ H E C _ _ R (fun v H1 ⟨g1, C1, x, k1, R1, r1, q1⟩ => ?_) q
  unfold rng1K at q1
  split at q1
  · rename_i j
    obtain ⟨u, rfl, r2⟩ := rws1 r1
    exact ⟨j, by rw [rw_int r2], q1.1, q1.2.1, k _ _ g1 C1 _ k1 R1 iter_range q1.2.2⟩
  · exact q1.elim⟩
def rng2K (Q : List D → List Cell → Prop) : List W → List Cell → Prop
  | [.val (.int i), .val (.int j)], C1 => (-(2 ^ 62) ≤ i ∧ i < 2 ^ 62 ∧ -(2 ^ 62) ≤ j ∧ j < 2 ^ 62) ∧ Q (rangeD i (j - i).toNat) C1
  | _, _ => False
def dRng2 (a : DA) : DI := fun E C Q => a E C (rng2K Q)
instance ci_rng2 {ct : Ct} {t : TA} {a : DA} [h : CA ct t a] : CI ct (iRng2 t) (dRng2 a) := ⟨fun B g σ H E C Q K' R k q => by
  refine h.run B g σ H E C _ _ R (fun v H1 ⟨g1, C1, x, k1, R1, r1, q1⟩ => ?_) q
  unfold rng2K at q1
  split at q1
  · obtain ⟨u, u2, rfl, r2, r3⟩ := rws2 r1
    exact ⟨_, _, by rw [rw_int r2, rw_int r3], q1.1, k _ _ g1 C1 _ k1 R1 iter_range q1.2⟩
  · exact q1.elim⟩
/-- reversed, of a list that is frozen -/
theorem iter_rev {ct : Cl} {K : PySem.W.Frag} {g : Gh} {H : Hp} {a : Addr} {xs : List V} {ds : List D} (f : g.F a) (h : H a = some (.lst xs)) (r : RDs ct g.F H xs ds) : IterOk ct (Itv K a xs.length) g H ds.reverse := by
  have at_ : ∀ g' H', Gk g H g' H' → SqL K H' a xs := fun g' H' k => SqL.of ((k.kp.2 a f).2.trans h)
  refine ⟨fun g' H' k i hi => walk_rev.goes i H' (by rw [r.length, ← List.length_reverse]; exact hi) (at_ g' H' k), fun g' H' k => ?_, fun g' H' k i x H'' d hd y => ?_⟩
  · have q := walk_rev.stops H' (at_ g' H' k)
    rw [List.length_reverse, ← r.length]
    exact q
  · have hi : i < ds.length := by
      rw [← List.length_reverse]
      exact (List.getElem?_eq_some_iff.mp hd).1
    obtain ⟨e, hx⟩ := walk_rev.yields i H' x H'' (by rw [r.length]; exact hi) (at_ g' H' k) y
    rw [List.getElem?_reverse hi] at hd
    obtain ⟨v, hv, rv⟩ := r.get _ d hd
    rw [r.length, hv] at hx
    cases hx
    exact ⟨.inl e, fun g'' k' => RD.mono (k.trans k').kp _ _ rv⟩
def lstK (Q : List D → List Cell → Prop) : W → List Cell → Prop
  | .val (.list ds), C => Q ds C
  | .ref k, C => frzK k Q C[k]? C
  | _, _ => False
theorem lstK_ok {ct : Ct} {B : Bs} {g : Gh} {σ : L2.St} {H : Hp} {E : Ev} {C : List Cell} {Q : List D → List Cell → Prop} {v : V} {w : W} (R : Rel ct B g σ H E C) (r : RW ct g H v w) (q : lstK Q w C) :
    ∃ g' C' a xs ds, Gk g H g' H ∧ Rel ct B g' σ H E C' ∧ v = .ref a ∧ g'.F a ∧ H a = some (.lst xs) ∧ RDs ct g'.F H xs ds ∧ Q ds C' := by
  unfold lstK at q
  split at q
  · rename_i ds
    cases (show RD ct g.F H v (.list ds) from r) with
    | lst f h1 h2 => exact ⟨g, C, _, _, ds, Gk.refl _ _, R, rfl, f, h1, h2, q⟩
  · rename_i j
    obtain ⟨a, ha, rfl⟩ := r
    unfold frzK at q
    split at q
    · rename_i ds e
      obtain ⟨k2, R2, r2⟩ := R.ice e ha
      cases r2 with
      | lst f h1 h2 => exact ⟨_, _, _, _, ds, k2, R2, rfl, f, h1, h2, q⟩
    · rename_i ds e
      obtain ⟨a', m, q2, q3, q4, f, xs, h1, h2⟩ := R.cs.at_ j _ e
      rw [ha] at q2
      cases q2
      exact ⟨g, _, _, _, ds, Gk.refl _ _, R, rfl, f, h1, h2, q⟩
    · exact q.elim
  · exact q.elim
def lst1K (Q : List D → List Cell → Prop) : List W → List Cell → Prop
  | [x], C1 => lstK Q x C1
  | _, _ => False
def dRev (a : DA) : DI := fun E C Q => a E C (lst1K fun ds C2 => Q ds.reverse C2)
instance ci_rev {ct : Ct} {K : PySem.W.Frag} {t : TA} {a : DA} [h : CA ct t a] : CI ct (iRev K t) (dRev a) := ⟨fun B g σ H E C Q K' R k q => by
  refine h.run B g σ H E C _ _ R (fun v H1 ⟨g1, C1, x, k1, R1, r1, q1⟩ => ?_) q
  unfold lst1K at q1
  split at q1
  · obtain ⟨u, rfl, r2⟩ := rws1 r1
    obtain ⟨g2, C2, b, xs, ds, k2, R2, rfl, f, h1, h2, q2⟩ := lstK_ok R1 r2 q1
    exact ⟨b, xs, rfl, SqL.of h1, k _ _ g2 C2 _ (k1.trans k2) R2 (iter_rev f h1 h2) q2⟩
  · exact q1.elim⟩
theorem iter_enum {ct : Cl} {K : PySem.W.Frag} {g : Gh} {H : Hp} {a : Addr} {xs : List V} {ds : List D} (f : g.F a) (h : H a = some (.lst xs)) (r : RDs ct g.F H xs ds) : IterOk ct (Ite K a) g H (ds.zipIdx.map fun p => .tuple [.int (p.2 : Nat), p.1]) := by
  have at_ : ∀ g' H', Gk g H g' H' → SqL K H' a xs := fun g' H' k => SqL.of ((k.kp.2 a f).2.trans h)
  have hl : (ds.zipIdx.map fun p => PyData.tuple [.int (p.2 : Nat), p.1]).length = xs.length := by rw [List.length_map, List.length_zipIdx, r.length]
  refine ⟨fun g' H' k i hi => walk_enum.goes i H' (by rw [← hl]; exact hi) (at_ g' H' k), fun g' H' k => ?_, fun g' H' k i x H'' d hd y => ?_⟩
  · rw [hl]
    exact walk_enum.stops H' (at_ g' H' k)
  · have hi : i < xs.length := by
      rw [← hl]
      exact (List.getElem?_eq_some_iff.mp hd).1
    obtain ⟨T, u, v, rfl, hT, rfl, e1, e2⟩ := walk_enum.yields i H' x H'' hi (at_ g' H' k) y
    cases e1
    obtain ⟨d', hd', rd'⟩ := r.get' i v e2
    rw [List.getElem?_map, List.getElem?_zipIdx, hd'] at hd
    simp only [Option.map_some, Nat.zero_add] at hd
    cases hd
    exact ⟨.inr ⟨T, _, hT, rfl⟩, fun g'' k' => .tup upd_same (.cons (.int _) (.cons (RD.mono (k.trans k').kp _ _ rd') .nil))⟩
def enumD (ds : List D) : List D := ds.zipIdx.map fun p => .tuple [.int (p.2 : Nat), p.1]
def dEnum (a : DA) : DI := fun E C Q => a E C (lst1K fun ds C2 => Q (enumD ds) C2)
instance ci_enum {ct : Ct} {K : PySem.W.Frag} {t : TA} {a : DA} [h : CA ct t a] : CI ct (iEnum K t) (dEnum a) := ⟨fun B g σ H E C Q K' R k q => by
  refine h.run B g σ H E C _ _ R (fun v H1 ⟨g1, C1, x, k1, R1, r1, q1⟩ => ?_) q
  unfold lst1K at q1
  split at q1
  · obtain ⟨u, rfl, r2⟩ := rws1 r1
    obtain ⟨g2, C2, b, xs, ds, k2, R2, rfl, f, h1, h2, q2⟩ := lstK_ok R1 r2 q1
    exact ⟨b, xs, rfl, SqL.of h1, k _ _ g2 C2 _ (k1.trans k2) R2 (iter_enum f h1 h2) q2⟩
  · exact q1.elim⟩
def zipD (ds es : List D) : List D := List.zipWith (fun d e => .tuple [d, e]) ds es
theorem iter_zip {ct : Cl} {K : PySem.W.Frag} {g : Gh} {H : Hp} {a b : Addr} {xs ys : List V} {ds es : List D} (f : g.F a) (h : H a = some (.lst xs)) (r : RDs ct g.F H xs ds) (f' : g.F b) (h' : H b = some (.lst ys)) (r' : RDs ct g.F H ys es) :
    IterOk ct (Itz K a b) g H (zipD ds es) := by
  have at_ : ∀ g' H', Gk g H g' H' → SqL K H' a xs ∧ SqL K H' b ys := fun g' H' k => ⟨SqL.of ((k.kp.2 a f).2.trans h), SqL.of ((k.kp.2 b f').2.trans h')⟩
  have hl : (zipD ds es).length = min xs.length ys.length := by
    unfold zipD
    rw [List.length_zipWith, r.length, r'.length]
  refine ⟨fun g' H' k i hi => (walk_zip rfl).goes i H' (by rw [← hl]; exact hi) (at_ g' H' k), fun g' H' k => ?_, fun g' H' k i x H'' d hd y => ?_⟩
  · rw [hl]
    exact (walk_zip rfl).stops H' (at_ g' H' k)
  · have hi : i < min xs.length ys.length := by
      rw [← hl]
      exact (List.getElem?_eq_some_iff.mp hd).1
    obtain ⟨T, u, v, rfl, hT, rfl, e1, e2⟩ := (walk_zip rfl).yields i H' x H'' hi (at_ g' H' k) y
    obtain ⟨d1, hd1, rd1⟩ := r.get' i u e1
    obtain ⟨d2, hd2, rd2⟩ := r'.get' i v e2
    unfold zipD at hd
    rw [List.getElem?_zipWith, hd1, hd2] at hd
    cases hd
    exact ⟨.inr ⟨T, _, hT, rfl⟩, fun g'' k' => .tup upd_same (.cons (RD.mono (k.trans k').kp _ _ rd1) (.cons (RD.mono (k.trans k').kp _ _ rd2) .nil))⟩
def zipK (Q : List D → List Cell → Prop) : List W → List Cell → Prop
  | [x, y], C1 => lstK (fun ds C2 => lstK (fun es C3 => Q (zipD ds es) C3) y C2) x C1
  | _, _ => False
def dZip (a : DA) : DI := fun E C Q => a E C (zipK Q)
instance ci_zip {ct : Ct} {K : PySem.W.Frag} {t : TA} {a : DA} [h : CA ct t a] : CI ct (iZip K t) (dZip a) := ⟨fun B g σ H E C Q K' R k q => by
  refine h.run B g σ H E C _ _ R (fun v H1 ⟨g1, C1, x, k1, R1, r1, q1⟩ => ?_) q
  unfold zipK at q1
  split at q1
  · obtain ⟨u, u2, rfl, r2, r3⟩ := rws2 r1
    obtain ⟨g2, C2, b, xs, ds, k2, R2, rfl, f, h1, h2, q2⟩ := lstK_ok R1 r2 q1
    obtain ⟨g3, C3, b', ys, es, k3, R3, rfl, f', h1', h2', q3⟩ := lstK_ok R2 (r3.mono k2) q2
    exact ⟨b, b', xs, ys, rfl, SqL.of h1, SqL.of h1', k _ _ g3 C3 _ ((k1.trans k2).trans k3) R3 (iter_zip (k3.kp.2 b f).1 h1 (RDs.mono k3.kp _ _ h2) f' h1' h2') q3⟩
  · exact q1.elim⟩
/-! ### targets -/
abbrev DG := W → Ev → List Cell → (Ev → List Cell → Prop) → Prop
abbrev DGs := List W → Ev → List Cell → (Ev → List Cell → Prop) → Prop
def PostG (ct : Ct) (B : Bs) (g : Gh) (H : Hp) (Q : Ev → List Cell → Prop) : L2.St → Hp → Prop := fun σ' H' => ∃ g' E' C', Gk g H g' H' ∧ Rel ct B g' σ' H' E' C' ∧ Q E' C'
class CG (ct : Ct) (gt : TG) (h : outParam DG) : Prop where
  run : ∀ B g σ H E C v w Q (K : L2.St → Hp → Prop), Rel ct B g σ H E C → RW ct g H v w → (∀ σ' H', PostG ct B g H Q σ' H' → K σ' H') → h w E C Q → gt v σ H K
class CGs (ct : Ct) (gt : TGs) (h : outParam DGs) : Prop where
  run : ∀ B g σ H E C vs ws Q (K : L2.St → Hp → Prop), Rel ct B g σ H E C → RWs ct g H vs ws → (∀ σ' H', PostG ct B g H Q σ' H' → K σ' H') → h ws E C Q → gt vs σ H K
def dgName (i : Nat) : DG := fun w E C Q => Q (E.set i (some w)) C
theorem Rel.set {ct : Ct} {B : Bs} {g : Gh} {σ : L2.St} {H : Hp} {E : Ev} {C : List Cell} {v : V} {w : W} (R : Rel ct B g σ H E C) (r : RW ct g H v w) (i : Nat) : Rel ct B g (σ.set i (some v)) H (E.set i (some w)) C :=
  ⟨fun j u h => by
    by_cases e : i = j
    · subst e
      by_cases hi : i < E.length
      · rw [List.getElem?_set_self hi] at h
        cases h
        exact ⟨v, List.getElem?_set_self (by rw [R.len]; exact hi), r⟩
      · rw [List.getElem?_eq_none (by rw [List.length_set]; omega)] at h
        cases h
    · rw [List.getElem?_set_ne e] at h
      obtain ⟨x, h1, h2⟩ := R.env j u h
      exact ⟨x, by rw [List.getElem?_set_ne e]; exact h1, h2⟩, by rw [List.length_set, List.length_set]; exact R.len, R.cs, R.fr, R.gg, R.xo⟩
instance cg_name {ct : Ct} {i : Nat} : CG ct (gName i) (dgName i) := ⟨fun B g σ H E C v w Q K R r k q => k _ _ ⟨g, _, C, Gk.refl _ _, R.set r i, q⟩⟩
def dgNil : DGs := fun ws E C Q => ws = [] ∧ Q E C
def dgCons (t : DG) (u : DGs) : List W → Ev → List Cell → (Ev → List Cell → Prop) → Prop
  | w :: r, E, C, Q => t w E C fun E' C' => u r E' C' Q
  | [], _, _, _ => False
instance cgs_nil {ct : Ct} : CGs ct gNil dgNil := ⟨fun B g σ H E C vs ws Q K R r k q => by
  obtain ⟨rfl, q⟩ := q
  cases r
  exact ⟨rfl, k _ _ ⟨g, E, C, Gk.refl _ _, R, q⟩⟩⟩
instance cgs_cons {ct : Ct} {t : TG} {u : TGs} {a : DG} {b : DGs} [ha : CG ct t a] [hb : CGs ct u b] : CGs ct (gCons t u) (dgCons a b) := ⟨fun B g σ H E C vs ws Q K R r k q => by
  cases r with
  | nil => exact q.elim
  | cons r rs =>
    refine ⟨_, _, rfl, ha.run B g σ H E C _ _ _ _ R r (fun σ' H' ⟨g', E', C', k', R', q'⟩ => ?_) q⟩
    exact hb.run B g' σ' H' E' C' _ _ _ _ R' (RWs.mono k' rs) (fun σ'' H'' ⟨g2, E2, C2, k2, R2, q2⟩ => k _ _ ⟨g2, E2, C2, k'.trans k2, R2, q2⟩) q'⟩
def dgTup (n : Nat) (t : DGs) : W → Ev → List Cell → (Ev → List Cell → Prop) → Prop
  | .val (.tuple ds), E, C, Q => ds.length = n ∧ t (ds.map .val) E C Q
  | _, _, _, _ => False
theorem rws_vals {ct : Cl} {g : Gh} {H : Hp} : ∀ {vs : List V} {ds : List D}, RDs ct g.F H vs ds → RWs ct g H vs (ds.map .val)
  | _, _, .nil => .nil
  | _, _, .cons h hs => .cons h (rws_vals hs)
instance cg_tup {ct : Ct} {K : PySem.W.Frag} {n : Nat} {t : TGs} {a : DGs} [h : CGs ct t a] : CG ct (gTup K n t) (dgTup n a) := ⟨fun B g σ H E C v w Q K' R r k q => by
  unfold dgTup at q
  split at q
  · obtain ⟨b, xs, rfl, h1, h2⟩ := rw_tup r
    exact ⟨b, xs, rfl, SqT.of h1, by rw [h2.length]; exact q.1, h.run B g σ H E C _ _ _ _ R (rws_vals h2) k q.2⟩
  · exact q.elim⟩
/-- xs[i] = v -/
def sub2K (E : Ev) (Q : Ev → List Cell → Prop) (k : Nat) (ds : List D) (d : D) : Option Nat → List Cell → Prop
  | some m, C => Q E (C.set k (.lst (ds.set m d)))
  | none, _ => False
def sub1K (E : Ev) (Q : Ev → List Cell → Prop) (k : Nat) (j : Int) (d : D) : Option Cell → List Cell → Prop
  | some (.lst ds), C => sub2K E Q k ds d (ixN ds.length j) C
  | _, _ => False
def subK (E : Ev) (Q : Ev → List Cell → Prop) : W → W → W → List Cell → Prop
  | .ref k, .val (.int j), .val d, C => sub1K E Q k j d C[k]? C
  | _, _, _, _ => False
def dgSub (o i : DE) : DG := fun w E C Q => o E C fun x C1 => i E C1 fun y C2 => subK E Q x y w C2
theorem cell_lst {ct : Cl} {g : Gh} {H : Hp} {C : List Cell} {k : Nat} {a : Addr} {ds : List D} (c : Clz ct g H C) (h : C[k]? = some (.lst ds)) (ha : g.as[k]? = some a) : ∃ xs, g.ms[k]? = some [a] ∧ H a = some (.lst xs) ∧ RDs ct g.F H xs ds ∧ CellAt ct g H a [a] (.lst ds) := by
  obtain ⟨a', m, q1, q2, q3⟩ := c.at_ k _ h
  rw [ha] at q1
  cases q1
  obtain ⟨e, xs, h1, h2⟩ := id q3
  subst e
  exact ⟨xs, q2, h1, h2, q3⟩
theorem Rel.write {ct : Ct} {B : Bs} {g : Gh} {σ : L2.St} {H : Hp} {E : Ev} {C : List Cell} {k : Nat} {a : Addr} {ds es : List D} {ys : List V} (R : Rel ct B g σ H E C) (h : C[k]? = some (.lst ds)) (ha : g.as[k]? = some a) (r : RDs ct g.F H ys es) :
    Gk g H g (upd H a (.lst ys)) ∧ Rel ct B g σ (upd H a (.lst ys)) E (C.set k (.lst es)) := by
  obtain ⟨xs, hm, h1, h2, h3⟩ := cell_lst R.cs h ha
  exact R.put h ha hm h3 (fun zs e => by rw [h1] at e; cases e) fun kk => ⟨rfl, ys, upd_same, RDs.mono kk.kp _ _ r⟩
theorem subK_ok {ct : Ct} {B : Bs} {g : Gh} {σ : L2.St} {H : Hp} {E : Ev} {C : List Cell} {Q : Ev → List Cell → Prop} {vx vy vw : V} {x y w : W} (R : Rel ct B g σ H E C) (rx : RW ct g H vx x) (ry : RW ct g H vy y) (rw_ : RW ct g H vw w) (q : subK E Q x y w C) {K : Hp → Prop}
    (k : ∀ C' H', Gk g H g H' → Rel ct B g σ H' E C' → Q E C' → K H') : rSetL vx vy vw H K := by
  unfold subK at q
  split at q
  · rename_i j m d
    obtain ⟨a, ha, rfl⟩ := rx
    cases rw_int ry
    unfold sub1K at q
    split at q
    · rename_i ds e
      unfold sub2K at q
      split at q
      · rename_i n e2
        obtain ⟨xs, hm, h1, h2, h3⟩ := cell_lst R.cs e ha
        obtain ⟨k3, R3⟩ := R.write e ha (h2.set n rw_)
        exact ⟨a, xs, m, n, rfl, rfl, h1, by rw [h2.length]; exact e2, k _ _ k3 R3 q⟩
      · exact q.elim
    · exact q.elim
  · exact q.elim
instance cg_sub {ct : Ct} {to ti : TE} {o i : DE} [ho : CE ct to o] [hi : CE ct ti i] : CG ct (gSub to ti rSetL) (dgSub o i) := ⟨fun B g σ H E C v w Q K R r k q => by
  refine ho.run B g σ H E C _ _ R (fun x H1 ⟨g1, C1, xw, k1, R1, r1, q1⟩ => ?_) q
  refine hi.run B g1 σ H1 E C1 _ _ R1 (fun y H2 ⟨g2, C2, yw, k2, R2, r2, q2⟩ => ?_) q1
  exact subK_ok R2 (r1.mono k2) r2 (r.mono (k1.trans k2)) q2 fun C' H' k3 R3 q3 => k _ _ ⟨g2, E, C', (k1.trans k2).trans k3, R3, q3⟩⟩
/-! ### methods of lists -/
abbrev FM := W → List W → List Cell → DK → Prop
class CM (ct : Ct) (r : V → List V → Hp → VK → Prop) (f : outParam FM) : Prop where
  run : ∀ B g σ H E C Q v vs w ws (K : VK), Rel ct B g σ H E C → (∀ v H', PostE ct B g H σ E Q v H' → K v H') → RW ct g H v w → RWs ct g H vs ws → f w ws C Q → r v vs H K
def dBM (f : FM) (o : DE) (a : DA) : DE := fun E C Q => o E C fun x C1 => (rdL C1 x).isSome = true ∧ a E C1 fun ws C2 => f x ws C2 Q
instance ce_bm {ct : Ct} {K : PySem.W.Frag} {r : V → List V → Hp → VK → Prop} {f : FM} {to : TE} {t : TA} {o : DE} {a : DA} [hr : CM ct r f] [ho : CE ct to o] [ha : CA ct t a] : CE ct (tBM K "list" r to t) (dBM f o a) := ⟨fun B g σ H E C Q K' R k q => by
  refine ho.run B g σ H E C _ _ R (fun x H1 ⟨g1, C1, xw, k1, R1, r1, q1⟩ => ?_) q
  obtain ⟨h1, q1⟩ := q1
  cases e : rdL C1 xw with
  | none =>
    rw [e] at h1
    cases h1
  | some ds =>
    obtain ⟨b, xs, rfl, h2, h3⟩ := rdL_ok R1.cs r1 e
    refine ⟨.inl ⟨rfl, xs, SqL.of h2⟩, ?_⟩
    refine ha.run B g1 σ H1 E C1 _ _ R1 (fun vs H2 ⟨g2, C2, ws, k2, R2, r2, q2⟩ => ?_) q1
    exact hr.run B g2 σ H2 E C2 Q _ vs xw ws K' R2 (fun v' H' p => k v' H' ((p.back k2).back k1)) (r1.mono k2) r2 q2⟩
def dBM0 (f : FM) (o : DE) : DE := fun E C Q => o E C fun x C1 => (rdL C1 x).isSome = true ∧ f x [] C1 Q
instance ce_bm0 {ct : Ct} {K : PySem.W.Frag} {r : V → List V → Hp → VK → Prop} {f : FM} {to : TE} {o : DE} [hr : CM ct r f] [ho : CE ct to o] : CE ct (tBM0 K "list" r to) (dBM0 f o) := ⟨fun B g σ H E C Q K' R k q => by
  refine ho.run B g σ H E C _ _ R (fun x H1 ⟨g1, C1, xw, k1, R1, r1, q1⟩ => ?_) q
  obtain ⟨h1, q1⟩ := q1
  cases e : rdL C1 xw with
  | none =>
    rw [e] at h1
    cases h1
  | some ds =>
    obtain ⟨b, xs, rfl, h2, h3⟩ := rdL_ok R1.cs r1 e
    exact ⟨.inl ⟨rfl, xs, SqL.of h2⟩, hr.run B g1 σ H1 E C1 Q _ [] xw [] K' R1 (fun v' H' p => k v' H' (p.back k1)) r1 .nil q1⟩⟩
def appK (k : Nat) (d : D) (Q : DK) : Option Cell → List Cell → Prop
  | some (.lst ds), C => ds.length < sizeLine ∧ Q (.val .none) (C.set k (.lst (ds ++ [d])))
  | _, _ => False
def fAppend : W → List W → List Cell → DK → Prop
  | .ref k, [.val d], C, Q => appK k d Q C[k]? C
  | _, _, _, _ => False
instance cm_append {ct : Ct} : CM ct rAppend fAppend := ⟨fun B g σ H E C Q v vs w ws K R kk r rs q => by
  unfold fAppend at q
  split at q
  · rename_i k d
    obtain ⟨a, ha, rfl⟩ := r
    obtain ⟨y, rfl, r1⟩ := rws1 rs
    unfold appK at q
    split at q
    · rename_i ds e
      obtain ⟨xs, hm, h1, h2, h3⟩ := cell_lst R.cs e ha
      obtain ⟨k3, R3⟩ := R.write e ha (h2.app (.cons r1 .nil))
      exact ⟨a, xs, y, rfl, rfl, h1, by rw [h2.length]; exact q.1, kk _ _ ⟨g, _, .val .none, k3, R3, RD.non, q.2⟩⟩
    · exact q.elim
  · exact q.elim⟩
def extK (k : Nat) (Q : DK) : Option Cell → Option (List D) → List Cell → Prop
  | some (.lst ds), some es, C => ds.length + es.length ≤ sizeLine ∧ Q (.val .none) (C.set k (.lst (ds ++ es)))
  | _, _, _ => False
def fExtend : W → List W → List Cell → DK → Prop
  | .ref k, [y], C, Q => extK k Q C[k]? (rdL C y) C
  | _, _, _, _ => False
instance cm_extend {ct : Ct} : CM ct rExtend fExtend := ⟨fun B g σ H E C Q v vs w ws K R kk r rs q => by
  unfold fExtend at q
  split at q
  · rename_i k yw
    obtain ⟨a, ha, rfl⟩ := r
    obtain ⟨y, rfl, r1⟩ := rws1 rs
    unfold extK at q
    split at q
    · rename_i ds es e e2
      obtain ⟨xs, hm, h1, h2, h3⟩ := cell_lst R.cs e ha
      obtain ⟨b, ys, rfl, h4, h5⟩ := rdL_ok R.cs r1 e2
      obtain ⟨k3, R3⟩ := R.write e ha (h2.app h5)
      exact ⟨a, b, xs, ys, rfl, rfl, h1, h4, by rw [h2.length, h5.length]; exact q.1, kk _ _ ⟨g, _, .val .none, k3, R3, RD.non, q.2⟩⟩
    · exact q.elim
  · exact q.elim⟩
def pop2K (k : Nat) (ds : List D) (Q : DK) : Option D → List Cell → Prop
  | some d, C => Q (.val d) (C.set k (.lst ds.dropLast))
  | none, _ => False
def popK (k : Nat) (Q : DK) : Option Cell → List Cell → Prop
  | some (.lst ds), C => pop2K k ds Q ds[ds.length - 1]? C
  | _, _ => False
def fPop : W → List W → List Cell → DK → Prop
  | .ref k, [], C, Q => popK k Q C[k]? C
  | _, _, _, _ => False
theorem RDs.dropLast {ct : Cl} {F : Addr → Prop} {H : Hp} {xs : List V} {ds : List D} (h : RDs ct F H xs ds) : RDs ct F H xs.dropLast ds.dropLast := by
  rw [List.dropLast_eq_take, List.dropLast_eq_take, h.length]
  exact h.take _
instance cm_pop {ct : Ct} : CM ct rPop fPop := ⟨fun B g σ H E C Q v vs w ws K R kk r rs q => by
  unfold fPop at q
  split at q
  · rename_i k
    obtain ⟨a, ha, rfl⟩ := r
    cases rs
    unfold popK at q
    split at q
    · rename_i ds e
      obtain ⟨xs, hm, h1, h2, h3⟩ := cell_lst R.cs e ha
      unfold pop2K at q
      split at q
      · rename_i d e2
        obtain ⟨y, hy, ry⟩ := h2.get _ d e2
        obtain ⟨k3, R3⟩ := R.write e ha h2.dropLast
        exact ⟨a, xs, y, rfl, rfl, h1, by rw [h2.length]; exact hy, kk _ _ ⟨g, _, .val d, k3, R3, RD.mono k3.kp _ _ ry, q⟩⟩
      · exact q.elim
    · exact q.elim
  · exact q.elim⟩
/-! ### statements -/
def dNext : DS := fun D E C => D.nx E C
def dSeqS (t u : DS) : DS := fun D E C => t { D with nx := u D } E C
instance cs_next {ct : Ct} : CS ct tNext dNext := ⟨fun B g σ H E C D DD R e q => e.nx σ H g E C (Gk.refl _ _) R q⟩
instance cs_seq {ct : Ct} {t u : TS} {a b : DS} [ha : CS ct t a] [hb : CS ct u b] : CS ct (tSeq t u) (dSeqS a b) := ⟨fun B g σ H E C D DD R e q => by
  refine ha.run B g σ H E C _ { DD with nx := b DD } R ⟨fun σ' H' g' E' C' k R' q' => hb.run B g' σ' H' E' C' _ DD R' (e.later k) q', e.rt, e.bk, e.ct⟩ q⟩
def dDrop (a : DE) : DS := fun D E C => a E C fun _ C1 => D.nx E C1
instance cs_drop {ct : Ct} {t : TE} {a : DE} [h : CE ct t a] : CS ct (tDrop t) (dDrop a) := ⟨fun B g σ H E C D DD R e q =>
  h.run B g σ H E C _ _ R (fun v H1 ⟨g1, C1, x, k1, R1, r1, q1⟩ => e.nx σ H1 g1 E C1 k1 R1 q1) q⟩
def dRet (a : DE) : DS := fun D E C => a E C D.rt
instance cs_ret {ct : Ct} {t : TE} {a : DE} [h : CE ct t a] : CS ct (tRet t) (dRet a) := ⟨fun B g σ H E C D DD R e q =>
  h.run B g σ H E C _ _ R (fun v H1 ⟨g1, C1, x, k1, R1, r1, q1⟩ => e.rt v σ H1 g1 E C1 x k1 R1 r1 q1) q⟩
def dRetN : DS := fun D _ C => D.rt (.val .none) C
instance cs_retN {ct : Ct} : CS ct tRetN dRetN := ⟨fun B g σ H E C D DD R e q => e.rt .non σ H g E C (.val .none) (Gk.refl _ _) R RD.non q⟩
def dIfS (c : DT) (a b : DS) : DS := fun D E C => c E C fun k C1 => if k = true then a D E C1 else b D E C1
instance cs_if {ct : Ct} {tc : TT} {t u : TS} {c : DT} {a b : DS} [hc : CT ct tc c] [ha : CS ct t a] [hb : CS ct u b] : CS ct (tIfS tc t u) (dIfS c a b) := ⟨fun B g σ H E C D DD R e q => by
  refine hc.run B g σ H E C _ _ R (fun k H1 ⟨g1, C1, k1, R1, q1⟩ => ?_) q
  cases k with
  | true => exact iteT (ha.run B g1 σ H1 E C1 _ _ R1 (e.later k1) q1)
  | false => exact iteF (hb.run B g1 σ H1 E C1 _ _ R1 (e.later k1) q1)⟩
def dBreak : DS := fun D E C => D.bk E C
instance cs_break {ct : Ct} : CS ct tBreak dBreak := ⟨fun B g σ H E C D DD R e q => e.bk σ H g E C (Gk.refl _ _) R q⟩
def dAsg (a : DE) (h : DG) : DS := fun D E C => a E C fun x C1 => h x E C1 D.nx
instance cs_asg {ct : Ct} {t : TE} {gt : TG} {a : DE} {h : DG} [ha : CE ct t a] [hg : CG ct gt h] : CS ct (tAsg t gt) (dAsg a h) := ⟨fun B g σ H E C D DD R e q => by
  refine ha.run B g σ H E C _ _ R (fun v H1 ⟨g1, C1, x, k1, R1, r1, q1⟩ => ?_) q
  exact hg.run B g1 σ H1 E C1 v x _ _ R1 r1 (fun σ' H' ⟨g', E', C', k', R', q'⟩ => e.nx σ' H' g' E' C' (k1.trans k') R' q') q1⟩
/-- while, by an invariant with a measure -/
def dWhile (c : DT) (b : DS) : DS := fun D E C => ∃ I : Nat → Ev → List Cell → Prop, (∃ m, I m E C) ∧ ∀ m E C, I m E C →
  c E C fun k C1 => if k = true then b { D with nx := fun E C => ∃ m', m' < m ∧ I m' E C, ct := fun E C => ∃ m', m' < m ∧ I m' E C, bk := D.nx } E C1 else D.nx E C1
instance cs_while {ct : Ct} {tc : TT} {tb : TS} {c : DT} {b : DS} [hc : CT ct tc c] [hb : CS ct tb b] : CS ct (tWhile tc tb) (dWhile c b) := ⟨fun B g σ H E C D DD R e q => by
  obtain ⟨I, ⟨m0, i0⟩, turn⟩ := q
  refine ⟨fun m σ' H' => ∃ g' E' C', Gk g H g' H' ∧ Rel ct B g' σ' H' E' C' ∧ I m E' C', ⟨m0, g, E, C, Gk.refl _ _, R, i0⟩, ?_⟩
  rintro m σ1 H1 ⟨g1, E1, C1, k1, R1, i1⟩
  refine hc.run B g1 σ1 H1 E1 C1 _ _ R1 (fun k H2 ⟨g2, C2, k2, R2, q2⟩ => ?_) (turn m E1 C1 i1)
  cases k with
  | false => exact iteF (e.nx σ1 H2 g2 E1 C2 (k1.trans k2) R2 q2)
  | true =>
    refine iteT ⟨fun σ' H' => ∃ m', m' < m ∧ ∃ g' E' C', Gk g H g' H' ∧ Rel ct B g' σ' H' E' C' ∧ I m' E' C', fun σ' H' h => h, ?_⟩
    have e2 := e.later (k1.trans k2)
    refine hb.run B g2 σ1 H2 E1 C2 _ { DD with nx := fun E C => ∃ m', m' < m ∧ I m' E C, ct := fun E C => ∃ m', m' < m ∧ I m' E C, bk := DD.nx } R2 ⟨?_, e2.rt, e2.nx, ?_⟩ q2
    · rintro σ' H' g' E' C' k' R' ⟨m', h1, h2⟩
      exact ⟨m', h1, g', E', C', (k1.trans k2).trans k', R', h2⟩
    · rintro σ' H' g' E' C' k' R' ⟨m', h1, h2⟩
      exact ⟨m', h1, g', E', C', (k1.trans k2).trans k', R', h2⟩⟩
/-- for, over the data -/
def dForGo (h : DG) (b : DS) (D : DEnds) : List PyData → Ev → List Cell → Prop
  | [], E, C => D.nx E C
  | x :: xs, E, C => h (.val x) E C fun E2 C2 => b { D with nx := dForGo h b D xs, ct := dForGo h b D xs, bk := D.nx } E2 C2
def dFor (it : DI) (h : DG) (b : DS) : DS := fun D E C => it E C fun ds C1 => dForGo h b D ds E C1
theorem Rel.step {ct : Ct} {B : Bs} {g : Gh} {σ : L2.St} {H H' : Hp} {E : Ev} {C : List Cell} (R : Rel ct B g σ H E C) (h : H' = H ∨ ∃ T xs, H T = none ∧ H' = upd H T (.tup xs)) : ∃ g', Gk g H g' H' ∧ Rel ct B g' σ H' E C := by
  rcases h with rfl | ⟨T, xs, hT, rfl⟩
  · exact ⟨g, Gk.refl _ _, R⟩
  · exact ⟨_, R.new false hT⟩
instance cs_for {ct : Ct} {wi : TI} {gt : TG} {tb : TS} {it : DI} {h : DG} {b : DS} [hi : CI ct wi it] [hg : CG ct gt h] [hb : CS ct tb b] : CS ct (tFor wi gt tb) (dFor it h b) := ⟨fun B g σ H E C D DD R e q => by
  refine hi.run B g σ H E C _ _ R (fun J H1 g1 C1 ds k1 R1 ok q1 => ?_) q
  refine ⟨fun i m σ' H' => m = ds.length - i ∧ i ≤ ds.length ∧ ∃ g' E' C', Gk g1 H1 g' H' ∧ Rel ct B g' σ' H' E' C' ∧ dForGo h b DD (ds.drop i) E' C', ⟨ds.length, by simp, Nat.zero_le _, g1, E, C1, Gk.refl _ _, R1, q1⟩, ?_⟩
  rintro i m σ2 H2 ⟨rfl, hle, g2, E2, C2, k2, R2, q2⟩
  by_cases hlt : i < ds.length
  · refine .inr ⟨ok.go g2 H2 k2 i hlt, fun σ' H' => ds.length - (i + 1) = ds.length - (i + 1) ∧ i + 1 ≤ ds.length ∧ ∃ g' E' C', Gk g1 H1 g' H' ∧ Rel ct B g' σ' H' E' C' ∧ dForGo h b DD (ds.drop (i + 1)) E' C', fun σ' H' p => ⟨ds.length - (i + 1), by omega, p⟩, fun x H3 y => ?_⟩
    obtain ⟨h1, h2⟩ := ok.yld g2 H2 k2 i x H3 ds[i] (List.getElem?_eq_getElem hlt) y
    obtain ⟨g3, k3, R3⟩ := R2.step h1
    have q3 : dForGo h b DD (ds[i] :: ds.drop (i + 1)) E2 C2 := by
      rw [← List.drop_eq_getElem_cons hlt]
      exact q2
    refine hg.run B g3 σ2 H3 E2 C2 x (.val ds[i]) _ _ R3 (h2 g3 k3) (fun σ' H' ⟨g4, E4, C4, k4, R4, q4⟩ => ?_) q3
    have kk := (k2.trans k3).trans k4
    have e2 := e.later (k1.trans kk)
    refine hb.run B g4 σ' H' E4 C4 _ { DD with nx := dForGo h b DD (ds.drop (i + 1)), ct := dForGo h b DD (ds.drop (i + 1)), bk := DD.nx } R4 ⟨?_, e2.rt, e2.nx, ?_⟩ q4
    · exact fun σ' H' g' E' C' k' R' q' => ⟨rfl, hlt, g', E', C', kk.trans k', R', q'⟩
    · exact fun σ' H' g' E' C' k' R' q' => ⟨rfl, hlt, g', E', C', kk.trans k', R', q'⟩
  · have hi2 : i = ds.length := by omega
    subst hi2
    rw [List.drop_length] at q2
    exact .inl ⟨ok.stop g2 H2 k2, e.nx σ2 H2 g2 E2 C2 (k1.trans k2) R2 q2⟩⟩
/-! ### a list beside the cells -/
structure Side (B : Bs) (g : Gh) (H : Hp) (A : Addr) (xs : List V) : Prop where
  at_ : H A = some (.lst xs)
  nf : ¬ g.F A
  nm : A ∉ g.ms.flatten
  nb : B.H A = none ∨ A ∈ B.M
section
variable {ct : Ct} {B : Bs} {g g' : Gh} {σ : L2.St} {H H' : Hp} {E : Ev} {C C' : List Cell} {A : Addr} {xs ys : List V} {ds : List D}
/-- it is written -/
theorem Rel.side (R : Rel ct B g σ H E C) (s : Side B g H A xs) : Gk g H g (upd H A (.lst ys)) ∧ Rel ct B g σ (upd H A (.lst ys)) E C ∧ Side B g (upd H A (.lst ys)) A ys := by
  have kk : Gk g H g (upd H A (.lst ys)) := ⟨⟨fun a zs h => by
    rw [upd_ne (fun e => by rw [e, s.at_] at h; cases h)]
    exact h, fun a h => ⟨h, upd_ne fun e => s.nf (by rw [← e]; exact h)⟩⟩, fun _ _ h => h, fun c q h => by
    rw [upd_ne fun e => by rw [e, s.at_] at h; exact codeO_lst (Option.some.inj h).symm]
    exact h⟩
  refine ⟨kk, R.gk kk ⟨R.cs.la, R.cs.lm, fun k x h => ?_, R.cs.nd, R.cs.ap, fun a h => ?_, tabs_ext2 R.cs.tb fun b u h n1 n2 => ?_, R.cs.tf⟩ ⟨fun a zs h => kk.kp.1 a zs (R.fr.kt a zs h), fun a o h hu hm => ?_, fun a ps h => ?_, R.fr.newF, R.fr.newM⟩, ⟨upd_same, s.nf, s.nm, s.nb⟩⟩
  · obtain ⟨a, m, h1, h2, h3⟩ := R.cs.at_ k x h
    exact ⟨a, m, h1, h2, h3.keep kk fun b hb => upd_ne fun e => s.nm (by rw [← e]; exact mem_flat h2 hb)⟩
  · rw [(kk.kp.2 a h).2]
    exact R.cs.lv a h
  · rw [upd_ne fun e => ?_]
    · exact h
    · rw [e, s.at_] at h
      exact n1 _ (Option.some.inj h).symm
  · by_cases e : a = A
    · rcases s.nb with q | q
      · rw [e, q] at h
        cases h
      · exact absurd (by rw [e]; exact q) hm
    · rw [upd_ne e]
      exact R.fr.keep a o h hu hm
  · obtain ⟨qs, h2⟩ := R.fr.tl a ps h
    refine ⟨qs, ?_⟩
    rw [upd_ne fun e => ?_]
    · exact h2
    · rw [e, s.at_] at h2
      cases h2
/-- it is frozen -/
theorem Rel.adopt (R : Rel ct B g σ H E C) (s : Side B g H A xs) (r : RDs ct g.F H xs ds) : Gk g H (g.fz true A) H ∧ Rel ct B (g.fz true A) σ H E C ∧ RD ct (g.fz true A).F H (.ref A) (.list ds) := by
  have kk : Gk g H (g.fz true A) H := ⟨⟨fun _ _ h => h, fun a h => ⟨.inl h, rfl⟩⟩, fun _ _ h => h, fun _ _ h => h⟩
  refine ⟨kk, R.gk kk ⟨R.cs.la, R.cs.lm, fun k x h => ?_, R.cs.nd, fun a ha h => ?_, fun a h => ?_, R.cs.tb, fun q hq h => ?_⟩ ⟨R.fr.kt, R.fr.keep, R.fr.tl, fun a h => ?_, R.fr.newM⟩, .lst (.inr ⟨rfl, rfl⟩) s.at_ (RDs.mono kk.kp _ _ r)⟩
  · obtain ⟨a, m, h1, h2, h3⟩ := R.cs.at_ k x h
    exact ⟨a, m, h1, h2, h3.keep kk (fun _ _ => rfl)⟩
  · rcases h with h | ⟨_, h⟩
    · exact R.cs.ap a ha h
    · exact s.nm (by rw [← h]; exact ha)
  · rcases h with h | ⟨_, h⟩
    · exact R.cs.lv a h
    · rw [h, s.at_]
      exact fun z => nomatch z
  · rcases h with h | ⟨_, h⟩
    · exact R.cs.tf q hq h
    · obtain ⟨ps, e⟩ := tab_some R.cs.tb q hq
      rw [h, s.at_] at e
      cases e
  · rcases h with h | ⟨_, h⟩
    · exact R.fr.newF a h
    · rw [h]
      exact .inr s.nb
/-- it becomes a cell -/
theorem Rel.adoptC (R : Rel ct B g σ H E C) (s : Side B g H A xs) (r : RDs ct g.F H xs ds) : Gk g H (g.ad A) H ∧ Rel ct B (g.ad A) σ H E (C ++ [.lst ds]) ∧ (g.ad A).as[C.length]? = some A := by
  have kk : Gk g H (g.ad A) H := ⟨⟨fun _ _ h => h, fun a h => ⟨h, rfl⟩⟩, fun k a h => by
    show (g.as ++ [A])[k]? = some a
    rw [List.getElem?_append_left (List.getElem?_eq_some_iff.mp h).1]
    exact h, fun _ _ h => h⟩
  have fl : (g.ad A).ms.flatten = g.ms.flatten ++ [A] := by
    show (g.ms ++ [[A]]).flatten = _
    rw [List.flatten_append]
    rfl
  have hl : (g.ad A).as[C.length]? = some A := by
    show (g.as ++ [A])[C.length]? = some A
    rw [← R.cs.la]
    exact List.getElem?_concat_length
  refine ⟨kk, R.gk kk ⟨?_, ?_, fun j x h => ?_, ?_, fun a ha h => ?_, fun a h => R.cs.lv a h, R.cs.tb, R.cs.tf⟩ ⟨R.fr.kt, R.fr.keep, R.fr.tl, R.fr.newF, fun a ha => ?_⟩, hl⟩
  · show (g.as ++ [A]).length = _
    rw [List.length_append, List.length_append, R.cs.la]
    rfl
  · show (g.ms ++ [[A]]).length = _
    rw [List.length_append, List.length_append, R.cs.lm]
    rfl
  · by_cases hj : j < C.length
    · rw [List.getElem?_append_left hj] at h
      obtain ⟨a, m, h1, h2, h3⟩ := R.cs.at_ j x h
      refine ⟨a, m, kk.as _ _ h1, ?_, h3.keep kk (fun _ _ => rfl)⟩
      show (g.ms ++ [[A]])[j]? = some m
      rw [List.getElem?_append_left (List.getElem?_eq_some_iff.mp h2).1]
      exact h2
    · have hj2 : j < (C ++ [Cell.lst ds]).length := (List.getElem?_eq_some_iff.mp h).1
      rw [List.length_append] at hj2
      have e : j = C.length := by simp at hj2; omega
      subst e
      rw [List.getElem?_concat_length] at h
      cases h
      refine ⟨A, [A], hl, ?_, rfl, xs, s.at_, RDs.mono kk.kp _ _ r⟩
      show (g.ms ++ [[A]])[C.length]? = some [A]
      rw [← R.cs.lm]
      exact List.getElem?_concat_length
  · rw [fl, List.nodup_append]
    refine ⟨R.cs.nd, by simp, fun a ha b hb e => ?_⟩
    have e2 : b = A := by simpa using hb
    exact s.nm (by rw [← e2, ← e]; exact ha)
  · rw [fl, List.mem_append] at ha
    rcases ha with ha | ha
    · exact R.cs.ap a ha h
    · have e2 : a = A := by simpa using ha
      exact s.nf (by rw [← e2]; exact h)
  · rw [fl, List.mem_append] at ha
    rcases ha with ha | ha
    · exact R.fr.newM a ha
    · have e2 : a = A := by simpa using ha
      rw [e2]
      exact s.nb.symm
/-- something new is laid beside -/
theorem Rel.newSide {p : Addr} {xs : List V} (R : Rel ct B g σ H E C) (hp : H p = none) : Gk g H (g.fz false p) (upd H p (.lst xs)) ∧ Rel ct B (g.fz false p) σ (upd H p (.lst xs)) E C ∧ Side B (g.fz false p) (upd H p (.lst xs)) p xs := by
  obtain ⟨k, R'⟩ := R.new (o := .lst xs) false hp
  refine ⟨k, R', upd_same, fun h => ?_, fun h => R.cs.mutSome p h hp, R.fr.fresh hp⟩
  rcases h with h | ⟨h, _⟩
  · exact R.cs.lv p h hp
  · cases h
end
/-! ### what makes a list -/
abbrev DFl := Ev → List Cell → (List D → List Cell → Prop) → Prop
def PostF (ct : Ct) (B : Bs) (g : Gh) (H : Hp) (σ : L2.St) (E : Ev) (Q : List D → List Cell → Prop) : VK := fun v H' => ∃ g' C' ds xs A, Gk g H g' H' ∧ Rel ct B g' σ H' E C' ∧ v = .ref A ∧ Side B g' H' A xs ∧ RDs ct g'.F H' xs ds ∧ Q ds C'
class CF (ct : Ct) (tt : TE) (t : outParam DFl) : Prop where
  run : ∀ B g σ H E C Q (K : VK), Rel ct B g σ H E C → (∀ v H', PostF ct B g H σ E Q v H' → K v H') → t E C Q → tt σ H K
/-- .. is frozen at once -/
theorem CF.val {ct : Ct} {tt : TE} {t : DFl} (h : CF ct tt t) : CE ct tt (fun E C Q => t E C fun ds C1 => Q (.val (.list ds)) C1) := ⟨fun B g σ H E C Q K R k q => by
  refine h.run B g σ H E C _ _ R (fun v H1 ⟨g1, C1, ds, xs, A, k1, R1, e, s, r, q1⟩ => ?_) q
  subst e
  obtain ⟨k2, R2, r2⟩ := R1.adopt s r
  exact k _ _ ⟨_, C1, .val (.list ds), k1.trans k2, R2, r2, q1⟩⟩
/-- .. or is a cell, in slot i -/
def tAsgC (te : TE) (i : Nat) : TS := tAsg te (gName i)
def dAsgC (t : DFl) (i : Nat) : DS := fun D E C => t E C fun ds C1 => D.nx (E.set i (some (.ref C1.length))) (C1 ++ [.lst ds])
instance cs_asgC {ct : Ct} {te : TE} {t : DFl} {i : Nat} [h : CF ct te t] : CS ct (tAsgC te i) (dAsgC t i) := ⟨fun B g σ H E C D DD R e q => by
  refine h.run B g σ H E C _ _ R (fun v H1 ⟨g1, C1, ds, xs, A, k1, R1, ev, s, r, q1⟩ => ?_) q
  subst ev
  obtain ⟨k2, R2, h2⟩ := R1.adoptC s r
  exact e.nx _ _ _ _ _ (k1.trans k2) (R2.set (w := .ref C1.length) ⟨A, h2, rfl⟩ i) q1⟩
def lstFK (Q : List D → List Cell → Prop) : Option (List D) → List Cell → Prop
  | some ds, C1 => ds.length ≤ sizeLine ∧ Q ds C1
  | none, _ => False
def dLstF (a : DA) : DFl := fun E C Q => a E C fun ws C1 => lstFK Q (vals ws) C1
instance cf_lst {ct : Ct} {t : TA} {a : DA} [h : CA ct t a] : CF ct (tLst t) (dLstF a) := ⟨fun B g σ H E C Q K R k q => by
  refine h.run B g σ H E C _ _ R (fun vs H1 ⟨g1, C1, ws, k1, R1, r1, q1⟩ => ?_) q
  unfold lstFK at q1
  dsimp only at q1
  split at q1
  · rename_i ds e
    have hd := vals_ok r1 e
    refine ⟨by rw [hd.length]; exact q1.1, fun p hp => ?_⟩
    obtain ⟨k2, R2, s2⟩ := R1.newSide (xs := vs) hp
    exact k _ _ ⟨_, _, ds, vs, p, k1.trans k2, R2, rfl, s2, RDs.mono k2.kp _ _ hd, q1.2⟩
  · exact q1.elim⟩
def lisF2K (Q : List D → List Cell → Prop) : Option (List D) → List Cell → Prop
  | some ds, C1 => Q ds C1
  | none, _ => False
def lisFK (Q : List D → List Cell → Prop) : List W → List Cell → Prop
  | [x], C1 => lisF2K Q (rdS C1 x) C1
  | _, _ => False
def dListF (a : DA) : DFl := fun E C Q => a E C (lisFK Q)
instance cf_list {ct : Ct} {K : PySem.W.Frag} {t : TA} {a : DA} [h : CA ct t a] : CF ct (tCB (rListA K) t) (dListF a) := ⟨fun B g σ H E C Q K' R k q => by
  refine h.run B g σ H E C _ _ R (fun vs H1 ⟨g1, C1, ws, k1, R1, r1, q1⟩ => ?_) q
  unfold lisFK at q1
  split at q1
  · obtain ⟨v, rfl, r2⟩ := rws1 r1
    unfold lisF2K at q1
    split at q1
    · rename_i ds e
      obtain ⟨a, xs, rfl, h1, h2⟩ := rdS_ok (K := K) R1.cs r2 e
      refine ⟨a, xs, rfl, h1, fun p hp => ?_⟩
      obtain ⟨k2, R2, s2⟩ := R1.newSide (xs := xs) hp
      exact k _ _ ⟨_, _, ds, xs, p, k1.trans k2, R2, rfl, s2, RDs.mono k2.kp _ _ h2, q1⟩
    · exact q1.elim
  · exact q1.elim⟩
/-! ### comprehensions -/
theorem wipe_get (σ : L2.St) : ∀ (vs : List Nat) (j : Nat), (wipe σ vs)[j]? = if j ∈ vs then (σ[j]?.map fun _ => none) else σ[j]?
  | [], j => by simp [wipe]
  | v :: vs, j => by
    have ih := wipe_get σ vs j
    show ((wipe σ vs).set v none)[j]? = _
    by_cases e : v = j
    · subst e
      rw [if_pos List.mem_cons_self]
      by_cases hv : v < σ.length
      · rw [List.getElem?_set_self (by rw [wipe_length]; exact hv), List.getElem?_eq_getElem hv]
        rfl
      · rw [List.getElem?_eq_none (by rw [List.length_set, wipe_length]; omega), List.getElem?_eq_none (by omega)]
        rfl
    · rw [List.getElem?_set_ne e, ih]
      have h : (j ∈ v :: vs) ↔ j ∈ vs := by
        rw [List.mem_cons]
        exact ⟨fun h => h.resolve_left fun z => e z.symm, .inr⟩
      simp only [h]
theorem wipe_ext {σ τ : L2.St} {vs : List Nat} (h : ∀ j, j ∉ vs → σ[j]? = τ[j]?) (hl : σ.length = τ.length) : wipe σ vs = wipe τ vs := by
  apply List.ext_getElem?
  intro j
  rw [wipe_get, wipe_get]
  by_cases e : j ∈ vs
  · rw [if_pos e, if_pos e]
    by_cases hj : j < σ.length
    · rw [List.getElem?_eq_getElem hj, List.getElem?_eq_getElem (by rw [← hl]; exact hj)]
      rfl
    · rw [List.getElem?_eq_none (by omega), List.getElem?_eq_none (by omega)]
  · rw [if_neg e, if_neg e]
    exact h j e
/-- the target stores into these slots alone -/
class GW (gt : TG) (sl : outParam (List Nat)) : Prop where
  run : ∀ v σ H (K K' : L2.St → Hp → Prop), gt v σ H K → (∀ σ2 H2, K σ2 H2 → σ2.length = σ.length → (∀ j, j ∉ sl → σ2[j]? = σ[j]?) → K' σ2 H2) → gt v σ H K'
class GWs (gt : TGs) (sl : outParam (List Nat)) : Prop where
  run : ∀ vs σ H (K K' : L2.St → Hp → Prop), gt vs σ H K → (∀ σ2 H2, K σ2 H2 → σ2.length = σ.length → (∀ j, j ∉ sl → σ2[j]? = σ[j]?) → K' σ2 H2) → gt vs σ H K'
instance gw_name {i : Nat} : GW (gName i) [i] := ⟨fun v σ H K K' h k => k _ _ h (by rw [List.length_set]) fun j hj => List.getElem?_set_ne fun e => hj (by rw [e]; exact List.mem_singleton.mpr rfl)⟩
instance gw_nil : GWs gNil [] := ⟨fun vs σ H K K' h k => ⟨h.1, k _ _ h.2 rfl fun _ _ => rfl⟩⟩
instance gw_cons {i : Nat} {u : TGs} {sl : List Nat} [hu : GWs u sl] : GWs (gCons (gName i) u) (i :: sl) := ⟨fun vs σ H K K' ⟨v, r, e, h⟩ k => by
  refine ⟨v, r, e, hu.run _ _ _ _ _ h fun σ2 H2 p l n => k _ _ p (by rw [l, List.length_set]) fun j hj => ?_⟩
  rw [n j fun z => hj (List.mem_cons_of_mem _ z)]
  exact List.getElem?_set_ne fun e => hj (by rw [e]; exact List.mem_cons_self)⟩
instance gw_tup {K : PySem.W.Frag} {n : Nat} {t : TGs} {sl : List Nat} [h : GWs t sl] : GW (gTup K n t) sl := ⟨fun v σ H K1 K' ⟨a, xs, e, h1, h2, h3⟩ k => ⟨a, xs, e, h1, h2, h.run _ _ _ _ _ h3 k⟩⟩
def wipeE (E : Ev) : List Nat → Ev
  | [] => E
  | v :: vs => (wipeE E vs).set v none
theorem wipeE_some {E : Ev} {i : Nat} {x : W} : ∀ {vs : List Nat}, (wipeE E vs)[i]? = some (some x) → E[i]? = some (some x) ∧ i ∉ vs
  | [], h => ⟨h, by simp⟩
  | v :: vs, h => by
    unfold wipeE at h
    by_cases hi : v = i
    · subst hi
      by_cases hv : v < (wipeE E vs).length
      · rw [List.getElem?_set_self hv] at h
        cases h
      · rw [List.getElem?_eq_none (by simpa using hv)] at h
        cases h
    · rw [List.getElem?_set_ne hi] at h
      obtain ⟨h1, h2⟩ := wipeE_some h
      exact ⟨h1, by simp only [List.mem_cons, not_or]; exact ⟨fun e => hi e.symm, h2⟩⟩
theorem wipeE_length (E : Ev) : ∀ vs : List Nat, (wipeE E vs).length = E.length
  | [] => rfl
  | v :: vs => by unfold wipeE; rw [List.length_set, wipeE_length E vs]
theorem Rel.wipe {ct : Ct} {B : Bs} {g : Gh} {σ : L2.St} {H : Hp} {E : Ev} {C : List Cell} (R : Rel ct B g σ H E C) (vs : List Nat) : Rel ct B g (L2.wipe σ vs) H (wipeE E vs) C :=
  ⟨fun i w h => by
    obtain ⟨h1, h2⟩ := wipeE_some h
    obtain ⟨v, h3, h4⟩ := R.env i w h1
    exact ⟨v, by rw [wipe_get, if_neg h2]; exact h3, h4⟩, by rw [wipe_length, wipeE_length]; exact R.len, R.cs, R.fr, R.gg, R.xo⟩
def dYes : DT := fun _ C Q => Q true C
instance ct_yes {ct : Ct} : CT ct tYes dYes := ⟨fun B g σ H E C Q K R k q => k _ _ ⟨g, C, Gk.refl _ _, R, q⟩⟩
def accK (n : Nat) (N : D → List Cell → Prop) : W → List Cell → Prop
  | .val d, C => n < sizeLine ∧ N d C
  | _, _ => False
def dVal (t : DFl) (E : Ev) (C : List Cell) (Q : DK) : Prop := t E C fun ds C1 => Q (.val (.list ds)) C1
def dLcGo (h : DG) (tt : DT) (te : DE) (E : Ev) : List D → List D → List Cell → (List D → List Cell → Prop) → Prop
  | [], acc, C, Q => Q acc C
  | x :: xs, acc, C, Q => h (.val x) E C fun E2 C1 => tt E2 C1 fun b C2 => if b = true then te E2 C2 (accK acc.length fun d C3 => dLcGo h tt te E xs (acc ++ [d]) C3 Q) else dLcGo h tt te E xs acc C2 Q
def dLc (it : DI) (h : DG) (tt : DT) (te : DE) (sl vs : List Nat) : DFl := fun E C Q => (sl.all fun i => vs.contains i) = true ∧ it E C fun ds C1 => dLcGo h tt te (wipeE E vs) ds [] C1 Q
theorem Rel.step2 {ct : Ct} {B : Bs} {g : Gh} {σ : L2.St} {H H' : Hp} {E : Ev} {C : List Cell} {A : Addr} {xs : List V} (R : Rel ct B g σ H E C) (s : Side B g H A xs) (h : H' = H ∨ ∃ T xs, H T = none ∧ H' = upd H T (.tup xs)) :
    ∃ g', Gk g H g' H' ∧ Rel ct B g' σ H' E C ∧ Side B g' H' A xs := by
  rcases h with rfl | ⟨T, ys, hT, rfl⟩
  · exact ⟨g, Gk.refl _ _, R, s⟩
  · obtain ⟨k, R'⟩ := R.new (o := .tup ys) false hT
    refine ⟨_, k, R', ?_, fun h => ?_, s.nm, s.nb⟩
    · rw [upd_ne (ne_of_none s.at_ hT)]
      exact s.at_
    · rcases h with h | ⟨h, _⟩
      · exact s.nf h
      · cases h
theorem Side.later {B : Bs} {g g' : Gh} {H H' : Hp} {A : Addr} {xs : List V} (s : Side B g H A xs) (f : Fr0 (Bs.of g H) g' H') : Side B g' H' A xs := by
  refine ⟨f.keep A _ s.at_ (fun _ z => nomatch z) s.nm, fun h => ?_, fun h => ?_, s.nb⟩
  · rcases f.newF A h with q | q | q
    · exact s.nf q
    · rw [show (Bs.of g H).H A = H A from rfl, s.at_] at q
      cases q
    · exact s.nm q
  · rcases f.newM A h with q | q
    · exact s.nm q
    · rw [show (Bs.of g H).H A = H A from rfl, s.at_] at q
      cases q
instance cf_lc {ct : Ct} {wi : TI} {gt : TG} {t1 : TT} {te : TE} {vs sl : List Nat} {it : DI} {h : DG} {dt : DT} {de : DE} [hi : CI ct wi it] [hg : CG ct gt h] [hw : GW gt sl] [ht : CT ct t1 dt] [he : CE ct te de] : CF ct (tLc wi gt t1 te vs) (dLc it h dt de sl vs) := ⟨fun B g σ H E C Q K R k q => by
  obtain ⟨hsl, q⟩ := q
  refine hi.run B g σ H E C _ _ R (fun J H1 g1 C1 ds k1 R1 ok q1 => ?_) q
  intro A hA
  have hsl2 : ∀ j, j ∉ vs → j ∉ sl := fun j hj hm => hj (by
    have := List.all_eq_true.mp hsl j hm
    simpa using this)
  obtain ⟨k0, R0, s0⟩ := R1.newSide (xs := []) hA
  refine ⟨fun i m H2 => m = ds.length - i ∧ i ≤ ds.length ∧ ∃ g2 C2 xs acc, Gk g1 H1 g2 H2 ∧ Rel ct B g2 σ H2 E C2 ∧ Side B g2 H2 A xs ∧ RDs ct g2.F H2 xs acc ∧ dLcGo h dt de (wipeE E vs) (ds.drop i) acc C2 Q, ⟨ds.length, by simp, Nat.zero_le _, _, C1, [], [], k0, R0, s0, .nil, q1⟩, ?_⟩
  rintro i m H2 ⟨rfl, hle, g2, C2, xs, acc, k2, R2, s2, r2, q2⟩
  by_cases hlt : i < ds.length
  · refine .inr ⟨ok.go g2 H2 k2 i hlt, fun H' => ds.length - (i + 1) = ds.length - (i + 1) ∧ i + 1 ≤ ds.length ∧ ∃ g2 C2 xs acc, Gk g1 H1 g2 H' ∧ Rel ct B g2 σ H' E C2 ∧ Side B g2 H' A xs ∧ RDs ct g2.F H' xs acc ∧ dLcGo h dt de (wipeE E vs) (ds.drop (i + 1)) acc C2 Q, fun H' p => ⟨ds.length - (i + 1), by omega, p⟩, fun x H3 y => ?_⟩
    obtain ⟨h1, h2⟩ := ok.yld g2 H2 k2 i x H3 ds[i] (List.getElem?_eq_getElem hlt) y
    obtain ⟨g3, k3, R3, s3⟩ := R2.step2 s2 h1
    have q3 : dLcGo h dt de (wipeE E vs) (ds[i] :: ds.drop (i + 1)) acc C2 Q := by
      rw [← List.drop_eq_getElem_cons hlt]
      exact q2
    have r3 := RDs.mono k3.kp _ _ r2
    refine hw.run _ _ _ (PostG ct (Bs.of g3 H3) g3 H3 _) _ (hg.run (Bs.of g3 H3) g3 (L2.wipe σ vs) H3 (wipeE E vs) C2 x (.val ds[i]) _ _ ((R3.wipe vs).self) (h2 g3 k3) (fun _ _ p => p) q3) ?_
    rintro σ2 H4 ⟨g4, E4, C4, k4, R4, q4⟩ hl hn
    refine ⟨?_, ?_⟩
    · rw [wipe_ext (σ := σ2) (τ := L2.wipe σ vs) (fun j hj => hn j (hsl2 j hj)) hl]
      exact wipe_ext (fun j hj => by rw [wipe_get, if_neg hj]) (wipe_length σ vs)
    refine ht.run _ g4 σ2 H4 E4 C4 _ _ R4 (fun b H5 ⟨g5, C5, k5, R5, q5⟩ => ?_) q4
    have k35 := k4.trans k5
    cases b with
    | false =>
      refine iteF ⟨rfl, hlt, g5, C5, xs, acc, (k2.trans k3).trans k35, R3.gk k35 R5.cs (R3.fr.comp R5.fr), s3.later R5.fr, RDs.mono k35.kp _ _ r3, q5⟩
    | true =>
      refine iteT (he.run _ g5 σ2 H5 E4 C5 _ _ R5 (fun v H6 ⟨g6, C6, w, k6, R6, r6, q6⟩ => ?_) q5)
      have k36 := k35.trans k6
      have s6 := s3.later R6.fr
      unfold accK at q6
      split at q6
      · rename_i d
        obtain ⟨hz, q7⟩ := q6
        have r36 := RDs.mono k36.kp _ _ r3
        refine ⟨xs, s6.at_, by rw [r36.length]; exact hz, ?_⟩
        have R6' := R3.gk k36 R6.cs (R3.fr.comp R6.fr)
        obtain ⟨k7, R7, s7⟩ := R6'.side (ys := xs ++ [v]) s6
        exact ⟨rfl, hlt, g6, C6, xs ++ [v], acc ++ [d], ((k2.trans k3).trans k36).trans k7, R7, s7, RDs.mono k7.kp _ _ (r36.app (.cons r6 .nil)), q7⟩
      · exact q6.elim
  · have hi2 : i = ds.length := by omega
    subst hi2
    rw [List.drop_length] at q2
    exact .inl ⟨ok.stop g2 H2 k2, k _ _ ⟨g2, C2, acc, xs, A, k1.trans k2, R2, rfl, s2, r2, q2⟩⟩⟩
instance ce_lc {ct : Ct} {wi : TI} {gt : TG} {t1 : TT} {te : TE} {vs : List Nat} {t : DFl} [h : CF ct (tLc wi gt t1 te vs) t] : CE ct (tLc wi gt t1 te vs) (dVal t) := h.val
/-! ### defs -/
abbrev DSp := List W → List Cell → DK → XD → Prop
/-- the fields of a class, in order (the exceptions' among them) -/
def clsF : Int → List Str
  | 0 => ["link", "root", "is_open"]
  | 1 => ["rule", "certificate"]
  | 2 => ["rule", "certificate", "position"]
  | 3 => ["number", "word"]
  | 4 => ["rule", "secret", "tables", "line"]
  | 5 => ["rule", "held_cards", "line"]
  | 6 => ["rule", "head", "size", "pairs"]
  | 7 => ["number"]
  | 8 => ["number"]
  | 9 => ["number"]
  | _ => []
abbrev Ct.w (ct : Ct) (E : XK) (R : XD) : Ct := ⟨ct.cl, E, R⟩
def spD (ct : Ct) (n m : Nat) (P : DSp) : Sp := fun vs H Q E => ∃ (g : Gh) (C : List Cell) (ws : List W) (QD : DK) (RX : XD), vs.length = m ∧ C.length = n ∧ Clz ct g H C ∧ RWs ct g H vs ws ∧ P ws C QD RX ∧
  (∀ v H' g' C' w, Gk g H g' H' → Fr0 (Bs.of g H) g' H' → Clz ct g' H' C' → C'.length = n → RW ct g' H' v w → QD w C' → Q v H') ∧
  (∀ cls d H' g' C' c ds, Gk g H g' H' → Fr0 (Bs.of g H) g' H' → Clz ct g' H' C' → C'.length = n → XV ct g' H' cls d c ds → RX c ds C' → E cls d H')
theorem spD_len {ct : Ct} {n m : Nat} {P : DSp} {vs : List V} {H : Hp} {Q : VK} {E : XK} (h : spD ct n m P vs H Q E) : vs.length = m := by
  obtain ⟨g, C, ws, QD, RX, h, _⟩ := h
  exact h
def wOk (n : Nat) : W → Bool
  | .ref k => decide (k < n)
  | _ => true
def cellOk (n : Nat) : Cell → Bool
  | .obj _ ws => ws.all (wOk n)
  | _ => true
def fin (n : Nat) (Q : DK) : DK := fun w C => n ≤ C.length ∧ ((C.take n).all (cellOk n) && wOk n w) = true ∧ Q w (C.take n)
def finD (n : Nat) (Q : DK) : DEnds := { nx := fun _ C => fin n Q (.val .none) C, rt := fin n Q }
def E0D (N : Nat) (ws : List W) : Ev := ws.map some ++ List.replicate (N - ws.length) none
def Gh.tk (g : Gh) (n : Nat) : Gh := ⟨g.F, g.as.take n, g.ms.take n⟩
theorem RW.tk {ct : Cl} {g : Gh} {H : Hp} {n : Nat} {v : V} {w : W} (h : RW ct g H v w) (k : wOk n w = true) : RW ct (g.tk n) H v w := by
  cases w with
  | val d => exact h
  | ty n => exact h
  | fn => exact h
  | dct ds => exact h
  | ref j =>
    obtain ⟨a, h1, h2⟩ := h
    exact ⟨a, by show (g.as.take n)[j]? = some a; rw [List.getElem?_take, if_pos (of_decide_eq_true k)]; exact h1, h2⟩
theorem RWs.tk {ct : Cl} {g : Gh} {H : Hp} {n : Nat} : ∀ {vs : List V} {ws : List W}, RWs ct g H vs ws → ws.all (wOk n) = true → RWs ct (g.tk n) H vs ws
  | _, _, .nil, _ => .nil
  | _, _, .cons r rs, k => by
    rw [List.all_cons, Bool.and_eq_true] at k
    exact .cons (r.tk k.1) (RWs.tk rs k.2)
theorem flat_take {ms : List (List Addr)} (n : Nat) : (ms.take n).flatten.Sublist ms.flatten := by
  have e : ms.flatten = (ms.take n).flatten ++ (ms.drop n).flatten := by rw [← List.flatten_append, List.take_append_drop]
  rw [e]
  exact List.sublist_append_left _ _
theorem Clz.tk {ct : Cl} {g : Gh} {H : Hp} {C : List Cell} (c : Clz ct g H C) (n : Nat) (k : (C.take n).all (cellOk n) = true) : Clz ct (g.tk n) H (C.take n) := by
  refine ⟨?_, ?_, fun j x h => ?_, c.nd.sublist (flat_take n), fun a ha h => c.ap a ((flat_take n).subset ha) h, c.lv, c.tb, c.tf⟩
  · show (g.as.take n).length = _
    rw [List.length_take, List.length_take, c.la]
  · show (g.ms.take n).length = _
    rw [List.length_take, List.length_take, c.lm]
  · have hj : j < n := by
      have := (List.getElem?_eq_some_iff.mp h).1
      rw [List.length_take] at this
      omega
    have hm : x ∈ C.take n := List.mem_of_getElem? h
    rw [List.getElem?_take, if_pos hj] at h
    obtain ⟨a, m, h1, h2, h3⟩ := c.at_ j x h
    refine ⟨a, m, by show (g.as.take n)[j]? = _; rw [List.getElem?_take, if_pos hj]; exact h1, by show (g.ms.take n)[j]? = _; rw [List.getElem?_take, if_pos hj]; exact h2, ?_⟩
    have kx := List.all_eq_true.mp k x hm
    cases x with
    | lst ds => exact h3
    | pool os => exact h3
    | frz ds => exact h3
    | obj cc ws =>
      obtain ⟨e, Cc, ns, dx, vs, q1, q2, q3, q4⟩ := h3
      exact ⟨e, Cc, ns, dx, vs, q1, q2, q3, q4.tk kx⟩
    | nil => exact h3
theorem start_map {ct : Cl} {g : Gh} {H : Hp} {N : List Str} {vs : List V} {ws : List W} (r : RWs ct g H vs ws) : ∀ (i : Nat) (w : W), (E0D N.length ws)[i]? = some (some w) → ∃ v : V, (start N vs)[i]? = some (some v) ∧ RW ct g H v w := by
  intro i w h
  have hl : vs.length = ws.length := Paired.length r
  unfold E0D at h
  unfold L2.start
  by_cases hi : i < ws.length
  · rw [List.getElem?_append_left (by rw [List.length_map]; exact hi), List.getElem?_map] at h
    rw [List.getElem?_append_left (by rw [List.length_map, hl]; exact hi), List.getElem?_map]
    have get : ∀ {vs : List V} {ws : List W}, RWs ct g H vs ws → ∀ (i : Nat) (w : W), ws[i]? = some w → ∃ v : V, vs[i]? = some v ∧ RW ct g H v w := by
      intro vs ws r
      induction r with
      | nil => intro i w h; simp at h
      | cons r rs ih =>
        intro i w h
        cases i with
        | zero =>
          cases h
          exact ⟨_, rfl, r⟩
        | succ i => exact ih i w h
    cases e : ws[i]? with
    | none =>
      rw [e] at h
      cases h
    | some u =>
      rw [e] at h
      cases h
      obtain ⟨v, h1, h2⟩ := get r i _ e
      exact ⟨v, by rw [h1]; rfl, h2⟩
  · rw [List.getElem?_append_right (by rw [List.length_map]; omega), List.getElem?_replicate] at h
    split at h <;> cases h
def finX (n : Nat) (R : XD) : XD := fun c ds C => n ≤ C.length ∧ (C.take n).all (cellOk n) = true ∧ R c ds (C.take n)
theorem Gk.tk {g g' : Gh} {H H' : Hp} {n : Nat} (k : Gk g H g' H') (hl : g.as.length = n) : Gk g H (g'.tk n) H' :=
  ⟨k.kp, fun j a h => by
    show (g'.as.take n)[j]? = some a
    rw [List.getElem?_take, if_pos (by rw [← hl]; exact (List.getElem?_eq_some_iff.mp h).1)]
    exact k.as j a h, k.ex⟩
theorem Fr0.tk {B : Bs} {g : Gh} {H : Hp} {n : Nat} (f : Fr0 B g H) : Fr0 B (g.tk n) H := ⟨f.kt, f.keep, f.tl, f.newF, fun a h => f.newM a ((flat_take n).subset h)⟩
/-- a body keeps the promise -/
theorem body_ok {ct : Ct} {N : List Str} {n m : Nat} {P : DSp} {tt : TS} {vs : List V} {H : Hp} {Q : VK} {E : XK} (t : XD → DS) (c : ∀ R, CS (ct.w E R) tt (t R)) (hm : m ≤ N.length)
    (h : ∀ ws C Q R, ws.length = m → C.length = n → P ws C Q R → t (finX n R) (finD n Q) (E0D N.length ws) C) (sp : spD ct n m P vs H Q E) : tt { nx := fun _ H' => Q .non H', rt := Q } (start N vs) H := by
  obtain ⟨g, C, ws, QD, RX, h1, h2, h3, h4, h5, h6, h7⟩ := sp
  have hl : vs.length = ws.length := Paired.length h4
  have hga : g.as.length = n := by rw [h3.la, h2]
  refine (c (finX n RX)).run ⟨g, H⟩ g (start N vs) H (E0D N.length ws) C _ (finD n QD) ⟨start_map h4, ?_, h3, Fr0.self g H, Gk.refl _ _, ?_⟩ ⟨?_, ?_, ?_, ?_⟩ (h ws C QD RX (by rw [← hl, h1]) h2 h5)
  · unfold L2.start E0D
    rw [List.length_append, List.length_append, List.length_map, List.length_map, List.length_replicate, List.length_replicate, hl]
  · rintro g' H' C' cls d cc ds k f z x ⟨q1, q2, q3⟩
    exact h7 cls d H' (g'.tk n) _ cc ds (k.tk hga) f.tk (z.tk n q2) (by rw [List.length_take]; omega) x q3
  · rintro σ' H' g' E' C' k R' ⟨q1, q2, q3⟩
    rw [Bool.and_eq_true] at q2
    exact h6 .non H' (g'.tk n) _ (.val .none) (k.tk hga) (R'.fr.tk) (R'.cs.tk n q2.1) (by rw [List.length_take]; omega) RD.non q3
  · rintro v σ' H' g' E' C' w k R' r ⟨q1, q2, q3⟩
    rw [Bool.and_eq_true] at q2
    exact h6 v H' (g'.tk n) _ w (k.tk hga) (R'.fr.tk) (R'.cs.tk n q2.1) (by rw [List.length_take]; omega) (r.tk q2.2) q3
  · exact fun _ _ _ _ _ _ _ q => q.elim
  · exact fun _ _ _ _ _ _ _ q => q.elim
/-! ### calls -/
def X0 : XD := fun _ _ _ => False
/-- a call that is given data alone -/
def dCallP (m : Nat) (P : DSp) (a : DA) : DE := fun E C Q => a E C fun ws C1 => ws.length = m ∧ (vals ws).isSome = true ∧ P ws [] (fun w _ => Q w C1) X0
theorem rws_pure {ct : Cl} {g : Gh} {H : Hp} : ∀ {vs : List V} {ws : List W}, RWs ct g H vs ws → (vals ws).isSome = true → RWs ct ⟨g.F, [], []⟩ H vs ws
  | _, _, .nil, _ => .nil
  | _, _, .cons (b := .val d) (l₂ := ws) r rs, h => by
    have h' : ((vals ws).map (d :: ·)).isSome = true := h
    rw [Option.isSome_map] at h'
    exact .cons r (rws_pure rs h')
  | _, _, .cons (b := .ref k) r rs, h => nomatch h
  | _, _, .cons (b := .ty k) r rs, h => nomatch h
  | _, _, .cons (b := .fn ..) r rs, h => nomatch h
  | _, _, .cons (b := .dct ..) r rs, h => nomatch h
theorem clz_nil {ct : Cl} {g : Gh} {H : Hp} {C : List Cell} (c : Clz ct g H C) : Clz ct ⟨g.F, [], []⟩ H [] :=
  ⟨rfl, rfl, fun k c h => by simp at h, List.nodup_nil, fun a h => by simp at h, c.lv, c.tb, c.tf⟩
theorem Rel.called {ct : Ct} {B : Bs} {g g' : Gh} {σ : L2.St} {H H' : Hp} {E : Ev} {C : List Cell} (R : Rel ct B g σ H E C) (k : Gk ⟨g.F, [], []⟩ H g' H') (f : Fr0 (Bs.of ⟨g.F, [], []⟩ H) g' H') (c : Clz ct g' H' []) :
    Gk g H ⟨g'.F, g.as, g.ms⟩ H' ∧ Rel ct B ⟨g'.F, g.as, g.ms⟩ σ H' E C := by
  have kk : Gk g H ⟨g'.F, g.as, g.ms⟩ H' := ⟨k.kp, fun _ _ h => h, k.ex⟩
  have keep : ∀ a o, H a = some o → (∀ ps, o ≠ .tbl ps) → H' a = some o := fun a o h hu => f.keep a o h hu (by simp)
  have nF : ∀ a, g'.F a → g.F a ∨ H a = none := fun a h => by
    rcases f.newF a h with q | q | q
    · exact .inl q
    · exact .inr q
    · exact absurd q (by simp)
  refine ⟨kk, R.gk kk ⟨R.cs.la, R.cs.lm, fun j x h => ?_, R.cs.nd, fun a ha h => ?_, c.lv, c.tb, c.tf⟩ (R.fr.comp ⟨fun a xs h => keep a _ h (fun _ z => nomatch z), fun a o h hu _ => keep a o h hu, fun a ps h => f.tl a ps h, fun a h => ?_, fun a h => .inl h⟩)⟩
  · obtain ⟨a, m, h1, h2, h3⟩ := R.cs.at_ j x h
    exact ⟨a, m, h1, h2, h3.keep kk fun b hb => by
      obtain ⟨o, e, hu⟩ := h3.ob b hb
      exact (keep b o e hu).trans e.symm⟩
  · rcases nF a h with q | q
    · exact R.cs.ap a ha q
    · exact R.cs.mutSome a ha q
  · rcases nF a h with q | q
    · exact .inl q
    · exact .inr (.inl q)
instance ce_callP {ct : Ct} {E : XK} {R : XD} {m : Nat} {P : DSp} {E' : XK} {t : TA} {a : DA} [h : CA (ct.w E R) t a] : CE (ct.w E R) (tCall (spD ct 0 m P) [] E' t) (dCallP m P a) := ⟨fun B g σ H Ev C Q K Re k q => by
  refine h.run B g σ H Ev C _ _ Re (fun vs H1 ⟨g1, C1, ws, k1, R1, r1, q1⟩ => ?_) q
  obtain ⟨e1, e2, q2⟩ := q1
  rw [List.append_nil]
  refine ⟨⟨g1.F, [], []⟩, [], ws, _, X0, by rw [← e1]; exact Paired.length r1, rfl, clz_nil R1.cs, rws_pure r1 e2, q2, fun v H' g' C' w k' f' c' l' r' q' => ?_, fun _ _ _ _ _ _ _ _ _ _ _ _ z => z.elim⟩
  have e3 : C' = [] := List.eq_nil_of_length_eq_zero l'
  subst e3
  obtain ⟨k2, R2⟩ := R1.called k' f' c'
  refine k v H' ⟨_, C1, w, k1.trans k2, R2, ?_, q'⟩
  cases w with
  | val d => exact r'
  | ty n => exact r'
  | fn => exact r'
  | dct ds => exact r'
  | ref j =>
    obtain ⟨b, hb, _⟩ := r'
    have : g'.as.length = 0 := c'.la
    rw [List.eq_nil_of_length_eq_zero this] at hb
    simp at hb⟩
/-! ### calls that are given cells -/
def firstRef : List W → Option Nat
  | [] => none
  | .ref k :: _ => some k
  | _ :: ws => firstRef ws
def shW (k : Nat) : W → W
  | .ref j => .ref (j - k)
  | w => w
def unW (k : Nat) : W → W
  | .ref j => .ref (j + k)
  | w => w
def inW (k n : Nat) : W → Bool
  | .ref j => decide (k ≤ j) && decide (j < k + n)
  | _ => true
def shC (k : Nat) : Cell → Cell
  | .obj c ws => .obj c (ws.map (shW k))
  | c => c
def unC (k : Nat) : Cell → Cell
  | .obj c ws => .obj c (ws.map (unW k))
  | c => c
def inC (k n : Nat) : Cell → Bool
  | .obj _ ws => ws.all (inW k n)
  | _ => true
def Gh.wd (g : Gh) (k n : Nat) : Gh := ⟨g.F, (g.as.drop k).take n, (g.ms.drop k).take n⟩
theorem wd_get {α : Type} (xs : List α) (k n j : Nat) (h : k ≤ j ∧ j < k + n) : ((xs.drop k).take n)[j - k]? = xs[j]? := by
  rw [List.getElem?_take, if_pos (by omega), List.getElem?_drop]
  congr 1
  omega
theorem RW.wd {ct : Cl} {g : Gh} {H : Hp} {k n : Nat} {v : V} {w : W} (h : RW ct g H v w) (i : inW k n w = true) : RW ct (g.wd k n) H v (shW k w) := by
  cases w with
  | val d => exact h
  | ty n => exact h
  | fn => exact h
  | dct ds => exact h
  | ref j =>
    obtain ⟨a, h1, h2⟩ := h
    have i' : (decide (k ≤ j) && decide (j < k + n)) = true := i
    rw [Bool.and_eq_true] at i'
    exact ⟨a, by show ((g.as.drop k).take n)[j - k]? = some a; rw [wd_get _ _ _ _ ⟨of_decide_eq_true i'.1, of_decide_eq_true i'.2⟩]; exact h1, h2⟩
theorem RWs.wd {ct : Cl} {g : Gh} {H : Hp} {k n : Nat} : ∀ {vs : List V} {ws : List W}, RWs ct g H vs ws → ws.all (inW k n) = true → RWs ct (g.wd k n) H vs (ws.map (shW k))
  | _, _, .nil, _ => .nil
  | _, _, .cons r rs, i => by
    rw [List.all_cons, Bool.and_eq_true] at i
    exact .cons (r.wd i.1) (RWs.wd rs i.2)
theorem flat_wd {ms : List (List Addr)} (k n : Nat) : ms.flatten = (ms.take k).flatten ++ (((ms.drop k).take n).flatten ++ (ms.drop (k + n)).flatten) := by
  rw [← List.flatten_append, ← List.flatten_append]
  congr 1
  rw [← List.drop_drop, List.take_append_drop, List.take_append_drop]
theorem Clz.wd {ct : Cl} {g : Gh} {H : Hp} {C : List Cell} (c : Clz ct g H C) (k n : Nat) (i : ((C.drop k).take n).all (inC k n) = true) : Clz ct (g.wd k n) H (((C.drop k).take n).map (shC k)) := by
  have sub : ∀ a, a ∈ ((g.ms.drop k).take n).flatten → a ∈ g.ms.flatten := fun a h => by
    rw [flat_wd (ms := g.ms) k n]
    exact List.mem_append_right _ (List.mem_append_left _ h)
  have nd := c.nd
  rw [flat_wd (ms := g.ms) k n, List.nodup_append] at nd
  refine ⟨?_, ?_, fun j x h => ?_, (List.nodup_append.mp nd.2.1).1, fun a ha h => c.ap a (sub a ha) h, c.lv, c.tb, c.tf⟩
  · show ((g.as.drop k).take n).length = _
    rw [List.length_map, List.length_take, List.length_take, List.length_drop, List.length_drop, c.la]
  · show ((g.ms.drop k).take n).length = _
    rw [List.length_map, List.length_take, List.length_take, List.length_drop, List.length_drop, c.lm]
  · rw [List.getElem?_map] at h
    cases e : ((C.drop k).take n)[j]? with
    | none =>
      rw [e] at h
      cases h
    | some y =>
      rw [e] at h
      cases h
      have hy : y ∈ (C.drop k).take n := List.mem_of_getElem? e
      have hj : j < n := by
        have := (List.getElem?_eq_some_iff.mp e).1
        rw [List.length_take] at this
        omega
      rw [List.getElem?_take, if_pos hj, List.getElem?_drop] at e
      obtain ⟨a, m, h1, h2, h3⟩ := c.at_ _ y e
      refine ⟨a, m, by show ((g.as.drop k).take n)[j]? = _; rw [List.getElem?_take, if_pos hj, List.getElem?_drop]; exact h1, by show ((g.ms.drop k).take n)[j]? = _; rw [List.getElem?_take, if_pos hj, List.getElem?_drop]; exact h2, ?_⟩
      have iy := List.all_eq_true.mp i y hy
      cases y with
      | lst ds => exact h3
      | frz ds => exact h3
      | pool os => exact h3
      | obj cc ws =>
        obtain ⟨e, Cc, ns, dx, vs, q1, q2, q3, q4⟩ := h3
        exact ⟨e, Cc, ns, dx, vs, q1, q2, q3, q4.wd iy⟩
      | nil => exact h3
/-- back in the caller -/
def Gh.bk (g g' : Gh) (k n : Nat) : Gh := ⟨g'.F, g.as, g.ms.take k ++ g'.ms ++ g.ms.drop (k + n)⟩
section
variable {ct : Ct} {B : Bs} {g g' : Gh} {σ : L2.St} {H H' : Hp} {E : Ev} {C C' : List Cell} {k n : Nat}
theorem RW.un {ct : Cl} (ha : ∀ (j : Nat) (a : Addr), g'.as[j]? = some a → g.as[j + k]? = some a) {v : V} {w : W} (h : RW ct g' H' v w) : RW ct (g.bk g' k n) H' v (unW k w) := by
  cases w with
  | val d => exact h
  | ty n => exact h
  | fn => exact h
  | dct ds => exact h
  | ref j =>
    obtain ⟨a, h1, h2⟩ := h
    exact ⟨a, ha j a h1, h2⟩
theorem RWs.un {ct : Cl} (ha : ∀ (j : Nat) (a : Addr), g'.as[j]? = some a → g.as[j + k]? = some a) : ∀ {vs : List V} {ws : List W}, RWs ct g' H' vs ws → RWs ct (g.bk g' k n) H' vs (ws.map (unW k))
  | _, _, .nil => .nil
  | _, _, .cons r rs => .cons (RW.un ha r) (RWs.un ha rs)
theorem Rel.calledW (R : Rel ct B g σ H E C) (hk : k + n ≤ C.length) (kk : Gk (g.wd k n) H g' H') (f : Fr0 (Bs.of (g.wd k n) H) g' H') (c : Clz ct g' H' C') (hl : C'.length = n) :
    Gk g H (g.bk g' k n) H' ∧ Rel ct B (g.bk g' k n) σ H' E (C.take k ++ C'.map (unC k) ++ C.drop (k + n)) ∧ ∀ (j : Nat) (a : Addr), g'.as[j]? = some a → g.as[j + k]? = some a := by
  have hga : g.as.length = C.length := R.cs.la
  have hgm : g.ms.length = C.length := R.cs.lm
  have has : ∀ (j : Nat) (a : Addr), g'.as[j]? = some a → g.as[j + k]? = some a := fun j a h => by
    have hj : j < n := by
      rw [← hl, ← c.la]
      exact (List.getElem?_eq_some_iff.mp h).1
    have hb : (g.wd k n).as[j]? = g.as[j + k]? := by
      show ((g.as.drop k).take n)[j]? = _
      rw [List.getElem?_take, if_pos hj, List.getElem?_drop, Nat.add_comm]
    cases e : g.as[j + k]? with
    | none =>
      rw [List.getElem?_eq_none_iff] at e
      omega
    | some b =>
      rw [e] at hb
      have := kk.as j b hb
      rw [h] at this
      exact this.symm
  have k2 : Gk g H (g.bk g' k n) H' := ⟨kk.kp, fun _ _ h => h, kk.ex⟩
  have nd := R.cs.nd
  rw [flat_wd (ms := g.ms) k n, List.nodup_append] at nd
  obtain ⟨nd1, nd2, nd3⟩ := nd
  rw [List.nodup_append] at nd2
  obtain ⟨nd4, nd5, nd6⟩ := nd2
  have keep : ∀ a o, H a = some o → (∀ ps, o ≠ .tbl ps) → a ∉ (g.wd k n).ms.flatten → H' a = some o := fun a o h hu hm => f.keep a o h hu hm
  have all : ∀ a, (a ∈ (g.ms.take k).flatten ∨ a ∈ (g.ms.drop (k + n)).flatten) → a ∈ g.ms.flatten ∧ a ∉ (g.wd k n).ms.flatten := fun a h => by
    refine ⟨?_, fun hw => ?_⟩
    · rw [flat_wd (ms := g.ms) k n]
      rcases h with h | h
      · exact List.mem_append_left _ h
      · exact List.mem_append_right _ (List.mem_append_right _ h)
    · rcases h with h | h
      · exact nd3 a h a (List.mem_append_left _ hw) rfl
      · exact nd6 a hw a h rfl
  have newM : ∀ a ∈ g'.ms.flatten, a ∈ (g.wd k n).ms.flatten ∨ H a = none := f.newM
  have newF : ∀ a, g'.F a → g.F a ∨ H a = none ∨ a ∈ (g.wd k n).ms.flatten := f.newF
  have fl : (g.bk g' k n).ms.flatten = (g.ms.take k).flatten ++ (g'.ms.flatten ++ (g.ms.drop (k + n)).flatten) := by
    show (g.ms.take k ++ g'.ms ++ g.ms.drop (k + n)).flatten = _
    rw [List.flatten_append, List.flatten_append, List.append_assoc]
  have sep : ∀ a, (a ∈ (g.ms.take k).flatten ∨ a ∈ (g.ms.drop (k + n)).flatten) → a ∉ g'.ms.flatten := fun a h hg => by
    obtain ⟨h1, h2⟩ := all a h
    rcases newM a hg with q | q
    · exact h2 q
    · exact R.cs.mutSome a h1 q
  have sepF : ∀ a, (a ∈ (g.ms.take k).flatten ∨ a ∈ (g.ms.drop (k + n)).flatten) → ¬ g'.F a := fun a h hg => by
    obtain ⟨h1, h2⟩ := all a h
    rcases newF a hg with q | q | q
    · exact R.cs.ap a h1 q
    · exact R.cs.mutSome a h1 q
    · exact h2 q
  have wdm : ∀ a, a ∈ (g.wd k n).ms.flatten → a ∈ g.ms.flatten := fun a h => by
    rw [flat_wd (ms := g.ms) k n]
    exact List.mem_append_right _ (List.mem_append_left _ h)
  refine ⟨k2, R.gk k2 ⟨?_, ?_, fun j x h => ?_, ?_, fun a ha h => ?_, c.lv, c.tb, c.tf⟩ (R.fr.comp ⟨f.kt, fun a o h hu hm => keep a o h hu fun z => hm (wdm a z), f.tl, fun a h => ?_, fun a h => ?_⟩), has⟩
  · show g.as.length = _
    rw [List.length_append, List.length_append, List.length_map, List.length_take, List.length_drop]
    omega
  · show (g.ms.take k ++ g'.ms ++ g.ms.drop (k + n)).length = _
    have := c.lm
    rw [List.length_append, List.length_append, List.length_append, List.length_append, List.length_map, List.length_take, List.length_drop, List.length_take, List.length_drop]
    omega
  · have lt : (C.take k).length = k := by rw [List.length_take]; omega
    have ltm : (g.ms.take k).length = k := by rw [List.length_take]; omega
    have lc : (C'.map (unC k)).length = n := by rw [List.length_map]; exact hl
    have lgm : g'.ms.length = n := by rw [c.lm]; exact hl
    by_cases h1 : j < k
    · rw [List.append_assoc, List.getElem?_append_left (by omega), List.getElem?_take, if_pos h1] at h
      obtain ⟨a, m, q1, q2, q3⟩ := R.cs.at_ j x h
      refine ⟨a, m, q1, ?_, ?_⟩
      · show (g.ms.take k ++ g'.ms ++ g.ms.drop (k + n))[j]? = _
        rw [List.append_assoc, List.getElem?_append_left (by omega), List.getElem?_take, if_pos h1]
        exact q2
      · have hin : ∀ b ∈ m, b ∈ (g.ms.take k).flatten := fun b hb => mem_flat (k := j) (by rw [List.getElem?_take, if_pos h1]; exact q2) hb
        exact q3.keep k2 fun b hb => by
          obtain ⟨o, r1, hu⟩ := q3.ob b hb
          rw [r1]
          exact keep b o r1 hu (all b (.inl (hin b hb))).2
    · by_cases h2 : j < k + n
      · rw [List.append_assoc, List.getElem?_append_right (by omega), lt, List.getElem?_append_left (by omega), List.getElem?_map] at h
        cases e : C'[j - k]? with
        | none =>
          rw [e] at h
          cases h
        | some y =>
          rw [e] at h
          cases h
          obtain ⟨a, m, q1, q2, q3⟩ := c.at_ _ y e
          have hjk : j - k + k = j := by omega
          refine ⟨a, m, by have := has _ a q1; rw [hjk] at this; exact this, ?_, ?_⟩
          · show (g.ms.take k ++ g'.ms ++ g.ms.drop (k + n))[j]? = _
            rw [List.append_assoc, List.getElem?_append_right (by omega), ltm, List.getElem?_append_left (by omega)]
            exact q2
          · cases y with
            | lst ds => exact q3
            | frz ds => exact q3
            | pool os => exact q3
            | obj cc ws =>
              obtain ⟨e, Cc, ns, dx, vs, r1, r2, r3, r4⟩ := q3
              exact ⟨e, Cc, ns, dx, vs, r1, r2, r3, RWs.un has r4⟩
            | nil => exact q3
      · rw [List.append_assoc, List.getElem?_append_right (by omega), lt, List.getElem?_append_right (by omega), lc, List.getElem?_drop] at h
        have hj : k + n + (j - k - n) = j := by omega
        rw [hj] at h
        obtain ⟨a, m, q1, q2, q3⟩ := R.cs.at_ j x h
        have hm2 : (g.ms.drop (k + n))[j - k - n]? = some m := by
          rw [List.getElem?_drop, hj]
          exact q2
        refine ⟨a, m, q1, ?_, ?_⟩
        · show (g.ms.take k ++ g'.ms ++ g.ms.drop (k + n))[j]? = _
          rw [List.append_assoc, List.getElem?_append_right (by omega), ltm, List.getElem?_append_right (by omega), lgm]
          exact hm2
        · have hin : ∀ b ∈ m, b ∈ (g.ms.drop (k + n)).flatten := fun b hb => mem_flat hm2 hb
          exact q3.keep k2 fun b hb => by
            obtain ⟨o, r1, hu⟩ := q3.ob b hb
            rw [r1]
            exact keep b o r1 hu (all b (.inr (hin b hb))).2
  · rw [fl, List.nodup_append]
    refine ⟨nd1, List.nodup_append.mpr ⟨c.nd, nd5, fun a ha b hb e => sep b (.inr hb) (by rw [← e]; exact ha)⟩, fun a ha b hb e => ?_⟩
    rcases List.mem_append.mp hb with q | q
    · exact sep a (.inl ha) (by rw [e]; exact q)
    · exact nd3 a ha b (List.mem_append_right _ q) e
  · rw [fl, List.mem_append, List.mem_append] at ha
    rcases ha with q | q | q
    · exact sepF a (.inl q) h
    · exact c.ap a q h
    · exact sepF a (.inr q) h
  · rcases newF a h with q | q | q
    · exact .inl q
    · exact .inr (.inl q)
    · exact .inr (.inr (wdm a q))
  · rw [fl, List.mem_append, List.mem_append] at h
    rcases h with q | q | q
    · exact .inl (all a (.inl q)).1
    · rcases newM a q with z | z
      · exact .inl (wdm a z)
      · exact .inr z
    · exact .inl (all a (.inr q)).1
end
def putW (C C' : List Cell) (k n : Nat) : List Cell := C.take k ++ C'.map (unC k) ++ C.drop (k + n)
def callK (n m : Nat) (P : DSp) (RX : XD) (Q : DK) (ws : List W) (C1 : List Cell) : Option Nat → Prop
  | some k => ws.length = m ∧ k + n ≤ C1.length ∧ (ws.all (inW k n) && ((C1.drop k).take n).all (inC k n)) = true ∧
    P (ws.map (shW k)) (((C1.drop k).take n).map (shC k)) (fun w C' => Q (unW k w) (putW C1 C' k n)) fun c ds C' => RX c ds (putW C1 C' k n)
  | none => False
def dCallW (n m : Nat) (P : DSp) (a : DA) (RX : XD) : DE := fun E C Q => a E C fun ws C1 => callK n m P RX Q ws C1 (firstRef ws)
instance ce_callW {ct : Ct} {E : XK} {R : XD} {n m : Nat} {P : DSp} {E' : XK} {t : TA} {a : DA} [h : CA (ct.w E R) t a] : CE (ct.w E R) (tCall (spD ct (n + 1) m P) [] E' t) (dCallW (n + 1) m P a X0) := ⟨fun B g σ H Ev C Q K Re k q => by
  refine h.run B g σ H Ev C _ _ Re (fun vs H1 ⟨g1, C1, ws, k1, R1, r1, q1⟩ => ?_) q
  unfold callK at q1
  dsimp only at q1
  split at q1
  · rename_i j e
    obtain ⟨e1, e2, e3, q2⟩ := q1
    rw [Bool.and_eq_true] at e3
    rw [List.append_nil]
    refine ⟨g1.wd j (n + 1), _, _, _, _, by rw [← e1]; exact Paired.length r1, ?_, R1.cs.wd j (n + 1) e3.2, r1.wd e3.1, q2, fun v H' g' C' w k' f' c' l' r' q' => ?_, fun _ _ _ _ _ _ _ _ _ _ _ _ z => z.elim⟩
    · rw [List.length_map, List.length_take, List.length_drop]
      omega
    obtain ⟨k2, R2, h2⟩ := R1.calledW e2 k' f' c' l'
    exact k v H' ⟨_, _, _, k1.trans k2, R2, RW.un h2 r', q'⟩
  · exact q1.elim⟩
/-! ### names that are frozen, lists that are cells: the same terms under another name -/
section
variable {X : Cx}
theorem pvF (i : Nat) {x : Str} {pos : Pos} (hN : X.N[i]? = some x := by rfl) (hv : Vis X.env.scope x := by first | exact Or.inl rfl | exact Or.inr (Or.inl rfl) | exact Or.inr (Or.inr rfl)) (hd : (x == ("__debug__" : Str)) = false := by decide)
    (hcd : (x == ("__classdict__" : Str)) = false := by decide) : PE X (.Name x pos) (tVarF i) := pe_var hN hv hd hcd
theorem psC {st : Stmt} {te : TE} {i : Nat} (h : PS X st (tAsg te (gName i))) : PS X st (tAsgC te i) := h
end
/-! ### the law's start -/
def lawD : DEnds := { nx := fun _ _ => False, rt := fun w _ => w = .val (.bool true) }
abbrev st0 (ns : List Int) : Cell := .lst [.int 0, .int 0, .list (ns.map .int), .int 1]
def spLaw (K : PySem.W.Frag) (T : List (Addr × Str)) : Sp := fun vs H Q _ => ∃ (a : Addr) (ns : List Int), vs = [.ref a] ∧ SqL K H a (ns.map V.int) ∧ ns.length ≤ 63 ∧ LamX.Tabs T H ∧ ∀ H', Q (.bl true) H'
theorem RDs.ints {ct : Cl} {F : Addr → Prop} {H : Hp} : ∀ ns : List Int, RDs ct F H (ns.map V.int) (ns.map .int)
  | [] => .nil
  | n :: r => .cons (.int n) (RDs.ints r)
theorem law_body {ct : Ct} {K : PySem.W.Frag} {N : List Str} {tt : TS} {t : DS} {vs : List V} {H : Hp} {Q : VK} (c : CS (ct.w E0 X0) tt t) (hN : 2 ≤ N.length) (h : ∀ ns : List Int, ns.length ≤ 63 → t lawD ([none, some (.ref 0)] ++ List.replicate (N.length - 2) none) [st0 ns])
    (sp : spLaw K ct.cl.T vs H Q E0) : tSeq (tAsg (tLst (tCons (tC (.int 0)) (tCons (tC (.int 0)) (tCons (tCB (rListA K) (tCons (tVar 0) tNil)) (tCons (tC (.int 1)) tNil))))) (gName 1)) tt { nx := fun _ H' => Q .non H', rt := Q } (start N vs) H := by
  obtain ⟨a, ns, rfl, hS, hlen, hT, q⟩ := sp
  refine ⟨_, rfl, a, _, rfl, .inl hS, fun l hl => ?_⟩
  refine ⟨by show 4 ≤ sizeLine; decide, fun st hst => ?_⟩
  have nls : l ≠ st := ne_of_none upd_same hst
  have hl2 : upd (upd H l (.lst (ns.map V.int))) st (.lst [.int 0, .int 0, .ref l, .int 1]) l = some (.lst (ns.map V.int)) := by
    rw [upd_ne nls]
    exact upd_same
  have hs2 : upd (upd H l (.lst (ns.map V.int))) st (.lst [.int 0, .int 0, .ref l, .int 1]) st = some (.lst [.int 0, .int 0, .ref l, .int 1]) := upd_same
  have hT1 : LamX.Tabs ct.cl.T (upd (upd H l (.lst (ns.map V.int))) st (.lst [.int 0, .int 0, .ref l, .int 1])) := tabs_new (tabs_new hT hl) hst
  generalize upd (upd H l (.lst (ns.map V.int))) st (.lst [.int 0, .int 0, .ref l, .int 1]) = H0 at hl2 hs2 hT1
  have r : RDs ct.cl (fun b => b = l) H0 [V.int 0, .int 0, .ref l, .int 1] [.int 0, .int 0, .list (ns.map .int), .int 1] := .cons (.int 0) (.cons (.int 0) (.cons (.lst rfl hl2 (RDs.ints ns)) (.cons (.int 1) .nil)))
  have cz : Clz ct.cl ⟨fun b => b = l, [st], [[st]]⟩ H0 [st0 ns] := by
    refine ⟨rfl, rfl, fun k c h => ?_, by simp, fun b hb h => ?_, fun b h => ?_, hT1, fun q hq h => ?_⟩
    · cases k with
      | zero =>
        cases h
        exact ⟨st, [st], rfl, rfl, rfl, _, hs2, r⟩
      | succ k => simp at h
    · have e : b = st := by simpa using hb
      exact nls (by rw [← h, e])
    · rw [h, hl2]
      exact fun z => nomatch z
    · obtain ⟨ps, e⟩ := tab_some hT1 q hq
      rw [show q.1 = l from h, hl2] at e
      cases e
  refine c.run ⟨⟨fun b => b = l, [st], [[st]]⟩, H0⟩ ⟨fun b => b = l, [st], [[st]]⟩ _ H0 _ _ _ lawD ⟨fun i w h => ?_, ?_, cz, Fr0.self _ _, Gk.refl _ _, ?_⟩ ⟨?_, ?_, ?_, ?_⟩ (h ns hlen)
  · cases i with
    | zero => cases h
    | succ i =>
      cases i with
      | zero =>
        cases h
        refine ⟨.ref st, ?_, st, rfl, rfl⟩
        show ((L2.start N [V.ref a]).set 1 (some (.ref st)))[1]? = _
        rw [List.getElem?_set_self]
        show 1 < ([some (V.ref a)] ++ List.replicate (N.length - 1) none).length
        rw [List.length_append, List.length_replicate]
        show 1 < 1 + _
        omega
      | succ i =>
        have h' : ([none, some (W.ref 0)] ++ List.replicate (N.length - 2) (none : Option W))[i + 2]? = some (some w) := h
        rw [List.getElem?_append_right (by simp), List.getElem?_replicate] at h'
        split at h' <;> cases h'
  · show ((L2.start N [V.ref a]).set 1 (some (.ref st))).length = _
    rw [List.length_set]
    show ([some (V.ref a)] ++ List.replicate (N.length - 1) none).length = ([none, some (W.ref 0)] ++ List.replicate (N.length - 2) none).length
    rw [List.length_append, List.length_append, List.length_replicate, List.length_replicate]
    show 1 + _ = 2 + _
    omega
  · exact fun _ _ _ _ _ _ _ _ _ _ _ z => z.elim
  · exact fun _ _ _ _ _ _ _ z => z.elim
  · rintro v σ' H' g' E' C' w k R' rw_ e
    have e2 : w = .val (.bool true) := e
    subst e2
    rw [rw_bool rw_]
    exact q H'
  · exact fun _ _ _ _ _ _ _ z => z.elim
  · exact fun _ _ _ _ _ _ _ z => z.elim
end RR

namespace RX
open PySem PySem.Spec PyProof.Rows L2
/-! ### t[::-1] of a tuple -/
theorem back_pick (xs : List Value) : ((List.range xs.length).filterMap fun (k : Nat) => xs.toArray[((((xs.length : Nat) : Int) - 1) + (k : Int) * (-1)).toNat]?) = xs.reverse := by
  have key : ∀ n, n ≤ xs.length → ((List.range n).filterMap fun (k : Nat) => xs.toArray[((((xs.length : Nat) : Int) - 1) + (k : Int) * (-1)).toNat]?) = xs.reverse.take n := by
    intro n
    induction n with
    | zero => intro _; rfl
    | succ n ih =>
      intro h
      have e : ((((xs.length : Nat) : Int) - 1) + (n : Int) * (-1)).toNat = xs.length - 1 - n := by omega
      have hl : xs.length - 1 - n < xs.length := by omega
      have hr : xs.reverse[n]? = some xs[xs.length - 1 - n] := by
        rw [List.getElem?_reverse (by omega), List.getElem?_eq_getElem hl]
      have hx : xs.toArray[((((xs.length : Nat) : Int) - 1) + (n : Int) * (-1)).toNat]? = some xs[xs.length - 1 - n] := by
        rw [e, List.getElem?_toArray, List.getElem?_eq_getElem hl]
      rw [List.range_succ, List.filterMap_append, ih (by omega), List.take_add_one, hr, List.filterMap_cons, hx]
      rfl
  rw [key xs.length (Nat.le_refl _), List.take_of_length_le (by rw [List.length_reverse]; exact Nat.le_refl _)]
theorem back_adjust (n : Nat) : Builtin.Slice.sliceAdjust none none (-1) (n : Int) = ((n : Int) - 1, -1) := by
  unfold Builtin.Slice.sliceAdjust
  simp
theorem back_places (n : Nat) : Builtin.Slice.slicePlaces ((n : Int) - 1) (-1) (-1) = n := by
  unfold Builtin.Slice.slicePlaces
  simp
  omega
section
variable {prog : Program} {w : World} {A : Around} {E : Value → Shared → Prop} {s : Shared}
theorem applied_back {sl : Addr} {vs : Value} {n : Nat} {Q : Int × Int × Nat → Shared → Prop} (hs : s.heap.IsSliceOf sl .none .none vs) (ps : IsPart vs (some (-1))) (h : Q ((n : Int) - 1, -1, n) s) :
    wpAny (model prog w) A (Builtin.Slice.sliceApplied (.ref sl) (pure (n : Int))) Q E s := by
  obtain ⟨os, hos, hcs, hds⟩ := id hs
  unfold Builtin.Slice.sliceApplied Builtin.Slice.sliceFields
  refine wpAny_bind (wpAny_bind (wpAny_field hos hds (x := .none) rfl (wpAny_bind (wpAny_field hos hds (x := .none) rfl (wpAny_bind (wpAny_field hos hds (x := vs) rfl (wpAny_pure ?_)))))))
  refine wpAny_bind (HT.slicePart_ ps ?_)
  show wpAny _ _ (if ((-1 : Int) == 0) = true then _ else _) _ _ s
  rw [if_neg (by decide)]
  refine wpAny_bind (slicePart_none (wpAny_bind (slicePart_none (wpAny_bind (wpAny_pure ?_)))))
  show wpAny _ _ (match Builtin.Slice.sliceAdjust none none (-1) (n : Int) with | (lo, hi) => pure (lo, (-1 : Int), Builtin.Slice.slicePlaces lo hi (-1))) _ _ s
  rw [back_adjust n]
  show wpAny _ _ (pure ((n : Int) - 1, (-1 : Int), Builtin.Slice.slicePlaces ((n : Int) - 1) (-1) (-1))) _ _ s
  rw [back_places]
  exact wpAny_pure h
theorem getItem_tuple_back {t sl : Addr} {its : List Value} {vs : Value} {Q : Value → Shared → Prop} (ht : IsTup s.heap t its.toArray) (hs : s.heap.IsSliceOf sl .none .none vs) (ps : IsPart vs (some (-1)))
    (h : Q (.ref s.heap.objs.size) { s with heap := s.heap.push { cls := .type "tuple", data := .seq its.reverse.toArray } }) (hsz : its.length ≤ sizeLine) : wpAny (model prog w) A (getItem (.ref t) (.ref sl)) Q E s := by
  have htake : sizeOk (.seq its.reverse.toArray) := by
    show its.reverse.toArray.size ≤ sizeLine
    rw [List.size_toArray, List.length_reverse]
    exact hsz
  obtain ⟨os, hos, hcs, hds⟩ := id hs
  have hTs : s.TypeIs (.ref sl) "slice" := ⟨os, hos, hcs⟩
  unfold getItem
  try with_reducible refine wpAny_holding ?_
  first | refine wpAny_bind (wpAny_pure ?_) | skip
  refine wpAny_bind (wpAny_sequenceKey ht.typeIs (by decide) ?_)
  refine wpAny_bind (wpAny_callSpecial?_slot (name := Str.ofString "__getitem__") ht.typeIs PyProof.Rows.slot_tuple_getitem (wpAny_call_entry PyProof.Rows.slot_tuple_getitem ht.typeIs entry_tuple_getitem ?_ (args_tuple_getitem _ _)))
  show wpAny _ _ (Builtin.Tuple.tupleItemsOf (.ref t) >>= _) _ _ s
  refine wpAny_bind (tupleItemsOf_ ht ?_)
  refine wpAny_bind (wpAny_typeOf hTs ?_)
  rw [if_pos (by decide), List.size_toArray]
  refine wpAny_bind (applied_back hs ps ?_)
  have hno : ¬ ((((its.length : Int) - 1) == 0 && (-1 : Int) == 1 && its.length == its.length) = true) := by simp
  show wpAny _ _ (if (((its.length : Int) - 1) == 0 && (-1 : Int) == 1 && its.length == its.length) = true then _ else _) _ _ s
  rw [if_neg hno, back_pick]
  first
    | exact wpAny_bind (m := Builtin.Tuple.tupleExact _) (wpAny_newObj_type (wpAny_pure ⟨_, rfl, wpAny_pure h⟩) htake)
    | exact wpAny_bind (m := Builtin.Tuple.tupleExact _) (wpAny_newObj_type (wpAny_bind (wpAny_pure (wpAny_pure ⟨_, rfl, wpAny_pure h⟩))) htake)
    | exact wpAny_bind (wpAny_bind (m := Builtin.Tuple.tupleExact _) (wpAny_newObj_type (wpAny_pure (wpAny_pure ⟨_, rfl, wpAny_pure h⟩)) htake))
end
theorem ext_tup (l b : Addr) (items items2 : Array Value) (n n2 : Nat) (dd : Option Addr) (sl : Array (Option Value)) (hs0 : ¬(!items.isEmpty && Builtin.List.listTooLong (items.size + items2.size)) = true) (hs1 : items.size ≤ sizeLine) (hs2 : items.size + items2.size ≤ sizeLine + 1) :
    Meets (Builtin.«list.extend» ⟨[.ref l, .ref b], []⟩) (fun _ R s => s.heap.get? l = some { cls := .type "list", dict := none, data := .seq items n, slots := #[] } ∧ s.heap.get? b = some { cls := .type "tuple", dict := dd, data := .seq items2 n2, slots := sl } ∧
      R (.ok (.ret Value.none)) { s with heap := s.heap.update l (Obj.mapSeq fun x => x ++ items2), toks := s.toks }) := .of_wp fun prog w A R s h => by
  obtain ⟨hp, g, d, tk, os⟩ := s
  obtain ⟨hl, hb, h⟩ := h
  have f1 := AutoSeq1.idx_int
  have f2 := AutoSeq1.sub_tuple_tuple
  have f3 := AutoSeq1.sub_list_list
  have f4 := AutoSeq1.sub_tuple_list
  have f5 := AutoSeq1.sub_list_tuple
  have hz' : (items ++ items2).size ≤ sizeLine + 1 := by
    rw [Array.size_append]
    exact hs2
  wp_walk using (wpAny_updateSeq hl rfl (hz := hs1) (_hz' := hz')), AutoSeq1.wpAny_loadPart' hl, AutoSeq1.wpAny_loadPart' hb
  exact ⟨_, rfl, h⟩
section
variable {X : Cx}
def tRevT (K : PySem.W.Frag) (te : TE) : TE := fun σ H Q => te σ H fun x H1 => ∃ a xs, x = .ref a ∧ SqT K H1 a xs ∧ ∀ p, H1 p = none → Q (.ref p) (upd H1 p (.tup xs.reverse))
theorem pe_revT {e : Expr} {te : TE} {k : Nat} {p1 p2 p3 pos : Pos} (he : PE X e te) : PE X (.Subscript e (.Slice none none (some (.UnaryOp .USub (.Constant (.int 1) k p1) p2)) p3) pos) (tRevT X.K te) := by
  refine ⟨fun pins s σ H Q I h => Subscript_ (thn (he.run pins s σ H _ I h) fun v s1 ⟨x, H1, I1, r1, q1⟩ => ?_)⟩
  obtain ⟨a, xs, ex, hx, q⟩ := q1
  subst ex
  cases r1
  have hst : PO X (some (.UnaryOp .USub (.Constant (.int 1) k p1) p2)) (tPart (tUn (rU fun i => .int (-i)) (tC (.int 1)))) := po_some (pe_un un_neg pe_int)
  refine wpAny_Slice (thn (po_none.run pins s1 σ H1 (fun o H2 => o = none ∧ H2 = H1) I1 ⟨rfl, rfl⟩) fun vl s2 ⟨l, H2, I2, pl, el, e2⟩ => ?_)
  subst el e2
  refine thn (po_none.run pins s2 σ H2 (fun o H3 => o = none ∧ H3 = H2) I2 ⟨rfl, rfl⟩) fun vu s3 ⟨u, H3, I3, pu, eu, e3⟩ => ?_
  subst eu e3
  refine thn (hst.run pins s3 σ H3 (fun o H4 => o = some (-1) ∧ H4 = H3) I3 ⟨1, rfl, -1, rfl, rfl, rfl⟩) fun vs s4 ⟨o, H4, I4, ps, eo, e4⟩ => ?_
  subst eo e4
  cases pl
  cases pu
  have I5 : Inv X pins σ H4 { s4 with heap := s4.heap.push { cls := .type "slice", data := .fields #[.none, .none, vs] } } := I4.kept (t' := s4.toks) fun b ob q => Heap.get?_push_of_some _ q
  obtain ⟨its, r, ht, hz⟩ := I5.tuple hx
  have hlen := r.length
  show wpAny (model X.prog X.w) X.A (subscriptTail e (.Slice none none (some (.UnaryOp .USub (.Constant (.int 1) k p1) p2)) p3) (.ref a) (.ref s4.heap.objs.size)) (EP X pins σ Q) X.xe { s4 with heap := s4.heap.push { cls := .type "slice", data := .fields #[.none, .none, vs] } }
  refine tail_any (ops := [.ref a, .ref s4.heap.objs.size]) ht.typeIs PyProof.Rows.slot_tuple_getitem.lookup ?_ (by with_unfolding_all rfl)
  refine getItem_tuple_back ht (Heap.IsSliceOf.new _ .none .none vs) ps ?_ (by omega)
  exact ⟨.ref _, _, I5.laid (t' := s4.toks) (o := .tup xs.reverse) (fun b ob q => Heap.get?_push_of_some _ q) (Nat.le_refl _) ⟨by rw [List.length_reverse]; exact hz, _, r.reverse, IsTup.new _ _⟩, rfl, q _ (I5.hok.fresh (Nat.le_refl _))⟩
/-! ### xs.extend(t), t a tuple -/
def rExtT (K : PySem.W.Frag) : V → List V → Hp → VK → Prop := fun x vs H Q => ∃ l b xs zs, x = .ref l ∧ vs = [.ref b] ∧ H l = some (.lst xs) ∧ H b = some (.tup zs) ∧ xs.length + zs.length ≤ sizeLine ∧ Q .non (upd H l (.lst (xs ++ zs)))
theorem mt_extT : MtM X "list.extend" (rExtT X.K) := by
  intro pins s σ H x vs v us Q I rx rv h
  obtain ⟨l, b, xs, zs, rfl, rfl, hH, hB, hz, q⟩ := h
  cases rx
  obtain ⟨u, rfl, ru⟩ := rv.one
  cases ru
  obtain ⟨z, its, n, r, hl, e⟩ := I.lstM hH
  obtain ⟨z2, its2, r2, o, e2, hc, n2, hd⟩ := (show ObjOk X.prog X.w H s.heap b (.tup zs) from I.hok b _ hB)
  obtain ⟨oc, od, dt, osl⟩ := o
  simp only at hc hd
  subst hc hd
  have l2 := r2.length
  have hsz : its.toArray.size + its2.toArray.size ≤ sizeLine := by
    rw [List.size_toArray, List.size_toArray]
    omega
  have hlong : ¬ (!its.toArray.isEmpty && Builtin.List.listTooLong (its.toArray.size + its2.toArray.size)) = true := by
    rw [notLongL hsz, Bool.and_false]
    exact Bool.false_ne_true
  refine call_meets F.slot_list_extend ⟨_, e, rfl⟩ F.entry_list_extend (F.args_list_extend_2 _ _) (ext_tup l b its.toArray its2.toArray n n2 od osl hlong (by omega) (by omega)) ⟨e, e2, ?_⟩
  exact ⟨.non, _, I.lset (its' := its ++ its2) hH e (by simp) (r.append r2) (by rw [List.length_append]; omega), rfl, q⟩
end
end RX

namespace RR
open PySem PySem.Spec PyProof.Rows L2
/-! ### t[::-1] -/
def revTK (Q : DK) : W → List Cell → Prop
  | .val (.tuple ds), C1 => Q (.val (.tuple ds.reverse)) C1
  | _, _ => False
def dRevT (a : DE) : DE := fun E C Q => a E C (revTK Q)
instance ce_revT {ct : Ct} {K : PySem.W.Frag} {t : TE} {a : DE} [h : CE ct t a] : CE ct (RX.tRevT K t) (dRevT a) := ⟨fun B g σ H E C Q K' R k q => by
  refine h.run B g σ H E C _ _ R (fun v H1 ⟨g1, C1, x, k1, R1, r1, q1⟩ => ?_) q
  unfold revTK at q1
  split at q1
  · obtain ⟨a, xs, rfl, h1, h2⟩ := rw_tup r1
    exact ⟨a, xs, rfl, SqT.of h1, fun p hp => post_tup R1 hp h2.rev (fun v' H' p => k v' H' (p.back k1)) q1⟩
  · exact q1.elim⟩
/-! ### extend by a list or a tuple -/
def rExtA (K : PySem.W.Frag) : V → List V → Hp → VK → Prop := fun x vs H Q => rExtend x vs H Q ∨ RX.rExtT K x vs H Q
theorem mt_extA {X : Cx} : MtM X "list.extend" (rExtA X.K) := by
  intro pins s σ H x xs v us Q I r rs h
  rcases h with h | h
  · exact mt_extend pins s σ H x xs v us Q I r rs h
  · exact RX.mt_extT pins s σ H x xs v us Q I r rs h
def fExtA : W → List W → List Cell → DK → Prop
  | .ref k, [y], C, Q => extK k Q C[k]? (rdS C y) C
  | _, _, _, _ => False
instance cm_extA {ct : Ct} {K : PySem.W.Frag} : CM ct (rExtA K) fExtA := ⟨fun B g σ H E C Q v vs w ws K' R kk r rs q => by
  unfold fExtA at q
  split at q
  · rename_i k yw
    obtain ⟨a, ha, rfl⟩ := r
    obtain ⟨y, rfl, r1⟩ := rws1 rs
    unfold extK at q
    split at q
    · rename_i ds es e e2
      obtain ⟨xs, hm, h1, h2, h3⟩ := cell_lst R.cs e ha
      cases yw with
      | val d =>
        cases d with
        | tuple zs =>
          cases e2
          obtain ⟨b, ys, rfl, h4, h5⟩ := rw_tup r1
          obtain ⟨k3, R3⟩ := R.write e ha (h2.app h5)
          exact .inr ⟨a, b, xs, ys, rfl, rfl, h1, h4, by rw [h2.length, h5.length]; exact q.1, kk _ _ ⟨g, _, .val .none, k3, R3, RD.non, q.2⟩⟩
        | list zs =>
          cases e2
          obtain ⟨b, ys, rfl, h4, h5⟩ := rdL_ok R.cs r1 (ds := es) rfl
          obtain ⟨k3, R3⟩ := R.write e ha (h2.app h5)
          exact .inl ⟨a, b, xs, ys, rfl, rfl, h1, h4, by rw [h2.length, h5.length]; exact q.1, kk _ _ ⟨g, _, .val .none, k3, R3, RD.non, q.2⟩⟩
        | _ => cases e2
      | ref j =>
        obtain ⟨b, ys, rfl, h4, h5⟩ := rdL_ok R.cs r1 e2
        obtain ⟨k3, R3⟩ := R.write e ha (h2.app h5)
        exact .inl ⟨a, b, xs, ys, rfl, rfl, h1, h4, by rw [h2.length, h5.length]; exact q.1, kk _ _ ⟨g, _, .val .none, k3, R3, RD.non, q.2⟩⟩
      | ty n => cases e2
      | fn => cases e2
      | dct ds => cases e2
    · exact q.elim
  · exact q.elim⟩
def dRevL (a : DE) : DE := fun E C Q => a E C fun x C1 => mkL (fun ds => .list ds.reverse) Q (rdL C1 x) C1
instance ce_revL {ct : Ct} {K : PySem.W.Frag} {t : TE} {a : DE} [h : CE ct t a] : CE ct (tRevL K t) (dRevL a) := ⟨fun B g σ H E C Q K' R k q => by
  refine h.run B g σ H E C _ _ R (fun v H1 ⟨g1, C1, x, k1, R1, r1, q1⟩ => ?_) q
  unfold mkL at q1
  dsimp only at q1
  split at q1
  · rename_i ds e
    obtain ⟨a, xs, rfl, h1, h2⟩ := rdL_ok R1.cs r1 e
    exact ⟨a, xs, rfl, SqL.of h1, fun p hp => post_lst R1 hp h2.rev (fun v' H' p => k v' H' (p.back k1)) q1⟩
  · exact q1.elim⟩
/-! ### min, max of two -/
def rMin2 : List V → Hp → VK → Prop := fun xs H Q => ∃ i j, xs = [.int i, .int j] ∧ Q (.int (if j < i then j else i)) H
def rMax2 : List V → Hp → VK → Prop := fun xs H Q => ∃ i j, xs = [.int i, .int j] ∧ Q (.int (if j > i then j else i)) H
theorem call_minA {X : Cx} (hc : X.calm = true) : CallR X (.builtin "min") rMin2 := call_min2 hc
theorem call_maxA {X : Cx} (hc : X.calm = true) : CallR X (.builtin "max") rMax2 := call_max2 hc
def f2I (h : Int → Int → Int) : List W → List Cell → DK → Prop
  | [.val (.int i), .val (.int j)], C, Q => Q (.val (.int (h i j))) C
  | _, _, _ => False
instance cc_min2 {ct : Ct} : CC ct rMin2 (f2I fun i j => if j < i then j else i) := ⟨fun B g σ H E C Q vs ws K' R k r q => by
  unfold f2I at q
  split at q
  · obtain ⟨v, x, rfl, r1, r2⟩ := rws2 r
    exact ⟨_, _, by rw [rw_int r1, rw_int r2], post_val R (w := .val (.int _)) (.int _) k q⟩
  · exact q.elim⟩
instance cc_max2 {ct : Ct} : CC ct rMax2 (f2I fun i j => if j > i then j else i) := ⟨fun B g σ H E C Q vs ws K' R k r q => by
  unfold f2I at q
  split at q
  · obtain ⟨v, x, rfl, r1, r2⟩ := rws2 r
    exact ⟨_, _, by rw [rw_int r1, rw_int r2], post_val R (w := .val (.int _)) (.int _) k q⟩
  · exact q.elim⟩
theorem at0 {α : Type} (x : α) (xs : List α) : atI (x :: xs) 0 = some x := atI_nat (j := 0) rfl
theorem at1 {α : Type} (x y : α) (xs : List α) : atI (x :: y :: xs) 1 = some y := atI_nat (j := 1) rfl
theorem at2 {α : Type} (x y z : α) (xs : List α) : atI (x :: y :: z :: xs) 2 = some z := atI_nat (j := 2) rfl
theorem at3 {α : Type} (x y z u : α) (xs : List α) : atI (x :: y :: z :: u :: xs) 3 = some u := atI_nat (j := 3) rfl
/-! ### how loops and comprehensions are answered -/
/-- a while: by states a with a measure -/
theorem dWhile_by {α : Type} {c : DT} {b : DS} {D : DEnds} {E : Ev} {C : List Cell} (I : α → Ev → List Cell → Prop) (μ : α → Nat) (a0 : α) (h0 : I a0 E C)
    (turn : ∀ a E C, I a E C → c E C fun k C1 => if k = true then b { D with nx := fun E C => ∃ a', μ a' < μ a ∧ I a' E C, ct := fun E C => ∃ a', μ a' < μ a ∧ I a' E C, bk := D.nx } E C1 else D.nx E C1) : dWhile c b D E C := by
  refine ⟨fun m E C => ∃ a, μ a = m ∧ I a E C, ⟨μ a0, a0, rfl, h0⟩, ?_⟩
  rintro m E C ⟨a, rfl, i⟩
  have e : (fun E C => ∃ m', m' < μ a ∧ ∃ a', μ a' = m' ∧ I a' E C) = fun E C => ∃ a', μ a' < μ a ∧ I a' E C := by
    funext E C
    refine propext ⟨fun ⟨m', h1, a', h2, h3⟩ => ⟨a', by rw [h2]; exact h1, h3⟩, fun ⟨a', h1, h2⟩ => ⟨_, h1, a', rfl, h2⟩⟩
  rw [e]
  exact turn a E C i
/-- a for: by what is left -/
theorem dForGo_ind {h : DG} {b : DS} {D : DEnds} (I : List PyData → Ev → List Cell → Prop) (nil : ∀ E C, I [] E C → D.nx E C)
    (cons : ∀ x xs E C, I (x :: xs) E C → ∀ N : Ev → List Cell → Prop, (∀ E C, I xs E C → N E C) → h (.val x) E C fun E2 C2 => b { D with nx := N, ct := N, bk := D.nx } E2 C2) : ∀ ds E C, I ds E C → dForGo h b D ds E C
  | [], E, C, i => nil E C i
  | x :: xs, E, C, i => cons x xs E C i _ fun E C i' => dForGo_ind I nil cons xs E C i'
/-- a for over an image, by what has been taken -/
theorem dForGo_map {α : Type} {h : DG} {b : DS} {D : DEnds} (f : α → PyData) (full : List α) (I : List α → Ev → List Cell → Prop)
    (turn : ∀ pre a post E C, full = pre ++ a :: post → I pre E C → ∀ N : Ev → List Cell → Prop, (∀ E C, I (pre ++ [a]) E C → N E C) → h (.val (f a)) E C fun E2 C2 => b { D with nx := N, ct := N, bk := D.nx } E2 C2)
    (after : ∀ E C, I full E C → D.nx E C) {E : Ev} {C : List Cell} (start : I [] E C) : dForGo h b D (full.map f) E C := by
  have key : ∀ (post pre : List α) (E : Ev) (C : List Cell), full = pre ++ post → I pre E C → dForGo h b D (post.map f) E C := by
    intro post
    induction post with
    | nil =>
      intro pre E C e i
      rw [List.append_nil] at e
      subst e
      exact after E C i
    | cons a post ih =>
      intro pre E C e i
      exact turn pre a post E C e i _ fun E' C' i' => ih (pre ++ [a]) E' C' (by rw [List.append_assoc]; exact e) i'
  exact key full [] E C rfl start
theorem dForGo_pre {h : DG} {b : DS} {D : DEnds} (full : List PyData) (I : List PyData → Ev → List Cell → Prop)
    (turn : ∀ pre a post E C, full = pre ++ a :: post → I pre E C → ∀ N : Ev → List Cell → Prop, (∀ E C, I (pre ++ [a]) E C → N E C) → h (.val a) E C fun E2 C2 => b { D with nx := N, ct := N, bk := D.nx } E2 C2)
    (after : ∀ E C, I full E C → D.nx E C) {E : Ev} {C : List Cell} (start : I [] E C) : dForGo h b D full E C := by
  have := dForGo_map (h := h) (b := b) (D := D) (fun x => x) full I turn after start
  rw [List.map_id' full] at this
  exact this
theorem dForGo_range {h : DG} {b : DS} {D : DEnds} {lo : Int} (n : Nat) (I : Nat → Ev → List Cell → Prop)
    (turn : ∀ i E C, i < n → I i E C → ∀ N : Ev → List Cell → Prop, (∀ E C, I (i + 1) E C → N E C) → h (.val (.int (lo + (i : Nat)))) E C fun E2 C2 => b { D with nx := N, ct := N, bk := D.nx } E2 C2)
    (after : ∀ E C, I n E C → D.nx E C) {E : Ev} {C : List Cell} (start : I 0 E C) : dForGo h b D (rangeD lo n) E C := by
  refine dForGo_map (fun i : Nat => PyData.int (lo + (i : Nat))) (List.range n) (fun pre E C => I pre.length E C ∧ pre.length ≤ n) ?_ ?_ ⟨start, Nat.zero_le _⟩
  · rintro pre a post E C e ⟨i, hl⟩ N hN
    have h1 : (List.range n)[pre.length]? = some a := by rw [e]; exact List.getElem?_append_right (Nat.le_refl _) |>.trans (by simp)
    have h2 : pre.length < n := by
      have := congrArg List.length e
      rw [List.length_range, List.length_append, List.length_cons] at this
      omega
    rw [List.getElem?_range h2] at h1
    cases h1
    exact turn _ E C h2 i N fun E' C' i' => hN E' C' ⟨by rw [List.length_append]; exact i', by rw [List.length_append]; exact h2⟩
  · rintro E C ⟨i, _⟩
    rw [List.length_range] at i
    exact after E C i
/-- a comprehension: by what is left and what is made -/
theorem dLcGo_ind {h : DG} {tt : DT} {te : DE} {E : Ev} {Q : List D → List Cell → Prop} (I : List D → List D → List Cell → Prop) (nil : ∀ acc C, I [] acc C → Q acc C)
    (cons : ∀ x xs acc C, I (x :: xs) acc C → ∀ N : List D → List Cell → Prop, (∀ acc C, I xs acc C → N acc C) → h (.val x) E C fun E2 C1 => tt E2 C1 fun b C2 => if b = true then te E2 C2 (accK acc.length fun d C3 => N (acc ++ [d]) C3) else N acc C2) : ∀ ds acc C, I ds acc C → dLcGo h tt te E ds acc C Q
  | [], acc, C, i => nil acc C i
  | x :: xs, acc, C, i => cons x xs acc C i (fun acc C => dLcGo h tt te E xs acc C Q) fun acc C i' => dLcGo_ind I nil cons xs acc C i'
/-- .. that only filters and maps -/
theorem dLcGo_fm {h : DG} {tt : DT} {te : DE} {E : Ev} {Q : List D → List Cell → Prop} {C : List Cell} (p : D → Bool) (f : D → D) : ∀ (ds acc : List D), acc.length + ds.length ≤ sizeLine →
    (∀ x ∈ ds, ∀ (K : DK) (L : List Cell → Prop), (p x = true → K (.val (f x)) C) → (p x = false → L C) → h (.val x) E C fun E2 C1 => tt E2 C1 fun b C2 => if b = true then te E2 C2 K else L C2) →
    Q (acc ++ (ds.filter p).map f) C → dLcGo h tt te E ds acc C Q
  | [], acc, hl, cons, q => by
    rw [List.filter_nil, List.map_nil, List.append_nil] at q
    exact q
  | x :: xs, acc, hl, cons, q => by
    rw [List.length_cons] at hl
    have rest := fun y hy => cons y (List.mem_cons_of_mem _ hy)
    refine cons x List.mem_cons_self _ _ (fun e => ?_) fun e => ?_
    · refine ⟨by omega, dLcGo_fm p f xs (acc ++ [f x]) (by rw [List.length_append]; show acc.length + 1 + xs.length ≤ _; omega) rest ?_⟩
      rw [List.filter_cons, if_pos e, List.map_cons] at q
      rw [List.append_assoc]
      exact q
    · refine dLcGo_fm p f xs acc (by omega) rest ?_
      rw [List.filter_cons, if_neg (by rw [e]; decide)] at q
      exact q
/-- .. that only maps -/
theorem dLcGo_map {h : DG} {te : DE} {E : Ev} {Q : List D → List Cell → Prop} {C : List Cell} (f : D → D) (ds : List D) (hl : ds.length ≤ sizeLine)
    (cons : ∀ x ∈ ds, ∀ K : DK, K (.val (f x)) C → h (.val x) E C fun E2 C1 => te E2 C1 K) (q : Q (ds.map f) C) : dLcGo h dYes te E ds [] C Q := by
  refine dLcGo_fm (fun _ => true) f ds [] (by show 0 + _ ≤ _; omega) (fun x hx K L h1 _ => ?_) ?_
  · exact cons x hx K (h1 rfl)
  · rw [List.filter_eq_self.mpr fun _ _ => rfl]
    exact q
theorem okDi (i : Int) : (SeqAt.shaped (PyData.int i) = true) = True := eq_true rfl
theorem okDb (i : Bool) : (SeqAt.shaped (PyData.bool i) = true) = True := eq_true rfl
theorem okDn : (SeqAt.shaped PyData.none = true) = True := eq_true rfl
theorem eqvi (i j : Int) : PyData.eqv (.int i) (.int j) = decide (i = j) := rfl
theorem eqvs (i j : Str) : PyData.eqv (.str i) (.str j) = decide (i = j) := rfl
theorem okDs_of {z : Str} (h : ∀ c ∈ z.cps.toList, c < 128) : okD (.str z) := by
  have h1 : z.cps.all (· < 0x110000) = true := by
    rw [← Array.all_toList, List.all_eq_true]
    exact fun x hx => decide_eq_true (Nat.lt_trans (h x hx) (by decide))
  have h2 : (PyData.str z).canLay0 = true := h1
  unfold okD SeqAt.shaped
  rw [h2]
  rfl
/-! ### the same rules where the context is a comprehension's -/
section
variable {X : Cx} {K : PySem.W.Frag} (h : X.K = K)
include h
theorem ix_seqC : IxR X (rIx K) := h ▸ ix_seq
theorem op_addC : OpR X (binaryOp .Add) (rAddA K) := h ▸ op_addA
theorem op_eqC (hu : X.A.units + 64 < cLine) : OpR X (compareOp .Eq) (rEqD K) := h ▸ op_eqD hu
theorem op_neC (hu : X.A.units + 64 < cLine) : OpR X (compareOp .NotEq) (rNeD K) := h ▸ op_neD hu
theorem sl_anyC : SlR X (rSlN K) := h ▸ sl_any
theorem call_lenC : CallR X (.builtin "len") (rLenA K) := h ▸ call_lenA
theorem call_listC : CallR X (.type "list") (rListA K) := h ▸ call_listA
theorem call_tupC : CallR X (.type "tuple") (rTupA K) := h ▸ call_tupA
theorem cr_sumC (hc : X.calm = true) : CallR X (.builtin "sum") (rSum K) := h ▸ cr_sum hc
theorem cr_allC (hc : X.calm = true) : CallR X (.builtin "all") (rAll K) := h ▸ cr_all hc
theorem call_isiC : CallR X (.builtin "isinstance") (rIsi K) := h ▸ call_isi
theorem pi_seqC {tg l : Expr} {tl : TE} (hl : PE X l tl) : PI X tg l (iSeqA K tl) := h ▸ pi_seqA hl
theorem pt_truC {a : Expr} {ta : TE} (ha : PE X a ta) (he : ∀ whole, isTrue a X.env whole = (do let v ← whole; standAt a.pos; holding [v] (truthy v)) := by intro _; rfl) : PT X a (tTruA K ta) := h ▸ pt_truA ha he
end
/-- a comprehension over an image that only filters and maps -/
theorem dLcGo_over {α : Type} {h : DG} {tt : DT} {te : DE} {E : Ev} {Q : List D → List Cell → Prop} {C : List Cell} (g : α → D) (p : α → Bool) (f : α → D) : ∀ (xs : List α) (acc : List D), acc.length + xs.length ≤ sizeLine →
    (∀ x ∈ xs, ∀ (K : DK) (L : List Cell → Prop), (p x = true → K (.val (f x)) C) → (p x = false → L C) → h (.val (g x)) E C fun E2 C1 => tt E2 C1 fun b C2 => if b = true then te E2 C2 K else L C2) →
    Q (acc ++ (xs.filter p).map f) C → dLcGo h tt te E (xs.map g) acc C Q
  | [], acc, hl, cons, q => by
    rw [List.filter_nil, List.map_nil, List.append_nil] at q
    exact q
  | x :: xs, acc, hl, cons, q => by
    rw [List.length_cons] at hl
    have rest := fun y hy => cons y (List.mem_cons_of_mem _ hy)
    refine cons x List.mem_cons_self _ _ (fun e => ?_) fun e => ?_
    · refine ⟨by omega, dLcGo_over g p f xs (acc ++ [f x]) (by rw [List.length_append]; show acc.length + 1 + xs.length ≤ _; omega) rest ?_⟩
      rw [List.filter_cons, if_pos e, List.map_cons] at q
      rw [List.append_assoc]
      exact q
    · refine dLcGo_over g p f xs acc (by omega) rest ?_
      rw [List.filter_cons, if_neg (by rw [e]; decide)] at q
      exact q
theorem dLcGo_each {α : Type} {h : DG} {te : DE} {E : Ev} {Q : List D → List Cell → Prop} {C : List Cell} (g : α → D) (f : α → D) (xs : List α) (hl : xs.length ≤ sizeLine)
    (cons : ∀ x ∈ xs, ∀ K : DK, K (.val (f x)) C → h (.val (g x)) E C fun E2 C1 => te E2 C1 K) (q : Q (xs.map f) C) : dLcGo h dYes te E (xs.map g) [] C Q := by
  refine dLcGo_over g (fun _ => true) f xs [] (by show 0 + _ ≤ _; omega) (fun x hx K L h1 _ => ?_) ?_
  · exact cons x hx K (h1 rfl)
  · rw [List.filter_eq_self.mpr fun _ _ => rfl]
    exact q
theorem if_of {P : Prop} {c : Bool} {A B : Prop} (h : c = true ↔ P) (a : P → A) (b : ¬ P → B) : if c = true then A else B := by
  by_cases e : c = true
  · rw [if_pos e]
    exact a (h.mp e)
  · rw [if_neg e]
    exact b fun z => e (h.mpr z)
/-- a test, both ways -/
theorem ifd {P A B : Prop} [Decidable P] (a : P → A) (b : ¬ P → B) : if decide P = true then A else B := if_of (by simp) a b
/-! ### -x -/
def unK (f : Int → Int) (Q : DK) : W → List Cell → Prop
  | .val (.int i), C => Q (.val (.int (f i))) C
  | _, _ => False
def dUn (f : Int → Int) (a : DE) : DE := fun E C Q => a E C (unK f Q)
instance ce_un {ct : Ct} {f : Int → Int} {t : TE} {a : DE} [h : CE ct t a] : CE ct (tUn (rU fun i => .int (f i)) t) (dUn f a) := ⟨fun B g σ H E C Q K' R k q => by
  refine h.run B g σ H E C _ _ R (fun v H1 ⟨g1, C1, x, k1, R1, r1, q1⟩ => ?_) q
  unfold unK at q1
  split at q1
  · exact ⟨_, rw_int r1, k _ _ ⟨g1, C1, .val (.int _), k1, R1, .int _, q1⟩⟩
  · exact q1.elim⟩
/-- one statement, then the others -/
theorem dSeq_go {a b : DS} {D : DEnds} {E : Ev} {C : List Cell} (h : a { D with nx := fun E C => b D E C } E C) : dSeqS a b D E C := h
/-- .. by what holds between them -/
theorem dSeq_cut {a b : DS} {D : DEnds} {E : Ev} {C : List Cell} (I : Ev → List Cell → Prop) (ha : ∀ N : Ev → List Cell → Prop, (∀ E C, I E C → N E C) → a { D with nx := N } E C) (hb : ∀ E C, I E C → b D E C) : dSeqS a b D E C := ha _ hb
theorem zip_map {α : Type} (f : α → D) : ∀ xs ys : List α, zipD (xs.map f) (ys.map f) = (xs.zip ys).map fun p => .tuple [f p.1, f p.2]
  | [], _ => rfl
  | _ :: _, [] => rfl
  | x :: xs, y :: ys => congrArg (PyData.tuple [f x, f y] :: ·) (zip_map f xs ys)
/-! ### objects: instances of the program's classes, frozen as data or in a cell -/
/-- of each class in the table: its names, that they are the instance's alone -/
class CtOk (K : PySem.W.Frag) (ct : Ct) : Prop where
  ok : ∀ c C ns, ct.cl c = some (C, ns) → ns = clsF c ∧ Cls K C ∧ ∀ f ∈ ns, NoAttr K C f
instance {K : PySem.W.Frag} {ct : Ct} {E : XK} {R : XD} [h : CtOk K ct] : CtOk K (ct.w E R) := ⟨h.ok⟩
/-- the class at C is number c -/
class ClA (ct : Ct) (C : Addr) (c : outParam Int) : Prop where
  at_ : ct.cl c = some (C, clsF c)
instance {ct : Ct} {C : Addr} {c : Int} {E : XK} {R : XD} [h : ClA ct C c] : ClA (ct.w E R) C c := ⟨h.at_⟩
def fldOf {α : Type} (c : Int) (f : Str) (xs : List α) : Option α := ((clsF c).zip xs).lookup f
theorem lookup_zip {α : Type} (f : Str) : ∀ (ns : List Str) (xs : List α) (x : α), (ns.zip xs).lookup f = some x → ∃ i : Nat, ns[i]? = some f ∧ xs[i]? = some x ∧ ∀ {β : Type} (ys : List β) (y : β), ys[i]? = some y → (ns.zip ys).lookup f = some y
  | [], _, _, h => nomatch h
  | _ :: _, [], _, h => nomatch h
  | n :: ns, x0 :: xs, x, h => by
    have h' : (match f == n with | true => some x0 | false => (ns.zip xs).lookup f) = some x := h
    by_cases e : f = n
    · subst e
      rw [beq_self_eq_true] at h'
      refine ⟨0, rfl, h', fun ys y hy => ?_⟩
      cases ys with
      | nil => cases hy
      | cons y0 ys =>
        show (match f == f with | true => some y0 | false => (ns.zip ys).lookup f) = some y
        rw [beq_self_eq_true]
        exact hy
    · have eb : (f == n) = false := beq_false_of_ne e
      rw [eb] at h'
      obtain ⟨i, h1, h2, h3⟩ := lookup_zip f ns xs x h'
      refine ⟨i + 1, h1, h2, fun ys y hy => ?_⟩
      cases ys with
      | nil => cases hy
      | cons y0 ys =>
        show (match f == n with | true => some y0 | false => (ns.zip ys).lookup f) = some y
        rw [eb]
        exact h3 ys y hy
def fldW (Q : DK) : Option W → List Cell → Prop
  | some w, C => Q w C
  | none, _ => False
def fldC (f : Str) (Q : DK) : Option Cell → List Cell → Prop
  | some (.obj c ws), C => fldW Q (fldOf c f ws) C
  | _, _ => False
def fldK (f : Str) (Q : DK) : W → List Cell → Prop
  | .val (.dict [(.int c, .list ds)]), C => ixK Q (fldOf c f ds) C
  | .ref k, C => fldC f Q C[k]? C
  | _, _ => False
def dFld (f : Str) (a : DE) : DE := fun E C Q => a E C (fldK f Q)
theorem Paired.at {α β : Type} {R : α → β → Prop} : ∀ {xs : List α} {ys : List β}, Paired R xs ys → ∀ (i : Nat) (y : β), ys[i]? = some y → ∃ x, xs[i]? = some x ∧ R x y
  | _, _, .nil, i, y, h => by simp at h
  | _, _, .cons h1 h, 0, y, e => ⟨_, rfl, by
      have e2 := Option.some.inj e
      rw [← e2]
      exact h1⟩
  | _, _, .cons h1 h, i + 1, y, e => Paired.at h i y e
instance ce_fld {K : PySem.W.Frag} {ct : Ct} {f : Str} {t : TE} {a : DE} [h : CE ct t a] [hk : CtOk K ct] : CE ct (tFld K t f) (dFld f a) := ⟨fun B g σ H E C Q K' R k q => by
  refine h.run B g σ H E C _ _ R (fun v H1 ⟨g1, C1, x, k1, R1, r1, q1⟩ => ?_) q
  unfold fldK at q1
  split at q1
  · rename_i c ds
    cases (show RD ct g1.F H1 v (.dict [(.int c, .list ds)]) from r1) with
    | obj hf hc ho hl hs =>
      obtain ⟨rfl, cls, no⟩ := hk.ok _ _ _ hc
      unfold ixK at q1
      split at q1
      · rename_i d e
        obtain ⟨i, h1, h2, h3⟩ := lookup_zip _ _ _ _ e
        obtain ⟨v, hv, rv⟩ := hs.get i d h2
        exact ⟨_, _, _, _, v, rfl, ho, cls, no f (List.mem_of_getElem? h1), h3 _ v hv, k _ _ ⟨g1, _, .val d, k1, R1, rv, q1⟩⟩
      · exact q1.elim
  · rename_i j
    obtain ⟨a0, ha, rfl⟩ := r1
    unfold fldC at q1
    split at q1
    · rename_i c ws e
      obtain ⟨a', m, z1, z2, z3, Ca, ns, dx, vs, hc, ho, hl, hs⟩ := R1.cs.at_ j _ e
      rw [ha] at z1
      cases z1
      obtain ⟨rfl, cls, no⟩ := hk.ok _ _ _ hc
      unfold fldW at q1
      split at q1
      · rename_i wd e2
        obtain ⟨i, h1, h2, h3⟩ := lookup_zip _ _ _ _ e2
        obtain ⟨v, hv, rv⟩ := Paired.at hs i wd h2
        exact ⟨_, _, _, _, v, rfl, ho, cls, no f (List.mem_of_getElem? h1), h3 _ v hv, k _ _ ⟨g1, _, wd, k1, R1, rv, q1⟩⟩
      · exact q1.elim
    · exact q1.elim
  · exact q1.elim⟩
/-! ### a class whose __init__ takes its fields one by one -/
def spInit (K : PySem.W.Frag) (ns : List Str) : Sp := fun vs H Q _ => ∃ (a C dx : Addr) (us : List V), vs = .ref a :: us ∧ us.length = ns.length ∧ H a = some (.ins C dx []) ∧ Cls K C ∧ (∀ f ∈ ns, NoAttr K C f) ∧ Q .non (upd H a (.ins C dx (ns.zip us)))
def makK (c : Int) (n : Nat) (Q : DK) : Option (List D) → List Cell → Prop
  | some ds, C => ds.length = n ∧ Q (.val (.dict [(.int c, .list ds)])) C
  | none, _ => False
def dMake (c : Int) (n : Nat) (a : DA) : DE := fun E C Q => a E C fun ws C1 => makK c n Q (vals ws) C1
theorem upd_upd {H : Hp} {a : Addr} {o o' : HO} : upd (upd H a o) a o' = upd H a o' := by
  funext b
  by_cases e : b = a
  · rw [e, upd_same, upd_same]
  · rw [upd_ne e, upd_ne e, upd_ne e]
instance ce_make {K : PySem.W.Frag} {ct : Ct} {Ca : Addr} {c : Int} {Ex : XK} {t : TA} {a : DA} [h : CA ct t a] [hk : CtOk K ct] [hc : ClA ct Ca c] : CE ct (tMake Ca (spInit K (clsF c)) [] Ex t) (dMake c (clsF c).length a) := ⟨fun B g σ H E C Q K' R k q => by
  refine h.run B g σ H E C _ _ R (fun vs H1 ⟨g1, C1, ws, k1, R1, r1, q1⟩ => ?_) q
  unfold makK at q1
  dsimp only at q1
  split at q1
  · rename_i ds e
    have hd := vals_ok r1 e
    obtain ⟨hn, q1⟩ := q1
    obtain ⟨_, cls, no⟩ := hk.ok _ _ _ hc.at_
    intro x dx nx ndx nex
    rw [List.append_nil]
    refine ⟨x, Ca, dx, vs, rfl, by rw [hd.length, hn], upd_same, cls, no, rfl, ?_⟩
    rw [upd_upd]
    obtain ⟨k2, R2⟩ := R1.new (o := .own x) false ndx
    have nx2 : upd H1 dx (.own x) x = none := by
      rw [upd_ne (Ne.symm nex)]
      exact nx
    obtain ⟨k3, R3⟩ := R2.new (o := .ins Ca dx ((clsF c).zip vs)) true nx2
    refine k _ _ ⟨_, _, .val (.dict [(.int c, .list ds)]), k1.trans (k2.trans k3), R3, ?_, q1⟩
    exact .obj (.inr ⟨rfl, rfl⟩) hc.at_ upd_same (by rw [hd.length, hn]) (RDs.mono (k2.trans k3).kp _ _ hd)
  · exact q1.elim⟩
/-- __init__ of a class, as the top has made it -/
structure Ini (K : PySem.W.Frag) (mg : Str → Option Value) (x : Str) (C : Addr) (q : Str) (st : Stmt) (ps : List Str) where
  f : Addr
  fd : FuncData
  F : Fun K "__init__" q st f fd
  b : Binds K fd ps []
  M : Mk K C f
  g : mg x = some (.ref C)
theorem fld00 {α : Type} (a b c : α) : fldOf 0 "link" [a, b, c] = some a := rfl
theorem fld01 {α : Type} (a b c : α) : fldOf 0 "root" [a, b, c] = some b := rfl
theorem fld02 {α : Type} (a b c : α) : fldOf 0 "is_open" [a, b, c] = some c := rfl
theorem lenF0 : (clsF 0).length = 3 := rfl
theorem lenF1 : (clsF 1).length = 2 := rfl
theorem lenF2 : (clsF 2).length = 3 := rfl
theorem pe_fldC {X : Cx} {K : PySem.W.Frag} {e : Expr} {f : Str} {pos : Pos} {ta : TE} (h : X.K = K) (he : PE X e ta) (hb : attributeBase e f X.env (eval e X.env) = eval e X.env) : PE X (.Attribute e f pos) (tFld K ta f) := h ▸ pe_fld he hb
theorem get_end {α : Type} (J : List α) (x : α) : (J ++ [x])[J.length]? = some x := by
  rw [List.getElem?_append_right (Nat.le_refl _), Nat.sub_self]
  rfl
theorem set_end {α : Type} (J : List α) (x y : α) : (J ++ [x]).set J.length y = J ++ [y] := by
  rw [List.set_append_right _ _ (Nat.le_refl _), Nat.sub_self]
  rfl
/-- the table of a program's classes -/
def clT (l x : List (Int × Addr)) (T : List (Addr × Str)) : Cl := ⟨fun c => (l.lookup c).map fun C => (C, clsF c), fun c => (x.lookup c).map fun C => (C, clsF c), T⟩
theorem lookup_mem {α : Type} {l : List (Int × α)} {c : Int} {x : α} (h : l.lookup c = some x) : (c, x) ∈ l := by
  induction l with
  | nil => cases h
  | cons p r ih =>
    have h' : (match c == p.1 with | true => some p.2 | false => r.lookup c) = some x := h
    by_cases e : c = p.1
    · subst e
      rw [beq_self_eq_true] at h'
      cases h'
      exact List.mem_cons_self
    · rw [beq_false_of_ne e] at h'
      exact List.mem_cons_of_mem _ (ih h')
theorem ctOk_of {K : PySem.W.Frag} {l x : List (Int × Addr)} {T : List (Addr × Str)} {E : XK} {R : XD} (h : ∀ p ∈ l, Cls K p.2 ∧ ∀ f ∈ clsF p.1, NoAttr K p.2 f) : CtOk K ⟨clT l x T, E, R⟩ := ⟨fun c C ns e => by
  have e' : (l.lookup c).map (fun C => (C, clsF c)) = some (C, ns) := e
  cases e2 : l.lookup c with
  | none =>
    rw [e2] at e'
    cases e'
  | some x =>
    rw [e2] at e'
    cases e'
    have := h _ (lookup_mem e2)
    exact ⟨rfl, this.1, this.2⟩⟩
/-! ### methods of objects -/
structure Mth (K : PySem.W.Frag) (C : Addr) (m q : Str) (st : Stmt) (ps : List Str) where
  f : Addr
  fd : FuncData
  F : Fun K m q st f fd
  b : Binds K fd ps []
  c : Cls K C
  M : Meth K C m f
theorem lookup_no {α : Type} {f : Str} : ∀ {ns : List Str} {xs : List α}, f ∉ ns → (ns.zip xs).lookup f = none
  | [], _, _ => rfl
  | _ :: _, [], _ => rfl
  | n :: ns, x :: xs, h => by
    have e : f ≠ n := fun z => h (by rw [z]; exact List.mem_cons_self)
    show (match f == n with | true => some x | false => (ns.zip xs).lookup f) = none
    rw [beq_false_of_ne e]
    exact lookup_no fun z => h (List.mem_cons_of_mem _ z)
/-- an object of class c -/
def isObC (c : Int) : Option Cell → Prop
  | some (.obj c' _) => c' = c
  | _ => False
def isOb (c : Int) : W → List Cell → Prop
  | .val (.dict [(.int c', .list _)]), _ => c' = c
  | .ref k, C => isObC c C[k]?
  | _, _ => False
theorem isOb_ok {ct : Ct} {Ca : Addr} {c : Int} {g : Gh} {H : Hp} {C : List Cell} {v : V} {w : W} {m : Str} [hc : ClA ct Ca c] (cz : Clz ct g H C) (r : RW ct g H v w) (h : isOb c w C) (no : m ∉ clsF c) :
    ∃ a dx fs, v = .ref a ∧ H a = some (.ins Ca dx fs) ∧ fs.lookup m = none := by
  unfold isOb at h
  split at h
  · rename_i c' ds
    subst h
    cases (show RD ct g.F H v (.dict [(.int c', .list ds)]) from r) with
    | obj hf hcc ho hl hs =>
      have e := hc.at_.symm.trans hcc
      cases e
      exact ⟨_, _, _, rfl, ho, lookup_no no⟩
  · rename_i j
    obtain ⟨a0, ha, rfl⟩ := r
    unfold isObC at h
    split at h
    · rename_i c' ws e
      subst h
      obtain ⟨a', m', z1, z2, z3, C', ns, dx, vs, hcc, ho, hl, hs⟩ := cz.at_ j _ e
      rw [ha] at z1
      cases z1
      have e := hc.at_.symm.trans hcc
      cases e
      exact ⟨_, _, _, rfl, ho, lookup_no no⟩
    · exact h.elim
  · exact h.elim
/-- a method that is given data alone -/
def dMethP (c : Int) (mn : Str) (m : Nat) (P : DSp) (a : DE) (t : DA) : DE := fun E C Q => a E C fun x C1 => isOb c x C1 ∧ mn ∉ clsF c ∧ t E C1 fun ws C2 => ws.length + 1 = m ∧ (vals (x :: ws)).isSome = true ∧ P (x :: ws) [] (fun w _ => Q w C2) X0
instance ce_methP {ct : Ct} {E : XK} {R : XD} {m : Nat} {P : DSp} {E' : XK} {Ca : Addr} {c : Int} {mn : Str} {te : TE} {t : TA} {e : DE} {a : DA} [h : CE (ct.w E R) te e] [h2 : CA (ct.w E R) t a] [hc : ClA ct Ca c] :
    CE (ct.w E R) (tMeth Ca mn (spD ct 0 m P) [] E' te t) (dMethP c mn m P e a) := ⟨fun B g σ H Ev C Q K' Re k q => by
  refine h.run B g σ H Ev C _ _ Re (fun v H1 ⟨g1, C1, x, k1, R1, r1, q1⟩ => ?_) q
  obtain ⟨o1, o2, q1⟩ := q1
  obtain ⟨a0, dx, fs, rfl, ho, hn⟩ := isOb_ok (hc := hc) R1.cs r1 o1 o2
  refine ⟨a0, dx, fs, rfl, ho, hn, ?_⟩
  refine h2.run B g1 σ H1 Ev C1 _ _ R1 (fun vs H2 ⟨g2, C2, ws, k2, R2, r2, q2⟩ => ?_) q1
  obtain ⟨e1, e2, q2⟩ := q2
  rw [List.append_nil]
  have rr : RWs ct g2 H2 (.ref a0 :: vs) (x :: ws) := .cons (RW.mono k2 r1) r2
  refine ⟨⟨g2.F, [], []⟩, [], x :: ws, _, X0, by rw [← e1]; exact Paired.length rr, rfl, clz_nil R2.cs, rws_pure rr e2, q2, fun v H' g' C' w k' f' c' l' r' q' => ?_, fun _ _ _ _ _ _ _ _ _ _ _ _ z => z.elim⟩
  have e3 : C' = [] := List.eq_nil_of_length_eq_zero l'
  subst e3
  obtain ⟨k3, R3⟩ := R2.called k' f' c'
  refine k v H' ⟨_, C2, w, k1.trans (k2.trans k3), R3, ?_, q'⟩
  cases w with
  | val d => exact r'
  | ty n => exact r'
  | fn => exact r'
  | dct ds => exact r'
  | ref j =>
    obtain ⟨b, hb, _⟩ := r'
    have : g'.as.length = 0 := c'.la
    rw [List.eq_nil_of_length_eq_zero this] at hb
    simp at hb⟩
/-- a method that is given cells -/
def dMethW (c : Int) (mn : Str) (n m : Nat) (P : DSp) (a : DE) (t : DA) : DE := fun E C Q => a E C fun x C1 => isOb c x C1 ∧ mn ∉ clsF c ∧ t E C1 fun ws C2 => callK n m P X0 Q (x :: ws) C2 (firstRef (x :: ws))
instance ce_methW {ct : Ct} {E : XK} {R : XD} {n m : Nat} {P : DSp} {E' : XK} {Ca : Addr} {c : Int} {mn : Str} {te : TE} {t : TA} {e : DE} {a : DA} [h : CE (ct.w E R) te e] [h2 : CA (ct.w E R) t a] [hc : ClA ct Ca c] :
    CE (ct.w E R) (tMeth Ca mn (spD ct (n + 1) m P) [] E' te t) (dMethW c mn (n + 1) m P e a) := ⟨fun B g σ H Ev C Q K' Re k q => by
  refine h.run B g σ H Ev C _ _ Re (fun v H1 ⟨g1, C1, x, k1, R1, r1, q1⟩ => ?_) q
  obtain ⟨o1, o2, q1⟩ := q1
  obtain ⟨a0, dx, fs, rfl, ho, hn⟩ := isOb_ok (hc := hc) R1.cs r1 o1 o2
  refine ⟨a0, dx, fs, rfl, ho, hn, ?_⟩
  refine h2.run B g1 σ H1 Ev C1 _ _ R1 (fun vs H2 ⟨g2, C2, ws, k2, R2, r2, q2⟩ => ?_) q1
  unfold callK at q2
  dsimp only at q2
  split at q2
  · rename_i j e
    obtain ⟨e1, e2, e3, q3⟩ := q2
    rw [Bool.and_eq_true] at e3
    rw [List.append_nil]
    have rr : RWs ct g2 H2 (.ref a0 :: vs) (x :: ws) := .cons (RW.mono k2 r1) r2
    refine ⟨g2.wd j (n + 1), _, _, _, _, by rw [← e1]; exact Paired.length rr, ?_, R2.cs.wd j (n + 1) e3.2, rr.wd e3.1, q3, fun v H' g' C' w k' f' c' l' r' q' => ?_, fun _ _ _ _ _ _ _ _ _ _ _ _ z => z.elim⟩
    · rw [List.length_map, List.length_take, List.length_drop]
      omega
    obtain ⟨k3, R3, h3⟩ := R2.calledW e2 k' f' c' l'
    exact k v H' ⟨_, _, _, k1.trans (k2.trans k3), R3, RW.un h3 r', q'⟩
  · exact q2.elim⟩
/-! ### a field of an object in a cell is set -/
def setAt (c : Int) (f : Str) (w : W) (ws : List W) : List W := ((clsF c).zip ws).map fun p => if p.1 = f then w else p.2
def sfC (f : Str) (w : W) (k : Nat) (N : List Cell → Prop) : Option Cell → List Cell → Prop
  | some (.obj c ws), C => f ∈ (clsF c).take ws.length ∧ N (C.set k (.obj c (setAt c f w ws)))
  | _, _ => False
def sfK (f : Str) (w : W) (N : List Cell → Prop) : W → List Cell → Prop
  | .ref k, C => sfC f w k N C[k]? C
  | _, _ => False
def dSetF (f : Str) (a b : DE) : DS := fun D E C => b E C fun y C1 => a E C1 fun x C2 => sfK f y (fun C3 => D.nx E C3) x C2
theorem putF_zip {f : Str} {y : V} : ∀ {ns : List Str} {vs : List V}, ns.Nodup → f ∈ ns → vs.length = ns.length → putF f y (ns.zip vs) = ns.zip ((ns.zip vs).map fun p => if p.1 = f then y else p.2)
  | [], _, _, h, _ => nomatch h
  | n :: ns, [], _, _, h => nomatch h
  | n :: ns, v :: vs, nd, h, hl => by
    show (if n = f then (n, y) :: ns.zip vs else (n, v) :: putF f y (ns.zip vs)) = (n, if n = f then y else v) :: ns.zip ((ns.zip vs).map fun p => if p.1 = f then y else p.2)
    obtain ⟨n1, n2⟩ := List.nodup_cons.mp nd
    have hl' : vs.length = ns.length := Nat.succ.inj hl
    by_cases e : n = f
    · subst e
      rw [if_pos rfl, if_pos rfl]
      congr 1
      have same : ∀ (ns : List Str) (vs : List V), n ∉ ns → vs.length = ns.length → (ns.zip vs).map (fun p => if p.1 = n then y else p.2) = vs := by
        intro ns
        induction ns with
        | nil =>
          intro vs _ hl
          rw [List.eq_nil_of_length_eq_zero hl]
          rfl
        | cons m ns ih =>
          intro vs hm hl
          cases vs with
          | nil => cases hl
          | cons v vs =>
            have h1 : m ≠ n := fun z => hm (by rw [z]; exact List.mem_cons_self)
            show (if m = n then y else v) :: (ns.zip vs).map _ = v :: vs
            rw [if_neg h1, ih vs (fun z => hm (List.mem_cons_of_mem _ z)) (Nat.succ.inj hl)]
      rw [same ns vs n1 hl']
    · rw [if_neg e, if_neg e]
      congr 1
      have hf : f ∈ ns := by
        rcases List.mem_cons.mp h with z | z
        · exact absurd z.symm e
        · exact z
      exact putF_zip n2 hf hl'
theorem zip_take {α β : Type} : ∀ (ns : List α) (xs : List β), ns.zip xs = (ns.take xs.length).zip xs
  | [], _ => by simp
  | _ :: _, [] => by simp
  | n :: ns, x :: xs => congrArg ((n, x) :: ·) (zip_take ns xs)
theorem clsF_nodup (c : Int) : (clsF c).Nodup := by
  unfold clsF
  split <;> decide
theorem set_paired {α β : Type} {R : α → β → Prop} {f : Str} {y : α} {w : β} (hw : R y w) : ∀ (ns : List Str) {vs : List α} {ws : List β}, Paired R vs ws → Paired R ((ns.zip vs).map fun p => if p.1 = f then y else p.2) ((ns.zip ws).map fun p => if p.1 = f then w else p.2)
  | [], _, _, _ => .nil
  | _ :: _, _, _, .nil => .nil
  | n :: ns, v :: vs, x :: ws, .cons h hs => by
    show Paired R ((if n = f then y else v) :: _) ((if n = f then w else x) :: _)
    by_cases e : n = f
    · rw [if_pos e, if_pos e]
      exact .cons hw (set_paired hw ns hs)
    · rw [if_neg e, if_neg e]
      exact .cons h (set_paired hw ns hs)
theorem Rel.setO {K : PySem.W.Frag} {ct : Ct} {B : Bs} {g : Gh} {σ : L2.St} {H : Hp} {E : Ev} {C : List Cell} {k : Nat} {a : Addr} {c : Int} {ws : List W} {f : Str} {y : V} {w : W} [hk : CtOk K ct] (R : Rel ct B g σ H E C) (h : C[k]? = some (.obj c ws)) (ha : g.as[k]? = some a) (hw : RW ct g H y w) (hf : f ∈ (clsF c).take ws.length) :
    ∃ Ca dx fs, H a = some (.ins Ca dx fs) ∧ Cls K Ca ∧ NoAttr K Ca f ∧ fs.length < 1000 ∧ Gk g H g (upd H a (.ins Ca dx (putF f y fs))) ∧ Rel ct B g σ (upd H a (.ins Ca dx (putF f y fs))) E (C.set k (.obj c (setAt c f w ws))) := by
  obtain ⟨a', m', z1, z2, rfl, Ca, ns, dx, vs, hcc, ho, hl, hs⟩ := R.cs.at_ k _ h
  rw [ha] at z1
  cases z1
  obtain ⟨rfl, cls, no⟩ := hk.ok _ _ _ hcc
  have hlw : vs.length = ws.length := Paired.length hs
  have zt : ∀ {β : Type} (xs : List β), xs.length = vs.length → (clsF c).zip xs = ((clsF c).take vs.length).zip xs := fun xs hx => by
    rw [← hx]
    exact zip_take _ _
  have hz : putF f y ((clsF c).zip vs) = (clsF c).zip (((clsF c).zip vs).map fun p => if p.1 = f then y else p.2) := by
    rw [zt vs rfl, putF_zip (y := y) ((clsF_nodup c).sublist (List.take_sublist _ _)) (by rw [hlw]; exact hf) (by rw [List.length_take]; omega)]
    refine (zt _ ?_).symm
    rw [List.length_map, List.length_zip, List.length_take]
    omega
  have e := hz
  have hlen : ((clsF c).zip vs).length < 1000 := by
    rw [List.length_zip]
    have : (clsF c).length ≤ 4 := by
      unfold clsF
      split <;> decide
    omega
  refine ⟨Ca, dx, _, ho, cls, no f (List.mem_of_mem_take hf), hlen, ?_⟩
  rw [e]
  refine R.put h ha z2 ⟨rfl, Ca, clsF c, dx, vs, hcc, ho, hl, hs⟩ (fun zs e => by rw [ho] at e; cases e) fun kk => ?_
  refine ⟨rfl, Ca, clsF c, dx, _, hcc, upd_same, ?_, ?_⟩
  · rw [List.length_map, List.length_zip]
    omega
  · exact set_paired (RW.mono kk hw) (clsF c) (RWs.mono kk hs)
instance cs_setF {K : PySem.W.Frag} {ct : Ct} {ta tv : TE} {a b : DE} {f : Str} [ha : CE ct ta a] [hb : CE ct tv b] [hk : CtOk K ct] : CS ct (sFld K ta tv f) (dSetF f a b) := ⟨fun B g σ H E C D DD R e q => by
  refine hb.run B g σ H E C _ _ R (fun y H1 ⟨g1, C1, yw, k1, R1, r1, q1⟩ => ?_) q
  refine ha.run B g1 σ H1 E C1 _ _ R1 (fun x H2 ⟨g2, C2, xw, k2, R2, r2, q2⟩ => ?_) q1
  unfold sfK at q2
  dsimp only at q2
  split at q2
  · rename_i k
    obtain ⟨a0, h0, rfl⟩ := r2
    unfold sfC at q2
    split at q2
    · rename_i c ws e3
      obtain ⟨Ca, dx, fs, ho, cls, no, hl, k3, R3⟩ := R2.setO (K := K) (hk := hk) e3 h0 (RW.mono k2 r1) q2.1
      exact ⟨a0, Ca, dx, fs, rfl, ho, cls, no, hl, e.nx _ _ _ _ _ (k1.trans (k2.trans k3)) R3 q2.2⟩
    · exact q2.elim
  · exact q2.elim⟩
/-! ### a list in a cell is frozen where it is handed on -/
def tFz (t : TE) : TE := t
theorem pe_fz {X : Cx} {e : Expr} {t : TE} (h : PE X e t) : PE X e (tFz t) := h
def fzC (k : Nat) (Q : DK) : Option Cell → List Cell → Prop
  | some (.lst ds), C => Q (.val (.list ds)) (C.set k (.frz ds))
  | some (.frz ds), C => Q (.val (.list ds)) C
  | _, _ => False
def fzK (Q : DK) : W → List Cell → Prop
  | .val d, C => Q (.val d) C
  | .ref k, C => fzC k Q C[k]? C
  | _, _ => False
def dFz (a : DE) : DE := fun E C Q => a E C (fzK Q)
instance ce_fz {ct : Ct} {t : TE} {a : DE} [h : CE ct t a] : CE ct (tFz t) (dFz a) := ⟨fun B g σ H E C Q K R k q => by
  refine h.run B g σ H E C _ _ R (fun v H1 ⟨g1, C1, x, k1, R1, r1, q1⟩ => ?_) q
  unfold fzK at q1
  split at q1
  · exact k _ _ ⟨_, _, _, k1, R1, r1, q1⟩
  · rename_i j
    obtain ⟨a0, h2, rfl⟩ := r1
    unfold fzC at q1
    split at q1
    · rename_i ds e2
      obtain ⟨z1, z2, z3⟩ := R1.ice e2 h2
      exact k _ _ ⟨_, _, .val (.list ds), k1.trans z1, z2, z3, q1⟩
    · rename_i ds e2
      obtain ⟨a', m, z1, z2, z3, f, xs, z4, z5⟩ := R1.cs.at_ j _ e2
      rw [h2] at z1
      cases z1
      exact k _ _ ⟨_, _, .val (.list ds), k1, R1, RD.lst f z4 z5, q1⟩
    · exact q1.elim
  · exact q1.elim⟩
/-! ### an object with a fresh list: two cells -/
def spRecI (K : PySem.W.Frag) : Sp := fun vs H Q _ => ∃ (a C dx : Addr) (u : V), vs = [.ref a, u] ∧ H a = some (.ins C dx []) ∧ Cls K C ∧ (∀ f ∈ clsF 1, NoAttr K C f) ∧ ∀ l, H l = none → Q .non (upd (upd H l (.lst [])) a (.ins C dx ((clsF 1).zip [u, .ref l])))
def recK (Q : DK) : Option (List D) → List Cell → Prop
  | some [d], C => Q (.ref C.length) (C ++ [.obj 1 [.val d, .ref (C.length + 1)], .lst []])
  | _, _ => False
def dMakeRec (a : DA) : DE := fun E C Q => a E C fun ws C1 => recK Q (vals ws) C1
theorem upd_swap {H : Hp} {x l : Addr} {A A' L Z : HO} : upd (upd (upd H x A) l L) x Z = upd (upd (upd H x A') l L) x Z := by
  funext b
  by_cases e : b = x
  · rw [e, upd_same, upd_same]
  · rw [upd_ne e, upd_ne e]
    by_cases e2 : b = l
    · rw [e2, upd_same, upd_same]
    · rw [upd_ne e2, upd_ne e2, upd_ne e, upd_ne e]
instance ce_makeRec {K : PySem.W.Frag} {ct : Ct} {Ca : Addr} {Ex : XK} {t : TA} {a : DA} [h : CA ct t a] [hk : CtOk K ct] [hc : ClA ct Ca 1] : CE ct (tMake Ca (spRecI K) [] Ex t) (dMakeRec a) := ⟨fun B g σ H E C Q K' R k q => by
  refine h.run B g σ H E C _ _ R (fun vs H1 ⟨g1, C1, ws, k1, R1, r1, q1⟩ => ?_) q
  unfold recK at q1
  dsimp only at q1
  split at q1
  · rename_i Cc o1 Cx d e
    have hd := vals_ok r1 e
    obtain ⟨_, cls, no⟩ := hk.ok _ _ _ hc.at_
    obtain ⟨u, rfl, ru⟩ : ∃ u, vs = [u] ∧ RD ct g1.F H1 u d := by
      cases hd with
      | cons h1 h2 =>
        cases h2
        exact ⟨_, rfl, h1⟩
    intro x dx nx ndx nex
    rw [List.append_nil]
    refine ⟨x, Ca, dx, u, rfl, upd_same, cls, no, fun l hl => ⟨rfl, ?_⟩⟩
    have nlx : l ≠ x := fun z => by
      rw [z, upd_same] at hl
      cases hl
    have nld : l ≠ dx := fun z => by
      rw [z, upd_ne nex, upd_same] at hl
      cases hl
    rw [upd_ne nlx, upd_ne nld] at hl
    rw [upd_swap (A' := .ins Ca dx ((clsF 1).zip [u, .non]))]
    obtain ⟨k2, R2⟩ := R1.new (o := .own x) false ndx
    have nx2 : upd H1 dx (.own x) x = none := by
      rw [upd_ne (Ne.symm nex)]
      exact nx
    obtain ⟨k3, R3, a3⟩ := R2.ad (o := .ins Ca dx ((clsF 1).zip [u, .non])) (c := .obj 1 [.val d, .val .none]) nx2 fun kk => ⟨rfl, Ca, clsF 1, dx, [u, .non], hc.at_, upd_same, Nat.le_refl _, .cons (RD.mono (k2.trans kk).kp _ _ ru) (.cons .non .nil)⟩
    have nl3 : upd (upd H1 dx (.own x)) x (.ins Ca dx ((clsF 1).zip [u, .non])) l = none := by
      rw [upd_ne nlx, upd_ne nld]
      exact hl
    obtain ⟨k4, R4, a4⟩ := R3.ad (o := .lst []) (c := .lst []) nl3 fun kk => ⟨rfl, [], upd_same, .nil⟩
    have a3' := k4.as _ _ a3
    have g0 : ((Cc ++ [Cell.obj 1 [.val d, .val .none]]) ++ [Cell.lst []] : List Cell)[Cc.length]? = some (.obj 1 [.val d, .val .none]) := by
      rw [List.append_assoc, List.getElem?_append_right (Nat.le_refl _), Nat.sub_self]
      rfl
    obtain ⟨ax, mx, y1, y2, y3⟩ := R4.cs.at_ _ _ g0
    rw [a3'] at y1
    cases y1
    obtain ⟨rfl, y4⟩ := id y3
    have hold := y4
    obtain ⟨Ca', ns', dx', vs', w1, w2, w3, w4⟩ := hold
    obtain ⟨k5, R5⟩ := R4.put (o := .ins Ca dx ((clsF 1).zip [u, .ref l])) (c' := .obj 1 [.val d, .ref (Cc.length + 1)]) g0 a3' y2 ⟨rfl, y4⟩ (fun zs z => by rw [w2] at z; cases z) fun kk => ⟨rfl, Ca, clsF 1, dx, [u, .ref l], hc.at_, upd_same, Nat.le_refl _, .cons (RD.mono (k2.trans (k3.trans (k4.trans kk))).kp _ _ ru) (.cons ⟨l, by rw [List.length_append] at a4; exact a4, rfl⟩ .nil)⟩
    refine k _ _ ⟨_, _, .ref (Cc.length), k1.trans (k2.trans (k3.trans (k4.trans k5))), R5, ⟨x, a3', rfl⟩, ?_⟩
    rw [List.append_assoc, List.set_append_right _ _ (Nat.le_refl _), Nat.sub_self]
    exact q1
  · exact q1.elim⟩
theorem fld10 {α : Type} (a b : α) : fldOf 1 "rule" [a, b] = some a := rfl
theorem fld11 {α : Type} (a b : α) : fldOf 1 "certificate" [a, b] = some b := rfl
end RR

namespace RX
open PySem PySem.Spec PyProof.Rows L2
/-! ### match v: case ("word", a, b): .. -/
/-- names alone -/
inductive Caps : List Pattern → List Str → Prop
  | nil : Caps [] []
  | cons {n : Str} {pos : Pos} {ps : List Pattern} {ns : List Str} (h : Caps ps ns) : Caps (.MatchAs none (some n) pos :: ps) (n :: ns)
theorem Caps.len {ps : List Pattern} {ns : List Str} (c : Caps ps ns) : ps.length = ns.length := by
  induction c with
  | nil => rfl
  | cons _ ih => exact congrArg Nat.succ ih
/-- the slots filled, from the left -/
def fill : L2.St → List Nat → List V → L2.St
  | σ, i :: is, x :: xs => fill (σ.set i (some x)) is xs
  | σ, _, _ => σ
structure PMs (X : Cx) (cs : List MatchCase) (t : V → TS) : Prop where
  run : ∀ (pins : List (Addr × Obj)) (s : Shared) (σ : L2.St) (H : Hp) (D : Ends) (v : V) (u : Value) (first : Bool), Inv X pins σ H s → RelV v u → t v D σ H → wpAny (model X.prog X.w) X.A (matchCases cs X.env u first) (SP X pins D) X.xe s
def tMNil : V → TS := fun _ D σ H => D.nx σ H
/-- a case whose pattern is a written word and names: the value is a tuple that begins with a text -/
def tMCase (K : PySem.W.Frag) (z : Str) (is : List Nat) (tb : TS) (tr : V → TS) : V → TS := fun v D σ H => ∃ (a : Addr) (y : Str) (xs : List V), v = .ref a ∧ SqT K H a (.str y :: xs) ∧
  ((xs.length = is.length ∧ y = z ∧ tb D (fill σ is xs) H) ∨ (¬ (xs.length = is.length ∧ y = z) ∧ tr v D σ H))
section
variable {X : Cx}
theorem pms_nil : PMs X [] tMNil := ⟨fun pins s σ H D v u first I r h => wpAny_matchCases_nil ⟨σ, H, I, h⟩⟩
theorem each_caps : ∀ {ps : List Pattern} {ns : List Str}, Caps ps ns → ∀ {us : List Value} {s : Shared} {M : Model} {A : Around} {E : Value → Shared → Prop} {env : Env} {Q : Option (List (Str × Value)) → Shared → Prop}, us.length = ns.length → Q (some (ns.zip us)) s → wpAny M A (matchEach ps env us) Q E s := by
  intro ps ns c
  induction c with
  | nil =>
    intro us s M A E env Q hl h
    exact wpAny_matchEach_nil (by simpa using h)
  | @cons n pos ps ns c ih =>
    intro us s M A E env Q hl h
    cases us with
    | nil => cases hl
    | cons u us =>
      refine wpAny_matchEach_cons (wpAny_matchPattern_Capture ?_)
      refine ih (by simpa using hl) ?_
      exact h
/-- the slots of names -/
inductive Slots (X : Cx) : List Nat → List Str → Prop
  | nil : Slots X [] []
  | cons {i : Nat} {n : Str} {is : List Nat} {ns : List Str} (hi : X.N[i]? = some n) (hl : X.env.scope.names.lookup n = some .local) (h : Slots X is ns) : Slots X (i :: is) (n :: ns)
theorem Slots.len {is : List Nat} {ns : List Str} (h : Slots X is ns) : is.length = ns.length := by
  induction h with
  | nil => rfl
  | cons _ _ _ ih => exact congrArg Nat.succ ih
theorem assign_all (hN : X.N.Nodup) {is : List Nat} {ns : List Str} (S : Slots X is ns) : ∀ {xs : List V} {us : List Value} {pins : List (Addr × Obj)} {σ : L2.St} {H : Hp} {s : Shared} {Q : Unit → Shared → Prop}, xs.length = is.length → Vals xs us → Inv X pins σ H s →
    (∀ s', Inv X pins (fill σ is xs) H s' → Q () s') → wpAny (model X.prog X.w) X.A (assignInOrder ((ns.zip us).map fun (n, _) => bindName X.env n) ((ns.zip us).map (·.2))) Q X.xe s := by
  induction S with
  | nil =>
    intro xs us pins σ H s Q hl r I h
    cases xs with
    | nil =>
      cases r
      exact wpAny_assignInOrder_none (h s I)
    | cons x xs => cases hl
  | @cons i n is ns hi hl S ih =>
    intro xs us pins σ H s Q hlen r I h
    cases xs with
    | nil => cases hlen
    | cons x xs =>
      cases r with
      | cons r1 r2 =>
        refine wpAny_assignInOrder_more ?_
        refine wpAny_bindName (store_ok I hN hi (.inl hl) r1 (fun s' I' => ?_) (.inr hl))
        exact ih (by simpa using hlen) r2 I' h
theorem pms_case {z : Str} {k : Nat} {p1 p2 pos : Pos} {ps : List Pattern} {ns : List Str} {is : List Nat} {body : List Stmt} {rest : List MatchCase} {tb : TS} {tr : V → TS} (hN : X.N.Nodup) (hc : X.calm = true) (c : Caps ps ns) (S : Slots X is ns) (hb : PSs X body tb) (hr : PMs X rest tr)
    (hstar : (Pattern.MatchValue (.Constant (.str z) k p1) p2 :: ps).findIdx? (·.isStar) = none := by rfl) (hwild : ((Pattern.MatchValue (.Constant (.str z) k p1) p2 :: ps).all fun p => p.isWildcard || (p.isStar && p.names.isEmpty)) = false := by rfl) :
    PMs X (⟨.MatchSequence (.MatchValue (.Constant (.str z) k p1) p2 :: ps) pos, none, body⟩ :: rest) (tMCase X.K z is tb tr) := by
  refine ⟨fun pins s σ H D v u first I r h => ?_⟩
  obtain ⟨a, y, xs, ev, hS, h⟩ := h
  subst ev
  have eu : u = .ref a := r
  subst eu
  obtain ⟨its, rv, ht, hz⟩ := I.tuple hS
  obtain ⟨_ | ⟨u0, us⟩, rv⟩ : ∃ l, Vals (.str y :: xs) l ∧ its = l := ⟨its, rv, rfl⟩
  · obtain ⟨rv, e⟩ := rv
    cases rv
  obtain ⟨rv, e⟩ := rv
  subst e
  have hlen := rv.length
  have lps := c.len
  have lis := S.len
  refine wpAny_matchCases_cons (wpAny_matchPattern_Sequence (wpAny_collectionFlag ht.typeIs flag_seq_tuple ?_) hstar hwild)
  refine iteT ?_
  have hsz : (((u0 :: us).toArray.size : Nat) : Int) < 2 ^ 63 := by
    rw [List.size_toArray, ← hlen]
    have h1 : (sizeLine : Int) < 2 ^ 63 := by decide
    omega
  refine pyLen_tuple ht hsz ?_
  have I1 : Inv X pins σ H { s with toks := s.toks + 1 + 1 } := I.tok _
  have hlen1 : xs.length = us.length := by simpa using hlen
  by_cases hl : xs.length = is.length
  · have e1 : (Pattern.MatchValue (.Constant (.str z) k p1) p2 :: ps).length = (u0 :: us).toArray.size := by
      rw [List.size_toArray, List.length_cons, List.length_cons]
      omega
    rw [e1]
    refine ite2 (fun q => absurd q (by simp)) (fun _ => ?_)
    refine unpackItems_tuple (I.ok.hd hc) ht fun h' hx => ?_
    have I2 : Inv X pins σ H { s with heap := h', toks := s.toks + 1 + 1 } := I1.kept (t' := s.toks + 1 + 1) fun b o e => hx b o (Nat.ne_of_lt (Heap.lt_size e)) e
    show wpAny _ _ (matchEach _ _ (u0 :: us)) _ _ _
    cases rv with
    | cons r0 r1 =>
      refine wpAny_matchEach_cons (wpAny_matchPattern_Value ?_)
      have hst : PE X (.Constant (.str z) k p1) (tC (.str z)) := pe_str
      refine thn (hst.run pins _ σ H (fun x H' => x = .str z ∧ H' = H) I2 ⟨rfl, rfl⟩) fun x s3 ⟨xv, H3, I3, rx, ex, eH⟩ => ?_
      subst ex eH
      refine thn (op_eq pins s3 σ H3 (.str y) (.str z) u0 x (fun v H' => v = .bl (decide (V.str y = V.str z)) ∧ H' = H3) I3 r0 rx ⟨rfl, rfl, rfl⟩) fun cv s4 ⟨cw, H4, I4, rc, ec, eH⟩ => ?_
      subst ec eH
      have ecv : cv = .bool (decide (V.str y = V.str z)) := rc
      subst ecv
      refine wpAny_truthy_bool ?_
      by_cases hy : y = z
      · rw [decide_eq_true (show V.str y = V.str z by rw [hy])]
        refine iteT ?_
        refine each_caps c (by omega) ?_
        rcases h with ⟨_, _, h⟩ | ⟨n, _⟩
        · exact assign_all hN S hl r1 I4 fun s5 I5 => hb.run pins s5 _ _ D I5 h
        · exact absurd ⟨hl, hy⟩ n
      · have hne : ¬ (V.str y = V.str z) := fun e => hy (V.str.inj e)
        rw [decide_eq_false hne]
        refine iteF ?_
        rcases h with ⟨_, e, _⟩ | ⟨_, h⟩
        · exact absurd e hy
        · exact hr.run pins s4 σ _ D (.ref a) (.ref a) false I4 rfl h
  · refine ite2 (fun _ => ?_) (fun n => absurd ?_ n)
    · rcases h with ⟨e, _⟩ | ⟨_, h⟩
      · exact absurd e hl
      · exact hr.run pins _ σ _ D (.ref a) (.ref a) false I1 rfl h
    · have e2 : ¬ (((u0 :: us).toArray.size : Nat) : Int) = (((Pattern.MatchValue (.Constant (.str z) k p1) p2 :: ps).length : Nat) : Int) := by
        rw [List.size_toArray, List.length_cons, List.length_cons]
        omega
      simpa using e2
def tMatch (te : TE) (t : V → TS) : TS := fun D σ H => te σ H fun v H1 => t v D σ H1
theorem ps_match {e : Expr} {cs : List MatchCase} {pos : Pos} {te : TE} {t : V → TS} (he : PE X e te) (hc : PMs X cs t) : PS X (.Match e cs pos) (tMatch te t) := by
  refine ⟨fun pins s σ H D I h => ?_⟩
  refine wpAny_Match (thn (he.run pins s σ H _ I h) fun u s1 ⟨v, H1, I1, r, q⟩ => ?_)
  exact hc.run pins s1 σ H1 D v u true I1 r q
end
end RX

namespace RR
open PySem PySem.Spec PyProof.Rows L2
/-! ### match over tuples that begin with a written word -/
def fillE : Ev → List Nat → List D → Ev
  | E, i :: is, x :: xs => fillE (E.set i (some (.val x))) is xs
  | E, _, _ => E
abbrev DMs := W → DS
class CMs (ct : Ct) (t : V → TS) (d : outParam DMs) : Prop where
  run : ∀ B g σ H E C D DD v w, Rel ct B g σ H E C → EndsOk ct B g H DD D → RW ct g H v w → d w DD E C → t v D σ H
def dMNil : DMs := fun _ D E C => D.nx E C
instance cms_nil {ct : Ct} : CMs ct RX.tMNil dMNil := ⟨fun B g σ H E C D DD v w R e r q => e.nx σ H g E C (Gk.refl _ _) R q⟩
def dMCase (z : Str) (is : List Nat) (b : DS) (t : DMs) : W → DEnds → Ev → List Cell → Prop
  | .val (.tuple (.str y :: ds)), D, E, C => if ds.length = is.length ∧ y = z then b D (fillE E is ds) C else t (.val (.tuple (.str y :: ds))) D E C
  | _, _, _, _ => False
theorem Rel.fill {ct : Ct} {B : Bs} {g : Gh} {H : Hp} {C : List Cell} : ∀ {is : List Nat} {xs : List V} {ds : List D} {σ : L2.St} {E : Ev}, Rel ct B g σ H E C → RDs ct g.F H xs ds → Rel ct B g (RX.fill σ is xs) H (fillE E is ds) C
  | [], [], [], _, _, R, .nil => R
  | [], _ :: _, _ :: _, _, _, R, .cons _ _ => R
  | _ :: _, [], [], _, _, R, .nil => R
  | i :: is, x :: xs, d :: ds, σ, E, R, .cons r rs => Rel.fill (is := is) (xs := xs) (ds := ds) (σ := σ.set i (some x)) (E := E.set i (some (.val d))) (R.set (w := .val d) r i) rs
theorem dMCase_inv {z : Str} {is : List Nat} {b : DS} {t : DMs} {w : W} {D : DEnds} {E : Ev} {C : List Cell} (q : dMCase z is b t w D E C) : ∃ y ds, w = .val (.tuple (.str y :: ds)) ∧ if ds.length = is.length ∧ y = z then b D (fillE E is ds) C else t (.val (.tuple (.str y :: ds))) D E C := by
  unfold dMCase at q
  split at q
  · exact ⟨_, _, rfl, q⟩
  · exact q.elim
instance cms_case {ct : Ct} {K : PySem.W.Frag} {z : Str} {is : List Nat} {tb : TS} {tr : V → TS} {b : DS} {t : DMs} [hb : CS ct tb b] [ht : CMs ct tr t] : CMs ct (RX.tMCase K z is tb tr) (dMCase z is b t) := ⟨fun B g σ H E C D DD v w R e r q => by
  obtain ⟨y, ds, rfl, q'⟩ := dMCase_inv q
  clear q
  have q := q'
  clear q'
  · obtain ⟨a, xs, rfl, h1, h2⟩ := rw_tup r
    obtain ⟨xs', rfl, r2⟩ : ∃ xs', xs = .str y :: xs' ∧ RDs ct g.F H xs' ds := by
      cases h2 with
      | cons q1 q2 =>
        cases q1
        exact ⟨_, rfl, q2⟩
    refine ⟨a, y, xs', rfl, SqT.of h1, ?_⟩
    by_cases hc : ds.length = is.length ∧ y = z
    · rw [if_pos hc] at q
      exact .inl ⟨by rw [r2.length]; exact hc.1, hc.2, hb.run B g _ H _ C D _ (R.fill r2) e q⟩
    · rw [if_neg hc] at q
      exact .inr ⟨by rw [r2.length]; exact hc, ht.run B g σ H E C D _ _ _ R e r q⟩⟩
def dMatch (a : DE) (t : DMs) : DS := fun D E C => a E C fun w C1 => t w D E C1
instance cs_match {ct : Ct} {te : TE} {t : V → TS} {a : DE} {d : DMs} [ha : CE ct te a] [ht : CMs ct t d] : CS ct (RX.tMatch te t) (dMatch a d) := ⟨fun B g σ H E C D DD R e q => by
  refine ha.run B g σ H E C _ _ R (fun v H1 ⟨g1, C1, x, k1, R1, r1, q1⟩ => ?_) q
  exact ht.run B g1 σ H1 E C1 D DD v x R1 (e.later k1) r1 q1⟩
/-! ### x += e -/
def augK (i : Nat) (D : DEnds) (E : Ev) : W → W → List Cell → Prop
  | .val (.int a), .val (.int b), C => D.nx (E.set i (some (.val (.int (a + b))))) C
  | _, _, _ => False
theorem augK_inv {i : Nat} {D : DEnds} {E : Ev} {x y : W} {C : List Cell} (q : augK i D E x y C) : ∃ a b, x = .val (.int a) ∧ y = .val (.int b) ∧ D.nx (E.set i (some (.val (.int (a + b))))) C := by
  unfold augK at q
  split at q
  · exact ⟨_, _, rfl, rfl, q⟩
  · exact q.elim
def aug0 (i : Nat) (D : DEnds) (E : Ev) (C : List Cell) (b : DE) : Option (Option W) → Prop
  | some (some x) => b E C fun y C1 => augK i D E x y C1
  | _ => False
def dAug (i : Nat) (b : DE) : DS := fun D E C => aug0 i D E C b E[i]?
instance cs_aug {ct : Ct} {i : Nat} {te : TE} {b : DE} [h : CE ct te b] : CS ct (tAug i te (ipI fun i j => i + j)) (dAug i b) := ⟨fun B g σ H E C D DD R e q => by
  unfold dAug aug0 at q
  split at q
  · rename_i x hx
    obtain ⟨v, hv, rv⟩ := R.env i x hx
    refine ⟨v, hv, ?_⟩
    refine h.run B g σ H E C _ _ R (fun u H1 ⟨g1, C1, y, k1, R1, r1, q1⟩ => ?_) q
    obtain ⟨ia, ib, rfl, rfl, q2⟩ := augK_inv q1
    have rv2 := rw_int (RW.mono k1 rv)
    subst rv2
    cases rw_int r1
    have r3 : RW ct g1 H1 (.int (ia + ib)) (.val (.int (ia + ib))) := RD.int (ia + ib)
    exact ⟨ia, ib, rfl, rfl, e.nx _ H1 g1 _ C1 k1 (R1.set r3 i) q2⟩
  · exact q.elim⟩
/-! ### isinstance of what may be an object -/
class IsT (K : PySem.W.Frag) (ct : Ct) : Prop where
  ok : ∀ C ns, ct.cl 0 = some (C, ns) → Cls K C ∧ PySem.W.findIn K (.ref C) "__class__" = some (some (.builtin "object.__class__")) ∧ PySem.W.specialIn K (.builtin "object.__class__") "__get__" = some (some (.builtin "getset_descriptor.__get__")) ∧
    PySem.W.takesIn K (.builtin "object.__class__") = some true ∧ PySem.W.mroIn K C (.type "object") = some true ∧ PySem.W.kitOne K (.ref C) (.type "tuple") = some false
instance {K : PySem.W.Frag} {ct : Ct} {E : XK} {R : XD} [h : IsT K ct] : IsT K (ct.w E R) := ⟨h.ok⟩
def rIsiO (K : PySem.W.Frag) : List V → Hp → VK → Prop := rIsi K
theorem call_isiO {X : Cx} : CallR X (.builtin "isinstance") (rIsiO X.K) := call_isi
def fIsiO : List W → List Cell → DK → Prop
  | [.val (.dict [(.int c, .list _)]), .ty n], C, Q => c = 0 ∧ n = "tuple" ∧ Q (.val (.bool false)) C
  | ws, C, Q => fIsi ws C Q
instance cc_isiO {ct : Ct} {K : PySem.W.Frag} [hk : IsT K ct] : CC ct (rIsiO K) fIsiO := ⟨fun B g σ H E C Q vs ws K' R k r q => by
  unfold fIsiO at q
  split at q
  · obtain ⟨rfl, rfl, q⟩ := q
    obtain ⟨v, x, rfl, r1, r2⟩ := rws2 r
    cases (show RD ct g.F H v (.dict [(.int 0, .list _)]) from r1) with
    | obj f hc ho hl hs =>
      obtain ⟨h1, h2, h3, h4, h5, h6⟩ := hk.ok _ _ hc
      exact ⟨_, x, .ref _, .type "tuple", false, rfl, by rw [show x = .ty _ from r2]; exact .ty _, .base (.ins ho h1 h2 h3 h4 h5), h6, post_val R (w := .val (.bool false)) (.bl _) k q⟩
  · exact (cc_isi (K := K)).run B g σ H E C Q vs ws K' R k r q⟩
/-! ### from a def that lets nothing out -/
theorem FnOk.lift {P : Program} {w : World} {K : PySem.W.Frag} {mg : Str → Option Value} {base : Heap} {k : Nat} {f : Addr} {fd : FuncData} {ps : List Str} {sp : Sp} (F : FnOk P w K mg base CX0 k f fd ps sp) : FnOk P w K mg base (L2.CX P w) k f fd ps sp :=
  ⟨F.len, fun A outer s H args us vs Q E hr he hb hv hs => codeAny_mono (F.run A outer s H args us vs Q E hr he hb hv hs) fun r s' h => by
    cases r with
    | ok fl => cases fl <;> exact h
    | error e => exact (show False from h).elim⟩
/-! ### calls that may raise what the def may let out -/
theorem passX {P : Program} {w : World} {K : PySem.W.Frag} {mg : Str → Option Value} {base : Heap} {N : List Str} {q : Str} {sc : Scope} {f : Addr} {cd : Value} {A : Around} {outer : List Env} {s : Shared} {H : Hp} {E : XK} :
    Passes (L2.CX P w) (cxOf (L2.CX P w) P w K mg base N q sc f cd A outer s H E) E := passes_call (takes_of rfl rfl rfl rfl) (fun _ _ _ _ h => h)
def tCallX (sp : Sp) (E : XK) (t : TA) : TE := tCall sp [] E t
def tMethX (C : Addr) (m : Str) (sp : Sp) (E : XK) (ta : TE) (t : TA) : TE := tMeth C m sp [] E ta t
section
variable {X : Cx} {CX : CXT} {k : Nat} {f C : Addr} {fd : FuncData} {ps : List Str} {sp : Sp} {E : XK} {x m : Str} {p pos apos : Pos} {e o : Expr} {es : List Expr} {ta : TE} {t : TA}
theorem pe_callX (F : FnOk X.prog X.w X.K X.mg X.base CX k f fd ps sp) (hr : Room k X.A) (hg : Gl X x) (hm : X.mg x = some (.ref f)) (hk : PySem.W.keepIn X.K (.ref f) = true) (hb : Binds X.K fd ps []) (hx : Passes CX X E)
    (ha : PA X (e :: es) t) (hdb : (x == ("__debug__" : Str)) = false := by decide) (he : starEach (e :: es) X.env = (false, eval e X.env) :: starEach es X.env := by rfl) (hpl : (backTo pos (starEach es X.env)).any (·.1) = false := by rfl) :
    PE X (.Call (.Name x p) (e :: es) [] pos) (tCallX sp E t) := pe_call F hr hg hm hk hb .nil hx ha hdb he hpl
theorem pe_methX {pl : Sem Bool} (he : PE X o ta) (c : Cls X.K C) (hm : Meth X.K C m f) (F : FnOk X.prog X.w X.K X.mg X.base CX k f fd ps sp) (hr : Room k X.A) (hb : Binds X.K fd ps []) (hx : Passes CX X E) (ha : PA X (e :: es) t)
    (hst : starEach (e :: es) X.env = (false, eval e X.env) :: starEach es X.env := by rfl) (hpl : (backTo pos (starEach es X.env)).any (·.1) = false := by rfl)
    (ht : eval (.Call (.Attribute o m apos) (e :: es) [] pos) X.env = (do
      let ov ← eval o X.env
      standAt apos.atName
      let (f, first) ← holding [ov] (getMethod ov m pl)
      callWith pos f first (backTo pos (starEach (e :: es) X.env)) (backToKw pos (keywordEach [] X.env))) := by rfl) :
    PE X (.Call (.Attribute o m apos) (e :: es) [] pos) (tMethX C m sp E ta t) := pe_meth he c hm F hr hb .nil hx ha hst hpl ht
theorem pe_methX0 {pl : Sem Bool} (he : PE X o ta) (c : Cls X.K C) (hm : Meth X.K C m f) (F : FnOk X.prog X.w X.K X.mg X.base CX k f fd ps sp) (hr : Room k X.A) (hb : Binds X.K fd ps []) (hx : Passes CX X E)
    (ht : eval (.Call (.Attribute o m apos) [] [] pos) X.env = (do
      let ov ← eval o X.env
      standAt apos.atName
      let (f, first) ← holding [ov] (getMethod ov m pl)
      callWith pos f first [] []) := by rfl) :
    PE X (.Call (.Attribute o m apos) [] [] pos) (tMethX C m sp E ta tNil) := pe_meth0 he c hm F hr hb .nil hx ht
end
/-- data alone -/
def dCallPX (m : Nat) (P : DSp) (a : DA) (RX : XD) : DE := fun E C Q => a E C fun ws C1 => ws.length = m ∧ (vals ws).isSome = true ∧ P ws [] (fun w _ => Q w C1) fun c ds _ => RX c ds C1
instance ce_callPX {ct : Ct} {E : XK} {R : XD} {m : Nat} {P : DSp} {t : TA} {a : DA} [h : CA (ct.w E R) t a] : CE (ct.w E R) (tCallX (spD ct 0 m P) E t) (dCallPX m P a R) := ⟨fun B g σ H Ev C Q K Re k q => by
  refine h.run B g σ H Ev C _ _ Re (fun vs H1 ⟨g1, C1, ws, k1, R1, r1, q1⟩ => ?_) q
  obtain ⟨e1, e2, q2⟩ := q1
  rw [List.append_nil]
  refine ⟨⟨g1.F, [], []⟩, [], ws, _, _, by rw [← e1]; exact Paired.length r1, rfl, clz_nil R1.cs, rws_pure r1 e2, q2, fun v H' g' C' w k' f' c' l' r' q' => ?_, fun cls d H' g' C' c ds k' f' c' l' xv q' => ?_⟩
  · have e3 : C' = [] := List.eq_nil_of_length_eq_zero l'
    subst e3
    obtain ⟨k2, R2⟩ := R1.called k' f' c'
    refine k v H' ⟨_, C1, w, k1.trans k2, R2, ?_, q'⟩
    cases w with
    | val d => exact r'
    | ty n => exact r'
    | fn => exact r'
    | dct ds => exact r'
    | ref j =>
      obtain ⟨b, hb, _⟩ := r'
      have : g'.as.length = 0 := c'.la
      rw [List.eq_nil_of_length_eq_zero this] at hb
      simp at hb
  · have e3 : C' = [] := List.eq_nil_of_length_eq_zero l'
    subst e3
    obtain ⟨k2, R2⟩ := R1.called k' f' c'
    exact R2.xo _ _ _ cls d c ds R2.gg R2.fr R2.cs xv q'⟩
instance ce_callWX {ct : Ct} {E : XK} {R : XD} {n m : Nat} {P : DSp} {t : TA} {a : DA} [h : CA (ct.w E R) t a] : CE (ct.w E R) (tCallX (spD ct (n + 1) m P) E t) (dCallW (n + 1) m P a R) := ⟨fun B g σ H Ev C Q K Re k q => by
  refine h.run B g σ H Ev C _ _ Re (fun vs H1 ⟨g1, C1, ws, k1, R1, r1, q1⟩ => ?_) q
  unfold callK at q1
  dsimp only at q1
  split at q1
  · rename_i j e
    obtain ⟨e1, e2, e3, q2⟩ := q1
    rw [Bool.and_eq_true] at e3
    rw [List.append_nil]
    refine ⟨g1.wd j (n + 1), _, _, _, _, by rw [← e1]; exact Paired.length r1, ?_, R1.cs.wd j (n + 1) e3.2, r1.wd e3.1, q2, fun v H' g' C' w k' f' c' l' r' q' => ?_, fun cls d H' g' C' c ds k' f' c' l' xv q' => ?_⟩
    · rw [List.length_map, List.length_take, List.length_drop]
      omega
    · obtain ⟨k2, R2, h2⟩ := R1.calledW e2 k' f' c' l'
      exact k v H' ⟨_, _, _, k1.trans k2, R2, RW.un h2 r', q'⟩
    · obtain ⟨k2, R2, h2⟩ := R1.calledW e2 k' f' c' l'
      exact R2.xo _ _ _ cls d c ds R2.gg R2.fr R2.cs xv q'
  · exact q1.elim⟩
def dMethWX (c : Int) (mn : Str) (n m : Nat) (P : DSp) (a : DE) (t : DA) (RX : XD) : DE := fun E C Q => a E C fun x C1 => isOb c x C1 ∧ mn ∉ clsF c ∧ t E C1 fun ws C2 => callK n m P RX Q (x :: ws) C2 (firstRef (x :: ws))
instance ce_methWX {ct : Ct} {E : XK} {R : XD} {n m : Nat} {P : DSp} {Ca : Addr} {c : Int} {mn : Str} {te : TE} {t : TA} {e : DE} {a : DA} [h : CE (ct.w E R) te e] [h2 : CA (ct.w E R) t a] [hc : ClA ct Ca c] :
    CE (ct.w E R) (tMethX Ca mn (spD ct (n + 1) m P) E te t) (dMethWX c mn (n + 1) m P e a R) := ⟨fun B g σ H Ev C Q K Re k q => by
  refine h.run B g σ H Ev C _ _ Re (fun v H1 ⟨g1, C1, x, k1, R1, r1, q1⟩ => ?_) q
  obtain ⟨o1, o2, q1⟩ := q1
  obtain ⟨a0, dx, fs, rfl, ho, hn⟩ := isOb_ok (hc := hc) R1.cs r1 o1 o2
  refine ⟨a0, dx, fs, rfl, ho, hn, ?_⟩
  refine h2.run B g1 σ H1 Ev C1 _ _ R1 (fun vs H2 ⟨g2, C2, ws, k2, R2, r2, q2⟩ => ?_) q1
  unfold callK at q2
  dsimp only at q2
  split at q2
  · rename_i j e
    obtain ⟨e1, e2, e3, q3⟩ := q2
    rw [Bool.and_eq_true] at e3
    rw [List.append_nil]
    have rr : RWs ct g2 H2 (.ref a0 :: vs) (x :: ws) := .cons (RW.mono k2 r1) r2
    refine ⟨g2.wd j (n + 1), _, _, _, _, by rw [← e1]; exact Paired.length rr, ?_, R2.cs.wd j (n + 1) e3.2, rr.wd e3.1, q3, fun v H' g' C' w k' f' c' l' r' q' => ?_, fun cls d H' g' C' c ds k' f' c' l' xv q' => ?_⟩
    · rw [List.length_map, List.length_take, List.length_drop]
      omega
    · obtain ⟨k3, R3, h3⟩ := R2.calledW e2 k' f' c' l'
      exact k v H' ⟨_, _, _, k1.trans (k2.trans k3), R3, RW.un h3 r', q'⟩
    · obtain ⟨k3, R3, h3⟩ := R2.calledW e2 k' f' c' l'
      exact R3.xo _ _ _ cls d c ds R3.gg R3.fr R3.cs xv q'
  · exact q2.elim⟩
/-! ### raise C(..), C's own __init__ setting its fields; clsF: the last one first -/
def spXI (K : PySem.W.Frag) (ns : List Str) : Sp := fun vs H Q _ => ∃ (a C : Addr) (us : List V), vs = .ref a :: us ∧ us.length = ns.length ∧ H a = some (exo a C none) ∧ OexC K C ∧ (∀ f ∈ ns, PySem.W.findIn K (.ref C) f = some none) ∧
  ∀ dx, H dx = none → dx ≠ a → Q .non (upd (upd H dx (exd dx (ns.zip us.reverse))) a (exo a C (some dx)))
/-- what raising asks of a class -/
class ExA (K : PySem.W.Frag) (ct : Ct) (C : Addr) (c : outParam Int) : Prop where
  at_ : ct.cl.x c = some (C, clsF c)
  ox : OexC K C
  no : ∀ f ∈ clsF c, PySem.W.findIn K (.ref C) f = some none
instance {K : PySem.W.Frag} {ct : Ct} {C : Addr} {c : Int} {E : XK} {R : XD} [h : ExA K ct C c] : ExA K (ct.w E R) C c := ⟨h.at_, h.ox, h.no⟩
def tRaise (C : Addr) (sp : Sp) (ta : TA) (E : XK) : TS := fun _ σ H => tMkO C sp [] ta σ H fun cls d H' => E cls d H'
def raiK (R : XD) (c : Int) : Option (List D) → List Cell → Prop
  | some ds, C => ds.length = (clsF c).length ∧ R c ds.reverse C
  | none, _ => False
def dRaise (R : XD) (c : Int) (a : DA) : DS := fun _ E C => a E C fun ws C1 => raiK R c (vals ws) C1
theorem exd_x {dx : Addr} {fs gs : List (Str × V)} {H : Hp} (h : H dx = some (exd dx fs)) : H dx = some (exd dx fs) := h
instance cs_raise {K : PySem.W.Frag} {ct : Ct} {E : XK} {R : XD} {Ca : Addr} {c : Int} {t : TA} {a : DA} [h : CA (ct.w E R) t a] [hx : ExA K ct Ca c] : CS (ct.w E R) (tRaise Ca (spXI K (clsF c)) t E) (dRaise R c a) := ⟨fun B g σ H Ev C D DD Re e q => by
  refine h.run B g σ H Ev C _ _ Re (fun vs H1 ⟨g1, C1, ws, k1, R1, r1, q1⟩ => ?_) q
  unfold raiK at q1
  dsimp only at q1
  split at q1
  · rename_i ds ev
    obtain ⟨hl, q1⟩ := q1
    have hd := vals_ok r1 ev
    have hlv : vs.length = (clsF c).length := by rw [hd.length, hl]
    have hl4 : (clsF c).length ≤ 4 := by
      unfold clsF
      split <;> decide
    refine ⟨by omega, fun x nx => ?_⟩
    rw [List.append_nil]
    refine ⟨x, Ca, vs, rfl, hlv, upd_same, hx.ox, hx.no, fun dx ndx nex => ⟨rfl, dx, _, upd_same, by rw [upd_ne nex]; exact upd_same, ?_, ?_⟩⟩
    · rw [upd_ne nex] at ndx
      exact ndx
    · have ndx1 : H1 dx = none := by
        rw [upd_ne nex] at ndx
        exact ndx
      have eq : upd (del (upd (upd (upd H1 x (exo x Ca none)) dx (exd dx ((clsF c).zip vs.reverse))) x (exo x Ca (some dx))) x) dx (.xd ((clsF c).zip vs.reverse)) = upd H1 dx (.xd ((clsF c).zip vs.reverse)) := by
        funext b
        by_cases e1 : b = dx
        · rw [e1, upd_same, upd_same]
        · rw [upd_ne e1, upd_ne e1]
          by_cases e2 : b = x
          · rw [e2, del_same, nx]
          · rw [del_ne e2, upd_ne e2, upd_ne e1, upd_ne e2]
      rw [eq]
      obtain ⟨k2, R2⟩ := R1.new (o := .xd ((clsF c).zip vs.reverse)) false ndx1
      refine R2.xo _ _ _ (.ref Ca) (some dx) c ds.reverse R2.gg R2.fr R2.cs ⟨Ca, clsF c, hx.at_, rfl, .inr ⟨dx, vs.reverse, rfl, upd_same, ?_, RDs.mono k2.kp _ _ hd.rev⟩⟩ q1
      rw [List.length_reverse, hlv]
  · exact q1.elim⟩
/-- __init__ of an exception class, as the top has made it -/
structure Xni (K : PySem.W.Frag) (mg : Str → Option Value) (x : Str) (C : Addr) (q : Str) (st : Stmt) (ps : List Str) where
  f : Addr
  fd : FuncData
  F : Fun K "__init__" q st f fd
  b : Binds K fd ps []
  g : mg x = some (.ref C)
  ox : OexC K C
  iC : PySem.W.findIn K (.ref C) "__init__" = some (some (.ref f))
  tI : PySem.W.typeIn K (.ref f) = some (.type "function")
theorem ps_raiseX {P : Program} {w : World} {K : PySem.W.Frag} {mg : Str → Option Value} {base : Heap} {N : List Str} {q : Str} {sc : Scope} {f : Addr} {cd : Value} {A : Around} {outer : List Env} {s : Shared} {H : Hp} {E : XK} {x : Str} {C : Addr} {qq : Str} {st : Stmt} {ps : List Str} {k : Nat} {sp : Sp} {e : Expr} {es : List Expr} {ta : TA} {p pos pos' : Pos}
    (I : Xni K mg x C qq st ps) (F1 : FnOk P w K mg base CX0 k I.f I.fd ps sp) (hr : Room (k + 1) (cxOf (L2.CX P w) P w K mg base N q sc f cd A outer s H E).A) (hg : Gl (cxOf (L2.CX P w) P w K mg base N q sc f cd A outer s H E) x)
    (ha : PA (cxOf (L2.CX P w) P w K mg base N q sc f cd A outer s H E) (e :: es) ta) (hdb : (x == ("__debug__" : Str)) = false := by decide) (he : starEach (e :: es) (cxOf (L2.CX P w) P w K mg base N q sc f cd A outer s H E).env = (false, eval e (cxOf (L2.CX P w) P w K mg base N q sc f cd A outer s H E).env) :: starEach es (cxOf (L2.CX P w) P w K mg base N q sc f cd A outer s H E).env := by rfl)
    (hpl : (backTo pos (starEach es (cxOf (L2.CX P w) P w K mg base N q sc f cd A outer s H E).env)).any (·.1) = false := by rfl) :
    PS (cxOf (L2.CX P w) P w K mg base N q sc f cd A outer s H E) (.Raise (some (.Call (.Name x p) (e :: es) [] pos)) none pos') (tRaise C sp ta E) :=
  ps_raise rfl (takes_of rfl rfl rfl rfl) (pmk_oex I.ox I.iC I.tI F1 hr I.b .nil pass0 hg I.g ha hdb he hpl)
/-! ### a, b = x, y and a, b, c = x, y, z -/
section
variable {X : Cx} {pos : Pos}
def tPar3 (i j k : Nat) (ta : TA) : TS := fun D σ H => ta σ H fun vs H1 => ∃ u v w, vs = [u, v, w] ∧ D.nx (((σ.set i (some u)).set j (some v)).set k (some w)) H1
theorem ps_par3 {i j k : Nat} {x y z : Str} {a b c : Expr} {ta : TA} {px py pz pt : Pos} {kt k2 pt2} (hc : X.calm = true) (hN : X.N.Nodup) (hi : X.N[i]? = some x) (hj : X.N[j]? = some y) (hk : X.N[k]? = some z) (hij : i ≠ j) (hik : i ≠ k) (hjk : j ≠ k)
    (hx : X.env.scope.names.lookup x = some .local) (hy : X.env.scope.names.lookup y = some .local) (hz : X.env.scope.names.lookup z = some .local) (ha : PA X [a, b, c] ta)
    (hw : swappedStores [.Tuple [.Name x px, .Name y py, .Name z pz] kt pt] (.Tuple [a, b, c] k2 pt2) X.env = pure (some [x, y, z]))
    (hs : swapsWithSole [.Tuple [.Name x px, .Name y py, .Name z pz] kt pt] (.Tuple [a, b, c] k2 pt2) pos.line X.env = pure false := by rfl) :
    PS X (.Assign [.Tuple [.Name x px, .Name y py, .Name z pz] kt pt] (.Tuple [a, b, c] k2 pt2) pos) (tPar3 i j k ta) := by
  refine ⟨fun pins s σ H D I h => ?_⟩
  rw [exec_Assign_arm]
  refine wpAny_bind (wpAny_standAt ?_)
  rw [hs]
  refine wpAny_bind (wpAny_pure ?_)
  rw [if_neg (by decide)]
  refine wpAny_bind (Tuple_ (thn (ha.run _ pins s σ H _ I h) fun us s1 ⟨vs, H1, I1, r1, q1⟩ => ?_))
  obtain ⟨v0, v, w, e1, q1⟩ := q1
  subst e1
  obtain ⟨u0, u1, u2, rfl, r0, rv, rw'⟩ : ∃ u0 u1 u2, us = [u0, u1, u2] ∧ RelV v0 u0 ∧ RelV v u1 ∧ RelV w u2 := by
    cases r1 with
    | cons p q =>
      cases q with
      | cons p' q' =>
        cases q' with
        | cons p2 q2 =>
          cases q2
          exact ⟨_, _, _, rfl, p, p', p2⟩
  refine wpAny_newObj_type ?_ (by show 3 ≤ sizeLine; decide)
  have I2 : Inv X pins σ H1 { s1 with heap := s1.heap.push { cls := .type "tuple", data := .seq [u0, u1, u2].toArray } } := I1.kept (t' := s1.toks) fun b o e => Heap.get?_push_of_some _ e
  rw [hw]
  refine wpAny_bind (wpAny_pure ?_)
  show wpAny (model X.prog X.w) X.A (do rule "assign.swapped-stores"; let items ← unpackItems (.ref s1.heap.objs.size) 3 none; assignInOrder [fun v => bindName X.env z v, fun v => bindName X.env y v, fun v => bindName X.env x v] items.reverse; pure Flow.next) _ _ _
  refine wpAny_bind (wpAny_rule (wpAny_bind (unpackItems_tuple (items := #[u0, u1, u2]) (I.ok.hd hc) (IsTup.new s1.heap _) fun h' hx' => ?_)))
  have I3 := I2.kept (h' := h') (t' := s1.toks) fun b o e => hx' b o (Nat.ne_of_lt (Heap.lt_size e)) e
  show wpAny _ _ (assignInOrder [fun v => bindName X.env z v, fun v => bindName X.env y v, fun v => bindName X.env x v] [u2, u1, u0] >>= fun _ => pure Flow.next) _ _ _
  refine wpAny_bind (assignInOrder_cons (wpAny_bindName (store_ok I3 hN hk (.inl hz) rw' (fun s2 I4 => ?_) (.inr hz))))
  refine assignInOrder_cons (wpAny_bindName (store_ok I4 hN hj (.inl hy) rv (fun s3 I5 => ?_) (.inr hy)))
  refine assignInOrder_cons (wpAny_bindName (store_ok I5 hN hi (.inl hx) r0 (fun s4 I6 => assignInOrder_nil (wpAny_pure ?_)) (.inr hx)))
  have e : ((σ.set k (some w)).set j (some v)).set i (some v0) = ((σ.set i (some v0)).set j (some v)).set k (some w) := by
    rw [List.set_comm _ _ hjk.symm, List.set_comm _ _ hik.symm, List.set_comm _ _ hij.symm]
  rw [e] at I6
  exact ⟨_, H1, I6, q1⟩
end
def parK (i j : Nat) (D : DEnds) (E : Ev) : List W → List Cell → Prop
  | [u, v], C => D.nx ((E.set i (some u)).set j (some v)) C
  | _, _ => False
def dPar (i j : Nat) (a : DA) : DS := fun D E C => a E C fun ws C1 => parK i j D E ws C1
instance cs_par {ct : Ct} {i j : Nat} {t : TA} {a : DA} [h : CA ct t a] : CS ct (tPar i j t) (dPar i j a) := ⟨fun B g σ H E C D DD R e q => by
  refine h.run B g σ H E C _ _ R (fun vs H1 ⟨g1, C1, ws, k1, R1, r1, q1⟩ => ?_) q
  unfold parK at q1
  dsimp only at q1
  split at q1
  · obtain ⟨v, x, rfl, r2, r3⟩ := rws2 r1
    exact ⟨v, x, rfl, e.nx _ H1 g1 _ C1 k1 ((R1.set r2 i).set r3 j) q1⟩
  · exact q1.elim⟩
def parK3 (i j k : Nat) (D : DEnds) (E : Ev) : List W → List Cell → Prop
  | [u, v, w], C => D.nx (((E.set i (some u)).set j (some v)).set k (some w)) C
  | _, _ => False
def dPar3 (i j k : Nat) (a : DA) : DS := fun D E C => a E C fun ws C1 => parK3 i j k D E ws C1
theorem rws3 {ct : Cl} {g : Gh} {H : Hp} {vs : List V} {w u z : W} (h : RWs ct g H vs [w, u, z]) : ∃ v x y, vs = [v, x, y] ∧ RW ct g H v w ∧ RW ct g H x u ∧ RW ct g H y z := by
  cases h with
  | cons r rs =>
    obtain ⟨x, y, rfl, h2, h3⟩ := rws2 rs
    exact ⟨_, _, _, rfl, r, h2, h3⟩
instance cs_par3 {ct : Ct} {i j k : Nat} {t : TA} {a : DA} [h : CA ct t a] : CS ct (tPar3 i j k t) (dPar3 i j k a) := ⟨fun B g σ H E C D DD R e q => by
  refine h.run B g σ H E C _ _ R (fun vs H1 ⟨g1, C1, ws, k1, R1, r1, q1⟩ => ?_) q
  unfold parK3 at q1
  dsimp only at q1
  split at q1
  · obtain ⟨v, x, y, rfl, r2, r3, r4⟩ := rws3 r1
    exact ⟨v, x, y, rfl, e.nx _ H1 g1 _ C1 k1 (((R1.set r2 i).set r3 j).set r4 k) q1⟩
  · exact q1.elim⟩
theorem call_isiOC {X : Cx} {K : PySem.W.Frag} (h : X.K = K) : CallR X (.builtin "isinstance") (rIsiO K) := h ▸ call_isiO
/-! ### the first cells: nothing is shifted -/
theorem shW0 (ws : List W) : ws.map (shW 0) = ws := by
  induction ws with
  | nil => rfl
  | cons w r ih =>
    rw [List.map_cons, ih]
    cases w <;> rfl
theorem unW0 (ws : List W) : ws.map (unW 0) = ws := by
  induction ws with
  | nil => rfl
  | cons w r ih =>
    rw [List.map_cons, ih]
    cases w <;> rfl
theorem unW0' (w : W) : unW 0 w = w := by cases w <;> rfl
theorem shC0' (c : Cell) : shC 0 c = c := by
  cases c with
  | obj c ws => exact congrArg (Cell.obj c) (shW0 ws)
  | _ => rfl
theorem unC0' (c : Cell) : unC 0 c = c := by
  cases c with
  | obj c ws => exact congrArg (Cell.obj c) (unW0 ws)
  | _ => rfl
theorem unC0 (C : List Cell) : C.map (unC 0) = C := by
  induction C with
  | nil => rfl
  | cons c r ih => rw [List.map_cons, ih, unC0']
theorem shC0 (C : List Cell) : C.map (shC 0) = C := by
  induction C with
  | nil => rfl
  | cons c r ih => rw [List.map_cons, ih, shC0']
theorem inW_ok {n : Nat} {ws : List W} (h : ws.all (wOk n) = true) : ws.all (inW 0 n) = true := by
  rw [List.all_eq_true] at h ⊢
  intro w hw
  have := h w hw
  cases w with
  | ref j =>
    show (decide (0 ≤ j) && decide (j < 0 + n)) = true
    have h2 : decide (j < n) = true := this
    rw [Nat.zero_add, h2]
    rfl
  | _ => rfl
/-! ### a lambda of one parameter -/
section
open LamX
variable {X : Cx} {pins : List (Addr × Obj)} {σ : L2.St} {H : Hp} {s : Shared}
/-- one table grows, all else stays -/
structure LStep (P : Addr) (H H1 : Hp) : Prop where
  keep : ∀ b o, b ≠ P → H b = some o → H1 b = some o
  old : ∃ ps, H P = some (.tbl ps)
  new : ∃ qs, H1 P = some (.tbl qs)
theorem LStep.ext {P : Addr} {H H1 : Hp} (l : LStep P H H1) : ExtN H H1 := fun b o e n => l.keep b o (fun z => by
  obtain ⟨ps, q⟩ := l.old
  rw [z, q] at e
  exact n ps (Option.some.inj e).symm) e
/-- what is there once a lambda is made -/
structure Made (X : Cx) (pins : List (Addr × Obj)) (σ : L2.St) (T : List (Addr × Str)) (P : Addr) (params : Arguments) (body : Expr) (scope : Scope) (H : Hp) (f c' : Addr) (pm ctv : Value) (H1 : Hp) (s' : Shared) : Prop where
  inv : Inv X pins σ H1 s'
  st : LStep P H H1
  tabs : Tabs T H1
  ob : s'.heap.get? f = some (PySem.W.kla_obj "<lambda>" (X.env.qual ++ "<lambda>") params body scope (cloFrom X.env.cells scope.names []) pm c' ctv)
  fn : H1 f = none
  fr : f ∉ frs X.stack
  co : H1 c' = some (CodeO c' (X.env.qual ++ "<lambda>"))
theorem upd2 {U : Hp} {p q b : Addr} {o r : HO} (h1 : b ≠ p) (h2 : b ≠ q) : upd (upd U p o) q r b = U b := (upd_ne h2).trans (upd_ne h1)
theorem tabs_more {T : List (Addr × Str)} {P k : Addr} {nm : Str} {rows : Array Value} {U : Hp} {at_ : Pos} (old : Tabs T U) (here : U P = some (.tbl rows)) (tri : TriplesOk rows.toList) (own : ∀ (z : Pos) (x : Value), codeAmong z rows.toList = some x → ∃ e, x = .ref e ∧ U e = some (CodeO e nm))
    (one : ∀ p ∈ T, p.1 = P → p.2 = nm) (nk : U k = none) (ke : ExtN U (upd (upd U P (.tbl (rows ++ #[rawInt at_.line, rawInt at_.col, .ref k]))) k (CodeO k nm))) : Tabs T (upd (upd U P (.tbl (rows ++ #[rawInt at_.line, rawInt at_.col, .ref k]))) k (CodeO k nm)) := fun p mem => by
  have pk : P ≠ k := ne_of_none here nk
  have nt : ∀ {e : Addr} {y : Str} (u : Array Value), CodeO e y ≠ .tbl u := fun u z => by
    unfold CodeO at z
    exact HO.noConfusion z
  rcases Classical.em (p.1 = P) with same | other
  · refine ⟨rows ++ #[rawInt at_.line, rawInt at_.col, .ref k], by rw [same]; exact (upd_ne pk).trans upd_same, ?_, ?_⟩
    · have w := TriplesOk_snoc at_.line at_.col (.ref k) rows.toList tri
      simpa using w
    · intro z x hx
      have hx2 : codeAmong z (rows.toList ++ [rawInt at_.line, rawInt at_.col, .ref k]) = some x := by simpa using hx
      rw [one p mem same]
      exact (among_app _ tri hx2).elim (fun y => (own z x y).elim fun e w => ⟨e, w.1, ke _ _ w.2 nt⟩) (fun y => ⟨k, y, upd_same⟩)
  · obtain ⟨u, w1, w2, w3⟩ := old p mem
    exact ⟨u, (upd2 other (ne_of_none w1 nk)).trans w1, w2, fun z x hx => (w3 z x hx).elim fun e w => ⟨e, w.1, ke _ _ w.2 nt⟩⟩
theorem lam_new {T : List (Addr × Str)} {c P : Addr} {params : Arguments} {body : Expr} {scope : Scope} {at_ : Pos} {E : Value → Shared → Prop} {Q : Value → Shared → Prop} (J : Inv X pins σ H s) (tb : TabB X.base X.mg c P) (cc : X.env.code = .ref c)
    (inT : (P, X.env.qual ++ "<lambda>") ∈ T) (one : ∀ p ∈ T, p.1 = P → p.2 = X.env.qual ++ "<lambda>") (old : Tabs T H) (nodef : defaultsOf params X.env = ([], [])) (fre : ∀ y ∈ scope.names, y.2 = .free → ∃ c, X.env.cells.lookup y.1 = some c)
    (go : ∀ f c' pm ctv H1 s', Made X pins σ T P params body scope H f c' pm ctv H1 s' → Q (.ref f) s') : wpAny (model X.prog X.w) X.A (eval (.Lambda params body scope at_) X.env) Q E s := by
  obtain ⟨rows, here, tri, own⟩ := old _ inT
  have real : s.heap.get? P = some { cls := .none, data := .fields rows } := J.hok P _ here
  have far : ∀ f, s.heap.objs.size ≤ f → f ∉ frs X.stack := fun f big mem => (List.mem_cons.mp (J.stkSub _ mem)).elim
    (fun e => absurd (e ▸ J.lt : f < s.heap.objs.size) (Nat.not_lt.mpr big)) (J.nofs big)
  refine PySem.W.kla_eval nodef ?_
  rcases found : codeAmong at_ rows.toList with _ | x
  · refine PySem.W.kla_makeFunction (mg := X.mg) (ps := rows) (P := P) (c := c) (closure_ok fre) J.ok.glob (J.mod.glob.keeps J.bk) cc (tb.code.keeps J.bk) real tri found tb.gP (tb.bm.keeps J.bk) ?_
    rintro k cv g tk sub big les ⟨_, oc, vs, t, ek, w1, w2, w3⟩ wt
    cases ek
    have nk : H k = none := J.hok.fresh big
    have gs : s.heap.objs.size ≤ g.objs.size := Nat.le_of_lt (Nat.lt_of_le_of_lt big les)
    have ke : ExtN H (upd (upd H P (.tbl (rows ++ #[rawInt at_.line, rawInt at_.col, .ref k]))) k (CodeO k (X.env.qual ++ "<lambda>"))) := fun b o e n => (upd2 (fun z => n rows (Option.some.inj (e.symm.trans (by rw [z]; exact here)))) (ne_of_none e nk)).trans e
    have fP : g.objs.size ≠ P := Nat.ne_of_gt (Nat.lt_of_lt_of_le (Heap.lt_size real) gs)
    refine go g.objs.size k ((X.mg "__name__").getD .none) cv _ _ ⟨inv_table (more := #[rawInt at_.line, rawInt at_.col, .ref k]) (t' := tk) J here (fun b o nb e => Heap.get?_push_of_some _ (sub b o nb e)) (Heap.get?_push_of_some _ wt) big ⟨oc, vs, t, Heap.get?_push_of_some _ w1, w2, w3⟩,
      ⟨fun b o nb e => (upd2 nb (ne_of_none e nk)).trans e, ⟨rows, here⟩, ⟨_, (upd_ne (ne_of_none here nk)).trans upd_same⟩⟩, tabs_more old here tri own one nk ke, Heap.get?_push_size _ rfl, (upd2 fP (Nat.ne_of_gt les)).trans (J.hok.fresh gs), far _ gs, upd_same⟩
  · obtain ⟨k, rfl, wk⟩ := own at_ x found
    refine PySem.W.kla_makeFunctionHit (mg := X.mg) (ps := rows) (P := P) (c := c) (closure_ok fre) J.ok.glob (J.mod.glob.keeps J.bk) cc (tb.code.keeps J.bk) real tri found (tb.bm.keeps J.bk) ?_
    intro cv g tk sub big
    exact go g.objs.size k ((X.mg "__name__").getD .none) cv H _ ⟨J.kept fun b o e => Heap.get?_push_of_some _ (sub b o e), ⟨fun b o _ e => e, ⟨rows, here⟩, ⟨rows, here⟩⟩, old, Heap.get?_push_size _ rfl, J.hok.fresh big, far _ big, wk⟩
end
open LamX
/-! ### a lambda with a parameter: its names, its context -/
structure LamS1 (sc scope : Scope) (a : Str) : Prop where
  fn : scope.kind = .function
  nc : scope.isCoroutine = false
  ng : scope.isGenerator = false
  ce : ∀ y ∈ scope.names, y.2 ≠ .cell
  lo : ∀ y ∈ scope.names, y.2 = .local → y.1 = a
  pa : scope.names.lookup a = some .local
  fr : ∀ y ∈ scope.names, y.2 = .free → sc.names.lookup y.1 = some .cell ∨ sc.names.lookup y.1 = some .free
def lamS1B (sc scope : Scope) (a : Str) : Bool :=
  decide (scope.kind = .function) && !scope.isCoroutine && !scope.isGenerator && (scope.names.all fun y => !decide (y.2 = .cell) && (!decide (y.2 = .local) || y.1 == a) && (!decide (y.2 = .free) || decide (sc.names.lookup y.1 = some .cell) || decide (sc.names.lookup y.1 = some .free))) && decide (scope.names.lookup a = some .local)
theorem lamS1_by {sc scope : Scope} {a : Str} (h : lamS1B sc scope a = true) : LamS1 sc scope a := by
  unfold lamS1B at h
  simp only [Bool.and_eq_true, Bool.or_eq_true, Bool.not_eq_true', decide_eq_true_eq, decide_eq_false_iff_not, List.all_eq_true] at h
  obtain ⟨⟨⟨⟨w1, w2⟩, w3⟩, w4⟩, w5⟩ := h
  refine ⟨w1, w2, w3, fun y m => (w4 y m).1.1, fun y m e => ?_, w5, fun y m e => ?_⟩
  · exact (w4 y m).1.2.elim (fun z => absurd e z) (fun z => eq_of_beq z)
  · exact (w4 y m).2.elim (fun z => z.elim (fun z => absurd e z) .inl) .inr
theorem LamS1.all {X : Cx} {scope : Scope} {a : Str} (L : LamS1 X.env.scope scope a) (ok : X.Ok) : ∀ y ∈ scope.names, y.2 = .free → ∃ c, X.env.cells.lookup y.1 = some c :=
  fun y m e => ok.has _ (L.fr y m e)
abbrev lamCx1 (X : Cx) (A : Around) (outer : List Env) (s : Shared) (H : Hp) (E : XK) (scope : Scope) (f c' : Addr) (a : Str) : Cx := { lamCx X A outer s H E scope f c' with N := X.N ++ [a] }
section
variable {X : Cx} {pins : List (Addr × Obj)} {σ : L2.St} {H HZ : Hp} {s s1 : Shared}
theorem lam_in1 {A : Around} {outer : List Env} {E : XK} {scope : Scope} {f c' : Addr} {g : Heap} {tk : Nat} {a : Str} {v : V} {u : Value} (J : Inv X pins σ H s) (L : LamS1 X.env.scope scope a) (na : a ∉ X.N) (rv : RelV v u) (e0 : Env0 X.prog X.w X.K X.mg X.base A outer s1 HZ) (nh : A.handled = none)
    (un : Un (frs X.stack) [] H HZ s.heap s1.heap) (ns : g.Ns s1.heap.objs.size fun y => ([(a, u)] : List (Str × Value)).reverse.lookup y) (kp : ∀ b o, s1.heap.get? b = some o → g.get? b = some o) :
    Inv (lamCx1 X A outer s1 HZ E scope f c' a) [] (σ ++ [some v]) HZ { s1 with heap := g, toks := tk } := by
  have out : ∀ {y c}, (cloFrom X.env.cells scope.names []).lookup y = some c → X.env.cells.lookup y = some c := fun {y c} e => by
    rcases cloFrom_mem (PySem.mem_of_lookup e) with z | ⟨w1, w2⟩
    · exact absurd z (by simp)
    · obtain ⟨c1, k⟩ := L.all J.ok _ w1 rfl
      have k : X.env.cells.lookup y = some c1 := k
      rw [k, w2, k] <;> rfl
  have in_ : ∀ {y}, scope.names.lookup y = some .free → ∃ c, (cloFrom X.env.cells scope.names []).lookup y = some c := fun {y} e =>
    mem_lookup (cloFrom_has (cells := X.env.cells) (acc := []) (show (y, NameKind.free) ∈ scope.names from PySem.mem_of_lookup e))
  have still : ∀ {c : Addr} {x : Option Value}, H c = none → s.heap.IsCell c x → g.IsCell c x := fun {c x} n ⟨o, w1, w2⟩ => (un.any w1 n (by simp)).elim fun sl q => ⟨_, kp _ _ q, w2⟩
  have none_ : ∀ b : Addr, b ∉ (lamCx1 X A outer s1 HZ E scope f c' a).ex := fun b z => by cases (show b ∈ ([] : List Addr) from z)
  refine ⟨⟨e0.mod, L.fn, rfl, rfl, Nat.le_refl _, fun y z c p q => J.ok.inj y z c (out p) (out q), fun y k => ?_, fun y c z => (by cases (show false = true from z)), fun _ => nh, Around.frames_deeper e0.frames, .inr ⟨rfl, rfl⟩, fun b z => absurd z (none_ b), e0.bs, e0.bsz, fun b _ _ => none_ b, fun b z => absurd z (none_ b), e0.funs, e0.frf⟩,
    rfl, e0.bare, Un.kept kp, ⟨_, ns, fun i y x p q vis => ?_⟩, fun y c e => ?_, e0.hok.fresh (Nat.le_refl _), fun y c e => ?_, fun q k => (by cases (show q ∈ ([] : List (Addr × Obj)) from k)), e0.hok.kept kp, by
      show (σ ++ [some v]).length = (X.N ++ [a]).length
      rw [List.length_append, List.length_append, J.len]; rfl⟩
  · rcases (show scope.names.lookup y = some .cell ∨ scope.names.lookup y = some .free from k) with k | k
    · exact absurd rfl (L.ce _ (PySem.mem_of_lookup k))
    · exact in_ k
  · have p : (X.N ++ [a])[i]? = some y := p
    rcases Nat.lt_or_ge i X.N.length with lt | ge
    · rw [List.getElem?_append_left lt] at p
      rw [List.getElem?_append_left (by rw [J.len]; exact lt)] at q
      rcases (show Vis scope y from vis) with k | k | k
      · exact absurd (L.lo _ (PySem.mem_of_lookup k) rfl ▸ List.mem_of_getElem? p) na
      · exact absurd rfl (L.ce _ (PySem.mem_of_lookup k))
      · obtain ⟨m, _, lk⟩ := J.loc
        have far := L.fr _ (PySem.mem_of_lookup k) rfl
        obtain ⟨w, r, at_⟩ := lk i y x p q (far.elim (fun k => .inr (.inl k)) (fun k => .inr (.inr k)))
        obtain ⟨c2, k2⟩ := in_ k
        refine ⟨w, r, .inr ⟨.inr k, c2, k2, ?_⟩⟩
        rcases at_ with ⟨k', _⟩ | ⟨_, c3, e', z⟩
        · have k' : X.env.scope.names.lookup y = some .local := k'
          rcases far with k3 | k3 <;> (rw [show X.env.scope.names.lookup y = _ from k3] at k'; cases k')
        · rw [out k2] at e'
          cases e'
          exact still (J.freeC y _ (out k2)) z
    · rw [List.getElem?_append_right ge] at p
      rw [List.getElem?_append_right (by rw [J.len]; exact ge)] at q
      have hi : i - X.N.length = 0 := by
        rcases Nat.eq_zero_or_pos (i - X.N.length) with z | z
        · exact z
        · rw [List.getElem?_eq_none (show [a].length ≤ i - X.N.length from z)] at p
          cases p
      rw [hi] at p
      rw [J.len, hi] at q
      cases p
      cases q
      exact ⟨u, rv, .inl ⟨L.pa, by simp⟩⟩
  · obtain ⟨x, z⟩ := J.cell y c (out e)
    exact ⟨x, still (J.freeC y c (out e)) z⟩
  · obtain ⟨x, o, w1, w2⟩ := J.cell y c (out e)
    exact un.free c o w1 (J.freeC y c (out e)) (by simp)
/-- walk(x) in the def that got the lambda; Z: that def's context, entered at s -/
theorem pe_act1 {CXg : CXT} {Eg : XK} {Ng : List Str} {qg : Str} {sg : Scope} {g f c' : Addr} {cdg pm ctv : Value} {params : Arguments} {body : Expr} {scope : Scope} {k i j : Nat} {w b a : Str} {pn : List (Addr × Obj)} {xe : Value → Shared → Prop} {W : WX} {E : XK} {tb : TE} {p1 p2 p3 : Pos}
    (J : Inv X pins σ H s) (L : LamS1 X.env.scope scope a) (na : a ∉ X.N) (of_ : s.heap.get? f = some (PySem.W.kla_obj "<lambda>" (X.env.qual ++ "<lambda>") params body scope (cloFrom X.env.cells scope.names []) pm c' ctv)) (nf : H f = none) (ff : f ∉ frs X.stack)
    (bind : ∀ u : Value, bindArgs (PySem.W.kla_fn "<lambda>" (X.env.qual ++ "<lambda>") params body scope (cloFrom X.env.cells scope.names []) pm (.ref c') ctv) ⟨[u], []⟩ = pure [(a, u)])
    (tk : Takes ((cxOf CXg X.prog X.w X.K X.mg X.base Ng qg sg g cdg X.A X.stack s H Eg).tr pn xe) W) (sub : ∀ cls d σ' H', σ'.length = Ng.length → E cls d H' → W cls d σ' H') (hr : Room (k + 1) (X.A.deeper (envOfC qg sg s.heap.objs.size g cdg)))
    (run : ∀ (A : Around) (outer : List Env) (s : Shared) (H : Hp), Room k (A.deeper (lamEnv X scope s.heap.objs.size f c')) → PE (lamCx1 X A outer s H E scope f c' a) body tb)
    (hw : Ng[i]? = some w) (vw : Vis sg w) (hb : Ng[j]? = some b) (vb : Vis sg b) (d1 : (w == ("__debug__" : Str)) = false := by decide) (d2 : (w == ("__classdict__" : Str)) = false := by decide) (d3 : (b == ("__debug__" : Str)) = false := by decide) (d4 : (b == ("__classdict__" : Str)) = false := by decide) :
    PE ((cxOf CXg X.prog X.w X.K X.mg X.base Ng qg sg g cdg X.A X.stack s H Eg).tr pn xe) (.Call (.Name w p1) [.Name b p3] [] p2)
      (fun σZ HZ Q => ∃ v, σZ[i]? = some (some (.ref f)) ∧ σZ[j]? = some (some v) ∧ HZ c' = some (CodeO c' (X.env.qual ++ "<lambda>")) ∧ tb (σ ++ [some v]) HZ Q) := by
  refine ⟨fun pz sz σz HZ Q Jz hq => ?_⟩
  obtain ⟨v, at1, at2, co, ht⟩ := hq
  refine wpAny_Call_Name_kw (thn ((pe_var (pos := p1) hw vw d1 d2).run pz sz σz HZ (fun x H1 => x = .ref f ∧ H1 = HZ) Jz ⟨_, at1, rfl, rfl⟩) fun u1 s1 ⟨x1, H1, J1, r1, q1⟩ => ?_)
  obtain ⟨rfl, rfl⟩ := q1
  obtain rfl : u1 = Value.ref f := r1
  have there : ∀ {z : Shared}, Inv ((cxOf CXg X.prog X.w X.K X.mg X.base Ng qg sg g cdg X.A X.stack s H Eg).tr pn xe) pz σz H1 z → z.heap.get? f = some (PySem.W.kla_obj "<lambda>" (X.env.qual ++ "<lambda>") params body scope (cloFrom X.env.cells scope.names []) pm c' ctv) :=
    fun {z} Y => Y.base.keep f _ of_ nf ff (fun z => by cases (show f ∈ ([] : List Addr) from z))
  refine PySem.W.callWith_F ⟨_, _, _, _, there J1⟩ ?_
  refine Calls.spliced_cons (thn ((pe_var (pos := p3) hb vb d3 d4).run pz s1 σz H1 (fun x H2 => x = v ∧ H2 = H1) J1 ⟨_, at2, rfl, rfl⟩) fun u s2 ⟨x2, H2, J2, r2, q2⟩ => ?_)
  obtain ⟨rfl, rfl⟩ := q2
  refine Calls.spliced_nil ⟨⟨_, _, _, _, there J2⟩, ?_⟩
  have un : Un (frs X.stack) [] H H2 s.heap s2.heap := J2.base
  obtain ⟨⟨oc, vs, t, c1, c2, c3⟩, _, _⟩ := J2.hok c' _ co
  have rc : codeAny (model X.prog X.w) (X.A.deeper (envOfC qg sg s.heap.objs.size g cdg)) (.call (.ref f) ⟨[u], []⟩) (CR (L2.CX X.prog X.w) (envOfC qg sg s.heap.objs.size g cdg :: X.stack) X.prog X.w H2 s2 Q E) s2 := by
    refine PySem.W.kla_callFunE hr.depth (there J2) rfl L.nc L.ng rfl ⟨c', oc, vs, t, rfl, c1, c2, c3⟩ ?_
    rw [bind]
    refine wpAny_pure (wpAny_newFunctionEnv L.ce (fun y m => by rw [List.mem_singleton.mp m]; exact L.pa) (fun g0 ns same => ⟨J2.nolimit.fresh _ same, ?_⟩) L.fn)
    have kp : ∀ b o, s2.heap.get? b = some o → g0.get? b = some o := fun b o e => same.extBut b o (Nat.ne_of_lt (Heap.lt_size e)) (Heap.get?_push_of_some _ e)
    have In := lam_in1 (E := E) (f := f) (c' := c') (tk := s2.toks + ([(a, u)] : List (Str × Value)).length) J L na r2 J2.env0 hr.hd un ns kp
    refine PySem.W.kla_codeExpr (wpAny_mono ((run _ _ s2 H2 (hr.deeper _)).run [] _ _ H2 Q In ht) (fun u' s' fin => ?_) fun e s' fin => fin)
    obtain ⟨w', H', Y, rv, q⟩ := fin
    exact ⟨w', H', Y.os, Y.bare, Y.base, Y.hok, rv, q⟩
  refine wpAny_call (codeAny_mono rc fun r s' fin => ?_)
  rcases r with e | fl
  · exact tk e s' (XE.of_call J2 (fun cls d H' y => sub cls d σz H' J2.len y) fin)
  · rcases fl with _ | _ | _ | u'
    · exact False.elim fin
    · exact False.elim fin
    · exact False.elim fin
    · exact J2.after fin
end
open LamX
/-! ### a lambda handed to a def of four parameters -/
abbrev TL := XK → List V → Hp → VK → Prop
def tAct (f c' : Addr) (q : Str) (i j : Nat) (tl : TL) (E : XK) : TE := fun σ H Q => ∃ v, σ[i]? = some (some (.ref f)) ∧ σ[j]? = some (some v) ∧ H c' = some (CodeO c' q) ∧ tl E [v] H Q
/-- what the def does with the lambda that it got in its last parameter -/
def Gives4 (X : Cx) (k : Nat) (N : List Str) (x : Str) (sg : Scope) (g : Addr) (cd : Value) (bg : List Stmt) (w b : Str) (q : Str) (TT : TL → Addr → Addr → List V → Hp → VK → Prop) : Prop :=
  ∀ (f c' : Addr) (s : Shared) (H : Hp) (Q : VK) (tl : TL) (vs : List V), Room (k + 1) (X.A.deeper (envOfC x sg s.heap.objs.size g cd)) →
    (∀ (pn : List (Addr × Obj)) (xe : Value → Shared → Prop) (E : XK) (W : WX) (p1 p2 p3 : Pos), Takes ((cxOf CX0 X.prog X.w X.K X.mg X.base N x sg g cd X.A X.stack s H L2.E0).tr pn xe) W → (∀ cls d σ' H', σ'.length = N.length → E cls d H' → W cls d σ' H') →
      PE ((cxOf CX0 X.prog X.w X.K X.mg X.base N x sg g cd X.A X.stack s H L2.E0).tr pn xe) (.Call (.Name w p1) [.Name b p3] [] p2) (tAct f c' q 3 4 tl E)) →
    vs.length = 3 → H c' = some (CodeO c' q) → TT tl f c' vs H Q →
    ∃ t, PSs (cxOf CX0 X.prog X.w X.K X.mg X.base N x sg g cd X.A X.stack s H L2.E0).nox bg t ∧ t { nx := fun _ H' => Q .non H', rt := Q } (L2.start N (vs ++ [.ref f])) H
def tLam4 (T : List (Addr × Str)) (P : Addr) (q : Str) (TT : TL → Addr → Addr → List V → Hp → VK → Prop) (t1 t2 t3 : TE) (t : XK → TE) : TE := fun σ H Q => t1 σ H fun v1 H1 => t2 σ H1 fun v2 H2 => t3 σ H2 fun v3 H3 => Tabs T H3 ∧ ∀ f c' H4, LStep P H3 H4 → Tabs T H4 → H4 f = none → H4 c' = some (CodeO c' q) →
  TT (fun E us H' Q' => ∃ v, us = [v] ∧ t E (σ ++ [some v]) H' Q') f c' [v1, v2, v3] H4 Q
theorem pe_imp {X : Cx} {e : Expr} {t t' : TE} (h : PE X e t) (k : ∀ σ H Q, t' σ H Q → t σ H Q) : PE X e t' := ⟨fun pins s σ H Q J q => h.run pins s σ H Q J (k σ H Q q)⟩
section
variable {X : Cx}
theorem pe_lam4 {T : List (Addr × Str)} {TT : TL → Addr → Addr → List V → Hp → VK → Prop} {x w b a : Str} {g c P : Addr} {k : Nat} {st : Stmt} {fd : FuncData} {N ps : List Str} {params : Arguments} {body : Expr} {scope : Scope} {t : XK → TE} {t1 t2 t3 : TE} {e1 e2 e3 : Expr} {p lpos pos : Pos}
    (hg : Gl X x) (hm : X.mg x = some (.ref g)) (F : Fun X.K x x st g fd) (hb : Binds X.K fd ps []) (S : FnScope N ps (defScope st)) (l4 : ps.length = 4) (n3 : N[3]? = some w) (vw : Vis (defScope st) w) (n4 : N[4]? = some b) (vb : Vis (defScope st) b)
    (hG : ∀ cd, Gives4 X k N x (defScope st) g cd (defBody st) w b (X.env.qual ++ "<lambda>") TT)
    (TB : TabB X.base X.mg c P) (cc : X.env.code = .ref c) (inT : (P, X.env.qual ++ "<lambda>") ∈ T) (one : ∀ p ∈ T, p.1 = P → p.2 = X.env.qual ++ "<lambda>") (hr : Room (k + 2) X.A) (L : LamS1 X.env.scope scope a) (na : a ∉ X.N) (nodef : defaultsOf params X.env = ([], []))
    (bind : ∀ (q : Str) (cl : List (Str × Addr)) (pm cv ctv u : Value), bindArgs (PySem.W.kla_fn "<lambda>" q params body scope cl pm cv ctv) ⟨[u], []⟩ = pure [(a, u)])
    (run : ∀ (A : Around) (outer : List Env) (s : Shared) (H : Hp) (E : XK) (f c' : Addr), Room k (A.deeper (lamEnv X scope s.heap.objs.size f c')) → PE (lamCx1 X A outer s H E scope f c' a) body (t E))
    (h1 : PE X e1 t1) (h2 : PE X e2 t2) (h3 : PE X e3 t3) (hdb : (x == ("__debug__" : Str)) = false := by decide) (d1 : (w == ("__debug__" : Str)) = false := by decide) (d2 : (w == ("__classdict__" : Str)) = false := by decide) (d3 : (b == ("__debug__" : Str)) = false := by decide) (d4 : (b == ("__classdict__" : Str)) = false := by decide)
    (s1 : starEach [e1, e2, e3, .Lambda params body scope lpos] X.env = (false, eval e1 X.env) :: starEach [e2, e3, .Lambda params body scope lpos] X.env := by rfl) (s2 : starEach [e2, e3, .Lambda params body scope lpos] X.env = (false, eval e2 X.env) :: starEach [e3, .Lambda params body scope lpos] X.env := by rfl)
    (s3 : starEach [e3, .Lambda params body scope lpos] X.env = (false, eval e3 X.env) :: starEach [.Lambda params body scope lpos] X.env := by rfl) :
    PE X (.Call (.Name x p) [e1, e2, e3, .Lambda params body scope lpos] [] pos) (tLam4 T P (X.env.qual ++ "<lambda>") TT t1 t2 t3 t) := by
  refine ⟨fun pins s σ H Q J h => ?_⟩
  refine wpAny_Call_Name_kw (ld_glob J hg hm ?_ hdb)
  refine PySem.W.callWith_K (h₀ := X.base) J.ok.mod.kin F.kp ?_ s1 (by rw [s2, s3]; rfl)
  rw [s1, s2, s3]
  refine Calls.spliced_cons (thn (h1.run pins s σ H _ J h) fun u1 z1 ⟨v1, H1, J1, r1, q1⟩ => ?_)
  refine Calls.spliced_cons (thn (h2.run pins z1 σ H1 _ J1 q1) fun u2 z2 ⟨v2, H2, J2, r2, q2⟩ => ?_)
  refine Calls.spliced_cons (thn (h3.run pins z2 σ H2 _ J2 q2) fun u3 z3 ⟨v3, H3, J3, r3, q3⟩ => ?_)
  obtain ⟨hT, q3⟩ := q3
  refine Calls.spliced_cons (lam_new J3 TB cc inT one hT nodef (L.all J.ok) fun f c' pm ctv H4 z4 M => ?_)
  have J4 := M.inv
  refine Calls.spliced_nil ⟨J4.kIn, ?_⟩
  obtain ⟨oc, od, kV, doc, pm', an, cdv, ct, osl, rfl, lk, hcd⟩ := F.ex
  have rc : codeAny (model X.prog X.w) X.A (.call (.ref g) ⟨[u1, u2, u3, .ref f], []⟩) (CR CX0 X.stack X.prog X.w H4 z4 Q L2.E0) z4 := by
    refine run_ofS (N := N) (ps := ps) (us := [u1, u2, u3, .ref f]) (vs := [v1, v2, v3, .ref f]) lk hcd S hr J4.env0 (hb z4 [u1, u2, u3, .ref f] J4.kIn (by rw [l4]; rfl)) (.cons r1 (.cons r2 (.cons r3 (.cons rfl .nil)))) (by rw [l4]; rfl) fun hr' => ?_
    obtain ⟨tt, w1, w2⟩ := hG cdv f c' z4 H4 Q (fun E us H' Q' => ∃ v, us = [v] ∧ t E (σ ++ [some v]) H' Q') [v1, v2, v3] hr' (fun pn xe E W p1 p2 p3 tk sub => pe_imp (pe_act1 (i := 3) (j := 4) J4 L na M.ob M.fn M.fr (bind _ _ _ _ _) tk sub hr' (fun A outer s H hr2 => run A outer s H E f c' hr2) n3 vw n4 vb d1 d2 d3 d4) fun σz Hz Qz ⟨v, at1, at2, co, v', ev, ht⟩ => ⟨v, at1, at2, co, List.cons.inj ev |>.1 ▸ ht⟩) rfl M.co (q3 f c' H4 M.st M.tabs M.fn M.co)
    exact ⟨tt, w1.nox, w2⟩
  refine wpAny_call (codeAny_mono rc fun r s2 fin => ?_)
  rcases r with e | fl
  · exact (show False from fin).elim
  · rcases fl with _ | _ | _ | u'
    · exact False.elim fin
    · exact False.elim fin
    · exact False.elim fin
    · exact J4.after fin
end
open LamX
/-! ### lambdas over data -/
/-- the lambda keeps the promise PL, whatever has come since it was made -/
structure LamP (ct : Cl) (tl : TL) (F0 : Addr → Prop) (H0 : Hp) (PL : DSp) : Prop where
  run : ∀ (E : XK) (v : V) (H : Hp) (Q : VK) (g : Gh) (C : List Cell) (QD : DK) (RX : XD) (w : W), Kp F0 H0 g.F H → C.length = 2 → Clz ct g H C → RW ct g H v w → PL [w] C QD RX →
    (∀ v H' g' C' w, Gk g H g' H' → Fr0 (Bs.of g H) g' H' → Clz ct g' H' C' → C'.length = 2 → RW ct g' H' v w → QD w C' → Q v H') →
    (∀ cls d H' g' C' c ds, Gk g H g' H' → Fr0 (Bs.of g H) g' H' → Clz ct g' H' C' → C'.length = 2 → XV ct g' H' cls d c ds → RX c ds C' → E cls d H') → tl E [v] H Q
def pureE (E : Ev) : Prop := ∀ (i : Nat) (w : W), E[i]? = some (some w) → ∃ d, w = .val d
def dLam (d : XD → DE) (Ev : Ev) : DSp := fun ws C Q R => ∃ w, ws = [w] ∧ d (finX 2 R) (Ev ++ [some w]) C (fin 2 Q)
theorem lam_ok {ct : Cl} {t : XK → TE} {d : XD → DE} {σ : L2.St} {H : Hp} {g : Gh} {Ev : Ev} (c : ∀ E R, CE ⟨ct, E, R⟩ (t E) (d R)) (env : ∀ (i : Nat) (w : W), Ev[i]? = some (some w) → ∃ v, σ[i]? = some (some v) ∧ RW ct g H v w) (len : σ.length = Ev.length) (pu : pureE Ev) :
    LamP ct (fun E us H' Q' => ∃ v, us = [v] ∧ t E (σ ++ [some v]) H' Q') g.F H (dLam d Ev) := ⟨fun E v H2 Q g2 C QD RX w k hC hz rw_ hp hQ hX => by
  obtain ⟨w', e, hp⟩ := hp
  cases e
  have hga : g2.as.length = 2 := by rw [hz.la, hC]
  refine ⟨v, rfl, (c E (finX 2 RX)).run ⟨g2, H2⟩ g2 (σ ++ [some v]) H2 (Ev ++ [some w]) C _ Q ⟨fun i x hx => ?_, ?_, hz, Fr0.self g2 H2, Gk.refl _ _, ?_⟩ (fun u H' hu => ?_) hp⟩
  · rcases Nat.lt_or_ge i Ev.length with lt | ge
    · rw [List.getElem?_append_left lt] at hx
      obtain ⟨u, h1, h2⟩ := env i x hx
      refine ⟨u, by rw [List.getElem?_append_left (by rw [len]; exact lt)]; exact h1, ?_⟩
      obtain ⟨dd, rfl⟩ := pu i x hx
      exact RD.mono k dd _ h2
    · rw [List.getElem?_append_right ge] at hx
      have hi : i = Ev.length := by
        have : i - Ev.length < 1 := (List.getElem?_eq_some_iff.mp hx).1
        omega
      subst hi
      rw [Nat.sub_self] at hx
      cases hx
      exact ⟨v, by rw [List.getElem?_append_right (by rw [len]; exact Nat.le_refl _), len, Nat.sub_self]; rfl, rw_⟩
  · rw [List.length_append, List.length_append, len]
    rfl
  · rintro g' H' C' cls dd cc ds k2 f z x ⟨q1, q2, q3⟩
    exact hX cls dd H' (g'.tk 2) _ cc ds (k2.tk hga) f.tk (z.tk 2 q2) (by rw [List.length_take]; omega) x q3
  · obtain ⟨g', C', u', k2, R', r, q1, q2, q3⟩ := hu
    rw [Bool.and_eq_true] at q2
    exact hQ u H' (g'.tk 2) _ u' (k2.tk hga) (R'.fr.tk) (R'.cs.tk 2 q2.1) (by rw [List.length_take]; omega) (r.tk q2.2) q3⟩
/-- one table grows -/
theorem Rel.grow {ct : Ct} {B : Bs} {g : Gh} {σ : L2.St} {H H1 : Hp} {E : Ev} {P : Addr} (R : Rel ct B g σ H E []) (l : LStep P H H1) (hT : Tabs ct.cl.T H1) (hP : ¬ g.F P) : Gk g H g H1 ∧ Rel ct B g σ H1 E [] := by
  obtain ⟨ps, old⟩ := l.old
  have ne : ∀ {b : Addr} {o : HO}, H b = some o → (∀ qs, o ≠ .tbl qs) → b ≠ P := fun {b o} e n z => by
    rw [z, old] at e
    exact n ps (Option.some.inj e).symm
  have k : Gk g H g H1 := ⟨⟨fun a xs h => l.keep _ _ (ne h fun _ z => nomatch z) h, fun a h => ⟨h, by
    cases e : H a with
    | none => exact absurd e (R.cs.lv a h)
    | some o => exact l.keep _ _ (fun z => hP (z ▸ h)) e⟩⟩, fun _ _ h => h, fun c q h => l.keep _ _ (ne h codeO_ne) h⟩
  refine ⟨k, R.gk k ⟨R.cs.la, R.cs.lm, fun j x h => (by simp at h), R.cs.nd, R.cs.ap, fun a h => by rw [(k.kp.2 a h).2]; exact R.cs.lv a h, hT, R.cs.tf⟩
    ⟨fun a xs h => k.kp.1 a xs (R.fr.kt a xs h), fun a o h n m => l.keep _ _ (ne (R.fr.keep a o h n m) n) (R.fr.keep a o h n m), fun a qs h => ?_, R.fr.newF, R.fr.newM⟩⟩
  obtain ⟨q2, h2⟩ := R.fr.tl a qs h
  by_cases z : a = P
  · rw [z]
    exact l.new
  · exact ⟨q2, l.keep _ _ z h2⟩
/-- what is asked of the def that is handed the lambda -/
abbrev DOut := DSp → D → D → List D → DK → Prop
def ttOut (ct : Cl) (pO : DOut) : TL → Addr → Addr → List V → Hp → VK → Prop := fun tl f c' vs H Q => ∃ (F : Addr → Prop) (wd r : D) (cs : List D) (PL : DSp) (QD : DK), Clz ct ⟨F, [], []⟩ H [] ∧ RWs ct ⟨F, [], []⟩ H vs [.val wd, .val r, .val (.list cs)] ∧ LamP ct tl F H PL ∧ pO PL wd r cs QD ∧
  (∀ v H' g' w, Gk ⟨F, [], []⟩ H g' H' → Fr0 (Bs.of ⟨F, [], []⟩ H) g' H' → Clz ct g' H' [] → RW ct g' H' v w → QD w [] → Q v H')
def isDat (w : W) : Prop := ∃ d, w = .val d
def outK (pO : DOut) (PL : DSp) (w1 w2 w3 : W) (C : List Cell) (Q : DK) : Prop := C = [] ∧ ∃ wd r cs, w1 = .val wd ∧ w2 = .val r ∧ w3 = .val (.list cs) ∧ pO PL wd r cs (fun w _ => isDat w ∧ Q w [])
def dLam4 (pO : DOut) (a1 a2 a3 : DE) (d : XD → DE) : DE := fun E C Q => pureE E ∧ a1 E C fun w1 C1 => a2 E C1 fun w2 C2 => a3 E C2 fun w3 C3 => outK pO (dLam d E) w1 w2 w3 C3 Q
theorem ce_lam4 {ct : Ct} {P : Addr} {q : Str} {pO : DOut} {t1 t2 t3 : TE} {t : XK → TE} {a1 a2 a3 : DE} {d : XD → DE} [h1 : CE ct t1 a1] [h2 : CE ct t2 a2] [h3 : CE ct t3 a3] (hd : ∀ E R, CE ⟨ct.cl, E, R⟩ (t E) (d R)) (inT : (P, q) ∈ ct.cl.T) :
    CE ct (tLam4 ct.cl.T P q (ttOut ct.cl pO) t1 t2 t3 t) (dLam4 pO a1 a2 a3 d) := ⟨fun B g σ H E C Q K R k hq => by
  obtain ⟨pu, hq⟩ := hq
  refine h1.run B g σ H E C _ _ R (fun v1 H1 ⟨g1, C1, w1, k1, R1, r1, q1⟩ => ?_) hq
  refine h2.run B g1 σ H1 E C1 _ _ R1 (fun v2 H2 ⟨g2, C2, w2, k2, R2, r2, q2⟩ => ?_) q1
  refine h3.run B g2 σ H2 E C2 _ _ R2 (fun v3 H3 ⟨g3, C3, w3, k3, R3, r3, q3⟩ => ?_) q2
  obtain ⟨rfl, wd, r, cs, rfl, rfl, rfl, hp⟩ := q3
  refine ⟨R3.cs.tb, fun f c' H4 l hT nf co => ?_⟩
  obtain ⟨k4, R4⟩ := R3.grow l hT (R3.cs.tf _ inT)
  refine ⟨g3.F, wd, r, cs, dLam d E, _, clz_nil R4.cs, .cons ?_ (.cons ?_ (.cons ?_ .nil)), lam_ok (g := g3) hd R4.env R4.len pu, hp, fun v H' g' w k' f' c' r' hw => ?_⟩
  · exact RD.mono (k2.trans (k3.trans k4)).kp _ _ r1
  · exact RD.mono (k3.trans k4).kp _ _ r2
  · exact RD.mono k4.kp _ _ r3
  · obtain ⟨⟨dd, rfl⟩, hw⟩ := hw
    obtain ⟨k5, R5⟩ := R4.called k' f' c'
    have e3 : g3.as = [] := List.eq_nil_of_length_eq_zero R3.cs.la
    exact k v H' ⟨_, [], .val dd, k1.trans (k2.trans (k3.trans (k4.trans k5))), R5, r', hw⟩⟩
open LamX
/-! ### try: .. except C as e: return (word, e.word, e.number) -/
def tRfd (C : Addr) (i : Nat) (wd n1 n2 : Str) : Addr → Value → Option Addr → TS := fun a cls d => tRet (tTup (tCons (tC (.str wd)) (tCons (tXf a cls d C n1 (tVar i)) (tCons (tXf a cls d C n2 (tVar i)) tNil))))
def tTryR (K : PySem.W.Frag) (C : Addr) (i : Nat) (wd n1 n2 : Str) (tb : XK → TS) : TS := fun D σ H => ∃ Ech : XK, (∀ cls d σ' H', σ'.length = σ.length → Ech cls d H' → wAs K (.ref C) i (tRfd C i wd n1 n2) (fun _ _ _ _ => False) D cls d σ' H') ∧ tb Ech D σ H
theorem takesF {X : Cx} : Takes X (fun _ _ _ _ => False) := fun _ _ x => by
  obtain ⟨_, _, _, _, _, _, _, _, _, _, _, _, _, _, _, _, z⟩ := x
  exact z.elim
section
variable {X : Cx}
theorem ps_tryR {C : Addr} {x n : Str} {i : Nat} {body : List Stmt} {wd n1 n2 : Str} {tb : XK → TS} {j : Nat} {k} {p0 p1 p2 p3 p4 p5 p6 p7 p8 pos : Pos} (hs : X.stack = X.env :: X.outer) (hf : X.env.frame = some X.env.locals) (hN : X.N.Nodup) (hi : X.N[i]? = some n) (hln : X.env.kindOf n = some .local) (hc : Names X x (.ref C))
    (T : XfC X.K C) (f1 : PySem.W.findIn X.K (.ref C) n1 = some none) (f2 : PySem.W.findIn X.K (.ref C) n2 = some none)
    (hb : ∀ (W : WX) (pn : List (Addr × Obj)) (xe : Value → Shared → Prop) (Ech : XK), Takes (X.tr pn xe) W → (∀ cls d σ' H', σ'.length = X.N.length → Ech cls d H' → W cls d σ' H') → PSs (X.tr pn xe) body (tb Ech))
    (hd : (n == ("__debug__" : Str)) = false := by decide) (hcd : (n == ("__classdict__" : Str)) = false := by decide) (b1 : attributeBase (.Name n p2) n1 X.env (eval (.Name n p2) X.env) = eval (.Name n p2) X.env := by rfl) (b2 : attributeBase (.Name n p4) n2 X.env (eval (.Name n p4) X.env) = eval (.Name n p4) X.env := by rfl)
    (s1 : starEach [.Constant (.str wd) j p1, .Attribute (.Name n p2) n1 p3, .Attribute (.Name n p4) n2 p5] X.env = (false, eval (.Constant (.str wd) j p1) X.env) :: starEach [.Attribute (.Name n p2) n1 p3, .Attribute (.Name n p4) n2 p5] X.env := by rfl) (s2 : starEach [.Attribute (.Name n p2) n1 p3, .Attribute (.Name n p4) n2 p5] X.env = (false, eval (.Attribute (.Name n p2) n1 p3) X.env) :: starEach [.Attribute (.Name n p4) n2 p5] X.env := by rfl)
    (s3 : starEach [.Attribute (.Name n p4) n2 p5] X.env = (false, eval (.Attribute (.Name n p4) n2 p5) X.env) :: starEach [] X.env := by rfl) :
    PS X (.Try body [.ExceptHandler (some (.Name x p0)) (some n) [.Return (some (.Tuple [.Constant (.str wd) j p1, .Attribute (.Name n p2) n1 p3, .Attribute (.Name n p4) n2 p5] k p6)) p7] p8] [] [] pos) (tTryR X.K C i wd n1 n2 tb) := by
  refine ⟨fun pins s σ H D J q => ?_⟩
  refine (ps_try_as (c := .ref C) (i := i) (tb := fun W D σ H => ∃ Ech : XK, (∀ cls d σ' H', σ'.length = X.N.length → Ech cls d H' → W cls d σ' H') ∧ tb Ech D σ H) (ts := tRfd C i wd n1 n2) (Wout := fun _ _ _ _ => False) hs hf hN hi hln hc takesF (fun W pn xe tk _ => ?_) (fun a oe cls d pn hz hv => ?_)).run pins s σ H D J ?_
  · refine ⟨fun pins s σ H D J q => ?_⟩
    obtain ⟨Ech, sub, q⟩ := q
    exact (hb W pn xe Ech tk sub).run pins s σ H D J q
  · have vv : ∀ {p : Pos}, PE (X.suite a ((a, oe) :: pn)) (.Name n p) (tVar i) := fun {p} => pe_var hi (.inl hln) hd hcd
    exact pss_one (ps_ret (pe_tup (pa_cons pe_str (pa_cons (pe_xf T f1 hz hv vv b1) (pa_cons (pe_xf T f2 hz hv vv b2) pa_nil s3) s2) s1)))
  · obtain ⟨Ech, sub, q⟩ := q
    exact ⟨Ech, fun cls d σ' H' hl h => sub cls d σ' H' (by rw [hl, J.len]) h, q⟩
theorem ps_tryRC {K : PySem.W.Frag} (hK : X.K = K) {C : Addr} {x n : Str} {i : Nat} {body : List Stmt} {wd n1 n2 : Str} {tb : XK → TS} {j : Nat} {k} {p0 p1 p2 p3 p4 p5 p6 p7 p8 pos : Pos} (hs : X.stack = X.env :: X.outer) (hf : X.env.frame = some X.env.locals) (hN : X.N.Nodup) (hi : X.N[i]? = some n) (hln : X.env.kindOf n = some .local) (hc : Names X x (.ref C))
    (T : XfC K C) (f1 : PySem.W.findIn K (.ref C) n1 = some none) (f2 : PySem.W.findIn K (.ref C) n2 = some none)
    (hb : ∀ (W : WX) (pn : List (Addr × Obj)) (xe : Value → Shared → Prop) (Ech : XK), Takes (X.tr pn xe) W → (∀ cls d σ' H', σ'.length = X.N.length → Ech cls d H' → W cls d σ' H') → PSs (X.tr pn xe) body (tb Ech))
    (hd : (n == ("__debug__" : Str)) = false := by decide) (hcd : (n == ("__classdict__" : Str)) = false := by decide) (b1 : attributeBase (.Name n p2) n1 X.env (eval (.Name n p2) X.env) = eval (.Name n p2) X.env := by rfl) (b2 : attributeBase (.Name n p4) n2 X.env (eval (.Name n p4) X.env) = eval (.Name n p4) X.env := by rfl)
    (s1 : starEach [.Constant (.str wd) j p1, .Attribute (.Name n p2) n1 p3, .Attribute (.Name n p4) n2 p5] X.env = (false, eval (.Constant (.str wd) j p1) X.env) :: starEach [.Attribute (.Name n p2) n1 p3, .Attribute (.Name n p4) n2 p5] X.env := by rfl) (s2 : starEach [.Attribute (.Name n p2) n1 p3, .Attribute (.Name n p4) n2 p5] X.env = (false, eval (.Attribute (.Name n p2) n1 p3) X.env) :: starEach [.Attribute (.Name n p4) n2 p5] X.env := by rfl)
    (s3 : starEach [.Attribute (.Name n p4) n2 p5] X.env = (false, eval (.Attribute (.Name n p4) n2 p5) X.env) :: starEach [] X.env := by rfl) :
    PS X (.Try body [.ExceptHandler (some (.Name x p0)) (some n) [.Return (some (.Tuple [.Constant (.str wd) j p1, .Attribute (.Name n p2) n1 p3, .Attribute (.Name n p4) n2 p5] k p6)) p7] p8] [] [] pos) (tTryR K C i wd n1 n2 tb) := by 
  subst hK
  exact ps_tryR hs hf hN hi hln hc T f1 f2 hb hd hcd b1 b2 s1 s2 s3
end
class ExT (K : PySem.W.Frag) (ct : Ct) (C : Addr) : Prop where
  at_ : ct.cl.x 3 = some (C, clsF 3)
  me : PySem.W.exmOne K (.ref C) (.ref C) = some true
instance {K : PySem.W.Frag} {ct : Ct} {C : Addr} {E : XK} {R : XD} [h : ExT K ct C] : ExT K (ct.w E R) C := ⟨h.at_, h.me⟩
def dTry (i : Nat) (wd : Str) (b : XD → DS) : DS := fun D E C => i < E.length ∧ b (fun c ds C' => c = 3 ∧ ∃ d1 d2, ds = [d1, d2] ∧ D.rt (.val (.tuple [.str wd, d2, d1])) C') D E C
/-- behind a piece that starts anew -/
theorem Rel.anew {ct : Ct} {B : Bs} {g g' : Gh} {σ σ' : L2.St} {H H' : Hp} {E E' : Ev} {C C' : List Cell} {X : XK} {Y : XD} (R : Rel ct B g σ H E C) (R' : Rel (ct.w X Y) (Bs.of g H) g' σ' H' E' C') : Rel ct B g' σ' H' E' C' :=
  ⟨R'.env, R'.len, R'.cs, R.fr.comp R'.fr, R.gg.trans R'.gg, R.xo⟩
theorem cs_tryR {ct : Ct} {K : PySem.W.Frag} {C : Addr} {i : Nat} {wd : Str} {tb : XK → TS} {b : XD → DS} [hx : ExT K ct C] [h : ∀ E R, CS (ct.w E R) (tb E) (b R)] : CS ct (tTryR K C i wd "word" "number" tb) (dTry i wd b) := ⟨fun B g σ H E C0 D DD R e q => by
  obtain ⟨hi, q⟩ := q
  refine ⟨fun cls d H' => ∃ g' C' c ds, Gk g H g' H' ∧ Fr0 (Bs.of g H) g' H' ∧ Clz ct g' H' C' ∧ XV ct g' H' cls d c ds ∧ c = 3 ∧ ∃ d1 d2, ds = [d1, d2] ∧ DD.rt (.val (.tuple [.str wd, d2, d1])) C', fun cls d σ' H' hl w => ?_, ?_⟩
  · obtain ⟨g', C', c, ds, k, f, z, xv, rfl, d1, d2, rfl, fin⟩ := w
    obtain ⟨C1, ns, e1, rfl, e2⟩ := xv
    rw [hx.at_] at e1
    cases e1
    rcases e2 with ⟨e2, _⟩ | ⟨dx, vs, rfl, hdx, hlv, rd⟩
    · cases (show (["number", "word"] : List Str) = [] from e2)
    · obtain ⟨v1, v2, rfl, r1, r2⟩ : ∃ v1 v2, vs = [v1, v2] ∧ RD ct g'.F H' v1 d1 ∧ RD ct g'.F H' v2 d2 := by
        cases rd with
        | cons a as =>
          cases as with
          | cons b bs =>
            cases bs
            exact ⟨_, _, rfl, a, b⟩
      refine ⟨true, hx.me, fun _ a _ => ?_, fun z => nomatch z⟩
      have at_ : (σ'.set i (some (.ref a)))[i]? = some (some (V.ref a)) := List.getElem?_set_self (by rw [hl, R.len]; exact hi)
      refine ⟨.ref a, at_, rfl, rfl, dx, _, v2, rfl, hdx, rfl, .ref a, at_, rfl, rfl, dx, _, v1, rfl, hdx, rfl, by show 3 ≤ sizeLine; decide, fun p np => ?_⟩
      have R1 : Rel ct B g' [] H' [] C' := ⟨fun i w h => (by simp at h), rfl, z, R.fr.comp f, R.gg.trans k, R.xo⟩
      obtain ⟨k2, R2⟩ := R1.new (o := .tup [.str wd, v2, v1]) false np
      exact e.rt (.ref p) [] _ _ [] C' (.val (.tuple [.str wd, d2, d1])) (k.trans k2) R2 (RD.tup upd_same (.cons (.str _) (.cons (RD.mono k2.kp _ _ r2) (.cons (RD.mono k2.kp _ _ r1) .nil)))) fin
  · exact (h _ _).run (Bs.of g H) g σ H E C0 D DD ⟨R.env, R.len, R.cs, Fr0.self g H, Gk.refl _ _, fun g' H' C' cls d c ds k f z x w => ⟨g', C', c, ds, k, f, z, x, w⟩⟩
      ⟨fun σ' H' g' E' C' k R' => e.nx σ' H' g' E' C' k (R.anew R'), fun v σ' H' g' E' C' w k R' => e.rt v σ' H' g' E' C' w k (R.anew R'), fun σ' H' g' E' C' k R' => e.bk σ' H' g' E' C' k (R.anew R'), fun σ' H' g' E' C' k R' => e.ct σ' H' g' E' C' k (R.anew R')⟩ q⟩
instance cs_tryRw {ct : Ct} {E0 : XK} {R0 : XD} {K : PySem.W.Frag} {C : Addr} {i : Nat} {wd : Str} {tb : XK → TS} {b : XD → DS} [hx : ExT K ct C] [h : ∀ E R, CS (ct.w E R) (tb E) (b R)] : CS (ct.w E0 R0) (tTryR K C i wd "word" "number" tb) (dTry i wd b) := cs_tryR (ct := ct.w E0 R0) (h := h)
/-! ### the lambda is called -/
def dAct (i j : Nat) (f c' : Addr) (q : Str) (F0 : Addr → Prop) (H0 : Hp) (PL : DSp) (R : XD) : DE := fun E C Q => ∃ c0, C = [c0] ∧ E[i]? = some (some (.fn f c' q F0 H0)) ∧ E[j]? = some (some (.ref 0)) ∧ PL [.ref 0] [c0, .nil] (fun w C' => ∃ d c1, w = .val d ∧ C' = [c1, .nil] ∧ cellOk 1 c1 = true ∧ Q (.val d) [c1]) R
theorem ce_act {ct : Ct} {E : XK} {R : XD} {f c' : Addr} {q : Str} {i j : Nat} {tl : TL} {F0 : Addr → Prop} {H0 : Hp} {PL : DSp} (hl : LamP ct.cl tl F0 H0 PL) : CE (ct.w E R) (tAct f c' q i j tl E) (dAct i j f c' q F0 H0 PL R) := ⟨fun B g σ H Ev C Q K Re k hq => by
  obtain ⟨c0, rfl, at1, at2, hq⟩ := hq
  obtain ⟨v1, s1, rfl, co, kp⟩ := Re.env _ _ at1
  obtain ⟨v2, s2, a, ga, rfl⟩ := Re.env _ _ at2
  have hl1 : g.as.length = 1 := Re.cs.la
  have fl : (g.ms ++ [[]]).flatten = g.ms.flatten := by
    rw [List.flatten_append]
    simp
  have k2 : Gk g H ⟨g.F, g.as ++ [a], g.ms ++ [[]]⟩ H := ⟨Kp.refl _ _, fun n b h => by
    show (g.as ++ [a])[n]? = some b
    rw [List.getElem?_append_left (List.getElem?_eq_some_iff.mp h).1]
    exact h, fun _ _ h => h⟩
  have cz : Clz ct.cl ⟨g.F, g.as ++ [a], g.ms ++ [[]]⟩ H [c0, .nil] := by
    refine ⟨?_, ?_, fun n x h => ?_, by rw [fl]; exact Re.cs.nd, fun b hb => Re.cs.ap b (fl ▸ hb), Re.cs.lv, Re.cs.tb, Re.cs.tf⟩
    · show (g.as ++ [a]).length = 2
      rw [List.length_append, hl1]
      rfl
    · show (g.ms ++ [[]]).length = 2
      rw [List.length_append, show g.ms.length = 1 from Re.cs.lm]
      rfl
    · rcases n with _ | _ | n
      · obtain ⟨b, m, w1, w2, w3⟩ := Re.cs.at_ 0 x h
        refine ⟨b, m, k2.as _ _ w1, ?_, w3.keep k2 (fun _ _ => rfl)⟩
        show (g.ms ++ [[]])[0]? = some m
        rw [List.getElem?_append_left (List.getElem?_eq_some_iff.mp w2).1]
        exact w2
      · cases h
        refine ⟨a, [], ?_, ?_, rfl⟩
        · show (g.as ++ [a])[1]? = some a
          rw [List.getElem?_append_right (by rw [hl1]; exact Nat.le_refl _), hl1]
          rfl
        · show (g.ms ++ [[]])[1]? = some []
          rw [List.getElem?_append_right (by rw [show g.ms.length = 1 from Re.cs.lm]; exact Nat.le_refl _), show g.ms.length = 1 from Re.cs.lm]
          rfl
      · simp at h
  have back : ∀ {g' : Gh} {H' : Hp}, Fr0 (Bs.of ⟨g.F, g.as ++ [a], g.ms ++ [[]]⟩ H) g' H' → Fr0 (Bs.of g H) g' H' := fun {g' H'} f => by
    have e : (Bs.of ⟨g.F, g.as ++ [a], g.ms ++ [[]]⟩ H).M = (Bs.of g H).M := fl
    refine ⟨f.kt, fun b o h n m => f.keep b o h n (by rw [e]; exact m), f.tl, fun b h => ?_, fun b h => ?_⟩
    · have w := f.newF b h
      rw [e] at w
      exact w
    · have w := f.newM b h
      rw [e] at w
      exact w
  refine ⟨.ref a, s1, s2, co, hl.run E (.ref a) H K ⟨g.F, g.as ++ [a], g.ms ++ [[]]⟩ _ _ R (.ref 0) kp rfl cz ⟨a, k2.as _ _ ga, rfl⟩ hq (fun v H' g' C' w k' f' z' l' r' hw => ?_) (fun cls d H' g' C' c ds k' f' z' l' xv hr => ?_)⟩
  · obtain ⟨d, c1, rfl, rfl, ok, hw⟩ := hw
    have kk : Gk g H (g'.tk 1) H' := (k2.trans k').tk hl1
    exact k v H' ⟨_, [c1], .val d, kk, Re.gk kk (z'.tk 1 (by simp [ok])) (Re.fr.comp (back f')).tk, r', hw⟩
  · exact Re.xo g' H' C' cls d c ds (Re.gg.trans (k2.trans k')) (Re.fr.comp (back f')) z' xv hr⟩
/-! ### a reader is made -/
def spRdI (K : PySem.W.Frag) : Sp := fun vs H Q _ => ∃ (a C dx : Addr) (u w : V), vs = [.ref a, u, w] ∧ H a = some (.ins C dx []) ∧ Cls K C ∧ (∀ f ∈ clsF 2, NoAttr K C f) ∧ Q .non (upd H a (.ins C dx ((clsF 2).zip [u, w, .int 0])))
def rdrK (Q : DK) : Option (List D) → List Cell → Prop
  | some [d, e], C => Q (.ref C.length) (C ++ [.obj 2 [.val d, .val e, .val (.int 0)]])
  | _, _ => False
def dMakeRd (a : DA) : DE := fun E C Q => a E C fun ws C1 => rdrK Q (vals ws) C1
instance ce_makeRd {K : PySem.W.Frag} {ct : Ct} {Ca : Addr} {Ex : XK} {t : TA} {a : DA} [h : CA ct t a] [hk : CtOk K ct] [hc : ClA ct Ca 2] : CE ct (tMake Ca (spRdI K) [] Ex t) (dMakeRd a) := ⟨fun B g σ H E C Q K' R k q => by
  refine h.run B g σ H E C _ _ R (fun vs H1 ⟨g1, C1, ws, k1, R1, r1, q1⟩ => ?_) q
  unfold rdrK at q1
  dsimp only at q1
  split at q1
  · rename_i Cc o1 Cx d e0 e
    have hd := vals_ok r1 e
    obtain ⟨_, cls, no⟩ := hk.ok _ _ _ hc.at_
    obtain ⟨u, w, rfl, ru, rw_⟩ : ∃ u w, vs = [u, w] ∧ RD ct g1.F H1 u d ∧ RD ct g1.F H1 w e0 := by
      cases hd with
      | cons h1 h2 =>
        cases h2 with
        | cons h3 h4 =>
          cases h4
          exact ⟨_, _, rfl, h1, h3⟩
    intro x dx nx ndx nex
    rw [List.append_nil]
    refine ⟨x, Ca, dx, u, w, rfl, upd_same, cls, no, rfl, ?_⟩
    rw [upd_upd]
    obtain ⟨k2, R2⟩ := R1.new (o := .own x) false ndx
    have nx2 : upd H1 dx (.own x) x = none := by
      rw [upd_ne (Ne.symm nex)]
      exact nx
    obtain ⟨k3, R3, a3⟩ := R2.ad (o := .ins Ca dx ((clsF 2).zip [u, w, .int 0])) (c := .obj 2 [.val d, .val e0, .val (.int 0)]) nx2 fun kk => ⟨rfl, Ca, clsF 2, dx, [u, w, .int 0], hc.at_, upd_same, Nat.le_refl _, .cons (RD.mono (k2.trans kk).kp _ _ ru) (.cons (RD.mono (k2.trans kk).kp _ _ rw_) (.cons (.int 0) .nil))⟩
    exact k _ _ ⟨_, _, .ref Cc.length, k1.trans (k2.trans k3), R3, ⟨x, a3, rfl⟩, q1⟩
  · exact q1.elim⟩
theorem fld20 {α : Type} (a b c : α) : fldOf 2 "rule" [a, b, c] = some a := rfl
theorem fld21 {α : Type} (a b c : α) : fldOf 2 "certificate" [a, b, c] = some b := rfl
theorem fld22 {α : Type} (a b c : α) : fldOf 2 "position" [a, b, c] = some c := rfl
/-! ### a def that makes a lambda -/
/-- the rule for a def, its code told -/
theorem Fun.okC {P : Program} {w : World} {K : PySem.W.Frag} {mg : Str → Option Value} {base : Heap} {x qual : Str} {st : Stmt} {f : Addr} {fd : FuncData} {N ps : List Str} {k : Nat} {sp : Sp} (F : Fun K x qual st f fd) (S : FnScope N ps (defScope st)) (len : ∀ vs H Q E, sp vs H Q E → vs.length = ps.length)
    (bd : ∀ (cd : Value) (A : Around) (outer : List Env) (s : Shared) (H : Hp) (vs : List V) (Q : VK) (E : XK), fd.code = cd → Room k (A.deeper (envOfC qual (defScope st) s.heap.objs.size f cd)) → sp vs H Q E →
      ∃ t, PSs (cxOf L2.CX0 P w K mg base N qual (defScope st) f cd A outer s H E).nox (defBody st) t ∧ t { nx := fun _ H' => Q .non H', rt := Q } (start N vs) H) : FnOk P w K mg base L2.CX0 (k + 1) f fd ps sp := by
  obtain ⟨o1, o2, o3, o4, o5, o6, o7, o8, o9, e, lk, hc⟩ := F.ex
  subst e
  exact fn_of lk hc S len fun A outer s H vs Q E hr hs => (bd o7 A outer s H vs Q E rfl hr hs).imp fun t h => ⟨h.1.nox, h.2⟩
theorem passLam {X : Cx} {A : Around} {outer : List Env} {s : Shared} {H : Hp} {E : XK} {scope : Scope} {f c' : Addr} {a : Str} : Passes (L2.CX X.prog X.w) (lamCx1 X A outer s H E scope f c' a) E := passes_call (takes_of rfl rfl rfl rfl) (fun _ _ _ _ h => h)
/-- the table of a lambda's code -/
class LamT (ct : Ct) (P : Addr) (q : Str) : Prop where
  mem : (P, q) ∈ ct.cl.T
  one : ∀ p ∈ ct.cl.T, p.1 = P → p.2 = q
/-! ### a sign in a text -/
abbrev inS (i j : Str) : Bool := !(Builtin.Str.occurrences j i 0 j.length 1).isEmpty
theorem inS_one (c : Nat) (j : Str) : inS ⟨#[c]⟩ j = decide (c ∈ j.cps.toList) := PySem.StrLaws.found_one j c
def rInS : R2 := fun x y H Q => ∃ i j, x = .str i ∧ y = .str j ∧ Q (.bl (inS i j)) H
theorem op_inS {X : Cx} : OpR X (compareOp .In) rInS := op_in_str
def fInS : W → W → List Cell → DK → Prop
  | .val (.str i), .val (.str j), C, Q => Q (.val (.bool (inS i j))) C
  | _, _, _, _ => False
instance cr_inS {ct : Ct} : CR2 ct rInS fInS := ⟨fun B g σ H E C Q v u x y k R kk rx ry q => by
  unfold fInS at q
  try dsimp only at q
  split at q
  · exact ⟨_, _, rw_str rx, rw_str ry, post_val R (w := .val (.bool _)) (.bl _) kk q⟩
  · exact q.elim⟩
/-! ### x.f += n -/
def afW (f : Str) (c : Int) (k : Nat) (b : DE) (E : Ev) (N : List Cell → Prop) : Option W → List Cell → Prop
  | some (.val (.int i)), C => b E C fun y C2 => ∃ (j : Int) (ws : List W), y = .val (.int j) ∧ C2[k]? = some (.obj c ws) ∧ f ∈ (clsF c).take ws.length ∧ N (C2.set k (.obj c (setAt c f (.val (.int (i + j))) ws)))
  | _, _ => False
def afC (f : Str) (k : Nat) (b : DE) (E : Ev) (N : List Cell → Prop) : Option Cell → List Cell → Prop
  | some (.obj c ws), C => afW f c k b E N (fldOf c f ws) C
  | _, _ => False
def afK (f : Str) (b : DE) (E : Ev) (N : List Cell → Prop) : W → List Cell → Prop
  | .ref k, C => afC f k b E N C[k]? C
  | _, _ => False
def dAugF (f : Str) (a b : DE) : DS := fun D E C => a E C fun x C1 => afK f b E (fun C3 => D.nx E C3) x C1
instance cs_augF {K : PySem.W.Frag} {ct : Ct} {ta tv : TE} {a b : DE} {f : Str} [ha : CE ct ta a] [hb : CE ct tv b] [hk : CtOk K ct] : CS ct (sFldAug K ta tv rAdd f) (dAugF f a b) := ⟨fun B g σ H E C D DD R e q => by
  refine ha.run B g σ H E C _ _ R (fun v H1 ⟨g1, C1, x, k1, R1, r1, q1⟩ => ?_) q
  unfold afK at q1
  try dsimp only at q1
  split at q1
  · rename_i k
    obtain ⟨a0, h0, rfl⟩ := r1
    unfold afC at q1
    try dsimp only at q1
    split at q1
    · rename_i c ws ec
      obtain ⟨a', m, z1, z2, z3, Ca, ns, dx, vs, hc, ho, hl, hs⟩ := R1.cs.at_ k _ ec
      rw [h0] at z1
      cases z1
      obtain ⟨rfl, cls, no⟩ := hk.ok _ _ _ hc
      unfold afW at q1
      try dsimp only at q1
      split at q1
      · rename_i i e2
        obtain ⟨n, h1, h2, h3⟩ := lookup_zip _ _ _ _ e2
        obtain ⟨u, hv, rv⟩ := Paired.at hs n _ h2
        obtain rfl : u = V.int i := rw_int rv
        refine ⟨a0, Ca, dx, _, _, rfl, ho, cls, no f (List.mem_of_getElem? h1), h3 _ _ hv, ?_⟩
        refine hb.run B g1 σ H1 E _ _ _ R1 (fun y H2 ⟨g2, C2, yw, k2, R2, r2, q2⟩ => ?_) q1
        obtain ⟨j, ws2, rfl, e3, hf, q2⟩ := q2
        obtain rfl : y = V.int j := rw_int r2
        obtain ⟨Ca2, dx2, fs2, ho2, cls2, no2, hl2, k3, R3⟩ := R2.setO (K := K) (hk := hk) (y := .int (i + j)) (w := .val (.int (i + j))) e3 (k2.as _ _ h0) (RD.int (i + j)) hf
        obtain ⟨a2, m2, y1, y2, y3, Ca3, ns3, dx3, vs3, hc3, ho3, _⟩ := R2.cs.at_ k _ e3
        rw [k2.as _ _ h0] at y1
        cases y1
        rw [hc] at hc3
        cases hc3
        rw [ho2] at ho3
        cases ho3
        exact ⟨i, j, rfl, rfl, dx2, _, ho2, hl2, e.nx _ _ _ _ _ (k1.trans (k2.trans k3)) R3 q2⟩
      · exact q1.elim
    · exact q1.elim
  · exact q1.elim⟩
theorem ps_fldaugC {X : Cx} {K : PySem.W.Frag} {o value : Expr} {f : Str} {pos tpos : Pos} {ta tv : TE} (h : X.K = K) (ha : PE X o ta) (hv : PE X value tv) : PS X (.AugAssign (.Attribute o f tpos) .Add value pos) (sFldAug K ta tv rAdd f) := h ▸ ps_fldaug ha hv in_add
/-! ### a sum of lists is a list of its own -/
def catF (Q : List D → List Cell → Prop) : Option (List D) → Option (List D) → List Cell → Prop
  | some xs, some ys, C => xs.length + ys.length ≤ sizeLine ∧ Q (xs ++ ys) C
  | _, _, _ => False
def dCatF (a b : DE) : DFl := fun E C Q => a E C fun x C1 => b E C1 fun y C2 => catF Q (rdL C2 x) (rdL C2 y) C2
instance cf_cat {ct : Ct} {K : PySem.W.Frag} {ta tb : TE} {a b : DE} [ha : CE ct ta a] [hb : CE ct tb b] : CF ct (tOp (rAddA K) ta tb) (dCatF a b) := ⟨fun B g σ H E C Q K' R k q => by
  refine ha.run B g σ H E C _ _ R (fun v H1 ⟨g1, C1, x, k1, R1, r1, q1⟩ => ?_) q
  refine hb.run B g1 σ H1 E C1 _ _ R1 (fun u H2 ⟨g2, C2, y, k2, R2, r2, q2⟩ => ?_) q1
  unfold catF at q2
  dsimp only at q2
  split at q2
  · rename_i xs ys e1 e2
    obtain ⟨a1, us, rfl, h1, h2⟩ := rdL_ok R2.cs (r1.mono k2) e1
    obtain ⟨b1, ws, rfl, h3, h4⟩ := rdL_ok R2.cs r2 e2
    refine .inr (.inr (.inr ⟨a1, b1, us, ws, rfl, rfl, h1, h3, by rw [h2.length, h4.length]; exact q2.1, fun p hp => ?_⟩))
    obtain ⟨k3, R3, s3⟩ := R2.newSide (xs := us ++ ws) hp
    exact k _ _ ⟨_, _, xs ++ ys, us ++ ws, p, (k1.trans k2).trans k3, R3, rfl, s3, RDs.mono k3.kp _ _ (h2.app h4), q2.2⟩
  · exact q2.elim⟩
/-- x in l, for data -/
def inK (f : Bool → Bool) : Option D → Option (List D) → List Cell → DK → Prop
  | some d, some ds, C, Q => okD d ∧ okD (.list ds) ∧ Q (.val (.bool (f (ds.any fun z => PyData.eqv z d)))) C
  | _, _, _, _ => False
def fInD (f : Bool → Bool) (x y : W) (C : List Cell) (Q : DK) : Prop := inK f (rdV C x) (rdL C y) C Q
theorem rdL_dp {ct : Cl} {g : Gh} {H : Hp} {C : List Cell} {v : V} {w : W} {ds : List D} {K : PySem.W.Frag} (c : Clz ct g H C) (r : RW ct g H v w) (h : rdL C w = some ds) (l : okD (.list ds)) : Dp K H v (.list ds) := by
  obtain ⟨a, xs, rfl, h1, h2⟩ := rdL_ok c r h
  exact .lst (SqL.of h1) (RDs.dp ds xs h2 l.lay)
instance cr_inD {ct : Ct} {K : PySem.W.Frag} : CR2 ct (rInD K) (fInD id) := ⟨fun B g σ H E C Q v u x y k R kk rx ry q => by
  unfold fInD inK at q
  try dsimp only at q
  split at q
  · rename_i d ds h1 h2
    exact ⟨d, ds, rdV_ok R.cs rx h1 (okD.lay q.1), rdL_dp R.cs ry h2 q.2.1, q.1, q.2.1, post_val R (w := .val (.bool _)) (.bl _) kk q.2.2⟩
  · exact q.elim⟩
instance cr_ninD {ct : Ct} {K : PySem.W.Frag} : CR2 ct (rNotInD K) (fInD not) := ⟨fun B g σ H E C Q v u x y k R kk rx ry q => by
  unfold fInD inK at q
  try dsimp only at q
  split at q
  · rename_i d ds h1 h2
    exact ⟨d, ds, rdV_ok R.cs rx h1 (okD.lay q.1), rdL_dp R.cs ry h2 q.2.1, q.1, q.2.1, post_val R (w := .val (.bool _)) (.bl _) kk q.2.2⟩
  · exact q.elim⟩
theorem hu65 {A : Around} {k : Nat} (hr : Room k A) : A.units + 65 < cLine := by
  have := hr.un
  omega
theorem get_end1 {α : Type} (c : α) (G : List α) (x : α) : (c :: (G ++ [x]))[G.length + 1]? = some x := get_end G x
theorem set_end1 {α : Type} (c : α) (G : List α) (x y : α) : (c :: (G ++ [x])).set (G.length + 1) y = c :: (G ++ [y]) := congrArg (c :: ·) (set_end G x y)
theorem at4 {α : Type} (x y z u v : α) (xs : List α) : atI (x :: y :: z :: u :: v :: xs) 4 = some v := atI_nat (j := 4) rfl
theorem at5 {α : Type} (x y z u v w : α) (xs : List α) : atI (x :: y :: z :: u :: v :: w :: xs) 5 = some w := atI_nat (j := 5) rfl
theorem at6 {α : Type} (x y z u v w s : α) (xs : List α) : atI (x :: y :: z :: u :: v :: w :: s :: xs) 6 = some s := atI_nat (j := 6) rfl
theorem at7 {α : Type} (x y z u v w s t : α) (xs : List α) : atI (x :: y :: z :: u :: v :: w :: s :: t :: xs) 7 = some t := atI_nat (j := 7) rfl
theorem at8 {α : Type} (x y z u v w s t r : α) (xs : List α) : atI (x :: y :: z :: u :: v :: w :: s :: t :: r :: xs) 8 = some r := atI_nat (j := 8) rfl
/-! ### l.pop(i) -/
theorem RDs.erase {ct : Cl} {F : Addr → Prop} {H : Hp} : ∀ {vs : List V} {ds : List D} (n : Nat), RDs ct F H vs ds → RDs ct F H (vs.eraseIdx n) (ds.eraseIdx n)
  | _, _, _, .nil => .nil
  | _, _, 0, .cons h hs => hs
  | _, _, n + 1, .cons h hs => .cons h (RDs.erase n hs)
def popAtK (k : Nat) (i : Int) (Q : DK) : Option Cell → List Cell → Prop
  | some (.lst ds), C => -(2 ^ 63) ≤ i ∧ i < 2 ^ 63 ∧ ∃ j d, seqIndex? i ds.length = some j ∧ ds[j]? = some d ∧ Q (.val d) (C.set k (.lst (ds.eraseIdx j)))
  | _, _ => False
def fPopAt : W → List W → List Cell → DK → Prop
  | .ref k, [.val (.int i)], C, Q => popAtK k i Q C[k]? C
  | _, _, _, _ => False
instance cm_popAt {ct : Ct} : CM ct rPopAt fPopAt := ⟨fun B g σ H E C Q v vs w ws K R kk r rs q => by
  unfold fPopAt at q
  split at q
  · rename_i k i
    obtain ⟨a, ha, rfl⟩ := r
    obtain ⟨y, rfl, r1⟩ := rws1 rs
    cases rw_int r1
    unfold popAtK at q
    split at q
    · rename_i ds e
      obtain ⟨q1, q2, j, d, h1, h2, q3⟩ := q
      obtain ⟨xs, hm, g1, g2, g3⟩ := cell_lst R.cs e ha
      obtain ⟨u, hu, ru⟩ := g2.get _ d h2
      obtain ⟨k3, R3⟩ := R.write e ha (g2.erase j)
      exact ⟨a, xs, i, j, u, rfl, rfl, g1, q1, q2, by rw [g2.length]; exact h1, hu, kk _ _ ⟨g, _, .val d, k3, R3, RD.mono k3.kp _ _ ru, q3⟩⟩
    · exact q.elim
  · exact q.elim⟩
section
variable {X : Cx} {K : PySem.W.Frag} (h : X.K = K)
include h
theorem op_inDC (hu : X.A.units + 65 < cLine) : OpR X (compareOp .In) (rInD K) := h ▸ op_inD hu
theorem op_notInDC (hu : X.A.units + 65 < cLine) : OpR X (compareOp .NotIn) (rNotInD K) := h ▸ op_notInD hu
end
end RR

namespace RX
open PySem PySem.Spec PyProof.Rows L2 PySem.Froz
/-! ### sets of texts -/
def keyS (e : Int × Value) : Str := match e.2 with
  | .str x _ => x
  | _ => ""
def TxE (w : World) (e : Int × Value) : Prop := ∃ k u, e = (hashStr w k, Value.str k u)
def Ledge (w : World) (t : SetTable) : Prop := w.params.followText "set-order" = true ∨ t.led = true
/-- what lies in the set: the texts l, none twice; its table rises and can be walked -/
structure TxD (w : World) (D : SD) (l : List Str) : Prop where
  el : ∀ e ∈ D.1.toList, TxE w e
  keys : (D.1.toList.map keyS).Perm l
  nd : l.Nodup
  fit : D.2.2.fits D.1.size = true
  ris : Ris D.2.2.place.toList
  led : Ledge w D.2.2
def SetTx (w : World) (h : Heap) (a : Addr) (l : List Str) : Prop := ∃ D : SD, h.get? a = some (sObj "set" D) ∧ TxD w D l
theorem SetTx.at {w : World} {h h' : Heap} {a : Addr} {l : List Str} (R : SetTx w h a l) (k : ∀ o, h.get? a = some o → h'.get? a = some o) : SetTx w h' a l := by
  obtain ⟨D, hD, x⟩ := R
  exact ⟨D, k _ hD, x⟩
theorem txE_is {P : Program} {w : World} {e : Int × Value} (h : TxE w e) (k : Str) : (strKind P w).is k e.2 = true ↔ keyS e = k := by
  obtain ⟨j, u, rfl⟩ := h
  show Value.isStrOf k (.str j u) = true ↔ j = k
  simp [Value.isStrOf]
theorem TxD.ok {P : Program} {w : World} {D : SD} {l : List Str} (x : TxD w D l) : TxOk P w D l where
  el := fun e he => by
    obtain ⟨k, u, rfl⟩ := x.el e he
    exact ⟨⟨k, is_str k u, rfl⟩, rfl⟩
  mem := fun k => by
    rw [← x.keys.mem_iff, List.mem_map]
    exact ⟨fun ⟨e, he, q⟩ => ⟨e, he, (txE_is (x.el e he) k).2 q⟩, fun ⟨e, he, q⟩ => ⟨e, he, (txE_is (x.el e he) k).1 q⟩⟩
  sz := by
    rw [← x.keys.length_eq, List.length_map, Array.length_toList]
  fit := x.fit
theorem TxD.perm {w : World} {es es' : Array (Int × Value)} {ep ep' : Nat} {t t' : SetTable} {l l' : List Str} (x : TxD w (es, ep, t) l) (p : es'.toList.Perm es.toList) (hf : t'.fits es'.size = true) (r : Ris t'.place.toList) (hl : Ledge w t') : TxD w (es', ep', t') l where
  el := fun e he => x.el e (p.mem_iff.mp he)
  keys := (p.map keyS).trans x.keys
  nd := x.nd
  fit := hf
  ris := r
  led := hl
theorem TxD.tail {w : World} {ep : Nat} {es : Array (Int × Value)} {t : SetTable} {wd : Bool} {l : List Str} (x : TxD w (es, ep, t) l) : TxD w (tailTx ep es t wd) l := by
  unfold tailTx
  by_cases c : (!wd && t.tooFull) = true
  · rw [if_pos c]
    refine x.perm (l' := l) (relayAll_perm t es _) (relayAll_fits t es _) (relayAll_ris t es _) (x.led.imp id fun z => ?_)
    rw [relayAll_led]
    exact z
  · rw [if_neg c]
    exact ⟨x.el, x.keys, x.nd, x.fit, x.ris, x.led⟩
theorem TxD.add {w : World} {D : SD} {l : List Str} {k : Str} (u : Tok) (x : TxD w D l) (hk : k ∉ l) : TxD w (addTx (hashStr w k) (.str k u) D) (k :: l) := by
  obtain ⟨es, ep, t⟩ := D
  have p := layNew_perm t es (hashStr w k) (.str k u)
  rw [Array.toList_push] at p
  have p2 := p.trans (List.perm_append_singleton _ _)
  have led1 : Ledge w (layNew t es (hashStr w k) (.str k u)).2.1 := x.led.imp id fun z => by
    rw [layNew_led]
    exact z
  have y : TxD w ((layNew t es (hashStr w k) (.str k u)).1, ep, (layNew t es (hashStr w k) (.str k u)).2.1) (k :: l) := by
    refine ⟨fun e he => ?_, (p2.map keyS).trans (x.keys.cons k), List.nodup_cons.mpr ⟨hk, x.nd⟩, layNew_fits t es _ _, layNew_ris t es _ _ x.ris, led1⟩
    rcases List.mem_cons.mp (p2.mem_iff.mp he) with z | z
    · exact ⟨k, u, z⟩
    · exact x.el e z
  show TxD w (tailTx ep (layNew t es (hashStr w k) (.str k u)).1 (if (layNew t es (hashStr w k) (.str k u)).2.1.plain = true then { (layNew t es (hashStr w k) (.str k u)).2.1 with plain := false } else (layNew t es (hashStr w k) (.str k u)).2.1) (layNew t es (hashStr w k) (.str k u)).2.2.1) (k :: l)
  refine TxD.tail ?_
  by_cases c : (layNew t es (hashStr w k) (.str k u)).2.1.plain = true
  · rw [if_pos c]
    exact ⟨y.el, y.keys, y.nd, SetTable.fits_plain_off y.fit, y.ris, y.led⟩
  · rw [if_neg c]
    exact y
/-- with one more -/
def ins (k : Str) (l : List Str) : List Str := if k ∈ l then l else k :: l
theorem mem_ins {k j : Str} {l : List Str} : j ∈ ins k l ↔ j = k ∨ j ∈ l := by
  unfold ins
  split
  · rename_i h
    exact ⟨.inr, fun z => z.elim (fun e => e ▸ h) id⟩
  · exact List.mem_cons
theorem ins_len (k : Str) (l : List Str) : (ins k l).length ≤ l.length + 1 := by
  unfold ins
  split
  · omega
  · exact Nat.le_refl _
section
variable {P : Program} {w : World} {A : Around} {E : Value → Shared → Prop} {s : Shared} {a : Addr} {l : List Str} {k : Str} {u : Tok}
theorem add_hashed {Q : Bool → Shared → Prop} (R : SetTx w s.heap a l) (hb : l.length + 1 < scanBound) (h : ∀ b h', Heap.SameBut a s.heap h' → SetTx w h' a (ins k l) → Q b { s with heap := h' }) :
    wpAny (model P w) A (setAddHashed a (.str k u) (hashStr w k)) Q E s := by
  obtain ⟨D, ho, x⟩ := R
  by_cases hk : k ∈ l
  · have e1 : ins k l = l := if_pos hk
    rw [e1] at h
    obtain ⟨es, ep, t⟩ := D
    have F : TxOk P w (es, ep, t) l := x.ok
    obtain ⟨e, he, q⟩ := (F.mem k).mp hk
    have hb0 : es.size < scanBound := by
      have z : es.size = l.length := F.sz
      omega
    unfold setAddHashed setAddHashedIn
    refine wpAny_holding (wpAny_bind (wpAny_setState_of ho rfl F.fit ?_))
    dsimp only
    rw [byScan_of (knd := strKind P w) rfl hb0 F.el]
    simp only [↓reduceIte]
    unfold setAddByScan
    refine wpAny_bind (wpAny_bind (wpAny_rule (wpAny_bind (wpAny_setScan_of (knd := strKind P w) (k := k) (is_str k u) ho rfl F.fit F.el ?_))))
    cases hr : List.findIdx? (fun e => (strKind P w).is k e.2) es.toList with
    | none =>
      have z := List.findIdx?_eq_none_iff.mp hr e he
      rw [q] at z
      cases z
    | some j =>
      exact wpAny_pure (wpAny_pure (h _ s.heap (Heap.SameBut.refl a s.heap) ⟨_, ho, x⟩))
  · have e1 : ins k l = k :: l := if_neg hk
    rw [e1] at h
    refine add_x (P := P) ho x.ok hk hb (h _ _ (Heap.SameBut.update s.heap a _) ⟨_, get_upd _ ho rfl, x.add u hk⟩)
theorem add_tx {Q : Value → Shared → Prop} (R : SetTx w s.heap a l) (hb : l.length + 1 < scanBound) (h : ∀ h', Heap.SameBut a s.heap h' → SetTx w h' a (ins k l) → Q .none { s with heap := h', toks := s.toks + 1 }) :
    wpAny (model P w) A (call (.builtin "set.add") [.ref a, .str k u]) Q E s := by
  have hT : s.TypeIs (.ref a) "set" := by
    obtain ⟨D, ho, _⟩ := R
    exact ⟨_, ho, rfl⟩
  refine wpAny_call_entry F.slot_set_add hT F.entry_set_add ?_ (F.args_set_add_2 _ _)
  unfold Builtin.«set.add» Builtin.Frozenset.oneOther
  simp only [List.isEmpty_nil, bind_assoc]
  unfold Builtin.Frozenset.addrOf setAdd
  refine wpAny_bind (wpAny_pure ?_)
  try dsimp only
  refine wpAny_bind (wpAny_pure ?_)
  try dsimp only
  refine wpAny_bind (wpAny_holding (wpAny_bind ((strKind P w).pyHash (is_str k u) ?_)))
  refine add_hashed (s := { s with toks := s.toks + 1 }) R hb fun b h' sb r => ?_
  exact wpAny_pure ⟨_, rfl, h h' sb r⟩
end
end RX

namespace RX
open PySem PySem.Spec PyProof.Rows L2 PySem.Froz
def valS (v : Value) : Str := match v with
  | .str x _ => x
  | _ => ""
theorem strs_val : ∀ {l : List Value}, (∀ v ∈ l, ∃ k u, v = Value.str k u) → StrsAre l (l.map valS)
  | [], _ => .nil
  | v :: l, h => by
    obtain ⟨k, u, rfl⟩ := h v List.mem_cons_self
    exact .cons k u (strs_val fun x hx => h x (List.mem_cons_of_mem _ hx))
section
variable {P : Program} {w : World} {A : Around} {E : Value → Shared → Prop} {s : Shared} {a : Addr} {l : List Str}
theorem sorted_tx {Q : Value → Shared → Prop} (R : SetTx w s.heap a l) (hh : A.handled = none) (h64 : l.length < 64)
    (hQ : ∀ s' p (out : Array Value) (c : Nat) (ys : List Str), (∀ b o, s.heap.get? b = some o → s'.heap.get? b = some o) → s'.gens = s.gens → s'.os = s.os → s.heap.objs.size ≤ p →
      s'.heap.get? p = some (seqObj "list" out c) → StrsAre out.toList ys → ys.Perm l → sortedS ys = true → Q (.ref p) s') : wpAny (model P w) A (call (.builtin "sorted") [.ref a]) Q E s := by
  obtain ⟨⟨es, ep, t⟩, ho, x⟩ := R
  have hsz : es.size = l.length := (x.ok (P := P)).sz
  refine Calls.call_function_entry kind_sorted plain_sorted entry_sorted (args_sorted1 _) ?_
  unfold Builtin.«sorted»
  refine wpAny_bind (m := checkCount "sorted" 1 1 _) (wpAny_pure ?_)
  refine wpAny_bind (collect_set (A := A.in1) hh ⟨_, ho, rfl, rfl⟩ x.fit (show es.size < scanBound by unfold scanBound; omega) x.ris x.led fun s1 vs k1 hz g1 o1 pm => ?_)
  have hS : StrsAre vs (vs.map valS) := strs_val fun v hv => by
    obtain ⟨e, he, q⟩ := List.mem_map.mp (pm.mem_iff.mp hv)
    obtain ⟨k, u, rfl⟩ := x.el e he
    exact ⟨k, u, q.symm⟩
  have pk : (vs.map valS).Perm l := by
    have q := pm.map valS
    rw [List.map_map] at q
    exact q.trans x.keys
  have hvl : vs.length = l.length := by
    have q := pk.length_eq
    rw [List.length_map] at q
    exact q
  refine wpAny_bind (wpAny_newList ?_ (by rw [hvl, sizeLine_eq]; omega))
  have hoL : (s1.heap.push (seqObj "list" vs.toArray 0)).get? s1.heap.objs.size = some (seqObj "list" vs.toArray 0) := Heap.get?_push_size _ rfl
  refine wpAny_bind (wpAny_holding (wpAny_call_entry slot_list_sort ⟨_, hoL, rfl⟩ entry_list_sort
    (list_sort_treeK strKind_oneLt (s := { s1 with heap := s1.heap.push (seqObj "list" vs.toArray 0) }) hoL hS.keysOf (fun v₁ v₂ rest e => keyKind_strs (by rw [← e]; exact hS)) (by rw [hvl]; exact h64) fun st' hp hs => ⟨_, rfl, ?_⟩) (args_list_sort _)))
  obtain ⟨ys, y1, y2, y3⟩ := sorted_out_str hS hp hs
  obtain ⟨c, hc⟩ := sortedHeap_at (vs := vs) (out := (arrOf st').map (·.2)) hoL
  refine wpAny_pure ⟨_, rfl, hQ _ s1.heap.objs.size ((arrOf st').map (·.2)) c ys (fun b u e => ?_) g1 o1 hz hc y1 (y2.trans pk) y3⟩
  have q := k1 b u e
  have hlt := Heap.lt_size q
  show (sortedHeap (s1.heap.push (seqObj "list" vs.toArray 0)) s1.heap.objs.size vs ((arrOf st').map (·.2))).get? b = some u
  rw [sortedHeap_old (Nat.ne_of_lt hlt) (by rw [size_push']; exact Nat.lt_succ_of_lt hlt)]
  exact Heap.get?_push_of_some _ q
end
/-! ### as things of one's own -/
def SetTxO (w : World) (a : Addr) (l : List Str) : HO := .ext fun h => SetTx w h a l
theorem setTxO_new {w : World} {P : Program} {H : Hp} {h : Heap} {a : Addr} {l : List Str} (R : SetTx w h a l) : ObjOk P w H h a (SetTxO w a l) := by
  have ⟨D, ho, _⟩ := R
  exact ⟨R, ⟨_, ho⟩, fun h1 h2 p k => SetTx.at p k⟩
theorem fresh_tx {w : World} {h : Heap} {a : Addr} (ho : h.get? a = some { cls := .type "set", dict := none, data := .set #[] 0 (.fresh 0 0 (!w.params.followText "set-order")) }) : SetTx w h a [] :=
  ⟨(#[], 0, .fresh 0 0 (!w.params.followText "set-order")), ho, (fun e he => by simp at he), (by simp), List.nodup_nil, by rfl, List.Pairwise.nil, by
    show _ ∨ (!w.params.followText "set-order") = true
    cases w.params.followText "set-order"
    · exact .inr rfl
    · exact .inl rfl⟩
section
variable {X : Cx}
theorem setTxO_get {pins : List (Addr × Obj)} {σ : L2.St} {H : Hp} {s : Shared} {a : Addr} {l : List Str} (I : Inv X pins σ H s) (ha : H a = some (SetTxO X.w a l)) : SetTx X.w s.heap a l := (I.hok a _ ha).1
/-- sorted(a set of texts) -/
def rSortTx (w : World) : List V → Hp → VK → Prop := fun vs H Q => ∃ (a : Addr) (l : List Str), vs = [V.ref a] ∧ H a = some (SetTxO w a l) ∧ l.length < 64 ∧ ∀ ys p, ys.Perm l → l.Nodup → sortedS ys = true → H p = none → Q (.ref p) (upd H p (.lst (ys.map V.str)))
theorem call_sortTx (hc : X.calm = true) : CallR X (.builtin "sorted") (rSortTx X.w) := by
  intro pins s σ H vs us Q I r h
  obtain ⟨a, l, rfl, ha, h64, q⟩ := h
  have R := setTxO_get I ha
  have nd : l.Nodup := by
    obtain ⟨D, _, x⟩ := R
    exact x.nd
  rw [Vals.ref1 r]
  refine sorted_tx R (I.ok.hd hc) h64 fun s' p out c ys k g o hp hg hS pm srt => ?_
  have hlen : (ys.map V.str).length ≤ sizeLine := by rw [List.length_map, pm.length_eq, sizeLine_eq]; omega
  have hn : H p = none := I.hok.fresh hp
  have J : Inv X pins σ (upd H p (.lst (ys.map V.str))) { s with heap := s'.heap, gens := s'.gens, drawn := s'.drawn, toks := s'.toks } :=
    I.call (ch := []) (Un.laid k hp hn) (I.hok.laid k hp ⟨hlen, out.toList, c, vals_of_strs hS, hg⟩) (by rw [g]; exact I.bare) (fun _ z => nomatch z)
  have e : s' = { s with heap := s'.heap, gens := s'.gens, drawn := s'.drawn, toks := s'.toks } := by
    cases s'
    cases s
    cases o
    rfl
  rw [e]
  exact ⟨.ref p, _, J, rfl, q ys p pm nd srt hn⟩
/-- set.add of a text -/
theorem addTx_ok {pins : List (Addr × Obj)} {σ : L2.St} {H : Hp} {s : Shared} {E : Value → Shared → Prop} {D : Addr} {l : List Str} {k : Str} {u : Tok} {Q : Value → Shared → Prop} (I : Inv X pins σ H s) (hD : H D = some (SetTxO X.w D l)) (room : l.length + 1 < scanBound)
    (h : ∀ s', Inv X pins σ (upd H D (SetTxO X.w D (ins k l))) s' → Q .none s') : wpAny (model X.prog X.w) X.A (call (.builtin "set.add") [.ref D, .str k u]) Q E s := by
  refine add_tx (setTxO_get I hD) room fun h' sb new => ?_
  have he : ∃ u, h'.get? D = some u := by
    have ⟨_, ho, _⟩ := new
    exact ⟨_, ho⟩
  exact h _ (I.write (e := D) (t' := s.toks + 1) (by rw [hD]; trivial) (.inl rfl) (fun b u hb hu => (sb.2 b hb).trans hu) he (setTxO_new new))
end
end RX

namespace RX
open PySem PySem.Spec PyProof.Rows L2 PySem.Froz
/-- the members are those of ks -/
def Mems (l ks : List Str) : Prop := ∀ k, k ∈ l ↔ k ∈ ks
theorem Mems.ins {l ks : List Str} (h : Mems l ks) (k : Str) : Mems (ins k l) (ks ++ [k]) := fun j => by
  rw [mem_ins, h j, List.mem_append, List.mem_singleton]
  exact Or.comm
section
variable {P : Program} {w : World} {A : Around} {E : Value → Shared → Prop} {s : Shared}
/-- set.update.loop over texts -/
theorem update_txts {I : Addr} {fp wr : List Addr} {G : Array GenState → Array GenState → Prop} {n : Nat} {Pv : Nat → Value → Prop} {St : Nat → Shared → Prop} {R : Result → Shared → Prop}
    (W : WalksS P w A.in1 I fp wr G n Pv St) (S : Addr) (hSf : S ∉ fp) (ks : List Str) (hn : n = ks.length) (hb : ks.length + 1 < scanBound) (hval : ∀ i v, Pv i v → ∃ k t, ks[i]? = some k ∧ v = .str k t) :
    ∀ (m i : Nat) (s : Shared), n - i = m → i ≤ n → St i s → (∃ l, l.length ≤ i ∧ Mems l (ks.take i) ∧ SetTx w s.heap S l) →
      (∀ s' l, Moved (S :: wr) G s s' → l.length ≤ n → Mems l ks → SetTx w s'.heap S l → R (.ok (.ret .none)) s') → codeAny (model P w) A (.builtin "set.update.loop" ⟨[.ref S, .ref I], []⟩) R s := by
  have away : S ∉ wr := fun h => hSf (W.sub _ h)
  have more : ∀ b ∈ wr, b ∈ S :: wr := fun b hb => List.mem_cons_of_mem _ hb
  intro m
  induction m with
  | zero =>
    intro i s hm0 hi hst ⟨l, hl, hm, hS⟩ hR
    obtain rfl : i = n := by omega
    refine codeAny_builtin F.entry_set_update_loop ?_
    rw [Around.under_plainId F.plain_set_update_loop _]
    refine wpAny_bind (W.done s _ _ hst fun s' mv => wpAny_pure (hR s' l (mv.mono more) hl ?_ (hS.at fun o e => mv.heap S o away e)))
    rw [List.take_of_length_le (by omega)] at hm
    exact hm
  | succ m ih =>
    intro i s hm0 hi hst ⟨l, hl, hm, hS⟩ hR
    have hlt : i < n := by omega
    refine codeAny_builtin F.entry_set_update_loop ?_
    rw [Around.under_plainId F.plain_set_update_loop _]
    refine wpAny_bind (W.item i s _ _ hlt hst fun v s' hP hst' mv => ?_)
    obtain ⟨z, t, hz, rfl⟩ := hval i v hP
    refine wpAny_bind (wpAny_holding ?_)
    unfold setAdd
    refine wpAny_holding (wpAny_bind ((strKind P w).pyHash (k := z) (is_str _ _) ?_))
    refine add_hashed (P := P) (s := { s' with toks := s'.toks + 1 }) (hS.at fun o e => mv.heap S o away e) (by omega) fun b h' sb hS2 => ?_
    have step : ∀ c o, c ≠ S → s'.heap.get? c = some o → h'.get? c = some o := fun c o nc e => (sb.2 c nc).trans e
    refine wpAny_pure ⟨plainId_quiet F.plain_set_update_loop _, ih (i + 1) _ (by omega) hlt (W.frame _ s' _ _ hst' (Nat.le_succ _) fun c hc o e => step c o (fun q => hSf (q ▸ hc)) e) ⟨ins z l, Nat.le_trans (ins_len z l) (by omega), ?_, hS2⟩ fun s'' l2 mv2 hl2 hm2 hS3 => ?_⟩
    · rw [List.take_add_one, hz]
      exact hm.ins z
    · exact hR s'' l2 (Moved.trans W.gtrans ((mv.mono more).then_heap (Nat.le_succ _) fun c o hc e => step c o (fun q => hc (by rw [q]; exact List.mem_cons_self)) e) mv2) hl2 hm2 hS3
end
end RX

namespace RX
open PySem PySem.Spec PyProof.Rows L2 PySem.Froz
section
variable {P : Program} {w : World} {A : Around} {E : Value → Shared → Prop} {s : Shared}
/-- set.__init__ of a list of texts, the set new at S -/
def Filled (w : World) (S : Addr) (ks : List Str) (s s' : Shared) : Prop := ∃ h' tk l, s' = { s with heap := h', toks := tk } ∧ SetTx w h' S l ∧ l.length ≤ ks.length ∧ Mems l ks ∧ ∀ b o, b ≠ S → s.heap.get? b = some o → h'.get? b = some o
set_option maxHeartbeats 3200000 in
theorem init_txts {S l : Addr} {items : Array Value} (ks : List Str) (hh : A.handled = none) (hl : s.heap.IsList l items) (hit : StrsAre items.toList ks) (hb : ks.length + 1 < scanBound)
    (hS : s.heap.get? S = some { cls := .type "set", dict := none, data := .set #[] 0 (.fresh 0 0 (!w.params.followText "set-order")) }) :
    codeAny (model P w) A (.call (.builtin "set.__init__") ⟨[.ref S, .ref l], []⟩) (wants (fun r s' => r = .none ∧ Filled w S ks s s') E) s := by
  have hT : s.TypeIs (.ref S) "set" := ⟨_, hS, rfl⟩
  have hisz : items.size = ks.length := by
    rw [← StrsAre.len_eq hit, Array.length_toList]
  have nlS : l ≠ S := fun e => by
    obtain ⟨o, ho, hc, _⟩ := hl
    rw [e, hS] at ho
    cases ho
    simp at hc
  refine codeAny_call_builtin F.called_set.init.plain F.entry_set_init (check_set_init_1 hT ?_)
  obtain ⟨ol, hol, hcl, nl, hdl⟩ := id hl
  obtain ⟨ocls, odict, odata, oslots⟩ := ol
  simp only at hcl hdl
  subst hcl; subst hdl
  have hsls := F.sub_list_set
  have hslf := F.sub_list_frozenset
  have hne : (Value.type "list" == Value.type "dict") = false := by decide
  unfold Builtin.«set.__init__» noKeywords Builtin.Frozenset.updateFrom
  generalize hPI : pyIter = PI
  wp_walk
  subst hPI
  refine wpAny_pyIter_list hl (wpAny_bind (wpAny_runValue ?_))
  have hh3 : A.in1.in1.handled = none := by simp [hh]
  have hneI : l ≠ s.heap.objs.size := Nat.ne_of_lt (Heap.lt_size hol)
  have hSlt : S < s.heap.objs.size := Heap.lt_size hS
  have hSf : S ∉ [s.heap.objs.size, l] := fun z => by
    rcases List.mem_cons.mp z with e | e
    · exact Nat.ne_of_lt hSlt e
    · exact nlS (List.mem_singleton.mp e).symm
  have hval : ∀ (i : Nat) (v : Value), items[i]? = some v → ∃ k t, ks[i]? = some k ∧ v = .str k t := fun i v hv => by
    have hi : i < ks.length := by rw [← hisz]; exact (Array.getElem?_eq_some_iff.mp hv).1
    obtain ⟨t, e⟩ := SS.strs_at hit i v (by rw [Array.getElem?_toList]; exact hv)
    refine ⟨ks[i], t, List.getElem?_eq_getElem hi, ?_⟩
    rw [e, List.getD_eq_getElem?_getD, List.getElem?_eq_getElem hi] <;> rfl
  refine update_txts (P := P) ((Walks.list hh3 _ l hneI items).toS) S hSf ks hisz hb hval (items.size - 0) 0 _ (by omega) (Nat.zero_le _) ?hst ?h0 ?hR
  case hst => exact ⟨⟨_, Heap.get?_push_size _ rfl, rfl, rfl⟩, (hl.push _)⟩
  case h0 => exact ⟨[], Nat.le_refl 0, fun k => by simp, fresh_tx (w := w) (Heap.get?_push_of_some _ hS)⟩
  intro s' l2 mv hl2 hm hS2
  obtain ⟨h', g2, d', tk', os'⟩ := s'
  have eg : g2 = s.gens := mv.gens
  have ed : d' = s.drawn := mv.drawn
  have eo : os' = s.os := mv.os
  subst eg; subst ed; subst eo
  rw [hisz] at hl2
  refine wpAny_pure (wpAny_pure ⟨rfl, h', tk', l2, rfl, hS2, hl2, hm, fun b o nb e => ?_⟩)
  have hb0 : b < s.heap.objs.size := Heap.lt_size e
  refine mv.heap b o (fun z => ?_) (Heap.get?_push_of_some _ e)
  rcases List.mem_cons.mp z with q | q
  · exact nb q
  · exact Nat.ne_of_lt hb0 (List.mem_singleton.mp q)
set_option maxHeartbeats 3200000 in
theorem call_txts {l : Addr} {items : Array Value} (ks : List Str) {Q : Value → Shared → Prop} (hh : A.handled = none) (hl : s.heap.IsList l items) (hit : StrsAre items.toList ks) (hb : ks.length + 1 < scanBound)
    (h : ∀ (h' : Heap) (tk : Nat) (l' : List Str), SetTx w h' s.heap.objs.size l' → l'.length ≤ ks.length → Mems l' ks → (∀ b o, s.heap.get? b = some o → h'.get? b = some o) → Q (.ref s.heap.objs.size) { s with heap := h', toks := tk }) :
    wpAny (model P w) A (call (.type "set") [.ref l]) Q E s := by
  obtain ⟨c, tl, hmro⟩ := F.called_set.mro
  have hmade := F.called_set.made
  have hsub := F.called_set.sub
  have h1 := F.called_set.notType
  have h2 := F.called_set.canCreate
  have hct := F.typeCall_set_1 (.ref l)
  have hli := F.called_set.init.lookup
  have hbi := F.called_set.init.bind (.ref s.heap.objs.size)
  refine wpAny_call (codeAny_of_tree (wpAny_pure ⟨Code.quiet_builtin _ (by decide +kernel), codeAny_builtin F.entry_type_call ?_⟩))
  rw [Around.under_plain (weight_type_call_type "set" [.ref l] []) rfl]
  repeat (any_goals (first | assumption | wp_step))
  refine codeAny_mono (code_set_led1 (.ref l) (E := E) (Q₁ := fun obj s1 => obj = .ref s.heap.objs.size ∧ s1 = { s with heap := s.heap.push { cls := .type "set", dict := none, data := .set #[] 0 (.fresh 0 0 (!w.params.followText "set-order")) } }) ⟨rfl, rfl⟩) fun r s1 hr => ?_
  rcases r with e | (_ | _ | _ | obj)
  · exact hr
  · exact hr.elim
  · exact hr.elim
  · exact hr.elim
  obtain ⟨rfl, rfl⟩ := hr
  have hS : (s.heap.push { cls := .type "set", dict := none, data := .set #[] 0 (.fresh 0 0 (!w.params.followText "set-order")) }).get? s.heap.objs.size = some { cls := .type "set", dict := none, data := .set #[] 0 (.fresh 0 0 (!w.params.followText "set-order")) } := Heap.get?_push_size _ rfl
  have hT : Shared.TypeIs { s with heap := s.heap.push { cls := .type "set", dict := none, data := .set #[] 0 (.fresh 0 0 (!w.params.followText "set-order")) } } (.ref s.heap.objs.size) "set" := ⟨_, hS, rfl⟩
  repeat (any_goals (first | assumption | wp_step))
  refine codeAny_mono (init_txts (P := P) (E := E) ks (by simp [hh]) (hl.push _) hit hb hS) fun r2 s2 hr2 => ?_
  rcases r2 with e | (_ | _ | _ | r)
  · exact hr2
  · exact hr2.elim
  · exact hr2.elim
  · exact hr2.elim
  obtain ⟨rfl, h', tk, l', rfl, hS2, hl2, hm, k⟩ := hr2
  repeat (any_goals (first | assumption | wp_step))
  exact h _ _ _ hS2 hl2 hm fun b o e => k b o (Nat.ne_of_lt (Heap.lt_size e)) (Heap.get?_push_of_some _ e)
end
section
variable {X : Cx}
/-- set(a list of texts) -/
def rSetTx (K : PySem.W.Frag) (w : World) : List V → Hp → VK → Prop := fun xs H Q => ∃ (p : Addr) (ks : List Str), xs = [V.ref p] ∧ SqL K H p (ks.map V.str) ∧ ks.length ≤ 1000 ∧ ∀ a l, H a = none → l.length ≤ ks.length → Mems l ks → Q (.ref a) (upd H a (SetTxO w a l))
theorem call_setTx (hc : X.calm = true) : CallR X (.type "set") (rSetTx X.K X.w) := by
  intro pins s σ H xs us Q I r h
  obtain ⟨p, ks, rfl, hl, hf, q⟩ := h
  rw [Vals.ref1 r]
  obtain ⟨its, rv, pl, hz⟩ := I.list hl
  refine call_txts (P := X.prog) (w := X.w) ks (I.ok.hd hc) pl.isList (by simpa using strsAre_of rv) (by unfold scanBound; omega) fun h' tk l R g m k => ?_
  exact ⟨.ref s.heap.objs.size, upd H s.heap.objs.size (SetTxO X.w s.heap.objs.size l), I.laid (t' := tk) k (Nat.le_refl _) (setTxO_new R), rfl, q _ l (I.hok.fresh (Nat.le_refl _)) g m⟩
end
end RX

namespace RR
open PySem PySem.Spec PyProof.Rows L2
open RX (Mems SetTxO rSortTx rSetTx)
/-! ### sorted(set(l)) of a list of texts -/
theorem RDs.strs {ct : Cl} {F : Addr → Prop} {H : Hp} : ∀ {vs : List V} {ks : List Str}, RDs ct F H vs (ks.map .str) → vs = ks.map V.str
  | [], [], _ => rfl
  | [], _ :: _, h => by cases h
  | _ :: _, [], h => by cases h
  | v :: vs, k :: ks, h => by
    cases h with
    | cons h1 h2 =>
      cases h1 with
      | str =>
        rw [RDs.strs h2]
        rfl
theorem RDs.ofStrs {ct : Cl} {F : Addr → Prop} {H : Hp} : ∀ ks : List Str, RDs ct F H (ks.map V.str) (ks.map .str)
  | [] => .nil
  | k :: ks => .cons (.str k) (RDs.ofStrs ks)
def dSortSet (a : DE) : DE := fun E C Q => a E C fun x C1 => ∃ ks : List Str, rdL C1 x = some (ks.map .str) ∧ ks.length < 64 ∧ ∀ ys : List Str, ys.Nodup → sortedS ys = true → (∀ k, k ∈ ys ↔ k ∈ ks) → ys.length ≤ ks.length → Q (.val (.list (ys.map .str))) C1
instance ce_sortset {ct : Ct} {K : PySem.W.Frag} {w : World} {t : TE} {a : DE} [h : CE ct t a] : CE ct (tCB (rSortTx w) (tCons (tCB (rSetTx K w) (tCons t tNil)) tNil)) (dSortSet a) := ⟨fun B g σ H E C Q K' R k q => by
  refine h.run B g σ H E C _ _ R (fun v H1 z1 => ?_) q
  obtain ⟨g1, C1, x, k1, R1, r1, ks, e, hl, q1⟩ := z1
  obtain ⟨a, xs, rfl, h1, h2⟩ := rdL_ok R1.cs r1 e
  have ex := RDs.strs h2
  subst ex
  refine ⟨a, ks, rfl, SqL.of h1, by omega, fun S l hS hll hm => ?_⟩
  obtain ⟨k2, R2⟩ := R1.new (o := SetTxO w S l) false hS
  refine ⟨S, l, rfl, upd_same, by omega, fun ys p pm nd srt hp => ?_⟩
  exact post_lst R2 hp (RDs.ofStrs ys) (fun v' H' z => k v' H' (z.back (k1.trans k2))) (q1 ys (pm.nodup_iff.mpr nd) srt (fun k => pm.mem_iff.trans (hm k)) (by rw [pm.length_eq]; omega))⟩
/-! ### comprehensions with two for -/
def dLc2Go (h : DG) (tt : DT) (it1 : DI) (h1 : DG) (tt1 : DT) (te : DE) (vs1 : List Nat) (E : Ev) : List D → List D → List Cell → (List D → List Cell → Prop) → Prop
  | [], acc, C, Q => Q acc C
  | x :: xs, acc, C, Q => h (.val x) E C fun E2 C1 => tt E2 C1 fun b C2 => if b = true then it1 E2 C2 fun ds C3 => dLcGo h1 tt1 te (wipeE E2 vs1) ds acc C3 fun acc2 C4 => dLc2Go h tt it1 h1 tt1 te vs1 E xs acc2 C4 Q else dLc2Go h tt it1 h1 tt1 te vs1 E xs acc C2 Q
def dLc2 (it : DI) (h : DG) (tt : DT) (it1 : DI) (h1 : DG) (tt1 : DT) (te : DE) (sl sl1 vs vs1 : List Nat) : DFl := fun E C Q => (sl.all fun i => vs.contains i) = true ∧ (sl1.all fun i => vs1.contains i) = true ∧ it E C fun ds C1 => dLc2Go h tt it1 h1 tt1 te vs1 (wipeE E vs) ds [] C1 Q
theorem Rel.up {ct : Ct} {B : Bs} {g g' : Gh} {σ σ' : L2.St} {H H' : Hp} {E E' : Ev} {C C' : List Cell} (R : Rel ct B g σ H E C) (S : Rel ct (Bs.of g H) g' σ' H' E' C') : Rel ct B g' σ' H' E' C' := ⟨S.env, S.len, S.cs, R.fr.comp S.fr, R.gg.trans S.gg, R.xo⟩
instance cf_lc2 {ct : Ct} {wi wi1 : TI} {gt gt1 : TG} {t1 t2 : TT} {te : TE} {vs vs1 sl sl1 : List Nat} {it it1 : DI} {h h1 : DG} {dt dt1 : DT} {de : DE} [hi : CI ct wi it] [hg : CG ct gt h] [hw : GW gt sl] [ht : CT ct t1 dt] [hi1 : CI ct wi1 it1] [hg1 : CG ct gt1 h1] [hw1 : GW gt1 sl1] [ht1 : CT ct t2 dt1] [he : CE ct te de] : CF ct (tLc2 wi gt t1 wi1 gt1 t2 te vs vs1) (dLc2 it h dt it1 h1 dt1 de sl sl1 vs vs1) := ⟨fun B g σ H E C Q K R k q => by
  obtain ⟨hsl, hsl1, q⟩ := q
  refine hi.run B g σ H E C _ _ R (fun J H1 g1 C1 ds k1 R1 ok q1 => ?_) q
  intro A hA
  have hsl2 : ∀ j, j ∉ vs → j ∉ sl := fun j hj hm => hj (by
    have := List.all_eq_true.mp hsl j hm
    simpa using this)
  have hsl3 : ∀ j, j ∉ vs1 → j ∉ sl1 := fun j hj hm => hj (by
    have := List.all_eq_true.mp hsl1 j hm
    simpa using this)
  obtain ⟨k0, R0, s0⟩ := R1.newSide (xs := []) hA
  refine ⟨fun i m H2 => m = ds.length - i ∧ i ≤ ds.length ∧ ∃ g2 C2 xs acc, Gk g1 H1 g2 H2 ∧ Rel ct B g2 σ H2 E C2 ∧ Side B g2 H2 A xs ∧ RDs ct g2.F H2 xs acc ∧ dLc2Go h dt it1 h1 dt1 de vs1 (wipeE E vs) (ds.drop i) acc C2 Q, ⟨ds.length, by simp, Nat.zero_le _, _, C1, [], [], k0, R0, s0, .nil, q1⟩, ?_⟩
  rintro i m H2 ⟨rfl, hle, g2, C2, xs, acc, k2, R2, s2, r2, q2⟩
  by_cases hlt : i < ds.length
  · refine .inr ⟨ok.go g2 H2 k2 i hlt, fun H' => ds.length - (i + 1) = ds.length - (i + 1) ∧ i + 1 ≤ ds.length ∧ ∃ g2 C2 xs acc, Gk g1 H1 g2 H' ∧ Rel ct B g2 σ H' E C2 ∧ Side B g2 H' A xs ∧ RDs ct g2.F H' xs acc ∧ dLc2Go h dt it1 h1 dt1 de vs1 (wipeE E vs) (ds.drop (i + 1)) acc C2 Q, fun H' p => ⟨ds.length - (i + 1), by omega, p⟩, fun x H3 y => ?_⟩
    obtain ⟨h1', h2'⟩ := ok.yld g2 H2 k2 i x H3 ds[i] (List.getElem?_eq_getElem hlt) y
    obtain ⟨g3, k3, R3, s3⟩ := R2.step2 s2 h1'
    have q3 : dLc2Go h dt it1 h1 dt1 de vs1 (wipeE E vs) (ds[i] :: ds.drop (i + 1)) acc C2 Q := by
      rw [← List.drop_eq_getElem_cons hlt]
      exact q2
    have r3 := RDs.mono k3.kp _ _ r2
    refine hw.run _ _ _ (PostG ct (Bs.of g3 H3) g3 H3 _) _ (hg.run (Bs.of g3 H3) g3 (L2.wipe σ vs) H3 (wipeE E vs) C2 x (.val ds[i]) _ _ ((R3.wipe vs).self) (h2' g3 k3) (fun _ _ p => p) q3) ?_
    rintro σ2 H4 ⟨g4, E4, C4, k4, R4, q4⟩ hl hn
    refine ⟨?_, ?_⟩
    · rw [wipe_ext (σ := σ2) (τ := L2.wipe σ vs) (fun j hj => hn j (hsl2 j hj)) hl]
      exact wipe_ext (fun j hj => by rw [wipe_get, if_neg hj]) (wipe_length σ vs)
    refine ht.run _ g4 σ2 H4 E4 C4 _ _ R4 (fun b H5 ⟨g5, C5, k5, R5, q5⟩ => ?_) q4
    have k35 := k4.trans k5
    cases b with
    | false =>
      refine iteF ⟨rfl, hlt, g5, C5, xs, acc, (k2.trans k3).trans k35, R3.gk k35 R5.cs (R3.fr.comp R5.fr), s3.later R5.fr, RDs.mono k35.kp _ _ r3, q5⟩
    | true =>
      refine iteT (hi1.run _ g5 σ2 H5 E4 C5 _ _ R5 (fun J1 H6 g6 C6 es k6 R6 ok1 q6 => ?_) q5)
      have k36 := k35.trans k6
      have S6 := R3.up R6
      have s6 := s3.later R6.fr
      have r6 := RDs.mono k36.kp _ _ r3
      refine ⟨fun j m H7 => m = es.length - j ∧ j ≤ es.length ∧ ∃ g7 C7 ys bcc, Gk g3 H3 g7 H7 ∧ Gk g6 H6 g7 H7 ∧ Rel ct B g7 σ2 H7 E4 C7 ∧ Side B g7 H7 A ys ∧ RDs ct g7.F H7 ys bcc ∧ dLcGo h1 dt1 de (wipeE E4 vs1) (es.drop j) bcc C7 (fun acc2 C8 => dLc2Go h dt it1 h1 dt1 de vs1 (wipeE E vs) (ds.drop (i + 1)) acc2 C8 Q), ⟨es.length, by simp, Nat.zero_le _, g6, C6, xs, acc, k36, Gk.refl _ _, S6, s6, r6, q6⟩, ?_⟩
      rintro j m H7 ⟨rfl, hle1, g7, C7, ys, bcc, k37, k67, R7, s7, r7, q7⟩
      by_cases hlt1 : j < es.length
      · refine .inr ⟨ok1.go g7 H7 k67 j hlt1, fun H' => es.length - (j + 1) = es.length - (j + 1) ∧ j + 1 ≤ es.length ∧ ∃ g7 C7 ys bcc, Gk g3 H3 g7 H' ∧ Gk g6 H6 g7 H' ∧ Rel ct B g7 σ2 H' E4 C7 ∧ Side B g7 H' A ys ∧ RDs ct g7.F H' ys bcc ∧ dLcGo h1 dt1 de (wipeE E4 vs1) (es.drop (j + 1)) bcc C7 (fun acc2 C8 => dLc2Go h dt it1 h1 dt1 de vs1 (wipeE E vs) (ds.drop (i + 1)) acc2 C8 Q), fun H' p => ⟨es.length - (j + 1), by omega, p⟩, fun x1 H8 y1 => ?_⟩
        obtain ⟨u1, u2⟩ := ok1.yld g7 H7 k67 j x1 H8 es[j] (List.getElem?_eq_getElem hlt1) y1
        obtain ⟨g8, k8, R8, s8⟩ := R7.step2 s7 u1
        have q8 : dLcGo h1 dt1 de (wipeE E4 vs1) (es[j] :: es.drop (j + 1)) bcc C7 (fun acc2 C8 => dLc2Go h dt it1 h1 dt1 de vs1 (wipeE E vs) (ds.drop (i + 1)) acc2 C8 Q) := by
          rw [← List.drop_eq_getElem_cons hlt1]
          exact q7
        have r8 := RDs.mono k8.kp _ _ r7
        refine hw1.run _ _ _ (PostG ct (Bs.of g8 H8) g8 H8 _) _ (hg1.run (Bs.of g8 H8) g8 (L2.wipe σ2 vs1) H8 (wipeE E4 vs1) C7 x1 (.val es[j]) _ _ ((R8.wipe vs1).self) (u2 g8 k8) (fun _ _ p => p) q8) ?_
        rintro σ9 H9 ⟨g9, E9, C9, k9, R9, q9⟩ hl9 hn9
        refine ⟨?_, ?_⟩
        · rw [wipe_ext (σ := σ9) (τ := L2.wipe σ2 vs1) (fun j hj => hn9 j (hsl3 j hj)) hl9]
          exact wipe_ext (fun j hj => by rw [wipe_get, if_neg hj]) (wipe_length σ2 vs1)
        refine ht1.run _ g9 σ9 H9 E9 C9 _ _ R9 (fun b1 H10 ⟨g10, C10, k10, R10, q10⟩ => ?_) q9
        have k80 := k9.trans k10
        have k78 := k8.trans k80
        cases b1 with
        | false =>
          refine iteF ⟨rfl, hlt1, g10, C10, ys, bcc, k37.trans k78, k67.trans k78, R8.gk k80 R10.cs (R8.fr.comp R10.fr), s8.later R10.fr, RDs.mono k80.kp _ _ r8, q10⟩
        | true =>
          refine iteT (he.run _ g10 σ9 H10 E9 C10 _ _ R10 (fun v H11 ⟨g11, C11, w, k11, R11, r11, q11⟩ => ?_) q10)
          have k81 := k80.trans k11
          have s11 := s8.later R11.fr
          unfold accK at q11
          split at q11
          · rename_i d
            obtain ⟨hz, q12⟩ := q11
            have r81 := RDs.mono k81.kp _ _ r8
            refine ⟨ys, s11.at_, by rw [r81.length]; exact hz, ?_⟩
            have R11' := R8.gk k81 R11.cs (R8.fr.comp R11.fr)
            obtain ⟨k12, R12, s12⟩ := R11'.side (ys := ys ++ [v]) s11
            have k7e := k8.trans (k81.trans k12)
            exact ⟨rfl, hlt1, g11, C11, ys ++ [v], bcc ++ [d], k37.trans k7e, k67.trans k7e, R12, s12, RDs.mono k12.kp _ _ (r81.app (.cons r11 .nil)), q12⟩
          · exact q11.elim
      · have hj2 : j = es.length := by omega
        subst hj2
        rw [List.drop_length] at q7
        exact .inl ⟨ok1.stop g7 H7 k67, rfl, hlt, g7, C7, ys, bcc, (k2.trans k3).trans k37, R3.gk k37 R7.cs R7.fr, s7, r7, q7⟩
  · have hi2 : i = ds.length := by omega
    subst hi2
    rw [List.drop_length] at q2
    exact .inl ⟨ok.stop g2 H2 k2, k _ _ ⟨g2, C2, acc, xs, A, k1.trans k2, R2, rfl, s2, r2, q2⟩⟩⟩
instance ce_lc2 {ct : Ct} {wi wi1 : TI} {gt gt1 : TG} {t1 t2 : TT} {te : TE} {vs vs1 : List Nat} {t : DFl} [h : CF ct (tLc2 wi gt t1 wi1 gt1 t2 te vs vs1) t] : CE ct (tLc2 wi gt t1 wi1 gt1 t2 te vs vs1) (dVal t) := h.val
end RR

/-! zip over a list of sources: the drawing loop, by induction over the sources; then zip of four. -/
namespace RR
open PySem PySem.Spec PyProof.Rows L2
/-- a source that zip draws from -/
structure Src where
  it : Addr
  fp : List Addr
  n : Nat
  P : Nat → Value → Prop
  St : Nat → Heap → Prop
abbrev IsTp (h : Heap) (T : Addr) (xs : Array Value) : Prop := h.get? T = some { cls := .type "tuple", data := .seq xs }
def wrs : Nat → Array Value → List Value → Array Value
  | _, xs, [] => xs
  | k, xs, v :: vs => wrs (k + 1) (xs.setIfInBounds k v) vs
structure Apt (z TO : Addr) (Ls : List Src) : Prop where
  zT : TO ≠ z
  me : ∀ S ∈ Ls, S.it ∈ S.fp ∧ z ∉ S.fp ∧ TO ∉ S.fp
  pw : Ls.Pairwise fun S T => S.it ∉ T.fp ∧ T.it ∉ S.fp
theorem Apt.tail {z TO : Addr} {S : Src} {Ls : List Src} (a : Apt z TO (S :: Ls)) : Apt z TO Ls := ⟨a.zT, fun T h => a.me T (List.mem_cons_of_mem _ h), (List.pairwise_cons.mp a.pw).2⟩
section
variable {prog : Program} {w : World} {A : Around} {E : Value → Shared → Prop}
/-- what one turn of the loop's body does -/
def TurnOk (prog : Program) (w : World) (A : Around) (z TO : Addr) {β : Type} (b : β) (body : Value × Nat → β → Sem (ForInStep β)) : Prop :=
  ∀ (v : Value) (k : Nat) (s : Shared) (xs : Array Value) (Q : ForInStep β → Shared → Prop) (E : Value → Shared → Prop), xs.size ≤ 10 →
    wpAny (model prog w) A (Builtin.SmallTypes.nextOf v) (fun x s1 => IsTp s1.heap TO xs ∧ ∀ h2, IsTp h2 TO (xs.setIfInBounds k x) → Heap.SameBut TO s1.heap h2 → Q (.yield b) { s1 with heap := h2 })
      (fun e s1 => ∃ TI, IsZip s1.heap z TI TO .ellipsis ∧ ∀ h2, Heap.SameBut z s1.heap h2 → E e { s1 with heap := h2 }) s →
    wpAny (model prog w) A (body (v, k) b) Q E s
abbrev Dr (prog : Program) (w : World) (A : Around) (S : Src) : Prop := Draws prog w A S.it S.fp S.n S.P S.St
theorem over_but {S : Src} (D : Dr prog w A S) {i : Nat} {h h' : Heap} {x : Addr} (st : S.St i h) (hs : Heap.SameBut x h h') (hx : x ∉ S.fp) : S.St i h' :=
  D.frame i h h' st fun b hb o e => hs.extBut b o (fun q => hx (by rw [← q]; exact hb)) e
theorem wrs_size : ∀ (vs : List Value) (k : Nat) (xs : Array Value), (wrs k xs vs).size = xs.size
  | [], _, _ => rfl
  | v :: vs, k, xs => (wrs_size vs (k + 1) _).trans (Array.size_setIfInBounds ..)
theorem loop_item {β : Type} {z TO : Addr} {b : β} {body : Value × Nat → β → Sem (ForInStep β)} (hb : TurnOk prog w A z TO b body) {i : Nat} : ∀ (Ls : List Src) (k : Nat) (s : Shared) (xs : Array Value) (Q : β → Shared → Prop), xs.size ≤ 10 → Apt z TO Ls → (∀ S ∈ Ls, Dr prog w A S) → (∀ S ∈ Ls, S.St i s.heap ∧ i < S.n) → IsTp s.heap TO xs →
    (∀ vs h' tk, Paired (fun (S : Src) v => S.P i v) Ls vs → IsTp h' TO (wrs k xs vs) → (∀ S ∈ Ls, S.St (i + 1) h') → h'.objs.size = s.heap.objs.size → (∀ c o, c ≠ TO → (∀ S ∈ Ls, c ≠ S.it) → s.heap.get? c = some o → h'.get? c = some o) → Q b { s with heap := h', toks := tk }) →
    wpAny (model prog w) A (forIn ((Ls.map fun S => Value.ref S.it).zipIdx k) b body) Q E s
  | [], k, s, xs, Q, hx, ap, hD, hS, hT, hQ => wpAny_pure (hQ [] s.heap s.toks .nil hT (fun _ h => nomatch h) rfl fun _ _ _ _ e => e)
  | S :: Ls, k, s, xs, Q, hx, ap, hD, hS, hT, hQ => by
    obtain ⟨m1, m2, m3⟩ := ap.me S List.mem_cons_self
    obtain ⟨p1, p2⟩ := List.pairwise_cons.mp ap.pw
    have neT : TO ≠ S.it := fun e => m3 (by rw [e]; exact m1)
    rw [List.map_cons, List.zipIdx_cons, List.forIn_cons]
    refine wpAny_bind (hb _ k s xs _ _ hx ?_)
    refine (hD S List.mem_cons_self).item i s _ _ (hS S List.mem_cons_self).2 (hS S List.mem_cons_self).1 fun x h1 tk hP st1 sb1 => ?_
    refine ⟨sb1.extBut _ _ neT hT, fun h2 hT2 sb2 => ?_⟩
    dsimp only
    refine loop_item hb (i := i) Ls (k + 1) _ (xs.setIfInBounds k x) Q (by rw [Array.size_setIfInBounds]; exact hx) ap.tail (fun T h => hD T (List.mem_cons_of_mem _ h)) (fun T h => ?_) hT2 fun vs h' tk' hv hT' hS' hz hk => ?_
    · obtain ⟨a1, a2⟩ := hS T (List.mem_cons_of_mem _ h)
      have dT := hD T (List.mem_cons_of_mem _ h)
      exact ⟨over_but dT (over_but dT a1 sb1 (p1 T h).1) sb2 (ap.me T (List.mem_cons_of_mem _ h)).2.2, a2⟩
    · have dS := hD S List.mem_cons_self
      refine hQ (x :: vs) h' tk' (.cons hP hv) hT' (fun T h => ?_) (by rw [hz]; exact sb2.1.trans sb1.1) fun c o c1 c2 e => ?_
      · rcases List.mem_cons.mp h with e | h
        · subst e
          have st2 := over_but dS st1 sb2 m3
          exact dS.frame _ _ _ st2 fun c hc o e => hk c o (fun q => m3 (by rw [← q]; exact hc)) (fun U hU q => (p1 U hU).2 (by rw [← q]; exact hc)) e
        · exact hS' T h
      · exact hk c o c1 (fun T h => c2 T (List.mem_cons_of_mem _ h)) (sb2.extBut _ _ c1 (sb1.extBut _ _ (c2 S List.mem_cons_self) e))
/-- a heap's growth: all but some stand -/
theorem loop_end {β : Type} {z TO TI : Addr} {b : β} {body : Value × Nat → β → Sem (ForInStep β)} (hb : TurnOk prog w A z TO b body) {i : Nat} {Q : β → Shared → Prop} : ∀ (Ls : List Src) (k : Nat) (s : Shared) (xs : Array Value), xs.size ≤ 10 → Apt z TO Ls → (∀ S ∈ Ls, Dr prog w A S) → (∀ S ∈ Ls, S.St i s.heap ∧ i ≤ S.n) → (∃ S ∈ Ls, i = S.n) → IsTp s.heap TO xs → IsZip s.heap z TI TO .ellipsis →
    (∀ h' tk e, (∀ c o, c ≠ z → c ≠ TO → (∀ S ∈ Ls, c ≠ S.it) → s.heap.get? c = some o → h'.get? c = some o) → (∃ o, h'.get? e = some o ∧ o.cls = .type "StopIteration") → E (.ref e) { s with heap := h', toks := tk }) →
    wpAny (model prog w) A (forIn ((Ls.map fun S => Value.ref S.it).zipIdx k) b body) Q E s
  | [], k, s, xs, hx, ap, hD, hS, ⟨_, h, _⟩, hT, hz, hQ => nomatch h
  | S :: Ls, k, s, xs, hx, ap, hD, hS, hex, hT, hz, hQ => by
    obtain ⟨m1, m2, m3⟩ := ap.me S List.mem_cons_self
    obtain ⟨p1, p2⟩ := List.pairwise_cons.mp ap.pw
    have neT : TO ≠ S.it := fun e => m3 (by rw [e]; exact m1)
    have nez : z ≠ S.it := fun e => m2 (by rw [e]; exact m1)
    obtain ⟨st, hle⟩ := hS S List.mem_cons_self
    have dS := hD S List.mem_cons_self
    rw [List.map_cons, List.zipIdx_cons, List.forIn_cons]
    refine wpAny_bind (hb _ k s xs _ _ hx ?_)
    by_cases hlt : i < S.n
    · refine dS.item i s _ _ hlt st fun x h1 tk hP st1 sb1 => ?_
      refine ⟨sb1.extBut _ _ neT hT, fun h2 hT2 sb2 => ?_⟩
      dsimp only
      refine loop_end hb (i := i) Ls (k + 1) _ (xs.setIfInBounds k x) (by rw [Array.size_setIfInBounds]; exact hx) ap.tail (fun T h => hD T (List.mem_cons_of_mem _ h)) (fun T h => ?_) ?_ hT2 (sb2.extBut _ _ ap.zT.symm (sb1.extBut _ _ nez hz)) fun h' tk' e hk he => ?_
      · obtain ⟨a1, a2⟩ := hS T (List.mem_cons_of_mem _ h)
        have dT := hD T (List.mem_cons_of_mem _ h)
        exact ⟨over_but dT (over_but dT a1 sb1 (p1 T h).1) sb2 (ap.me T (List.mem_cons_of_mem _ h)).2.2, a2⟩
      · obtain ⟨T, hT1, e⟩ := hex
        rcases List.mem_cons.mp hT1 with q | q
        · subst q
          omega
        · exact ⟨T, q, e⟩
      · exact hQ h' tk' e (fun c o c0 c1 c2 e => hk c o c0 c1 (fun T h => c2 T (List.mem_cons_of_mem _ h)) (sb2.extBut _ _ c1 (sb1.extBut _ _ (c2 S List.mem_cons_self) e))) he
    · have hi : i = S.n := by omega
      refine dS.done s _ _ (by rw [← hi]; exact st) fun h1 e eb he => ?_
      obtain ⟨o, ho, hc⟩ := he
      have hz1 : IsZip h1 z TI TO .ellipsis := eb _ _ nez hz
      have hne : e ≠ z := fun q => by
        rw [q, hz1] at ho
        cases ho
        simp at hc
      exact ⟨TI, hz1, fun h2 sb2 => hQ h2 s.toks e (fun c o c0 c1 c2 q => sb2.extBut _ _ c0 (eb _ _ (c2 S List.mem_cons_self) q)) ⟨o, sb2.extBut _ _ hne ho, hc⟩⟩

theorem wrs_list : ∀ (vs : List Value) (k : Nat) (xs : Array Value) (pre old : List Value), xs.toList = pre ++ old → pre.length = k → old.length = vs.length → (wrs k xs vs).toList = pre ++ vs
  | [], k, xs, pre, old, h, hk, hl => by
    obtain rfl := List.eq_nil_of_length_eq_zero hl
    exact h
  | v :: vs, k, xs, pre, o :: old, h, hk, hl => by
    have q := wrs_list vs (k + 1) (xs.setIfInBounds k v) (pre ++ [v]) old (by
      rw [Array.toList_setIfInBounds, h, List.set_append_right _ _ (by omega), hk.symm, Nat.sub_self, List.append_assoc]
      rfl) (by rw [List.length_append, hk]; rfl) (by simpa using hl)
    rw [List.append_assoc] at q
    exact q
theorem zipN_item {i : Nat} {z TI TO : Addr} {Ls : List Src} {s : Shared} {xs : Array Value} {Q : Value → Shared → Prop} (hne : Ls ≠ []) (hl : Ls.length ≤ 10) (ap : Apt z TO Ls) (hxs : xs.size = Ls.length) (hD : ∀ S ∈ Ls, Dr prog w A S)
    (hz : IsZip s.heap z TI TO .none) (hTI : IsTp s.heap TI (Ls.map fun S => Value.ref S.it).toArray) (hTO : IsTp s.heap TO xs) (hS : ∀ S ∈ Ls, S.St i s.heap ∧ i < S.n)
    (hQ : ∀ vs h' tk, Paired (fun (S : Src) v => S.P i v) Ls vs → IsZip h' z TI TO (rawInt s.heap.objs.size) → IsTp h' TO vs.toArray → (∀ S ∈ Ls, S.St (i + 1) h') → IsTp h' s.heap.objs.size vs.toArray →
      (∀ c o, c ≠ z → c ≠ TO → (∀ S ∈ Ls, c ≠ S.it) → s.heap.get? c = some o → h'.get? c = some o) → Q (.ref s.heap.objs.size) { s with heap := h', toks := tk }) :
    wpAny (model prog w) A (Builtin.«zip.__next__» ⟨[.ref z], []⟩) (fun fin s' => ∃ v, fin = .done (.ret v) ∧ Q v s') E s := by
  show wpAny _ _ (field (.ref z) 2 >>= _) _ _ _
  refine wpAny_bind (wpAny_field hz rfl (x := .bool false) rfl ?_)
  show wpAny _ _ (field (.ref z) 3 >>= _) _ _ _
  refine wpAny_bind (wpAny_field hz rfl (x := .ref TI) rfl ?_)
  refine wpAny_bind (wpAny_seqItems hTI rfl ?_)
  dsimp only
  rw [if_neg (by simpa using hne)]
  show wpAny _ _ (Builtin.SmallTypes.ownedTupleIsFree (.ref z) >>= _) _ _ _
  refine wpAny_bind ?_
  unfold Builtin.SmallTypes.ownedTupleIsFree
  refine wpAny_bind (wpAny_field hz rfl (x := .none) rfl (wpAny_pure ?_))
  simp only [if_true]
  refine wpAny_bind (wpAny_rule ?_)
  refine wpAny_bind (wpAny_field hz rfl (x := .ref TO) rfl ?_)
  refine wpAny_bind (wpAny_setField_rec hz (by simp) fun g0 hz0 hs0 => ?_)
  replace hz0 : IsZip g0 z TI TO .ellipsis := hz0
  refine wpAny_bind ?_
  have D0 : ∀ S ∈ Ls, S.St i g0 := fun S h => over_but (hD S h) (hS S h).1 hs0 (ap.me S h).2.1
  refine loop_item (z := z) (TO := TO) (b := (none, ())) (id fun v k s xs Q E hx h => by
    have hz9 : xs.size ≤ sizeLine := Nat.le_trans hx (by decide)
    refine wpAny_bind (wpAny_onRaise ?_)
    show wpAny _ _ (Builtin.SmallTypes.nextOf v >>= _) _ _ _
    exact wpAny_bind (wpAny_mono h (fun x s1 q => wpAny_pure (by
      obtain ⟨hT1, hk⟩ := q
      refine wpAny_bind (wpAny_seqItems hT1 rfl ?_)
      refine wpAny_bind (wpAny_updateSeq (hz := hz9) (_hz' := by rw [Array.size_setIfInBounds]; exact Nat.le_succ_of_le hz9) hT1 rfl ?_)
      refine wpAny_bind (wpAny_letGo (wpAny_pure (hk _ ?_ (Heap.SameBut.update ..))))
      exact (Heap.get?_update_self _ hT1 rfl).trans (by simp [Obj.mapSeq]))) fun e s1 q => by
      obtain ⟨TI, hz, hk⟩ := q
      exact wpAny_setField_rec hz (by simp) fun h2 _ sb => hk h2 sb)) (i := i) Ls 0 _ xs _ (by omega) ap hD (fun S h => ⟨D0 S h, (hS S h).2⟩) (hs0.extBut _ _ ap.zT hTO) fun vs h1 tk hP hT1 hS1 hsz hk => ?_
  have hlv : vs.length = Ls.length := hP.length.symm
  have hw : wrs 0 xs vs = vs.toArray := by
    have := wrs_list vs 0 xs [] xs.toList rfl rfl (by rw [Array.length_toList, hxs, hlv])
    rw [← Array.toArray_toList (xs := wrs 0 xs vs), this]
    rfl
  rw [hw] at hT1
  have hsz2 : h1.objs.size = s.heap.objs.size := hsz.trans hs0.1
  refine wpAny_bind (wpAny_seqItems hT1 rfl ?_)
  refine wpAny_bind (wpAny_newTuple (hsz := by rw [hlv]; exact Nat.le_trans hl (by decide)) ?_)
  have hz1 : IsZip h1 z TI TO .ellipsis := hk _ _ ap.zT.symm (fun S h e => (ap.me S h).2.1 (by rw [e]; exact (ap.me S h).1)) hz0
  have hzlt : z < h1.objs.size := Heap.lt_size hz1
  refine wpAny_bind ?_
  unfold Builtin.SmallTypes.ownedTupleHandOut
  have hz2 : IsZip (h1.push { cls := .type "tuple", data := .seq vs.toArray }) z TI TO .ellipsis := Heap.get?_push_of_some _ hz1
  refine wpAny_bind (wpAny_setField_rec hz2 (by simp) fun h3 hz3 hs3 => ?_)
  replace hz3 : IsZip h3 z TI TO (rawInt h1.objs.size) := hz3
  refine wpAny_setField_rec hz3 (by simp) fun h4 hz4 hs4 => ?_
  replace hz4 : IsZip h4 z TI TO (rawInt h1.objs.size) := hz4
  have up : ∀ c o, c ≠ z → h1.get? c = some o → h4.get? c = some o := fun c o c1 e => hs4.extBut _ _ c1 (hs3.extBut _ _ c1 (Heap.get?_push_of_some _ e))
  have hT4 : IsTp h4 h1.objs.size vs.toArray := hs4.extBut _ _ (Nat.ne_of_gt hzlt) (hs3.extBut _ _ (Nat.ne_of_gt hzlt) (Heap.get?_push_size _ rfl))
  rw [hsz2] at hz4 hT4
  refine wpAny_pure ⟨_, rfl, ?_⟩
  show Q (.ref h1.objs.size) _
  rw [hsz2]
  refine hQ vs h4 tk hP hz4 (up _ _ ap.zT hT1) (fun S h => (hD S h).frame _ _ _ (hS1 S h) fun c hc o e => up c o (fun q => (ap.me S h).2.1 (by rw [← q]; exact hc)) e) hT4 fun c o c0 c1 c2 e => up c o c0 (hk c o c1 c2 (hs0.extBut _ _ c0 e))
theorem zipN_end {i : Nat} {z TI TO : Addr} {Ls : List Src} {s : Shared} {xs : Array Value} {Q : Fin → Shared → Prop} (hne : Ls ≠ []) (hl : Ls.length ≤ 10) (ap : Apt z TO Ls) (hxs : xs.size = Ls.length) (hD : ∀ S ∈ Ls, Dr prog w A S)
    (hz : IsZip s.heap z TI TO .none) (hTI : IsTp s.heap TI (Ls.map fun S => Value.ref S.it).toArray) (hTO : IsTp s.heap TO xs) (hS : ∀ S ∈ Ls, S.St i s.heap ∧ i ≤ S.n) (hex : ∃ S ∈ Ls, i = S.n)
    (hE : ∀ h' tk e, (∀ c o, c ≠ z → c ≠ TO → (∀ S ∈ Ls, c ≠ S.it) → s.heap.get? c = some o → h'.get? c = some o) → (∃ o, h'.get? e = some o ∧ o.cls = .type "StopIteration") → E (.ref e) { s with heap := h', toks := tk }) :
    wpAny (model prog w) A (Builtin.«zip.__next__» ⟨[.ref z], []⟩) Q E s := by
  show wpAny _ _ (field (.ref z) 2 >>= _) _ _ _
  refine wpAny_bind (wpAny_field hz rfl (x := .bool false) rfl ?_)
  show wpAny _ _ (field (.ref z) 3 >>= _) _ _ _
  refine wpAny_bind (wpAny_field hz rfl (x := .ref TI) rfl ?_)
  refine wpAny_bind (wpAny_seqItems hTI rfl ?_)
  dsimp only
  rw [if_neg (by simpa using hne)]
  show wpAny _ _ (Builtin.SmallTypes.ownedTupleIsFree (.ref z) >>= _) _ _ _
  refine wpAny_bind ?_
  unfold Builtin.SmallTypes.ownedTupleIsFree
  refine wpAny_bind (wpAny_field hz rfl (x := .none) rfl (wpAny_pure ?_))
  simp only [if_true]
  refine wpAny_bind (wpAny_rule ?_)
  refine wpAny_bind (wpAny_field hz rfl (x := .ref TO) rfl ?_)
  refine wpAny_bind (wpAny_setField_rec hz (by simp) fun g0 hz0 hs0 => ?_)
  replace hz0 : IsZip g0 z TI TO .ellipsis := hz0
  refine wpAny_bind ?_
  have D0 : ∀ S ∈ Ls, S.St i g0 := fun S h => over_but (hD S h) (hS S h).1 hs0 (ap.me S h).2.1
  exact loop_end (z := z) (TO := TO) (TI := TI) (b := (none, ())) (id fun v k s xs Q E hx h => by
    have hz9 : xs.size ≤ sizeLine := Nat.le_trans hx (by decide)
    refine wpAny_bind (wpAny_onRaise ?_)
    show wpAny _ _ (Builtin.SmallTypes.nextOf v >>= _) _ _ _
    exact wpAny_bind (wpAny_mono h (fun x s1 q => wpAny_pure (by
      obtain ⟨hT1, hk⟩ := q
      refine wpAny_bind (wpAny_seqItems hT1 rfl ?_)
      refine wpAny_bind (wpAny_updateSeq (hz := hz9) (_hz' := by rw [Array.size_setIfInBounds]; exact Nat.le_succ_of_le hz9) hT1 rfl ?_)
      refine wpAny_bind (wpAny_letGo (wpAny_pure (hk _ ?_ (Heap.SameBut.update ..))))
      exact (Heap.get?_update_self _ hT1 rfl).trans (by simp [Obj.mapSeq]))) fun e s1 q => by
      obtain ⟨TI, hz, hk⟩ := q
      exact wpAny_setField_rec hz (by simp) fun h2 _ sb => hk h2 sb)) (i := i) Ls 0 _ xs (by omega) ap hD (fun S h => ⟨D0 S h, (hS S h).2⟩) hex (hs0.extBut _ _ ap.zT hTO) hz0 fun h' tk e hk he => hE h' tk e (fun c o c0 c1 c2 q => hk c o c0 c1 c2 (hs0.extBut _ _ c0 q)) he
theorem next_zipN_item {i : Nat} {z TI TO : Addr} {Ls : List Src} {s : Shared} {xs : Array Value} {Q : Option Value → Shared → Prop} (hne : Ls ≠ []) (hl : Ls.length ≤ 10) (ap : Apt z TO Ls) (hxs : xs.size = Ls.length) (hD : ∀ S ∈ Ls, Dr prog w A.in1 S)
    (hz : IsZip s.heap z TI TO .none) (hTI : IsTp s.heap TI (Ls.map fun S => Value.ref S.it).toArray) (hTO : IsTp s.heap TO xs) (hS : ∀ S ∈ Ls, S.St i s.heap ∧ i < S.n)
    (hQ : ∀ vs h' tk, Paired (fun (S : Src) v => S.P i v) Ls vs → IsZip h' z TI TO (rawInt s.heap.objs.size) → IsTp h' TO vs.toArray → (∀ S ∈ Ls, S.St (i + 1) h') → IsTp h' s.heap.objs.size vs.toArray →
      (∀ c o, c ≠ z → c ≠ TO → (∀ S ∈ Ls, c ≠ S.it) → s.heap.get? c = some o → h'.get? c = some o) → Q (some (.ref s.heap.objs.size)) { s with heap := h', toks := tk }) :
    wpAny (model prog w) A (pyNext (.ref z)) Q E s := by
  have hT : s.TypeIs (.ref z) "zip" := ⟨_, hz, rfl⟩
  unfold pyNext
  exact wpAny_bind (wpAny_attempt (wpAny_callSpecial?_slot (name := Str.ofString "__next__") hT F.slot_zip_next (wpAny_call_entry F.slot_zip_next hT F.entry_zip_next
    (zipN_item hne hl ap hxs hD hz hTI hTO hS fun vs h' tk a1 a2 a3 a4 a5 a6 => wpAny_pure (hQ vs h' tk a1 a2 a3 a4 a5 a6)) (F.args_zip_next_1 _))))
theorem next_zipN_end {i : Nat} {z TI TO : Addr} {Ls : List Src} {s : Shared} {xs : Array Value} {Q : Option Value → Shared → Prop} (hne : Ls ≠ []) (hl : Ls.length ≤ 10) (ap : Apt z TO Ls) (hxs : xs.size = Ls.length) (hD : ∀ S ∈ Ls, Dr prog w A.in1 S)
    (hz : IsZip s.heap z TI TO .none) (hTI : IsTp s.heap TI (Ls.map fun S => Value.ref S.it).toArray) (hTO : IsTp s.heap TO xs) (hS : ∀ S ∈ Ls, S.St i s.heap ∧ i ≤ S.n) (hex : ∃ S ∈ Ls, i = S.n)
    (hQ : ∀ h' tk, (∀ c o, c ≠ z → c ≠ TO → (∀ S ∈ Ls, c ≠ S.it) → s.heap.get? c = some o → h'.get? c = some o) → Q none { s with heap := h', toks := tk }) :
    wpAny (model prog w) A (pyNext (.ref z)) Q E s := by
  have hT : s.TypeIs (.ref z) "zip" := ⟨_, hz, rfl⟩
  unfold pyNext
  refine wpAny_bind (wpAny_attempt (wpAny_callSpecial?_slot (name := Str.ofString "__next__") hT F.slot_zip_next (wpAny_call_entry F.slot_zip_next hT F.entry_zip_next
    (zipN_end hne hl ap hxs hD hz hTI hTO hS hex fun h' tk e hk he => ?_) (F.args_zip_next_1 _))))
  obtain ⟨o, ho, hc⟩ := he
  exact wpAny_bind (wpAny_isInstance (T := "StopIteration") (b := true) ⟨o, ho, hc⟩ isSubtype_stop (wpAny_pure (hQ _ _ hk)))
end
/-! the turn of a zip over lists and tuples -/
def SqX (K : PySem.W.Frag) (H : Hp) (p : Bool × Addr) (xs : List V) : Prop := (p.1 = true ∧ SqT K H p.2 xs) ∨ (p.1 = false ∧ SqL K H p.2 xs)
def Itzn (K : PySem.W.Frag) (L : List (Bool × Addr)) : It :=
  ⟨fun i H => ∃ vs : List V, Paired (fun p v => ∃ xs, SqX K H p xs ∧ xs[i]? = some v) L vs,
    fun i H v H' => ∃ (T : Addr) (vs : List V), v = .ref T ∧ H T = none ∧ H' = upd H T (.tup vs) ∧ Paired (fun p v => ∀ xs, SqX K H p xs → xs[i]? = some v) L vs,
    fun i H => (∀ p ∈ L, ∃ xs, SqX K H p xs ∧ i ≤ xs.length) ∧ ∃ p ∈ L, ∃ xs, SqX K H p xs ∧ i = xs.length⟩
def ItAt (h : Heap) (p : Bool × Addr) (it : Addr) (i : Nat) : Prop := (p.1 = true ∧ h.IsTupleIter it p.2 i) ∨ (p.1 = false ∧ h.IsListIter it p.2 i)
theorem ItAt.obj {h : Heap} {p : Bool × Addr} {it : Addr} {i : Nat} (a : ItAt h p it i) : ∃ o vs, h.get? it = some o ∧ o.data = .fields vs := by
  rcases a with ⟨_, o, ho, _, hd⟩ | ⟨_, o, ho, _, hd⟩ <;> exact ⟨o, _, ho, hd⟩
theorem ItAt.keep {h h' : Heap} {p : Bool × Addr} {it : Addr} {i : Nat} (a : ItAt h p it i) (k : ∀ o, h.get? it = some o → h'.get? it = some o) : ItAt h' p it i := by
  rcases a with ⟨e, o, ho, q⟩ | ⟨e, o, ho, q⟩
  · exact .inl ⟨e, o, k o ho, q⟩
  · exact .inr ⟨e, o, k o ho, q⟩
/-- a source as it stands at a turn -/
structure Zq where
  p : Bool × Addr
  it : Addr
  its : List Value
def Zq.src (q : Zq) : Src := ⟨q.it, [q.it, q.p.2], q.its.length, fun i v => q.its[i]? = some v, fun i h => ItAt h q.p q.it i ∧ ((q.p.1 = true ∧ h.IsTuple q.p.2 q.its.toArray) ∨ (q.p.1 = false ∧ h.IsList q.p.2 q.its.toArray))⟩
theorem Zq.dr {prog : Program} {w : World} {A : Around} (hh : A.handled = none) (q : Zq) (hne : q.p.2 ≠ q.it) : Dr prog w A q.src := by
  cases hb : q.p.1 with
  | true =>
    have D := PySem.Draws.tuple (prog := prog) (w := w) hh q.it q.p.2 hne q.its.toArray
    have f1 : ∀ {i h}, q.src.St i h → h.IsTupleIter q.it q.p.2 i ∧ h.IsTuple q.p.2 q.its.toArray := fun {i h} st => by
      obtain ⟨a, b⟩ := st
      rcases a with ⟨_, a⟩ | ⟨e, _⟩
      · rcases b with ⟨_, b⟩ | ⟨e, _⟩
        · exact ⟨a, b⟩
        · rw [hb] at e
          cases e
      · rw [hb] at e
        cases e
    have f2 : ∀ {i h}, h.IsTupleIter q.it q.p.2 i ∧ h.IsTuple q.p.2 q.its.toArray → q.src.St i h := fun {i h} st => ⟨.inl ⟨hb, st.1⟩, .inl ⟨hb, st.2⟩⟩
    exact ⟨fun i h st => D.live i h (f1 st), fun i h h' st k => f2 (D.frame i h h' (f1 st) k), fun i s Q E hi st k => D.item i s Q E (by rw [List.size_toArray]; exact hi) (f1 st) fun x h' tk hx st' sb => k x h' tk (show q.its[i]? = some x by rw [← List.getElem?_toArray]; exact hx) (f2 st') sb, fun s Q E st k => D.done s Q E (by rw [List.size_toArray]; exact f1 st) k⟩
  | false =>
    have D := PySem.Draws.list (prog := prog) (w := w) hh q.it q.p.2 hne q.its.toArray
    have f1 : ∀ {i h}, q.src.St i h → h.IsListIter q.it q.p.2 i ∧ h.IsList q.p.2 q.its.toArray := fun {i h} st => by
      obtain ⟨a, b⟩ := st
      rcases a with ⟨e, _⟩ | ⟨_, a⟩
      · rw [hb] at e
        cases e
      · rcases b with ⟨e, _⟩ | ⟨_, b⟩
        · rw [hb] at e
          cases e
        · exact ⟨a, b⟩
    have f2 : ∀ {i h}, h.IsListIter q.it q.p.2 i ∧ h.IsList q.p.2 q.its.toArray → q.src.St i h := fun {i h} st => ⟨.inr ⟨hb, st.1⟩, .inr ⟨hb, st.2⟩⟩
    exact ⟨fun i h st => D.live i h (f1 st), fun i h h' st k => f2 (D.frame i h h' (f1 st) k), fun i s Q E hi st k => D.item i s Q E (by rw [List.size_toArray]; exact hi) (f1 st) fun x h' tk hx st' sb => k x h' tk (show q.its[i]? = some x by rw [← List.getElem?_toArray]; exact hx) (f2 st') sb, fun s Q E st k => D.done s Q E (by rw [List.size_toArray]; exact f1 st) k⟩
/-- the cells lie apart -/
structure ZnApart (z TI TO : Addr) (its : List Addr) (L : List (Bool × Addr)) : Prop where
  nd : (z :: TI :: TO :: its).Nodup
  ap : ∀ p ∈ L, p.2 ∉ z :: TI :: TO :: its
theorem ZnApart.apt {z TI TO : Addr} {its : List Addr} {L : List (Bool × Addr)} (a : ZnApart z TI TO its L) {zs : List Zq} (h1 : zs.map Zq.p = L) (h2 : zs.map Zq.it = its) : Apt z TO (zs.map Zq.src) := by
  subst h1 h2
  obtain ⟨nd, ap⟩ := a
  simp only [List.nodup_cons, List.mem_cons, not_or] at nd
  obtain ⟨⟨n1, n2, n3⟩, ⟨n4, n5⟩, n6, n7⟩ := nd
  refine ⟨fun e => n2 e.symm, fun S hS => ?_, ?_⟩
  · obtain ⟨q, hq, rfl⟩ := List.mem_map.mp hS
    have a1 := ap q.p (List.mem_map_of_mem hq)
    simp only [List.mem_cons, not_or] at a1
    have m : q.it ∈ zs.map Zq.it := List.mem_map_of_mem hq
    refine ⟨List.mem_cons_self, ?_, ?_⟩
    · show z ∉ [q.it, q.p.2]
      simp only [List.mem_cons, List.not_mem_nil, or_false, not_or]
      exact ⟨fun e => n3 (by rw [e]; exact m), fun e => a1.1 e.symm⟩
    · show TO ∉ [q.it, q.p.2]
      simp only [List.mem_cons, List.not_mem_nil, or_false, not_or]
      exact ⟨fun e => n6 (by rw [e]; exact m), fun e => a1.2.2.1 e.symm⟩
  · rw [List.pairwise_map]
    have n8 : zs.Pairwise fun q r => q.it ≠ r.it := by
      unfold List.Nodup at n7
      rw [List.pairwise_map] at n7
      exact n7
    refine (List.Pairwise.imp_of_mem ?_ n8)
    intro q r hq hr hne
    have a1 := ap q.p (List.mem_map_of_mem hq)
    have a2 := ap r.p (List.mem_map_of_mem hr)
    simp only [List.mem_cons, not_or] at a1 a2
    have mq : q.it ∈ zs.map Zq.it := List.mem_map_of_mem hq
    have mr : r.it ∈ zs.map Zq.it := List.mem_map_of_mem hr
    constructor
    · show q.it ∉ [r.it, r.p.2]
      simp only [List.mem_cons, List.not_mem_nil, or_false, not_or]
      exact ⟨hne, fun e => a2.2.2.2 (by rw [← e]; exact mq)⟩
    · show r.it ∉ [q.it, q.p.2]
      simp only [List.mem_cons, List.not_mem_nil, or_false, not_or]
      exact ⟨hne.symm, fun e => a1.2.2.2 (by rw [← e]; exact mr)⟩
theorem zq_of {X : Cx} {pins : List (Addr × Obj)} {σ : L2.St} {H : Hp} {s : Shared} {i : Nat} {C : List V → Prop} (I : Inv X pins σ H s) : ∀ {L : List (Bool × Addr)} {its : List Addr}, Paired (fun p it => ItAt s.heap p it i) L its → (∀ p ∈ L, ∃ xs, SqX X.K H p xs ∧ C xs) →
    ∃ zs : List Zq, zs.map Zq.p = L ∧ zs.map Zq.it = its ∧ ∀ q ∈ zs, q.src.St i s.heap ∧ ∃ xs, SqX X.K H q.p xs ∧ Vals xs q.its ∧ C xs
  | [], _, .nil, _ => ⟨[], rfl, rfl, fun _ h => nomatch h⟩
  | p :: L, it :: its, .cons h hs, hx => by
    obtain ⟨zs, h1, h2, h3⟩ := zq_of I hs fun p hp => hx p (List.mem_cons_of_mem _ hp)
    obtain ⟨xs, hq, c⟩ := hx p List.mem_cons_self
    have : ∃ vs : List Value, Vals xs vs ∧ ((p.1 = true ∧ s.heap.IsTuple p.2 vs.toArray) ∨ (p.1 = false ∧ s.heap.IsList p.2 vs.toArray)) := by
      rcases hq with ⟨e, q⟩ | ⟨e, q⟩
      · obtain ⟨vs, rv, pp, _⟩ := I.tuple q
        exact ⟨vs, rv, .inl ⟨e, pp⟩⟩
      · obtain ⟨vs, rv, pp, _⟩ := I.list q
        exact ⟨vs, rv, .inr ⟨e, pp.isList⟩⟩
    obtain ⟨vs, rv, hh⟩ := this
    refine ⟨⟨p, it, vs⟩ :: zs, by rw [List.map_cons, h1], by rw [List.map_cons, h2], fun q hq2 => ?_⟩
    rcases List.mem_cons.mp hq2 with rfl | hq2
    · exact ⟨⟨h, hh⟩, xs, hq, rv, c⟩
    · exact h3 q hq2
theorem vals_get {xs : List V} {us : List Value} (r : Vals xs us) {i : Nat} {v : V} (h : xs[i]? = some v) : ∃ u, us[i]? = some u ∧ RelV v u := r.get h
theorem paired_zq {X : Cx} {H : Hp} {i : Nat} : ∀ {zs : List Zq} {us : List Value}, Paired (fun (S : Src) v => S.P i v) (zs.map Zq.src) us → (∀ q ∈ zs, ∃ xs, SqX X.K H q.p xs ∧ Vals xs q.its ∧ i < xs.length) → (∀ p xs ys, SqX X.K H p xs → SqX X.K H p ys → xs = ys) →
    ∃ vs : List V, Vals vs us ∧ Paired (fun p v => ∀ xs, SqX X.K H p xs → xs[i]? = some v) (zs.map Zq.p) vs
  | [], _, .nil, _, _ => ⟨[], .nil, .nil⟩
  | q :: zs, u :: us, .cons h hs, hq, inj => by
    obtain ⟨vs, r1, r2⟩ := paired_zq hs (fun q h => hq q (List.mem_cons_of_mem _ h)) inj
    obtain ⟨xs, a, b, c⟩ := hq q List.mem_cons_self
    obtain ⟨u', e1, e2⟩ := vals_get b (List.getElem?_eq_getElem c)
    have e3 : q.its[i]? = some u := h
    rw [e3] at e1
    cases e1
    refine ⟨xs[i] :: vs, .cons e2 r1, .cons (fun ys hy => ?_) r2⟩
    rw [inj _ _ _ hy a]
    exact List.getElem?_eq_getElem c
theorem sqx_inj {X : Cx} {pins : List (Addr × Obj)} {σ : L2.St} {H : Hp} {s : Shared} (I : Inv X pins σ H s) (p : Bool × Addr) (xs ys : List V) (h : SqX X.K H p xs) (h' : SqX X.K H p ys) : xs = ys := by
  rcases h with ⟨e, h⟩ | ⟨e, h⟩
  · rcases h' with ⟨_, h'⟩ | ⟨e', _⟩
    · exact I.tuple_inj h h'
    · rw [e] at e'
      cases e'
  · rcases h' with ⟨e', _⟩ | ⟨_, h'⟩
    · rw [e] at e'
      cases e'
    · exact I.list_inj h h'
theorem map_src_it (zs : List Zq) : ((zs.map Zq.src).map fun S => Value.ref S.it) = (zs.map Zq.it).map Value.ref := by
  rw [List.map_map, List.map_map]
  rfl
theorem paired_itat {h h' : Heap} {i : Nat} : ∀ {zs : List Zq}, (∀ q ∈ zs, ItAt h' q.p q.it (i + 1)) → Paired (fun p it => ItAt h' p it (i + 1)) (zs.map Zq.p) (zs.map Zq.it)
  | [], _ => .nil
  | q :: zs, hq => .cons (hq q List.mem_cons_self) (paired_itat (h := h) fun q h => hq q (List.mem_cons_of_mem _ h))
theorem paired_mem2 {α β : Type} {F : α → β → Prop} : ∀ {l : List α} {m : List β}, Paired F l m → ∀ b ∈ m, ∃ a ∈ l, F a b
  | _, _, .cons h hs, b, hb => by
    rcases List.mem_cons.mp hb with rfl | hb
    · exact ⟨_, List.mem_cons_self, h⟩
    · obtain ⟨a, ha, q⟩ := paired_mem2 hs b hb
      exact ⟨a, List.mem_cons_of_mem _ ha, q⟩
theorem paired_keep {h h' : Heap} {i : Nat} : ∀ {L : List (Bool × Addr)} {its : List Addr}, Paired (fun p it => ItAt h p it i) L its → (∀ it ∈ its, ∀ o, h.get? it = some o → h'.get? it = some o) → Paired (fun p it => ItAt h' p it i) L its
  | _, _, .nil, _ => .nil
  | _, _, .cons a b, k => .cons (a.keep (k _ List.mem_cons_self)) (paired_keep b fun it hi => k it (List.mem_cons_of_mem _ hi))
theorem paired_mem1 {α β : Type} {F : α → β → Prop} : ∀ {l : List α} {m : List β}, Paired F l m → ∀ a ∈ l, ∃ b ∈ m, F a b
  | _, _, .cons h hs, b, hb => by
    rcases List.mem_cons.mp hb with rfl | hb
    · exact ⟨_, List.mem_cons_self, h⟩
    · obtain ⟨a, ha, q⟩ := paired_mem1 hs b hb
      exact ⟨a, List.mem_cons_of_mem _ ha, q⟩
theorem turn_zipN {P : Program} {w : World} {K : PySem.W.Frag} {elts : List Expr} {kk : Nat} {tpos : Pos} {z TI TO : Addr} {L : List (Bool × Addr)} {its : List Addr} (hl : L.length ≤ 10) (hne : L ≠ []) (D : ZnApart z TI TO its L) :
    Turn P w K (.Tuple elts kk tpos) (Itzn K L) (z :: TI :: TO :: its) z (fun i h => IsZip h z TI TO .none ∧ IsTp h TI (its.map Value.ref).toArray ∧ (∃ xs, xs.size = L.length ∧ IsTp h TO xs) ∧ Paired (fun p it => ItAt h p it i) L its) where
  mem := List.mem_cons_self
  obj := fun i h st c hc => by
    obtain ⟨hz, hTI, ⟨x, y, hTO⟩, hp⟩ := st
    simp only [List.mem_cons] at hc
    rcases hc with q | q | q | q
    · rw [q]; exact ⟨_, hz, fun v q => nomatch q⟩
    · rw [q]; exact ⟨_, hTI, fun v q => nomatch q⟩
    · rw [q]; exact ⟨_, hTO, fun v q => nomatch q⟩
    · obtain ⟨p, _, a⟩ := paired_mem2 hp c q
      obtain ⟨o, vs, ho, hd⟩ := a.obj
      exact ⟨o, ho, fun v q => by rw [hd] at q; cases q⟩
  keep := fun i h h' st k => by
    obtain ⟨hz, hTI, ⟨x, y, hTO⟩, hp⟩ := st
    exact ⟨k z (by simp) _ hz, k TI (by simp) _ hTI, ⟨x, y, k TO (by simp) _ hTO⟩, paired_keep hp fun it hi => k it (by simp [hi])⟩
  item := by
    intro X hP hw hK hc i pins s σ H E I hf st hg
    subst hP hw hK
    obtain ⟨hz, hTI, ⟨xo, hxo, hTO⟩, hp⟩ := st
    obtain ⟨vs0, hg⟩ := hg
    obtain ⟨zs, e1, e2, h3⟩ := zq_of (C := fun xs => i < xs.length) I hp fun p hp => by
      obtain ⟨v, _, xs, hx, hv⟩ := paired_mem1 hg p hp
      exact ⟨xs, hx, (List.getElem?_eq_some_iff.mp hv).1⟩
    have hzl : z < s.heap.objs.size := Heap.lt_size hz
    have ap := D.apt e1 e2
    subst e1 e2
    have hd : X.A.in1.handled = none := I.ok.hd hc
    refine next_zipN_item (i := i) (Ls := zs.map Zq.src) (by simpa using hne) (by simpa using hl) ap (by rw [hxo]; simp) (fun S hS => ?_) hz (by rw [map_src_it]; exact hTI) hTO (fun S hS => ?_) fun us h1 tk hP z1 TO1 hS1 hT1 hk => ?_
    · obtain ⟨q, hq, rfl⟩ := List.mem_map.mp hS
      refine q.dr hd fun e => D.ap q.p (List.mem_map_of_mem hq) ?_
      rw [e]
      exact List.mem_cons_of_mem _ (List.mem_cons_of_mem _ (List.mem_cons_of_mem _ (List.mem_map_of_mem hq)))
    · obtain ⟨q, hq, rfl⟩ := List.mem_map.mp hS
      obtain ⟨a, xs, b, c, d⟩ := h3 q hq
      exact ⟨a, by show i < q.its.length; rw [← c.length]; exact d⟩
    · refine ⟨_, rfl, wpAny_letOwnedTupleGo_zip (s := { s with heap := h1, toks := tk }) z1 fun h2 z2 sb => ?_⟩
      obtain ⟨vs, rv, rp⟩ := paired_zq hP (fun q hq => (h3 q hq).2) (sqx_inj I)
      have hT2 : h2.get? s.heap.objs.size = some { cls := .type "tuple", data := .seq us.toArray } := (sb.2 _ (Nat.ne_of_gt hzl)).trans hT1
      have new : ObjOk X.prog X.w (upd H s.heap.objs.size (.tup vs)) h2 s.heap.objs.size (.tup vs) :=
        ⟨by have := rp.length; simp only [List.length_map] at this hl; show vs.length ≤ sizeLine; rw [← this]; exact Nat.le_trans hl (by decide), us, rv, ⟨_, hT2, rfl, _, rfl⟩⟩
      have nin : ∀ S ∈ zs.map Zq.src, S.it ∈ zs.map Zq.it := fun S hS => by
        obtain ⟨q, hq, rfl⟩ := List.mem_map.mp hS
        exact List.mem_map_of_mem hq
      have I1 : Inv X pins σ (upd H s.heap.objs.size (.tup vs)) { s with heap := h2, toks := tk } :=
        I.turnedNew (t' := tk) (ch := z :: TI :: TO :: zs.map Zq.it) (fun c o hb q => (sb.2 c (fun q' => hb (by simp [q']))).trans (hk c o (fun q' => hb (by simp [q'])) (fun q' => hb (by simp [q'])) (fun S hS q' => hb (by rw [q']; exact List.mem_cons_of_mem _ (List.mem_cons_of_mem _ (List.mem_cons_of_mem _ (nin S hS))))) q)) hf (Nat.le_refl _) new
      have nd := D.nd
      simp only [List.nodup_cons, List.mem_cons, not_or] at nd
      obtain ⟨⟨n1, n2, n3⟩, ⟨n4, n5⟩, n6, n7⟩ := nd
      refine ⟨.ref s.heap.objs.size, _, I1, rfl, ⟨_, vs, rfl, I.hok.fresh (Nat.le_refl _), rfl, rp⟩, ⟨z2, ?_, ⟨us.toArray, ?_, ?_⟩, ?_⟩, fun c hcm => ?_⟩
      · exact (sb.2 _ (fun e => n1 e.symm)).trans (hk _ _ (fun e => n1 e.symm) n4 (fun S hS e => n5 (by rw [e]; exact nin S hS)) hTI)
      · have := hP.length
        simp only [List.length_map] at this
        rw [List.size_toArray, ← this, List.length_map]
      · exact (sb.2 _ (fun e => n2 e.symm)).trans TO1
      · refine paired_itat (h := h2) fun q hq => ?_
        have a := (hS1 q.src (List.mem_map_of_mem hq)).1
        exact a.keep fun o ho => (sb.2 _ fun e => n3 (by rw [← e]; exact List.mem_map_of_mem hq)).trans ho
      · have hlt : c < s.heap.objs.size := by
          simp only [List.mem_cons] at hcm
          rcases hcm with q | q | q | q
          · rw [q]; exact hzl
          · rw [q]; exact Heap.lt_size hTI
          · rw [q]; exact Heap.lt_size hTO
          · obtain ⟨p, _, a⟩ := paired_mem2 hp c q
            obtain ⟨o, vs, ho, hd⟩ := a.obj
            exact Heap.lt_size ho
        rw [upd_ne (Nat.ne_of_lt hlt)]
        exact (hf c hcm).1
  done := by
    intro X hP hw hK hc i pins s σ H E I hf st hg
    subst hP hw hK
    obtain ⟨hz, hTI, ⟨xo, hxo, hTO⟩, hp⟩ := st
    obtain ⟨g1, p0, hp0, xs0, hx0, hi0⟩ := hg
    obtain ⟨zs, e1, e2, h3⟩ := zq_of (C := fun xs => i ≤ xs.length) I hp g1
    have ap := D.apt e1 e2
    subst e1 e2
    have hd : X.A.in1.handled = none := I.ok.hd hc
    have nin : ∀ S ∈ zs.map Zq.src, S.it ∈ zs.map Zq.it := fun S hS => by
      obtain ⟨q, hq, rfl⟩ := List.mem_map.mp hS
      exact List.mem_map_of_mem hq
    refine next_zipN_end (i := i) (Ls := zs.map Zq.src) (by simpa using hne) (by simpa using hl) ap (by rw [hxo]; simp) (fun S hS => ?_) hz (by rw [map_src_it]; exact hTI) hTO (fun S hS => ?_) ?_ fun h1 tk hk => ?_
    · obtain ⟨q, hq, rfl⟩ := List.mem_map.mp hS
      refine q.dr hd fun e => D.ap q.p (List.mem_map_of_mem hq) ?_
      rw [e]
      exact List.mem_cons_of_mem _ (List.mem_cons_of_mem _ (List.mem_cons_of_mem _ (List.mem_map_of_mem hq)))
    · obtain ⟨q, hq, rfl⟩ := List.mem_map.mp hS
      obtain ⟨a, xs, b, c, d⟩ := h3 q hq
      exact ⟨a, by show i ≤ q.its.length; rw [← c.length]; exact d⟩
    · obtain ⟨q, hq, rfl⟩ := List.mem_map.mp hp0
      obtain ⟨a, xs, b, c, d⟩ := h3 q hq
      refine ⟨q.src, List.mem_map_of_mem hq, ?_⟩
      show i = q.its.length
      rw [← c.length, sqx_inj I _ _ _ b hx0]
      exact hi0
    · exact ⟨rfl, I.turnedL (t' := tk) (ch := z :: TI :: TO :: zs.map Zq.it) (fun c o hb q => hk c o (fun q' => hb (by simp [q'])) (fun q' => hb (by simp [q'])) (fun S hS q' => hb (by rw [q']; exact List.mem_cons_of_mem _ (List.mem_cons_of_mem _ (List.mem_cons_of_mem _ (nin S hS))))) q) hf⟩
  self := fun A i s Q E st h => wpAny_pyIter_zip st.1 h
/-! zip of four is made -/
theorem tc_zip4 (a b c d : Value) : checkTypeCall "zip" ⟨[a, b, c, d], []⟩ = pure () := by kernel_rfl
theorem nc_zip4 (a b c d : Value) : checkBuiltinCall "zip.__new__" ⟨[.type "zip", a, b, c, d], []⟩ = pure () := by kernel_rfl
theorem oi_zip4 (x a b c d : Value) : argsOk "object.__init__" ⟨[x, a, b, c, d], []⟩ := by unfold argsOk; kernel_rfl
abbrev pz (h : Heap) (xs : List Value) : Heap := h.push { cls := .type "tuple", data := .seq xs.toArray }
abbrev pI (h : Heap) (o1 o2 o3 o4 : Obj) : Heap := (((h.push o1).push o2).push o3).push o4
abbrev pT (h : Heap) (o1 o2 o3 o4 : Obj) : Heap := pz (pI h o1 o2 o3 o4) [.ref h.objs.size, .ref (h.push o1).objs.size, .ref ((h.push o1).push o2).objs.size, .ref (((h.push o1).push o2).push o3).objs.size]
abbrev pO (h : Heap) (o1 o2 o3 o4 : Obj) : Heap := pz (pT h o1 o2 o3 o4) [.none, .none, .none, .none]
abbrev pZ (h : Heap) (o1 o2 o3 o4 : Obj) : Heap := (pO h o1 o2 o3 o4).push { cls := .type "zip", data := .fields #[.none, .bool false, .bool false, .ref (pI h o1 o2 o3 o4).objs.size, .ref (pT h o1 o2 o3 o4).objs.size] }
set_option maxHeartbeats 4000000 in
theorem new_zip4 {v1 v2 v3 v4 : Value} {o1 o2 o3 o4 : Obj} {H1 H2 H3 H4 : Heap → Prop} (b1 : Begins v1 o1 H1) (b2 : Begins v2 o2 H2) (b3 : Begins v3 o3 H3) (b4 : Begins v4 o4 H4) :
    Meets (Builtin.«zip.__new__» ⟨[.type "zip", v1, v2, v3, v4], []⟩) (fun _ R s => (H1 s.heap ∧ H2 s.heap ∧ H3 s.heap ∧ H4 s.heap) ∧ R (.ok (.ret (.ref (pO s.heap o1 o2 o3 o4).objs.size))) { s with heap := pZ s.heap o1 o2 o3 o4 }) :=
  .of_wp fun prog w A R s h => by
    obtain ⟨hp, g, d, tk, os⟩ := s
    obtain ⟨⟨h1, h2, h3, h4⟩, h⟩ := h
    have hsub := sub_zip
    have go : ∀ {v : Value} {o : Obj} {K : Heap → Prop} (b : Begins v o K) (h' : Heap) (k : K h') ⦃A' : Around⦄ ⦃E : Value → Shared → Prop⦄ ⦃Q : Value → Shared → Prop⦄, Q (.ref h'.objs.size) ⟨h'.push o, g, d, tk, os⟩ → wpAny (model prog w) A' (pyIter v) Q E ⟨h', g, d, tk, os⟩ := fun b h' k _ _ _ q => b.iter prog w _ _ ⟨h', g, d, tk, os⟩ _ k q
    have k1 := go b1 hp h1
    have k2 := go b2 _ (b2.keeps hp (hp.push o1) h2 fun b o' e => Heap.get?_push_of_some _ e)
    have k3 := go b3 _ (b3.keeps hp ((hp.push o1).push o2) h3 fun b o' e => Heap.get?_push_of_some _ (Heap.get?_push_of_some _ e))
    have k4 := go b4 _ (b4.keeps hp (((hp.push o1).push o2).push o3) h4 fun b o' e => Heap.get?_push_of_some _ (Heap.get?_push_of_some _ (Heap.get?_push_of_some _ e)))
    wp_walk using k1, k2, k3, k4
    exact ⟨_, rfl, h⟩
/-- what an iterator over p is when it is new -/
def nIt (p : Bool × Addr) : Obj := { cls := .type (if p.1 then "tuple_iterator" else "list_iterator"), data := .fields #[.ref p.2, .int 0 0] }
def Over (p : Bool × Addr) (h : Heap) : Prop := (p.1 = true ∧ ∃ xs, h.IsTuple p.2 xs) ∨ (p.1 = false ∧ ∃ xs, h.IsList p.2 xs)
theorem begin_over (p : Bool × Addr) : Begins (.ref p.2) (nIt p) (Over p) where
  iter := fun prog w A E s Q hp h => by
    rcases hp with ⟨e, xs, q⟩ | ⟨e, xs, q⟩
    · unfold nIt at h
      rw [e] at h
      exact wpAny_pyIter_tuple q h
    · unfold nIt at h
      rw [e] at h
      exact wpAny_pyIter_list q h
  keeps := fun h h' x k => by
    rcases x with ⟨e, xs, q⟩ | ⟨e, xs, q⟩
    · exact .inl ⟨e, xs, q.at fun o z => k _ o z⟩
    · exact .inr ⟨e, xs, q.at fun o z => k _ o z⟩
  free := rfl
theorem nIt_at {h : Heap} {p : Bool × Addr} {it : Addr} (e : h.get? it = some (nIt p)) : ItAt h p it 0 := by
  cases hb : p.1 with
  | true => exact .inl ⟨hb, _, e, by unfold nIt; rw [hb]; rfl, rfl⟩
  | false => exact .inr ⟨hb, _, e, by unfold nIt; rw [hb]; rfl, rfl⟩
theorem call_zip4 {prog : Program} {w : World} {A : Around} {E : Value → Shared → Prop} {s : Shared} {p1 p2 p3 p4 : Bool × Addr} {Q : Value → Shared → Prop} (h1 : Over p1 s.heap) (h2 : Over p2 s.heap) (h3 : Over p3 s.heap) (h4 : Over p4 s.heap)
    (h : ∀ h' n, n = s.heap.objs.size → IsZip h' (n + 6) (n + 4) (n + 5) .none → IsTp h' (n + 4) ([n, n + 1, n + 2, n + 3].map Value.ref).toArray → IsTp h' (n + 5) #[.none, .none, .none, .none] →
      Paired (fun p it => ItAt h' p it 0) [p1, p2, p3, p4] [n, n + 1, n + 2, n + 3] → (∀ c o, s.heap.get? c = some o → h'.get? c = some o) → Q (.ref (n + 6)) { s with heap := h' }) :
    wpAny (model prog w) A (call (.type "zip") [.ref p1.2, .ref p2.2, .ref p3.2, .ref p4.2]) Q E s := by
  refine callType_new F.called_zip (by decide) (tc_zip4 _ _ _ _) (nc_zip4 _ _ _ _) (fun obj => oi_zip4 obj _ _ _ _) F.entry_zip_new (new_zip4 (begin_over p1) (begin_over p2) (begin_over p3) (begin_over p4)) ⟨⟨h1, h2, h3, h4⟩, ?_⟩
  generalize hn : s.heap.objs.size = n at h
  generalize e1 : s.heap.push (nIt p1) = ha
  have s1 : ha.objs.size = n + 1 := by rw [← e1, Heap.size_push, hn]
  have u1 : ∀ c o, s.heap.get? c = some o → ha.get? c = some o := fun c o e => by rw [← e1]; exact Heap.get?_push_of_some _ e
  have g1 : ha.get? n = some (nIt p1) := by rw [← e1, ← hn]; exact Heap.get?_push_size _ rfl
  generalize e2 : ha.push (nIt p2) = hb
  have s2 : hb.objs.size = n + 2 := by rw [← e2, Heap.size_push, s1]
  have u2 : ∀ c o, ha.get? c = some o → hb.get? c = some o := fun c o e => by rw [← e2]; exact Heap.get?_push_of_some _ e
  have g2 : hb.get? (n + 1) = some (nIt p2) := by rw [← e2, ← s1]; exact Heap.get?_push_size _ rfl
  generalize e3 : hb.push (nIt p3) = hc
  have s3 : hc.objs.size = n + 3 := by rw [← e3, Heap.size_push, s2]
  have u3 : ∀ c o, hb.get? c = some o → hc.get? c = some o := fun c o e => by rw [← e3]; exact Heap.get?_push_of_some _ e
  have g3 : hc.get? (n + 2) = some (nIt p3) := by rw [← e3, ← s2]; exact Heap.get?_push_size _ rfl
  generalize e4 : hc.push (nIt p4) = hd
  have s4 : hd.objs.size = n + 4 := by rw [← e4, Heap.size_push, s3]
  have u4 : ∀ c o, hc.get? c = some o → hd.get? c = some o := fun c o e => by rw [← e4]; exact Heap.get?_push_of_some _ e
  have g4 : hd.get? (n + 3) = some (nIt p4) := by rw [← e4, ← s3]; exact Heap.get?_push_size _ rfl
  have s5 : (pz hd [.ref n, .ref (n + 1), .ref (n + 2), .ref (n + 3)]).objs.size = n + 5 := by rw [Heap.size_push, s4]
  have s6 : (pz (pz hd [.ref n, .ref (n + 1), .ref (n + 2), .ref (n + 3)]) [.none, .none, .none, .none]).objs.size = n + 6 := by rw [Heap.size_push, s5]
  have q : ∀ b c o, hd.get? c = some o → ((pz (pz hd [.ref n, .ref (n + 1), .ref (n + 2), .ref (n + 3)]) [.none, .none, .none, .none]).push b).get? c = some o := fun b c o e => Heap.get?_push_of_some _ (Heap.get?_push_of_some _ (Heap.get?_push_of_some _ e))
  unfold pZ pO pT pI
  rw [e1, s1, e2, s2, e3, s3, e4, s4, hn, s5, s6]
  have hz : ((pz (pz hd [.ref n, .ref (n + 1), .ref (n + 2), .ref (n + 3)]) [.none, .none, .none, .none]).push { cls := .type "zip", data := .fields #[.none, .bool false, .bool false, .ref (n + 4), .ref (n + 5)] }).get? (n + 6) = some { cls := .type "zip", data := .fields #[.none, .bool false, .bool false, .ref (n + 4), .ref (n + 5)] } := by
    have := Heap.get?_push_size (pz (pz hd [.ref n, .ref (n + 1), .ref (n + 2), .ref (n + 3)]) [.none, .none, .none, .none]) (o := { cls := .type "zip", data := .fields #[.none, .bool false, .bool false, .ref (n + 4), .ref (n + 5)] }) rfl
    rw [s6] at this
    exact this
  refine ⟨⟨_, hz, rfl⟩, h _ n rfl hz ?_ ?_ (.cons (nIt_at (q _ _ _ (u4 _ _ (u3 _ _ (u2 _ _ g1))))) (.cons (nIt_at (q _ _ _ (u4 _ _ (u3 _ _ g2)))) (.cons (nIt_at (q _ _ _ (u4 _ _ g3))) (.cons (nIt_at (q _ _ _ g4)) .nil)))) fun c o e => q _ _ _ (u4 _ _ (u3 _ _ (u2 _ _ (u1 _ _ e))))⟩
  · refine Heap.get?_push_of_some _ (Heap.get?_push_of_some _ ?_)
    rw [← s4]
    exact Heap.get?_push_size _ rfl
  · refine Heap.get?_push_of_some _ ?_
    rw [← s5]
    exact Heap.get?_push_size _ rfl
/-! zip of four as what is walked, and over the data layer -/
def iZip4 (K : PySem.W.Frag) (ta : TA) : TI := fun σ H R => ta σ H fun vs H1 => ∃ p1 p2 p3 p4 : Bool × Addr, vs = [.ref p1.2, .ref p2.2, .ref p3.2, .ref p4.2] ∧ (∀ p ∈ [p1, p2, p3, p4], ∃ xs, SqX K H1 p xs) ∧ R (Itzn K [p1, p2, p3, p4]) H1
theorem sqx_over {X : Cx} {pins : List (Addr × Obj)} {σ : L2.St} {H : Hp} {s : Shared} (I : Inv X pins σ H s) {p : Bool × Addr} (h : ∃ xs, SqX X.K H p xs) : Over p s.heap ∧ p.2 < s.heap.objs.size := by
  obtain ⟨xs, ⟨e, q⟩ | ⟨e, q⟩⟩ := h
  · obtain ⟨vs, rv, pp, _⟩ := I.tuple q
    obtain ⟨o, ho, _⟩ := id pp
    exact ⟨.inl ⟨e, _, pp⟩, Heap.lt_size ho⟩
  · obtain ⟨vs, rv, pp, _⟩ := I.list q
    exact ⟨.inr ⟨e, _, pp.isList⟩, pp.lt⟩
theorem pi_zip4 {X : Cx} {e e2 e3 e4 : Expr} {ta : TA} {p pos tpos : Pos} {elts : List Expr} {kk : Nat} (hg : Gl X "zip") (hm : X.mg "zip" = none) (ha : PA X [e, e2, e3, e4] ta)
    (hs : starEach [e, e2, e3, e4] X.env = (false, eval e X.env) :: starEach [e2, e3, e4] X.env := by rfl) (hpl : (backTo pos (starEach [e2, e3, e4] X.env)).any (·.1) = false := by rfl) :
    PI X (.Tuple elts kk tpos) (.Call (.Name "zip" p) [e, e2, e3, e4] [] pos) (iZip4 X.K ta) := by
  refine ⟨fun pins s σ H R I h => ?_⟩
  refine Call_ (ld_blt I hg hm PyProof.Rows.boot_zip (PyProof.Rows.callWith_type1 (thn (ha.run pos pins s σ H _ I h) fun us s1 ⟨vs, H1, I1, r1, q1⟩ => ?_) hs hpl))
  obtain ⟨p1, p2, p3, p4, ex, hq, q⟩ := q1
  subst ex
  cases r1 with
  | cons r r1 =>
  cases r1 with
  | cons r2 r1 =>
  cases r1 with
  | cons r3 r1 =>
  cases r1 with
  | cons r4 r1 =>
    cases r1
    cases r
    cases r2
    cases r3
    cases r4
    obtain ⟨o1, l1⟩ := sqx_over I1 (hq p1 (by simp))
    obtain ⟨o2, l2⟩ := sqx_over I1 (hq p2 (by simp))
    obtain ⟨o3, l3⟩ := sqx_over I1 (hq p3 (by simp))
    obtain ⟨o4, l4⟩ := sqx_over I1 (hq p4 (by simp))
    refine call_zip4 o1 o2 o3 o4 fun h' n hn hz hT hO hp hk => wpAny_pyIter_zip hz ?_
    have I2 : Inv X pins σ H1 { s1 with heap := h' } := I1.kept (t' := s1.toks) hk
    rw [← hn] at l1 l2 l3 l4
    have nnat : ∀ {a b : Addr}, (show Nat from a) ≠ (show Nat from b) → a ≠ b := fun h => h
    refine ⟨n + 6, _, _, _, H1, rfl, I2, turn_zipN (L := [p1, p2, p3, p4]) (by simp) (by simp) (z := n + 6) (TI := n + 4) (TO := n + 5) (its := [n, n + 1, n + 2, n + 3]) ⟨?_, fun q hq2 => ?_⟩, ⟨hz, hT, ⟨_, rfl, hO⟩, hp⟩, fun c hcm => ?_, q⟩
    · simp only [List.nodup_cons, List.mem_cons, List.not_mem_nil, or_false, not_or, List.nodup_nil, and_true, not_false_eq_true]
      refine ⟨⟨?_, ?_, ?_, ?_, ?_, ?_⟩, ⟨?_, ?_, ?_, ?_, ?_⟩, ⟨?_, ?_, ?_, ?_⟩, ⟨?_, ?_, ?_⟩, ⟨?_, ?_⟩, ?_⟩ <;> (refine nnat ?_; dsimp only; omega)
    · have hlt : (show Nat from q.2) < n := by
        simp only [List.mem_cons, List.not_mem_nil, or_false] at hq2
        rcases hq2 with rfl | rfl | rfl | rfl
        · exact l1
        · exact l2
        · exact l3
        · exact l4
      simp only [List.mem_cons, List.not_mem_nil, or_false, not_or]
      dsimp only at hlt
      refine ⟨?_, ?_, ?_, ?_, ?_, ?_, ?_⟩ <;> (refine nnat ?_; dsimp only; omega)
    · have hle : s1.heap.objs.size ≤ c := by
        simp only [List.mem_cons, List.not_mem_nil, or_false] at hcm
        rw [← hn]
        rcases hcm with rfl | rfl | rfl | rfl | rfl | rfl | rfl
        all_goals first | exact Nat.le_refl _ | exact Nat.le_add_right _ _
      exact I1.fpOk hle (I1.hok.fresh hle)
/-! over data -/
def sqK (Q : List D → List Cell → Prop) : W → List Cell → Prop
  | .val (.list ds), C => Q ds C
  | .val (.tuple ds), C => Q ds C
  | .ref k, C => frzK k Q C[k]? C
  | _, _ => False
/-- a sequence that stands -/
def SeqSt (ct : Cl) (g : Gh) (H : Hp) (p : Bool × Addr) (ds : List D) : Prop := ∃ xs, ((p.1 = true ∧ H p.2 = some (.tup xs)) ∨ (p.1 = false ∧ g.F p.2 ∧ H p.2 = some (.lst xs))) ∧ RDs ct g.F H xs ds
theorem SeqSt.mono {ct : Cl} {g g' : Gh} {H H' : Hp} {p : Bool × Addr} {ds : List D} (h : SeqSt ct g H p ds) (k : Gk g H g' H') : SeqSt ct g' H' p ds := by
  obtain ⟨xs, ⟨e, q⟩ | ⟨e, f, q⟩, r⟩ := h
  · exact ⟨xs, .inl ⟨e, k.kp.1 _ _ q⟩, RDs.mono k.kp _ _ r⟩
  · exact ⟨xs, .inr ⟨e, (k.kp.2 _ f).1, (k.kp.2 _ f).2.trans q⟩, RDs.mono k.kp _ _ r⟩
theorem sqK_ok {ct : Ct} {B : Bs} {g : Gh} {σ : L2.St} {H : Hp} {E : Ev} {C : List Cell} {Q : List D → List Cell → Prop} {v : V} {w : W} (R : Rel ct B g σ H E C) (r : RW ct g H v w) (q : sqK Q w C) :
    ∃ g' C' p ds, Gk g H g' H ∧ Rel ct B g' σ H E C' ∧ v = .ref p.2 ∧ SeqSt ct g' H p ds ∧ Q ds C' := by
  unfold sqK at q
  split at q
  · rename_i ds
    cases (show RD ct g.F H v (.list ds) from r) with
    | lst f h1 h2 => exact ⟨g, C, (false, _), ds, Gk.refl _ _, R, rfl, ⟨_, .inr ⟨rfl, f, h1⟩, h2⟩, q⟩
  · rename_i ds
    obtain ⟨a, xs, rfl, h1, h2⟩ := rw_tup r
    exact ⟨g, C, (true, _), ds, Gk.refl _ _, R, rfl, ⟨_, .inl ⟨rfl, h1⟩, h2⟩, q⟩
  · rename_i j
    obtain ⟨a, ha, rfl⟩ := r
    unfold frzK at q
    split at q
    · rename_i ds e
      obtain ⟨k2, R2, r2⟩ := R.ice e ha
      cases r2 with
      | lst f h1 h2 => exact ⟨_, _, (false, _), ds, k2, R2, rfl, ⟨_, .inr ⟨rfl, f, h1⟩, h2⟩, q⟩
    · rename_i ds e
      obtain ⟨a', m, q2, q3, q4, f, xs, h1, h2⟩ := R.cs.at_ j _ e
      rw [ha] at q2
      cases q2
      exact ⟨g, _, (false, _), ds, Gk.refl _ _, R, rfl, ⟨_, .inr ⟨rfl, f, h1⟩, h2⟩, q⟩
    · exact q.elim
  · exact q.elim
theorem SeqSt.sq {ct : Cl} {K : PySem.W.Frag} {g : Gh} {H : Hp} {p : Bool × Addr} {ds : List D} (h : SeqSt ct g H p ds) : ∃ xs, SqX K H p xs ∧ RDs ct g.F H xs ds := by
  obtain ⟨xs, ⟨e, q⟩ | ⟨e, f, q⟩, r⟩ := h
  · exact ⟨xs, .inl ⟨e, SqT.of q⟩, r⟩
  · exact ⟨xs, .inr ⟨e, SqL.of q⟩, r⟩
def zipND (n : Nat) (dss : List (List D)) : List D := (List.range n).map fun i => .tuple (dss.map fun ds => ds.getD i .none)
theorem rds_zipN {ct : Cl} {K : PySem.W.Frag} {g g' g'' : Gh} {H H' H'' : Hp} {i : Nat} (k : Gk g H g' H') (k2 : Gk g' H' g'' H'') : ∀ {L : List (Bool × Addr)} {dss : List (List D)} {vs : List V}, Paired (SeqSt ct g H) L dss → (∀ ds ∈ dss, i < ds.length) → Paired (fun p v => ∀ xs, SqX K H' p xs → xs[i]? = some v) L vs → RDs ct g''.F H'' vs (dss.map fun ds => ds.getD i .none)
  | [], _, _, .nil, _, .nil => .nil
  | p :: L, ds :: dss, v :: vs, .cons a b, hl, .cons c d => by
    refine .cons ?_ (rds_zipN k k2 b (fun ds h => hl ds (List.mem_cons_of_mem _ h)) d)
    obtain ⟨xs, q, r⟩ := (a.mono k).sq (K := K)
    have e := c xs q
    have hi := hl ds List.mem_cons_self
    obtain ⟨v', e1, e2⟩ := r.get i ds[i] (List.getElem?_eq_getElem hi)
    rw [e] at e1
    cases e1
    dsimp only
    rw [List.getD_eq_getElem?_getD, List.getElem?_eq_getElem hi]
    exact RD.mono k2.kp _ _ e2
theorem iter_zipN {ct : Cl} {K : PySem.W.Frag} {g : Gh} {H : Hp} {L : List (Bool × Addr)} {dss : List (List D)} {n : Nat} (h : Paired (SeqSt ct g H) L dss) (hle : ∀ ds ∈ dss, n ≤ ds.length) (hex : ∃ ds ∈ dss, n = ds.length) : IterOk ct (Itzn K L) g H (zipND n dss) := by
  have hl : (zipND n dss).length = n := by
    unfold zipND
    rw [List.length_map, List.length_range]
  refine ⟨fun g' H' k i hi => ?_, fun g' H' k => ?_, fun g' H' k i x H'' d hd y => ?_⟩
  · rw [hl] at hi
    have : ∀ {L : List (Bool × Addr)} {dss : List (List D)}, Paired (SeqSt ct g H) L dss → (∀ ds ∈ dss, n ≤ ds.length) → ∃ vs : List V, Paired (fun p v => ∃ xs, SqX K H' p xs ∧ xs[i]? = some v) L vs := by
      intro L dss h
      induction h with
      | nil => exact fun _ => ⟨[], .nil⟩
      | cons a b ih =>
        intro hle
        obtain ⟨vs, r⟩ := ih fun ds h => hle ds (List.mem_cons_of_mem _ h)
        obtain ⟨xs, q, r2⟩ := (a.mono k).sq (K := K)
        have hi2 := hle _ List.mem_cons_self
        rw [← r2.length] at hi2
        exact ⟨xs[i] :: vs, .cons ⟨xs, q, List.getElem?_eq_getElem (by omega)⟩ r⟩
    exact this h hle
  · rw [hl]
    refine ⟨fun p hp => ?_, ?_⟩
    · obtain ⟨ds, hds, a⟩ := paired_mem1 h p hp
      obtain ⟨xs, q, r2⟩ := (a.mono k).sq (K := K)
      exact ⟨xs, q, by rw [r2.length]; exact hle ds hds⟩
    · obtain ⟨ds, hds, e⟩ := hex
      obtain ⟨p, hp, a⟩ := paired_mem2 h ds hds
      obtain ⟨xs, q, r2⟩ := (a.mono k).sq (K := K)
      exact ⟨p, hp, xs, q, by rw [r2.length]; exact e⟩
  · have hi : i < n := by
      rw [← hl]
      exact (List.getElem?_eq_some_iff.mp hd).1
    obtain ⟨T, vs, rfl, hT, rfl, hp⟩ := y
    unfold zipND at hd
    rw [List.getElem?_map, List.getElem?_range hi] at hd
    cases hd
    exact ⟨.inr ⟨T, _, hT, rfl⟩, fun g'' k' => .tup upd_same (rds_zipN k k' h (fun ds hds => Nat.lt_of_lt_of_le hi (hle ds hds)) hp)⟩
def min4 (a b c d : List D) : Nat := min (min a.length b.length) (min c.length d.length)
def zip4K (Q : List D → List Cell → Prop) : List W → List Cell → Prop
  | [x, y, u, v], C1 => sqK (fun a C2 => sqK (fun b C3 => sqK (fun c C4 => sqK (fun d C5 => Q (zipND (min4 a b c d) [a, b, c, d]) C5) v C4) u C3) y C2) x C1
  | _, _ => False
theorem rws4 {ct : Cl} {g : Gh} {H : Hp} {vs : List V} {a b c d : W} (h : RWs ct g H vs [a, b, c, d]) : ∃ x y z u, vs = [x, y, z, u] ∧ RW ct g H x a ∧ RW ct g H y b ∧ RW ct g H z c ∧ RW ct g H u d := by
  cases h with
  | cons r h =>
  cases h with
  | cons r2 h =>
    obtain ⟨z, u, rfl, r3, r4⟩ := rws2 h
    exact ⟨_, _, _, _, rfl, r, r2, r3, r4⟩
def dZip4 (a : DA) : DI := fun E C Q => a E C (zip4K Q)
instance ci_zip4 {ct : Ct} {K : PySem.W.Frag} {t : TA} {a : DA} [h : CA ct t a] : CI ct (iZip4 K t) (dZip4 a) := ⟨fun B g σ H E C Q K' R k q => by
  refine h.run B g σ H E C _ _ R (fun v H1 ⟨g1, C1, x, k1, R1, r1, q1⟩ => ?_) q
  unfold zip4K at q1
  split at q1
  · obtain ⟨u1, u2, u3, u4, rfl, r1, r2, r3, r4⟩ := rws4 r1
    obtain ⟨g2, C2, p1, ds1, k2, R2, rfl, s1, q2⟩ := sqK_ok R1 r1 q1
    obtain ⟨g3, C3, p2, ds2, k3, R3, rfl, s2, q3⟩ := sqK_ok R2 (r2.mono k2) q2
    obtain ⟨g4, C4, p3, ds3, k4, R4, rfl, s3, q4⟩ := sqK_ok R3 (r3.mono (k2.trans k3)) q3
    obtain ⟨g5, C5, p4, ds4, k5, R5, rfl, s4, q5⟩ := sqK_ok R4 (r4.mono ((k2.trans k3).trans k4)) q4
    have S : Paired (SeqSt ct g5 H1) [p1, p2, p3, p4] [ds1, ds2, ds3, ds4] := .cons (s1.mono ((k3.trans k4).trans k5)) (.cons (s2.mono (k4.trans k5)) (.cons (s3.mono k5) (.cons s4 .nil)))
    refine ⟨p1, p2, p3, p4, rfl, fun p hp => ?_, k _ _ g5 C5 _ (k1.trans ((k2.trans (k3.trans k4)).trans k5)) R5 (iter_zipN S (fun ds hds => ?_) ?_) q5⟩
    · obtain ⟨ds, _, a⟩ := paired_mem1 S p hp
      obtain ⟨xs, q, _⟩ := a.sq (K := K)
      exact ⟨xs, q⟩
    · simp only [List.mem_cons, List.not_mem_nil, or_false] at hds
      unfold min4
      rcases hds with rfl | rfl | rfl | rfl <;> omega
    · unfold min4
      simp only [List.mem_cons, List.not_mem_nil, or_false]
      by_cases a : ds1.length ≤ ds2.length
      · by_cases b : ds3.length ≤ ds4.length
        · by_cases c : ds1.length ≤ ds3.length
          · exact ⟨ds1, .inl rfl, by omega⟩
          · exact ⟨ds3, .inr (.inr (.inl rfl)), by omega⟩
        · by_cases c : ds1.length ≤ ds4.length
          · exact ⟨ds1, .inl rfl, by omega⟩
          · exact ⟨ds4, .inr (.inr (.inr rfl)), by omega⟩
      · by_cases b : ds3.length ≤ ds4.length
        · by_cases c : ds2.length ≤ ds3.length
          · exact ⟨ds2, .inr (.inl rfl), by omega⟩
          · exact ⟨ds3, .inr (.inr (.inl rfl)), by omega⟩
        · by_cases c : ds2.length ≤ ds4.length
          · exact ⟨ds2, .inr (.inl rfl), by omega⟩
          · exact ⟨ds4, .inr (.inr (.inr rfl)), by omega⟩
  · exact q1.elim⟩
/-! x is True, x is not True -/
def rIsBl (f : Bool → Bool) : R2 := fun x y H Q => ∃ a b : Bool, x = .bl a ∧ y = .bl b ∧ Q (.bl (f (decide (a = b)))) H
theorem op_isBlA {X : Cx} : OpR X (compareOp .Is) (rIsBl id) := op_isBl
theorem op_notBlA {X : Cx} : OpR X (compareOp .IsNot) (rIsBl not) := op_notBl
def fIsBl (f : Bool → Bool) : W → W → List Cell → DK → Prop
  | .val (.bool a), .val (.bool b), C, Q => Q (.val (.bool (f (decide (a = b))))) C
  | _, _, _, _ => False
instance cr_isBl {ct : Ct} {f : Bool → Bool} : CR2 ct (rIsBl f) (fIsBl f) := ⟨fun B g σ H E C Q v u x y k R kk rx ry q => by
  unfold fIsBl at q
  split at q
  · refine ⟨_, _, rw_bool rx, rw_bool ry, post_val R (w := .val (.bool _)) (.bl _) kk q⟩
  · exact q.elim⟩
/-! ### a field is put behind the others (while an object is made) -/
def sPut (t : TS) : TS := t
theorem psPut {X : Cx} {st : Stmt} {t : TS} (h : PS X st t) : PS X st (sPut t) := h
theorem psPutC {X : Cx} {K : PySem.W.Frag} {o value : Expr} {f : Str} {pos pos' : Pos} {ta tv : TE} (h : X.K = K) (ha : PE X o ta) (hv : PE X value tv) (hs : swapsWith value (some (.Attribute o f pos')) pos.line X.env = pure false) : PS X (.Assign [.Attribute o f pos'] value pos) (sPut (sFld K ta tv f)) := h ▸ psPut (ps_fld ha hv hs)
theorem putF_snoc {f : Str} {y : V} : ∀ {ns : List Str} {vs : List V}, ns.Nodup → ns[vs.length]? = some f → putF f y (ns.zip vs) = ns.zip (vs ++ [y])
  | [], _, _, h => by simp at h
  | n :: ns, [], nd, h => by
    have e : n = f := Option.some.inj h
    subst e
    cases ns <;> rfl
  | n :: ns, v :: vs, nd, h => by
    obtain ⟨n1, n2⟩ := List.nodup_cons.mp nd
    have h' : ns[vs.length]? = some f := h
    have hne : n ≠ f := fun e => n1 (by rw [e]; exact List.mem_of_getElem? h')
    show (if n = f then (n, y) :: ns.zip vs else (n, v) :: putF f y (ns.zip vs)) = (n, v) :: ns.zip (vs ++ [y])
    rw [if_neg hne, putF_snoc n2 h']
def pfC (f : Str) (w : W) (k : Nat) (N : List Cell → Prop) : Option Cell → List Cell → Prop
  | some (.obj c ws), C => (clsF c)[ws.length]? = some f ∧ N (C.set k (.obj c (ws ++ [w])))
  | _, _ => False
def pfK (f : Str) (w : W) (N : List Cell → Prop) : W → List Cell → Prop
  | .ref k, C => pfC f w k N C[k]? C
  | _, _ => False
def dPutF (f : Str) (a b : DE) : DS := fun D E C => b E C fun y C1 => a E C1 fun x C2 => pfK f y (fun C3 => D.nx E C3) x C2
theorem Paired.snocW {α β : Type} {F : α → β → Prop} {a : α} {b : β} : ∀ {l : List α} {m : List β}, Paired F l m → F a b → Paired F (l ++ [a]) (m ++ [b])
  | _, _, .nil, h => .cons h .nil
  | _, _, .cons h1 h2, h => .cons h1 (Paired.snocW h2 h)
instance cs_putF {K : PySem.W.Frag} {ct : Ct} {ta tv : TE} {a b : DE} {f : Str} [ha : CE ct ta a] [hb : CE ct tv b] [hk : CtOk K ct] : CS ct (sPut (sFld K ta tv f)) (dPutF f a b) := ⟨fun B g σ H E C D DD R e q => by
  refine hb.run B g σ H E C _ _ R (fun y H1 ⟨g1, C1, yw, k1, R1, r1, q1⟩ => ?_) q
  refine ha.run B g1 σ H1 E C1 _ _ R1 (fun x H2 ⟨g2, C2, xw, k2, R2, r2, q2⟩ => ?_) q1
  unfold pfK at q2
  try dsimp only at q2
  split at q2
  · rename_i k
    obtain ⟨a0, h0, rfl⟩ := r2
    unfold pfC at q2
    try dsimp only at q2
    split at q2
    · rename_i c ws e3
      obtain ⟨hf, q2⟩ := q2
      obtain ⟨a', m', z1, z2, rfl, Ca, ns, dx, vs, hcc, ho, hl, hs⟩ := R2.cs.at_ k _ e3
      rw [h0] at z1
      cases z1
      obtain ⟨rfl, cls, no⟩ := hk.ok _ _ _ hcc
      have hlw : vs.length = ws.length := Paired.length hs
      rw [← hlw] at hf
      have hlt : vs.length < (clsF c).length := (List.getElem?_eq_some_iff.mp hf).1
      have hlen : ((clsF c).zip vs).length < 1000 := by
        rw [List.length_zip]
        have : (clsF c).length ≤ 4 := by
          unfold clsF
          split <;> decide
        omega
      have ep := putF_snoc (y := y) (clsF_nodup c) hf
      obtain ⟨k3, R3⟩ := R2.put (o := .ins Ca dx (putF f y ((clsF c).zip vs))) (c' := .obj c (ws ++ [yw])) e3 h0 z2 ⟨rfl, Ca, clsF c, dx, vs, hcc, ho, hl, hs⟩ (fun zs e => by rw [ho] at e; cases e) fun kk => by
        rw [ep]
        rw [ep] at kk
        exact ⟨rfl, Ca, clsF c, dx, _, hcc, upd_same, by rw [List.length_append]; show vs.length + 1 ≤ _; omega, Paired.snocW (RWs.mono kk hs) (RW.mono (k2.trans kk) r1)⟩
      exact ⟨a0, Ca, dx, _, rfl, ho, cls, no f (List.mem_of_getElem? hf), hlen, e.nx _ _ _ _ _ (k1.trans (k2.trans k3)) R3 q2⟩
    · exact q2.elim
  · exact q2.elim⟩
/-! ### a new list as a cell, as a value -/
def tCel (t : TE) : TE := t
theorem pe_cel {X : Cx} {e : Expr} {t : TE} (h : PE X e t) : PE X e (tCel t) := h
def dCel (t : DFl) : DE := fun E C Q => t E C fun ds C1 => Q (.ref C1.length) (C1 ++ [.lst ds])
instance ce_cel {ct : Ct} {te : TE} {t : DFl} [h : CF ct te t] : CE ct (tCel te) (dCel t) := ⟨fun B g σ H E C Q K R k q => by
  refine h.run B g σ H E C _ _ R (fun v H1 ⟨g1, C1, ds, xs, A, k1, R1, ev, s, r, q1⟩ => ?_) q
  subst ev
  obtain ⟨k2, R2, h2⟩ := R1.adoptC s r
  exact k _ _ ⟨_, _, .ref C1.length, k1.trans k2, R2, ⟨A, h2, rfl⟩, q1⟩⟩
/-! ### a statement that is not come to -/
def tDead : TS := fun _ _ _ => False
theorem ps_dead {X : Cx} {st : Stmt} : PS X st tDead := ⟨fun _ _ _ _ _ _ h => h.elim⟩
def dDead : DS := fun _ _ _ => False
instance cs_dead {ct : Ct} : CS ct tDead dDead := ⟨fun _ _ _ _ _ _ _ _ _ _ q => q.elim⟩
/-! ### a promise with new cells behind the given ones -/
def spE (ct : Ct) (n e m : Nat) (P : DSp) : Sp := fun vs H Q E => ∃ (g : Gh) (C : List Cell) (ws : List W) (QD : DK) (RX : XD), vs.length = m ∧ C.length = n ∧ Clz ct g H C ∧ RWs ct g H vs ws ∧ P ws C QD RX ∧
  (∀ v H' g' C' w, Gk g H g' H' → Fr0 (Bs.of g H) g' H' → Clz ct g' H' C' → C'.length = n + e → RW ct g' H' v w → QD w C' → Q v H') ∧
  (∀ cls d H' g' C' c ds, Gk g H g' H' → Fr0 (Bs.of g H) g' H' → Clz ct g' H' C' → C'.length = n → XV ct g' H' cls d c ds → RX c ds C' → E cls d H')
theorem spE_len {ct : Ct} {n e m : Nat} {P : DSp} {vs : List V} {H : Hp} {Q : VK} {E : XK} (h : spE ct n e m P vs H Q E) : vs.length = m := by
  obtain ⟨g, C, ws, QD, RX, h, _⟩ := h
  exact h
theorem Gk.tkLe {g g' : Gh} {H H' : Hp} {n : Nat} (k : Gk g H g' H') (hl : g.as.length ≤ n) : Gk g H (g'.tk n) H' :=
  ⟨k.kp, fun j a h => by
    have hj := (List.getElem?_eq_some_iff.mp h).1
    show (g'.as.take n)[j]? = some a
    rw [List.getElem?_take, if_pos (by omega)]
    exact k.as j a h, k.ex⟩
theorem bodyE_ok {ct : Ct} {N : List Str} {n e m : Nat} {P : DSp} {tt : TS} {vs : List V} {H : Hp} {Q : VK} {E : XK} (t : XD → DS) (c : ∀ R, CS (ct.w E R) tt (t R)) (hm : m ≤ N.length)
    (h : ∀ ws C Q R, ws.length = m → C.length = n → P ws C Q R → t (finX n R) (finD (n + e) Q) (E0D N.length ws) C) (sp : spE ct n e m P vs H Q E) : tt { nx := fun _ H' => Q .non H', rt := Q } (start N vs) H := by
  obtain ⟨g, C, ws, QD, RX, h1, h2, h3, h4, h5, h6, h7⟩ := sp
  have hl : vs.length = ws.length := Paired.length h4
  have hga : g.as.length = n := by rw [h3.la, h2]
  refine (c (finX n RX)).run ⟨g, H⟩ g (start N vs) H (E0D N.length ws) C _ (finD (n + e) QD) ⟨start_map h4, ?_, h3, Fr0.self g H, Gk.refl _ _, ?_⟩ ⟨?_, ?_, ?_, ?_⟩ (h ws C QD RX (by rw [← hl, h1]) h2 h5)
  · unfold L2.start E0D
    rw [List.length_append, List.length_append, List.length_map, List.length_map, List.length_replicate, List.length_replicate, hl]
  · rintro g' H' C' cls d cc ds k f z x ⟨q1, q2, q3⟩
    exact h7 cls d H' (g'.tk n) _ cc ds (k.tk hga) f.tk (z.tk n q2) (by rw [List.length_take]; omega) x q3
  · rintro σ' H' g' E' C' k R' ⟨q1, q2, q3⟩
    rw [Bool.and_eq_true] at q2
    exact h6 .non H' (g'.tk (n + e)) _ (.val .none) (k.tkLe (by omega)) (R'.fr.tk) (R'.cs.tk (n + e) q2.1) (by rw [List.length_take]; omega) RD.non q3
  · rintro v σ' H' g' E' C' w k R' r ⟨q1, q2, q3⟩
    rw [Bool.and_eq_true] at q2
    exact h6 v H' (g'.tk (n + e)) _ w (k.tkLe (by omega)) (R'.fr.tk) (R'.cs.tk (n + e) q2.1) (by rw [List.length_take]; omega) (r.tk q2.2) q3
  · exact fun _ _ _ _ _ _ _ q => q.elim
  · exact fun _ _ _ _ _ _ _ q => q.elim
def upR (k n L j : Nat) : Nat := if j < n then j + k else j - n + L
def unWE (k n L : Nat) : W → W
  | .ref j => .ref (upR k n L j)
  | w => w
def unCE (k n L : Nat) : Cell → Cell
  | .obj c ws => .obj c (ws.map (unWE k n L))
  | c => c
def putWE (C C' : List Cell) (k n : Nat) : List Cell := C.take k ++ (C'.take n).map (unCE k n C.length) ++ C.drop (k + n) ++ (C'.drop n).map (unCE k n C.length)
def Gh.bkE (g g' : Gh) (k n : Nat) : Gh := ⟨g'.F, g.as ++ g'.as.drop n, g.ms.take k ++ g'.ms.take n ++ g.ms.drop (k + n) ++ g'.ms.drop n⟩
section
variable {ct : Ct} {B : Bs} {g g' : Gh} {σ : L2.St} {H H' : Hp} {E : Ev} {C C' : List Cell} {k n e : Nat}
theorem RW.unE {ct : Cl} {L : Nat} (ha : ∀ (j : Nat) (a : Addr), g'.as[j]? = some a → (g.bkE g' k n).as[upR k n L j]? = some a) {v : V} {w : W} (h : RW ct g' H' v w) : RW ct (g.bkE g' k n) H' v (unWE k n L w) := by
  cases w with
  | val d => exact h
  | ty n => exact h
  | fn => exact h
  | dct ds => exact h
  | ref j =>
    obtain ⟨a, h1, h2⟩ := h
    exact ⟨a, ha j a h1, h2⟩
theorem RWs.unE {ct : Cl} {L : Nat} (ha : ∀ (j : Nat) (a : Addr), g'.as[j]? = some a → (g.bkE g' k n).as[upR k n L j]? = some a) : ∀ {vs : List V} {ws : List W}, RWs ct g' H' vs ws → RWs ct (g.bkE g' k n) H' vs (ws.map (unWE k n L))
  | _, _, .nil => .nil
  | _, _, .cons r rs => .cons (RW.unE ha r) (RWs.unE ha rs)
theorem CellAt.unE {ct : Cl} {L : Nat} (ha : ∀ (j : Nat) (a : Addr), g'.as[j]? = Option.some a → (g.bkE g' k n).as[upR k n L j]? = Option.some a) {a : Addr} {m : List Addr} {y : Cell} (q3 : CellAt ct g' H' a m y) : CellAt ct (g.bkE g' k n) H' a m (unCE k n L y) := by
  cases y with
  | lst ds => exact q3
  | frz ds => exact q3
  | pool os => exact q3
  | obj cc ws =>
    obtain ⟨e, Cc, ns, dx, vs, r1, r2, r3, r4⟩ := q3
    exact ⟨e, Cc, ns, dx, vs, r1, r2, r3, RWs.unE ha r4⟩
  | nil => exact q3
theorem Rel.calledE (R : Rel ct B g σ H E C) (hk : k + n ≤ C.length) (kk : Gk (g.wd k n) H g' H') (f : Fr0 (Bs.of (g.wd k n) H) g' H') (c : Clz ct g' H' C') (hl : C'.length = n + e) :
    Gk g H (g.bkE g' k n) H' ∧ Rel ct B (g.bkE g' k n) σ H' E (putWE C C' k n) ∧ ∀ (j : Nat) (a : Addr), g'.as[j]? = some a → (g.bkE g' k n).as[upR k n C.length j]? = some a := by
  have hga : g.as.length = C.length := R.cs.la
  have hgm : g.ms.length = C.length := R.cs.lm
  have lga : g'.as.length = n + e := by rw [c.la]; exact hl
  have lgm : g'.ms.length = n + e := by rw [c.lm]; exact hl
  have has : ∀ (j : Nat) (a : Addr), g'.as[j]? = some a → (g.bkE g' k n).as[upR k n C.length j]? = some a := fun j a h => by
    show (g.as ++ g'.as.drop n)[upR k n C.length j]? = some a
    unfold upR
    by_cases hj : j < n
    · rw [if_pos hj, List.getElem?_append_left (by omega)]
      have hb : (g.wd k n).as[j]? = g.as[j + k]? := by
        show ((g.as.drop k).take n)[j]? = _
        rw [List.getElem?_take, if_pos hj, List.getElem?_drop, Nat.add_comm]
      cases e : g.as[j + k]? with
      | none =>
        rw [List.getElem?_eq_none_iff] at e
        omega
      | some b =>
        rw [e] at hb
        have := kk.as j b hb
        rw [h] at this
        exact this.symm
    · rw [if_neg hj, List.getElem?_append_right (by omega), List.getElem?_drop, hga, show n + (j - n + C.length - C.length) = j by omega]
      exact h
  have k2 : Gk g H (g.bkE g' k n) H' := ⟨kk.kp, fun j a h => by
    show (g.as ++ g'.as.drop n)[j]? = some a
    rw [List.getElem?_append_left (List.getElem?_eq_some_iff.mp h).1]
    exact h, kk.ex⟩
  have nd := R.cs.nd
  rw [flat_wd (ms := g.ms) k n, List.nodup_append] at nd
  obtain ⟨nd1, nd2, nd3⟩ := nd
  rw [List.nodup_append] at nd2
  obtain ⟨nd4, nd5, nd6⟩ := nd2
  have keep : ∀ a o, H a = some o → (∀ ps, o ≠ .tbl ps) → a ∉ (g.wd k n).ms.flatten → H' a = some o := fun a o h hu hm => f.keep a o h hu hm
  have all : ∀ a, (a ∈ (g.ms.take k).flatten ∨ a ∈ (g.ms.drop (k + n)).flatten) → a ∈ g.ms.flatten ∧ a ∉ (g.wd k n).ms.flatten := fun a h => by
    refine ⟨?_, fun hw => ?_⟩
    · rw [flat_wd (ms := g.ms) k n]
      rcases h with h | h
      · exact List.mem_append_left _ h
      · exact List.mem_append_right _ (List.mem_append_right _ h)
    · rcases h with h | h
      · exact nd3 a h a (List.mem_append_left _ hw) rfl
      · exact nd6 a hw a h rfl
  have newM : ∀ a ∈ g'.ms.flatten, a ∈ (g.wd k n).ms.flatten ∨ H a = none := f.newM
  have newF : ∀ a, g'.F a → g.F a ∨ H a = none ∨ a ∈ (g.wd k n).ms.flatten := f.newF
  have split : g'.ms.flatten = (g'.ms.take n).flatten ++ (g'.ms.drop n).flatten := by
    rw [← List.flatten_append, List.take_append_drop]
  have fl : (g.bkE g' k n).ms.flatten = (g.ms.take k).flatten ++ ((g'.ms.take n).flatten ++ ((g.ms.drop (k + n)).flatten ++ (g'.ms.drop n).flatten)) := by
    show (g.ms.take k ++ g'.ms.take n ++ g.ms.drop (k + n) ++ g'.ms.drop n).flatten = _
    rw [List.flatten_append, List.flatten_append, List.flatten_append, List.append_assoc, List.append_assoc]
  have sep : ∀ a, (a ∈ (g.ms.take k).flatten ∨ a ∈ (g.ms.drop (k + n)).flatten) → a ∉ g'.ms.flatten := fun a h hg => by
    obtain ⟨h1, h2⟩ := all a h
    rcases newM a hg with q | q
    · exact h2 q
    · exact R.cs.mutSome a h1 q
  have sepF : ∀ a, (a ∈ (g.ms.take k).flatten ∨ a ∈ (g.ms.drop (k + n)).flatten) → ¬ g'.F a := fun a h hg => by
    obtain ⟨h1, h2⟩ := all a h
    rcases newF a hg with q | q | q
    · exact R.cs.ap a h1 q
    · exact R.cs.mutSome a h1 q
    · exact h2 q
  have wdm : ∀ a, a ∈ (g.wd k n).ms.flatten → a ∈ g.ms.flatten := fun a h => by
    rw [flat_wd (ms := g.ms) k n]
    exact List.mem_append_right _ (List.mem_append_left _ h)
  have inT : ∀ a, a ∈ (g'.ms.take n).flatten → a ∈ g'.ms.flatten := fun a h => by
    rw [split]
    exact List.mem_append_left _ h
  have inD : ∀ a, a ∈ (g'.ms.drop n).flatten → a ∈ g'.ms.flatten := fun a h => by
    rw [split]
    exact List.mem_append_right _ h
  have ndc := c.nd
  rw [split, List.nodup_append] at ndc
  obtain ⟨nc1, nc2, nc3⟩ := ndc
  have out : ∀ (j : Nat) (x : Cell) (a : Addr) (m : List Addr), CellAt ct g H a m x → (∀ b ∈ m, b ∈ (g.ms.take k).flatten ∨ b ∈ (g.ms.drop (k + n)).flatten) → CellAt ct (g.bkE g' k n) H' a m x := fun j x a m q3 hin => by
    exact q3.keep k2 fun b hb => by
      obtain ⟨o, r1, hu⟩ := q3.ob b hb
      rw [r1]
      exact keep b o r1 hu (all b (hin b hb)).2
  refine ⟨k2, R.gk k2 ⟨?_, ?_, fun j x h => ?_, ?_, fun a ha h => ?_, c.lv, c.tb, c.tf⟩ (R.fr.comp ⟨f.kt, fun a o h hu hm => keep a o h hu fun z => hm (wdm a z), f.tl, fun a h => ?_, fun a h => ?_⟩), has⟩
  · show (g.as ++ g'.as.drop n).length = _
    unfold putWE
    simp only [List.length_append, List.length_map, List.length_take, List.length_drop]
    omega
  · show (g.ms.take k ++ g'.ms.take n ++ g.ms.drop (k + n) ++ g'.ms.drop n).length = _
    unfold putWE
    simp only [List.length_append, List.length_map, List.length_take, List.length_drop]
    omega
  · have lt : (C.take k).length = k := by rw [List.length_take]; omega
    have ltm : (g.ms.take k).length = k := by rw [List.length_take]; omega
    have lc : ((C'.take n).map (unCE k n C.length)).length = n := by rw [List.length_map, List.length_take]; omega
    have lcm : (g'.ms.take n).length = n := by rw [List.length_take]; omega
    have ld : (C.drop (k + n)).length = C.length - (k + n) := List.length_drop
    have ldm : (g.ms.drop (k + n)).length = C.length - (k + n) := by rw [List.length_drop, hgm]
    unfold putWE at h
    rw [List.append_assoc, List.append_assoc] at h
    have hms : (g.bkE g' k n).ms = g.ms.take k ++ (g'.ms.take n ++ (g.ms.drop (k + n) ++ g'.ms.drop n)) := by
      show g.ms.take k ++ g'.ms.take n ++ g.ms.drop (k + n) ++ g'.ms.drop n = _
      rw [List.append_assoc, List.append_assoc]
    by_cases h1 : j < k
    · rw [List.getElem?_append_left (by omega), List.getElem?_take, if_pos h1] at h
      obtain ⟨a, m, q1, q2, q3⟩ := R.cs.at_ j x h
      have q2' : (g.ms.take k)[j]? = some m := by rw [List.getElem?_take, if_pos h1]; exact q2
      refine ⟨a, m, k2.as _ _ q1, ?_, out j x a m q3 fun b hb => .inl (mem_flat q2' hb)⟩
      rw [hms, List.getElem?_append_left (by omega)]
      exact q2'
    by_cases h2 : j < k + n
    · rw [List.getElem?_append_right (by omega), lt, List.getElem?_append_left (by omega), List.getElem?_map, List.getElem?_take, if_pos (by omega)] at h
      cases e0 : C'[j - k]? with
      | none =>
        rw [e0] at h
        cases h
      | some y =>
        rw [e0] at h
        cases h
        obtain ⟨a, m, q1, q2, q3⟩ := c.at_ _ y e0
        have hu : upR k n C.length (j - k) = j := by
          unfold upR
          rw [if_pos (by omega)]
          omega
        refine ⟨a, m, by have := has _ a q1; rw [hu] at this; exact this, ?_, CellAt.unE has q3⟩
        rw [hms, List.getElem?_append_right (by omega), ltm, List.getElem?_append_left (by omega), List.getElem?_take, if_pos (by omega)]
        exact q2
    by_cases h3 : j < C.length
    · rw [List.getElem?_append_right (by omega), lt, List.getElem?_append_right (by omega), lc, List.getElem?_append_left (by omega), List.getElem?_drop] at h
      have hj : k + n + (j - k - n) = j := by omega
      rw [hj] at h
      obtain ⟨a, m, q1, q2, q3⟩ := R.cs.at_ j x h
      have hm2 : (g.ms.drop (k + n))[j - k - n]? = some m := by
        rw [List.getElem?_drop, hj]
        exact q2
      refine ⟨a, m, k2.as _ _ q1, ?_, out j x a m q3 fun b hb => .inr (mem_flat hm2 hb)⟩
      rw [hms, List.getElem?_append_right (by omega), ltm, List.getElem?_append_right (by omega), lcm, List.getElem?_append_left (by omega)]
      exact hm2
    · rw [List.getElem?_append_right (by omega), lt, List.getElem?_append_right (by omega), lc, List.getElem?_append_right (by omega), ld, List.getElem?_map, List.getElem?_drop] at h
      cases e0 : C'[n + (j - k - n - (C.length - (k + n)))]? with
      | none =>
        rw [e0] at h
        cases h
      | some y =>
        rw [e0] at h
        cases h
        obtain ⟨a, m, q1, q2, q3⟩ := c.at_ _ y e0
        have hu : upR k n C.length (n + (j - k - n - (C.length - (k + n)))) = j := by
          unfold upR
          rw [if_neg (by omega)]
          omega
        refine ⟨a, m, by have := has _ a q1; rw [hu] at this; exact this, ?_, CellAt.unE has q3⟩
        rw [hms, List.getElem?_append_right (by omega), ltm, List.getElem?_append_right (by omega), lcm, List.getElem?_append_right (by omega), ldm, List.getElem?_drop]
        exact q2
  · rw [fl, List.nodup_append]
    refine ⟨nd1, List.nodup_append.mpr ⟨nc1, List.nodup_append.mpr ⟨nd5, nc2, fun a ha b hb e => sep a (.inr ha) (inD a (by rw [e]; exact hb))⟩, fun a ha b hb e => ?_⟩, fun a ha b hb e => ?_⟩
    · rcases List.mem_append.mp hb with q | q
      · exact sep b (.inr q) (by rw [← e]; exact inT a ha)
      · exact nc3 a ha b q e
    · rcases List.mem_append.mp hb with q | q
      · exact sep a (.inl ha) (by rw [e]; exact inT b q)
      · rcases List.mem_append.mp q with q | q
        · exact nd3 a ha b (List.mem_append_right _ q) e
        · exact sep a (.inl ha) (by rw [e]; exact inD b q)
  · rw [fl, List.mem_append, List.mem_append, List.mem_append] at ha
    rcases ha with q | q | q | q
    · exact sepF a (.inl q) h
    · exact c.ap a (inT a q) h
    · exact sepF a (.inr q) h
    · exact c.ap a (inD a q) h
  · rcases newF a h with q | q | q
    · exact .inl q
    · exact .inr (.inl q)
    · exact .inr (.inr (wdm a q))
  · rw [fl, List.mem_append, List.mem_append, List.mem_append] at h
    have m1 : a ∈ g'.ms.flatten → a ∈ g.ms.flatten ∨ H a = none := fun q => by
      rcases newM a q with z | z
      · exact .inl (wdm a z)
      · exact .inr z
    rcases h with q | q | q | q
    · exact .inl (all a (.inl q)).1
    · exact m1 (inT a q)
    · exact .inl (all a (.inr q)).1
    · exact m1 (inD a q)
end
def callKE (n e m : Nat) (P : DSp) (RX : XD) (Q : DK) (ws : List W) (C1 : List Cell) : Option Nat → Prop
  | some k => ws.length = m ∧ k + n ≤ C1.length ∧ (ws.all (inW k n) && ((C1.drop k).take n).all (inC k n)) = true ∧
    P (ws.map (shW k)) (((C1.drop k).take n).map (shC k)) (fun w C' => Q (unWE k n C1.length w) (putWE C1 C' k n)) fun c ds C' => RX c ds (putW C1 C' k n)
  | none => False
def dCallE (n e m : Nat) (P : DSp) (a : DA) (RX : XD) : DE := fun E C Q => a E C fun ws C1 => callKE n e m P RX Q ws C1 (firstRef ws)
instance ce_callE {ct : Ct} {E : XK} {R : XD} {n e m : Nat} {P : DSp} {E' : XK} {t : TA} {a : DA} [h : CA (ct.w E R) t a] : CE (ct.w E R) (tCall (spE ct n e m P) [] E' t) (dCallE n e m P a X0) := ⟨fun B g σ H Ev C Q K Re k q => by
  refine h.run B g σ H Ev C _ _ Re (fun vs H1 ⟨g1, C1, ws, k1, R1, r1, q1⟩ => ?_) q
  unfold callKE at q1
  dsimp only at q1
  split at q1
  · rename_i j ej
    obtain ⟨e1, e2, e3, q2⟩ := q1
    rw [Bool.and_eq_true] at e3
    rw [List.append_nil]
    refine ⟨g1.wd j n, _, _, _, _, by rw [← e1]; exact Paired.length r1, ?_, R1.cs.wd j n e3.2, r1.wd e3.1, q2, fun v H' g' C' w k' f' c' l' r' q' => ?_, fun _ _ _ _ _ _ _ _ _ _ _ _ z => z.elim⟩
    · rw [List.length_map, List.length_take, List.length_drop]
      omega
    obtain ⟨k2, R2, h2⟩ := R1.calledE e2 k' f' c' l'
    exact k v H' ⟨_, _, _, k1.trans k2, R2, RW.unE h2 r', q'⟩
  · exact q1.elim⟩
/-- a method -/
def dMethE (c : Int) (mn : Str) (n e m : Nat) (P : DSp) (a : DE) (t : DA) : DE := fun E C Q => a E C fun x C1 => isOb c x C1 ∧ mn ∉ clsF c ∧ t E C1 fun ws C2 => callKE n e m P X0 Q (x :: ws) C2 (firstRef (x :: ws))
instance ce_methE {ct : Ct} {E : XK} {R : XD} {n e m : Nat} {P : DSp} {E' : XK} {Ca : Addr} {c : Int} {mn : Str} {te : TE} {t : TA} {ee : DE} {a : DA} [h : CE (ct.w E R) te ee] [h2 : CA (ct.w E R) t a] [hc : ClA ct Ca c] :
    CE (ct.w E R) (tMeth Ca mn (spE ct n e m P) [] E' te t) (dMethE c mn n e m P ee a) := ⟨fun B g σ H Ev C Q K' Re k q => by
  refine h.run B g σ H Ev C _ _ Re (fun v H1 ⟨g1, C1, x, k1, R1, r1, q1⟩ => ?_) q
  obtain ⟨o1, o2, q1⟩ := q1
  obtain ⟨a0, dx, fs, rfl, ho, hn⟩ := isOb_ok (hc := hc) R1.cs r1 o1 o2
  refine ⟨a0, dx, fs, rfl, ho, hn, ?_⟩
  refine h2.run B g1 σ H1 Ev C1 _ _ R1 (fun vs H2 ⟨g2, C2, ws, k2, R2, r2, q2⟩ => ?_) q1
  unfold callKE at q2
  dsimp only at q2
  split at q2
  · rename_i j ej
    obtain ⟨e1, e2, e3, q3⟩ := q2
    rw [Bool.and_eq_true] at e3
    rw [List.append_nil]
    have rr : RWs ct g2 H2 (.ref a0 :: vs) (x :: ws) := .cons (RW.mono k2 r1) r2
    refine ⟨g2.wd j n, _, _, _, _, by rw [← e1]; exact Paired.length rr, ?_, R2.cs.wd j n e3.2, rr.wd e3.1, q3, fun v H' g' C' w k' f' c' l' r' q' => ?_, fun _ _ _ _ _ _ _ _ _ _ _ _ z => z.elim⟩
    · rw [List.length_map, List.length_take, List.length_drop]
      omega
    obtain ⟨k3, R3, h3⟩ := R2.calledE e2 k' f' c' l'
    exact k v H' ⟨_, _, _, k1.trans (k2.trans k3), R3, RW.unE h3 r', q'⟩
  · exact q2.elim⟩
/-- an object whose __init__ is a def of one cell, with new ones behind -/
def mkE (c : Int) (e m : Nat) (P : DSp) (Q : DK) (ws : List W) (C1 : List Cell) : Prop :=
  ws.length + 1 = m ∧ (vals ws).isSome = true ∧ P (.ref 0 :: ws) [.obj c []] (fun w C' => w = .val .none ∧ Q (.ref C1.length) (putWE (C1 ++ [.obj c []]) C' C1.length 1)) X0
def dMakeE (c : Int) (e m : Nat) (P : DSp) (a : DA) : DE := fun E C Q => a E C (mkE c e m P Q)
theorem rws_put {ct : Cl} {g g2 : Gh} {H : Hp} (hF : ∀ a, g.F a → g2.F a) : ∀ {vs : List V} {ws : List W}, RWs ct g H vs ws → (vals ws).isSome = true → RWs ct g2 H vs ws
  | _, _, .nil, _ => .nil
  | _, _, .cons (b := .val d) (l₂ := ws) r rs, h => by
    have h' : ((vals ws).map (d :: ·)).isSome = true := h
    rw [Option.isSome_map] at h'
    exact .cons (RD.mono (F := g.F) ⟨fun _ _ h => h, fun a h => ⟨hF a h, rfl⟩⟩ _ _ r) (rws_put hF rs h')
  | _, _, .cons (b := .ref k) r rs, h => nomatch h
  | _, _, .cons (b := .ty k) r rs, h => nomatch h
  | _, _, .cons (b := .fn ..) r rs, h => nomatch h
  | _, _, .cons (b := .dct ..) r rs, h => nomatch h
instance ce_makeE {ct : Ct} {E : XK} {R : XD} {Ca : Addr} {c : Int} {e m : Nat} {P : DSp} {Ex : XK} {t : TA} {a : DA} [h : CA (ct.w E R) t a] [hc : ClA ct Ca c] : CE (ct.w E R) (tMake Ca (spE ct 1 e m P) [] Ex t) (dMakeE c e m P a) := ⟨fun B g σ H Ev C Q K' Re k q => by
  refine h.run B g σ H Ev C _ _ Re (fun vs H1 ⟨g1, C1, ws, k1, R1, r1, q1⟩ => ?_) q
  obtain ⟨e1, e2, q2⟩ := q1
  intro x dx nx ndx nex
  rw [List.append_nil]
  obtain ⟨k2, R2⟩ := R1.new (o := .own x) false ndx
  have nx2 : upd H1 dx (.own x) x = none := by
    rw [upd_ne (Ne.symm nex)]
    exact nx
  obtain ⟨k3, R3, a3⟩ := R2.ad (o := .ins Ca dx []) (c := .obj c []) nx2 fun kk => ⟨rfl, Ca, clsF c, dx, [], hc.at_, by rw [upd_same]; cases clsF c <;> rfl, Nat.zero_le _, .nil⟩
  have hl1 : g1.as.length = C1.length := R1.cs.la
  have r3 := RWs.mono (k2.trans k3) r1
  refine ⟨((g1.fz false dx).ad x).wd C1.length 1, [.obj c []], .ref 0 :: ws, _, X0, ?_, rfl, ?_, .cons ⟨x, ?_, rfl⟩ (rws_put (ct := ct.cl) (g := (g1.fz false dx).ad x) (g2 := ((g1.fz false dx).ad x).wd C1.length 1) (fun a h => h) r3 e2), q2, fun v H' g' C' w k' f' c' l' r' q' => ?_, fun _ _ _ _ _ _ _ _ _ _ _ _ z => z.elim⟩
  · rw [List.length_cons, Paired.length r1]
    exact e1
  · have := R3.cs.wd C1.length 1 (by rw [List.drop_left]; rfl)
    rw [List.drop_left] at this
    exact this
  · show ((((g1.fz false dx).ad x).as.drop C1.length).take 1)[0]? = some x
    rw [List.getElem?_take, if_pos (by decide), List.getElem?_drop]
    exact a3
  · obtain ⟨rfl, q'⟩ := q'
    obtain rfl : v = .non := by
      cases (show RD ct g'.F H' v .none from r')
      rfl
    refine ⟨rfl, ?_⟩
    obtain ⟨k4, R4, h4⟩ := R3.calledE (k := C1.length) (n := 1) (by rw [List.length_append]; exact Nat.le_refl _) k' f' c' l'
    exact k _ _ ⟨_, _, .ref C1.length, k1.trans (k2.trans (k3.trans k4)), R4, ⟨x, k4.as _ _ a3, rfl⟩, q'⟩⟩
/-! ### texts: join, split, str(n), int(text), a dict of the module -/
def strsD : List D → Option (List Str)
  | [] => some []
  | .str x :: r => (strsD r).map (x :: ·)
  | _ :: _ => none
theorem strsD_ok {ct : Cl} {F : Addr → Prop} {H : Hp} : ∀ {ds : List D} {xs : List V} {ys : List Str}, RDs ct F H xs ds → strsD ds = some ys → xs = ys.map V.str
  | [], _, ys, r, h => by
    cases r
    cases h
    rfl
  | .str x :: ds, _, ys, r, h => by
    cases r with
    | cons r1 r2 =>
      cases e : strsD ds with
      | none =>
        unfold strsD at h
        rw [e] at h
        cases h
      | some zs =>
        unfold strsD at h
        rw [e] at h
        cases h
        cases r1
        rw [strsD_ok r2 e]
        rfl
  | .none :: ds, _, ys, r, h => by cases h
  | .bool _ :: ds, _, ys, r, h => by cases h
  | .int _ :: ds, _, ys, r, h => by cases h
  | .tuple _ :: ds, _, ys, r, h => by cases h
  | .list _ :: ds, _, ys, r, h => by cases h
  | .dict _ :: ds, _, ys, r, h => by cases h
theorem strsD_map (ys : List Str) : strsD (ys.map .str) = some ys := by
  induction ys with
  | nil => rfl
  | cons y ys ih =>
    show (strsD (ys.map .str)).map (y :: ·) = _
    rw [ih]
    rfl
/-- a method of a text -/
def isTx : W → Bool
  | .val (.str _) => true
  | _ => false
theorem isTx_ok {ct : Cl} {g : Gh} {H : Hp} {v : V} {w : W} (r : RW ct g H v w) (h : isTx w = true) : ∃ x, v = .str x ∧ w = .val (.str x) := by
  unfold isTx at h
  split at h
  · exact ⟨_, rw_str r, rfl⟩
  · cases h
def dBMs (f : FM) (o : DE) (a : DA) : DE := fun E C Q => o E C fun x C1 => isTx x = true ∧ a E C1 fun ws C2 => f x ws C2 Q
instance ce_bms {ct : Ct} {K : PySem.W.Frag} {r : V → List V → Hp → VK → Prop} {f : FM} {to : TE} {t : TA} {o : DE} {a : DA} [hr : CM ct r f] [ho : CE ct to o] [ha : CA ct t a] : CE ct (tBM K "str" r to t) (dBMs f o a) := ⟨fun B g σ H E C Q K' R k q => by
  refine ho.run B g σ H E C _ _ R (fun x H1 ⟨g1, C1, xw, k1, R1, r1, q1⟩ => ?_) q
  obtain ⟨h1, q1⟩ := q1
  obtain ⟨z, rfl, rfl⟩ := isTx_ok r1 h1
  refine ⟨rfl, ?_⟩
  refine ha.run B g1 σ H1 E C1 _ _ R1 (fun vs H2 ⟨g2, C2, ws, k2, R2, r2, q2⟩ => ?_) q1
  exact hr.run B g2 σ H2 E C2 Q _ vs _ ws K' R2 (fun v' H' p => k v' H' ((p.back k2).back k1)) (r1.mono k2) r2 q2⟩
def rJoin (K : PySem.W.Frag) : V → List V → Hp → VK → Prop := fun x xs H Q => ∃ a p, ∃ ys : List Str, x = .str a ∧ xs = [.ref p] ∧ (SqL K H p (ys.map V.str) ∨ SqT K H p (ys.map V.str)) ∧ (ys.map (·.length)).sum + ys.length * a.length ≤ 16777216 ∧ Q (.str (Txt.join a ys)) H
theorem mt_joinA {X : Cx} : MtR X "str.join" (rJoin X.K) := mt_join
def joinK (a : Str) (Q : DK) (C : List Cell) : Option (List Str) → Prop
  | some ys => (ys.map (·.length)).sum + ys.length * a.length ≤ 16777216 ∧ Q (.val (.str (Txt.join a ys))) C
  | none => False
def joinQ (a : Str) (Q : DK) (C : List Cell) : Option (List D) → Prop
  | some ds => joinK a Q C (strsD ds)
  | none => False
def fJoin : W → List W → List Cell → DK → Prop
  | .val (.str a), [w], C, Q => joinQ a Q C (rdS C w)
  | _, _, _, _ => False
instance cm_join {ct : Ct} {K : PySem.W.Frag} : CM ct (rJoin K) fJoin := ⟨fun B g σ H E C Q v vs w ws K' R kk r rs q => by
  unfold fJoin at q
  split at q
  · rename_i a w1
    obtain ⟨u, rfl, r1⟩ := rws1 rs
    cases e : rdS C w1 with
    | none =>
      rw [e] at q
      exact q.elim
    | some ds =>
      rw [e] at q
      unfold joinQ at q
      dsimp only at q
      obtain ⟨p, xs, rfl, h1, h2⟩ := rdS_ok (K := K) R.cs r1 e
      cases e2 : strsD ds with
      | none =>
        rw [e2] at q
        exact q.elim
      | some ys =>
        rw [e2] at q
        obtain ⟨hz, q⟩ := q
        cases strsD_ok h2 e2
        exact ⟨a, p, ys, rw_str r, rfl, h1, hz, post_val R (w := .val (.str _)) (.str _) kk q⟩
  · exact q.elim⟩
def rSplit : V → List V → Hp → VK → Prop := fun x xs H Q => ∃ a b, x = .str a ∧ xs = [.str b] ∧ (b.length == 0) = false ∧ a.length + 2 ≤ sizeLine ∧ rNewStrs (Txt.split a b) H Q
theorem mt_splitA {X : Cx} : MtR X "str.split" rSplit := mt_split
def fSplit : W → List W → List Cell → DK → Prop
  | .val (.str a), [.val (.str b)], C, Q => (b.length == 0) = false ∧ a.length + 2 ≤ sizeLine ∧ Q (.val (.list ((Txt.split a b).map .str))) C
  | _, _, _, _ => False
theorem rds_strs {ct : Cl} {F : Addr → Prop} {H : Hp} : ∀ ks : List Str, RDs ct F H (ks.map V.str) (ks.map .str)
  | [] => .nil
  | k :: ks => .cons (.str k) (rds_strs ks)
instance cm_split {ct : Ct} : CM ct rSplit fSplit := ⟨fun B g σ H E C Q v vs w ws K R kk r rs q => by
  unfold fSplit at q
  split at q
  · rename_i a b
    obtain ⟨u, rfl, r1⟩ := rws1 rs
    obtain ⟨h1, h2, q⟩ := q
    exact ⟨a, b, rw_str r, by rw [rw_str r1], h1, h2, fun p hp => post_lst R hp (rds_strs _) kk q⟩
  · exact q.elim⟩
def rStrI : List V → Hp → VK → Prop := fun xs H Q => ∃ i : Int, xs = [.int i] ∧ i.natAbs.log2 < 1920 ∧ Q (.str (toString i)) H
theorem call_strA {X : Cx} : CallR X (.type "str") rStrI := call_str_int
def fStrI : List W → List Cell → DK → Prop
  | [.val (.int i)], C, Q => i.natAbs.log2 < 1920 ∧ Q (.val (.str (toString i))) C
  | _, _, _ => False
instance cc_strI {ct : Ct} : CC ct rStrI fStrI := ⟨fun B g σ H E C Q vs ws K' R k r q => by
  unfold fStrI at q
  split at q
  · obtain ⟨v, rfl, r1⟩ := rws1 r
    exact ⟨_, by rw [rw_int r1], q.1, post_val R (w := .val (.str _)) (.str _) k q.2⟩
  · exact q.elim⟩
def rIntT : List V → Hp → VK → Prop := fun xs H Q => ∃ a n, xs = [.str a] ∧ PySem.intText? a = some n ∧ a.length ≤ 640 ∧ Q (.int n) H
theorem call_intT {X : Cx} : CallR X (.type "int") rIntT := call_int_str
def fIntT : List W → List Cell → DK → Prop
  | [.val (.str a)], C, Q => ∃ n, PySem.intText? a = some n ∧ a.length ≤ 640 ∧ Q (.val (.int n)) C
  | _, _, _ => False
instance cc_intT {ct : Ct} : CC ct rIntT fIntT := ⟨fun B g σ H E C Q vs ws K' R k r q => by
  unfold fIntT at q
  split at q
  · obtain ⟨v, rfl, r1⟩ := rws1 r
    obtain ⟨n, h1, h2, q⟩ := q
    exact ⟨_, n, by rw [rw_str r1], h1, h2, post_val R (w := .val (.int _)) (.int _) k q⟩
  · exact q.elim⟩
/-- a written dict of the module at a written key -/
theorem pe_kdC {X : Cx} {K : PySem.W.Frag} {w : World} {g z : Str} {a : Addr} {v : V} {p p2 pos : Pos} {kk : Nat} (hK : X.K = K) (hw : X.w = w) (hg : Gl X g) (hm : X.mg g = some (.ref a)) (kd : KDct K w a z v) (hd : (g == ("__debug__" : Str)) = false := by decide) :
    PE X (.Subscript (.Name g p) (.Constant (.str z) kk p2) pos) (tC v) := by
  subst hK hw
  exact pe_imp (pe_ix ix_kdict (pe_glob (v := .ref a) hg hm rfl hd) pe_str (fun _ _ => rfl)) (fun σ H Q q => ⟨a, z, v, rfl, rfl, kd, q⟩)
theorem mt_joinC {X : Cx} {K : PySem.W.Frag} (h : X.K = K) : MtR X "str.join" (rJoin K) := h ▸ mt_join
/-! None in a tuple or a list of ints and None -/
def noneD : D → Bool
  | .none => true
  | _ => false
def optD1 : D → Bool
  | .none => true
  | .int _ => true
  | _ => false
theorem noneIn_ok {ct : Cl} {F : Addr → Prop} {H : Hp} : ∀ {ds : List D} {xs : List V}, RDs ct F H xs ds → ds.all optD1 = true → xs.all flatV = true ∧ inV .non xs = ds.any noneD
  | [], _, r, _ => by
    cases r
    exact ⟨rfl, rfl⟩
  | .none :: ds, _, r, h => by
    cases r with
    | cons r1 r2 =>
      cases r1
      obtain ⟨a, b⟩ := noneIn_ok r2 h
      exact ⟨a, rfl⟩
  | .int i :: ds, _, r, h => by
    cases r with
    | cons r1 r2 =>
      cases r1
      obtain ⟨a, b⟩ := noneIn_ok r2 h
      exact ⟨a, b⟩
  | .bool _ :: ds, _, r, h => by cases h
  | .str _ :: ds, _, r, h => by cases h
  | .tuple _ :: ds, _, r, h => by cases h
  | .list _ :: ds, _, r, h => by cases h
  | .dict _ :: ds, _, r, h => by cases h
def rNoneInA (K : PySem.W.Frag) : R2 := rIn K false
theorem op_noneInA {X : Cx} : OpR X (compareOp .In) (rNoneInA X.K) := op_in_seq
def fNoneIn (x y : W) (C : List Cell) (Q : DK) : Prop := x = .val .none ∧ ∃ ds, rdS C y = some ds ∧ ds.all optD1 = true ∧ Q (.val (.bool (ds.any noneD))) C
instance cr_noneIn {ct : Ct} {K : PySem.W.Frag} : CR2 ct (rNoneInA K) fNoneIn := ⟨fun B g σ H E C Q v u x y k R kk rx ry q => by
  obtain ⟨rfl, ds, e, ha, q⟩ := q
  obtain ⟨p, xs, rfl, h1, h2⟩ := rdS_ok (K := K) R.cs ry e
  cases (show RD ct.cl g.F H v .none from rx)
  obtain ⟨a, b⟩ := noneIn_ok h2 ha
  refine ⟨p, xs, rfl, h1, rfl, a, ?_⟩
  rw [if_neg (by decide), b]
  exact post_val R (w := .val (.bool _)) (.bl _) kk q⟩
theorem pe_bmC {X : Cx} {K : PySem.W.Frag} (hK : X.K = K) {T id : String} {name : Str} {o e : Expr} {es : List Expr} {apos cpos : Pos} {r : V → List V → Hp → VK → Prop} {to : TE} {t : TA} (pa : PlainAttrs T) (slot : Slot T name id) (hty : typeOf (.builtin id) = pure (.type "method_descriptor")) (hm : MtR X id r) (ho : PE X o to) (ha : PA X (e :: es) t)
    (hbase : attributeBase o name X.env (eval o X.env) = eval o X.env := by rfl)
    (hfew : ((backTo cpos (starEach (e :: es) X.env)).all (fun x => !x.1) && (backToKw cpos (keywordEach [] X.env)).all (fun x => x.1.isSome)
      && decide ((e :: es).length + ([] : List Keyword).length + (if ([] : List Keyword).isEmpty then 0 else 1) < 30)) = true := by rfl)
    (hline : (apos.endLine == cpos.line) = true := by rfl) (hs : starEach (e :: es) X.env = (false, eval e X.env) :: starEach es X.env := by rfl) (hplain : (backTo cpos (starEach es X.env)).any (·.1) = false := by rfl) :
    PE X (.Call (.Attribute o name apos) (e :: es) [] cpos) (tBM K T r to t) := hK ▸ pe_bm pa slot hty hm ho ha hbase hfew hline hs hplain
/-- the scope of the comprehension that a def returns -/
def lcScope (d : Scope) : List Stmt → Scope
  | [.Return (some (.ListComp _ _ sc _)) _] => sc
  | _ => d
/-! ### isinstance of an exception that has a dict -/
structure ExcD (K : PySem.W.Frag) (D : Addr) : Prop where
  ga : PySem.W.findIn K (.ref D) "__getattribute__" = some (some (.builtin "BaseException.__getattribute__"))
  gt : PySem.W.findIn K (.ref D) "__getattr__" = some none
  ba : PySem.W.subIn K (.ref D) (.type "BaseException") = some true
  di : PySem.W.hasDictIn K D = true
  cl : PySem.W.findIn K (.ref D) "__class__" = some (some (.builtin "object.__class__"))
  sp : PySem.W.specialIn K (.builtin "object.__class__") "__get__" = some (some (.builtin "getset_descriptor.__get__"))
  tk : PySem.W.takesIn K (.builtin "object.__class__") = some true
  ob : PySem.W.mroIn K D (.type "object") = some true
section
open PySem.W PySem.Calls
variable {pr : Program} {wd : World} {Ar : Around} {Er : Value → Shared → Prop} {z : Shared} {K : PySem.W.Frag} {y D : Addr} {oy : Obj} {od : Option Obj}
theorem ecl_has (T : ExcD K D) : (clsIn K D).isSome = true := by
  obtain ⟨cd, hc, _⟩ := any_some T.di
  rw [hc]
  rfl
theorem ecl_obj (T : ExcD K D) : findObj K D od "__class__" = some (.bind (.builtin "getset_descriptor.__get__") (.builtin "object.__class__")) := by
  cases od with
  | none => exact findObj_dataN (ecl_has T) T.cl T.sp T.tk
  | some o => exact findObj_data (ecl_has T) T.cl T.sp T.tk
theorem ecl_get {Qr : Option Value → Shared → Prop} (T : ExcD K D) (KI : K.In z.heap) (J : PySem.W.InstAt z.heap y oy D od) (fin : Qr (some (.ref D)) { z with toks := z.toks + 1 }) :
    wpAny (model pr wd) Ar (getAttr? (.ref y) "__class__") Qr Er z := by
  obtain ⟨hh, gg, dd, tt, oo⟩ := z
  have q1 := J.type (M := model pr wd)
  have q2 := looks_findIn (M := model pr wd) KI T.ga
  have q3 := looks_findIn (M := model pr wd) KI T.gt
  have q4 := looks_find (M := model pr wd) KI J (ecl_obj T)
  have q5 : Looks (model pr wd) hh (isInstance (.ref y) (.type "BaseException")) true := q1.andThen (looks_subIn KI T.ba)
  have n1 : (Value.builtin "BaseException.__getattribute__" == Value.builtin "object.__getattribute__") = false := by decide +kernel
  have n2 : (onTheHeap (Value.ref D) && Value.builtin "BaseException.__getattribute__" == Value.builtin "object.__getattribute__") = false := (congrArg (onTheHeap (Value.ref D) && ·) n1).trans (Bool.and_false _)
  have n3 : (false && onTheHeap (Value.builtin "BaseException.__getattribute__")) = false := rfl
  unfold getAttr? getAttrBy? getAttrBy
  refine wpAny_bind (wpAny_mkText (wpAny_bind (wpAny_attempt (wpAny_holding (wpAny_bind (q1.at (wpAny_bind (q2.at ?_))))))))
  show wpAny _ _ (if (onTheHeap (Value.ref D) && Value.builtin "BaseException.__getattribute__" == Value.builtin "object.__getattribute__") = true then _ else _) _ _ _
  rw [n2]
  rw [if_neg (by decide)]
  unfold getAttrByItsOwn hookBefore
  apply wpAny_bind
  rw [if_pos (by rfl : onTheHeap (Value.ref D) = true)]
  apply q3.at
  refine wpAny_bind (wpAny_attempt (wpAny_holding ?_))
  unfold callGetattribute
  rw [n3]
  rw [if_neg (by decide)]
  unfold boundAndCalled
  rw [PySem.F.excAttr_ValueError.ga.bind (.ref y)]
  refine wpAny_bind (wpAny_pure ?_)
  show wpAny _ _ (call (.builtin "BaseException.__getattribute__") [.ref y, .str "__class__" tt]) _ _ _
  apply wpAny_call
  refine codeAny_call_builtin PySem.F.excAttr_ValueError.ga.plain PySem.F.entry_bexc_ga ?_
  refine @check_slot (model pr wd) _ _ ⟨hh, gg, dd, tt + 1, oo⟩ "BaseException.__getattribute__" "BaseException" "__getattribute__" (.ref y) [.str "__class__" tt] [] _ (by decide +kernel) (by decide +kernel) q5 (PySem.F.args_bexc_ga (.ref y) (.str "__class__" tt)) ?_
  unfold Builtin.«object.__getattribute__»
  refine wpAny_bind (wpAny_of_eq (a := ((Value.ref y : Value), [Value.str "__class__" tt])) (by first | rfl | (simp only [slotArgs]; rfl)) ?_)
  refine wpAny_bind (wpAny_pure (wpAny_bind (q1.at (wpAny_bind (q4.at ?_)))))
  show wpAny _ _ (holding [Value.builtin "object.__class__"] (call (.builtin "getset_descriptor.__get__") [.builtin "object.__class__", .ref y, .ref D]) >>= ret) _ _ _
  refine wpAny_bind (wpAny_holding (wpAny_call (class_get (s := ⟨hh, gg, dd, tt + 1, oo⟩) (ox := oy) (od := od) KI J T.ob ?_)))
  refine wpAny_pure ?_
  show wpAny _ _ (handedOut (.ref D)) _ _ _
  rw [handedOut_of (v := .ref D) rfl]
  first
    | exact wpAny_pure (wpAny_pure fin)
    | exact wpAny_pure fin
    | exact wpAny_pure (wpAny_bind (wpAny_pure (wpAny_pure fin)))
theorem ecl_kit (T : ExcD K D) : KitX K (.ref y) (.ref D) (fun h => PySem.W.InstAt h y oy D od) where
  ty := fun _ _ _ J => J.type
  it := fun _ _ KI _ => by
    obtain ⟨cd, hc, _⟩ := any_some T.di
    unfold clsIn at hc
    split at hc
    · rename_i w1 w2 w3 w4 at_
      intro A2 Q2 E2 z2 k2 fin
      unfold isType loadHead
      exact wpAny_bind (wpAny_loadPart (k2 _ _ (KI _ _ at_)) (wpAny_pure fin))
    · cases hc
  ne := fun h tp dd its n sl KI htp => by
    obtain ⟨cd, hc, _⟩ := any_some T.di
    refine Bool.eq_false_iff.mpr fun bad => ?_
    cases Value.ref.inj (beq_iff_eq.mp bad)
    unfold clsIn at hc
    split at hc
    · rename_i w1 w2 w3 w4 at_
      cases (KI _ _ at_).symm.trans htp
    · cases hc
  ca := fun KI J fin => ecl_get T KI J fin
end
/-! ### in the suite: what the exception is, its fields -/
def rIsX (K : PySem.W.Frag) (D a : Addr) (d : Option Addr) : List V → Hp → VK → Prop := fun xs H Q => ∃ (c : V) (cv : Value) (b : Bool), xs = [.ref a, c] ∧ (∀ u, RelV c u → u = cv) ∧ (∀ dd, d = some dd → ∃ fs, H dd = some (.xd fs)) ∧ PySem.W.kitOne K (.ref D) cv = some b ∧ Q (.bl b) H
theorem call_isX {X : Cx} {a D : Addr} {oe : Obj} {pn : List (Addr × Obj)} {d : Option Addr} (T : ExcD X.K D) (hz : Zc (.ref D) d oe) (hf : ∃ vs, oe.data = .fields vs) : CallR (X.suite a ((a, oe) :: pn)) (.builtin "isinstance") (rIsX X.K D a d) := by
  intro pins s σ H xs us Q I r h
  obtain ⟨c, cv, b, rfl, hcv, hd, e, q⟩ := h
  obtain ⟨u1, u2, rfl, r1, r2⟩ := vals2 r
  cases (show u1 = Value.ref a from r1)
  have eu := hcv _ r2
  subst eu
  obtain ⟨at_, _⟩ := I.pin (a, oe) (List.mem_append_left _ List.mem_cons_self)
  obtain ⟨vs, hv⟩ := hf
  have nc : PySem.W.notCls oe = true := by
    unfold PySem.W.notCls
    rw [hv]
  obtain ⟨z1, z2⟩ := hz
  have go : ∀ od : Option Obj, PySem.W.InstAt s.heap a oe D od → wpAny (model X.prog X.w) (X.suite a ((a, oe) :: pn)).A (call (.builtin "isinstance") [.ref a, u2]) (EP (X.suite a ((a, oe) :: pn)) pins σ Q) (X.suite a ((a, oe) :: pn)).xe s := fun od J =>
    PySem.W.kia_one (ecl_kit T) I.kIn J e (fun z => nomatch z) fun tk => ⟨.bl b, H, I.kept (t' := tk) fun _ _ z => z, rfl, q⟩
  cases d with
  | none => exact go none ⟨at_, z1, nc, by rw [z2]; trivial⟩
  | some dd =>
    obtain ⟨fs, hx⟩ := hd dd rfl
    obtain ⟨mA, hns, _⟩ := (show ObjOk X.prog X.w H s.heap dd (.xd fs) from I.hok dd _ hx)
    obtain ⟨od, ho, _⟩ := lookIn_ns hns
    exact go (some od) ⟨at_, z1, nc, by rw [z2]; exact ho⟩
/-- what stands in the suite -/
def hX (i : Nat) (a : Addr) (cls : Value) (C : Addr) (d : Option Addr) (σ : L2.St) (H : Hp) : Prop := cls = .ref C ∧ σ[i]? = some (some (.ref a)) ∧ ∀ dd, d = some dd → ∃ fs, H dd = some (.xd fs)
def tKn (i : Nat) (a : Addr) (cls : Value) (C : Addr) (d : Option Addr) (b : Bool) : TE := fun σ H Q => hX i a cls C d σ H ∧ Q (.bl b) H
def tKt (i : Nat) (a : Addr) (cls : Value) (C : Addr) (d : Option Addr) (b : Bool) : TT := fun σ H Q => hX i a cls C d σ H ∧ Q b H
theorem pt_imp {X : Cx} {e : Expr} {t t' : TT} (h : PT X e t) (k : ∀ σ H Q, t' σ H Q → t σ H Q) : PT X e t' := ⟨fun pins s σ H Q J q => h.run pins s σ H Q J (k σ H Q q)⟩
theorem pss_imp {X : Cx} {l : List Stmt} {t t' : TS} (h : PSs X l t) (k : ∀ D σ H, t' D σ H → t D σ H) : PSs X l t' := ⟨fun pins s σ H D J q => h.run pins s σ H D J (k D σ H q)⟩
section
variable {X : Cx} {a C : Addr} {oe : Obj} {cls : Value} {d : Option Addr} {pn : List (Addr × Obj)} {i : Nat} {n : Str} {ce : Expr} {cv : V} {ck : Value} {b : Bool} {p p1 pos : Pos}
theorem pe_kn (T : ExcD X.K C) (hz : Zc cls d oe) (hf : ∃ vs, oe.data = .fields vs) (hg : Gl (X.suite a ((a, oe) :: pn)) "isinstance") (hm : X.mg "isinstance" = none) (hn : PE (X.suite a ((a, oe) :: pn)) (.Name n p1) (tVar i)) (hc : PE (X.suite a ((a, oe) :: pn)) ce (tC cv)) (hcv : ∀ u, RelV cv u → u = ck)
    (kit : PySem.W.kitOne X.K (.ref C) ck = some b) (s1 : starEach [.Name n p1, ce] X.env = (false, eval (.Name n p1) X.env) :: starEach [ce] X.env := by rfl) (s2 : starEach [ce] X.env = (false, eval ce X.env) :: starEach [] X.env := by rfl) (pl : (backTo pos (starEach [ce] X.env)).any (·.1) = false := by rfl) :
    PE (X.suite a ((a, oe) :: pn)) (.Call (.Name "isinstance" p) [.Name n p1, ce] [] pos) (tKn i a cls C d b) := by
  refine ⟨fun pins s σ H Q I h => ?_⟩
  obtain ⟨⟨rfl, hs, hd⟩, q⟩ := h
  exact (pe_callB (call_isX T hz hf) hg hm (by rfl) (pa_cons hn (pa_cons hc pa_nil s2) s1) (by decide) (by decide) s1 pl).run pins s σ H Q I ⟨_, hs, cv, ck, b, rfl, hcv, hd, kit, q⟩
theorem pt_kn {e : Expr} (h : PE (X.suite a ((a, oe) :: pn)) e (tKn i a cls C d b)) (he : ∀ whole, isTrue e X.env whole = (do let v ← whole; standAt e.pos; holding [v] (truthy v)) := by intro _; rfl) : PT (X.suite a ((a, oe) :: pn)) e (tKt i a cls C d b) :=
  pt_imp (pt_truth h he) fun σ H Q q => ⟨q.1, b, rfl, q.2⟩
theorem pt_knN {e : Expr} (h : PT (X.suite a ((a, oe) :: pn)) e (tKt i a cls C d b)) : PT (X.suite a ((a, oe) :: pn)) (.UnaryOp .Not e pos) (tKt i a cls C d (!b)) :=
  pt_imp (pt_not h) fun σ H Q q => ⟨q.1, q.2⟩
theorem pw_kn1 {e : Expr} (h : PT (X.suite a ((a, oe) :: pn)) e (tKt i a cls C d b)) : PW (X.suite a ((a, oe) :: pn)) (.BoolOp .Or [e] pos) (tKt i a cls C d b) := pw_or1 h
theorem pw_imp {X : Cx} {e : Expr} {t t' : TT} (h : PW X e t) (k : ∀ σ H Q, t' σ H Q → t σ H Q) : PW X e t' := ⟨fun wh pins s σ H Q J q => h.run wh pins s σ H Q J (k σ H Q q)⟩
theorem pw_knO {e e2 : Expr} {es : List Expr} {b2 : Bool} (h : PT (X.suite a ((a, oe) :: pn)) e (tKt i a cls C d b)) (h2 : PW (X.suite a ((a, oe) :: pn)) (.BoolOp .Or (e2 :: es) pos) (tKt i a cls C d b2)) : PW (X.suite a ((a, oe) :: pn)) (.BoolOp .Or (e :: e2 :: es) pos) (tKt i a cls C d (b || b2)) :=
  pw_imp (pw_or h h2) fun σ H Q q => ⟨q.1, by
    cases b with
    | true => exact q.2
    | false => exact q⟩
/-- if a test that is false: .. ; then what is returned -/
def tHd (i : Nat) (a : Addr) (cls : Value) (C : Addr) (d : Option Addr) (te : TE) : TS := fun D σ H => hX i a cls C d σ H ∧ te σ H D.rt
theorem pss_hd {e r : Expr} {bd : List Stmt} {tb : TS} {te : TE} {p2 p3 : Pos} {bb : Bool} (h : PT (X.suite a ((a, oe) :: pn)) e (tKt i a cls C d bb)) (hb : PSs (X.suite a ((a, oe) :: pn)) bd tb) (hr : PE (X.suite a ((a, oe) :: pn)) r te) (eb : bb = false := by rfl) :
    PSs (X.suite a ((a, oe) :: pn)) [.If e bd [] p2, .Return (some r) p3] (tHd i a cls C d te) := by
  subst eb
  exact pss_imp (pss_cons (ps_if h hb pss_nil) (pss_one (ps_ret hr))) fun D σ H q => ⟨q.1, q.2⟩
end
open LamX
/-! ### try: .. except C as e: what is said of the exception -/
def tTryG (K : PySem.W.Frag) (C : Addr) (i : Nat) (ts : Addr → Value → Option Addr → TS) (tb : XK → TS) : TS := fun D σ H => ∃ Ech : XK, (∀ cls d σ' H', σ'.length = σ.length → Ech cls d H' → wAs K (.ref C) i ts (fun _ _ _ _ => False) D cls d σ' H') ∧ tb Ech D σ H
theorem ps_tryG {X : Cx} {K : PySem.W.Frag} (hK : X.K = K) {C : Addr} {x n : Str} {i : Nat} {body suite : List Stmt} {b0 : Stmt} {tb : XK → TS} {ts : Addr → Value → Option Addr → TS} {p0 p8 pos : Pos} (hs : X.stack = X.env :: X.outer) (hf : X.env.frame = some X.env.locals) (hN : X.N.Nodup) (hi : X.N[i]? = some n) (hln : X.env.kindOf n = some .local) (hc : Names X x (.ref C))
    (hb : ∀ (W : WX) (pn : List (Addr × Obj)) (xe : Value → Shared → Prop) (Ech : XK), Takes (X.tr pn xe) W → (∀ cls d σ' H', σ'.length = X.N.length → Ech cls d H' → W cls d σ' H') → PSs (X.tr pn xe) body (tb Ech))
    (hsu : ∀ (a : Addr) (oe : Obj) (cls : Value) (d : Option Addr) (pn : List (Addr × Obj)), Zc cls d oe → (∃ vs, oe.data = .fields vs) → PSs (X.suite a ((a, oe) :: pn)) (b0 :: suite) (ts a cls d)) :
    PS X (.Try body [.ExceptHandler (some (.Name x p0)) (some n) (b0 :: suite) p8] [] [] pos) (tTryG K C i ts tb) := by
  subst hK
  refine ⟨fun pins s σ H D J q => ?_⟩
  refine (ps_try_as (c := .ref C) (i := i) (tb := fun W D σ H => ∃ Ech : XK, (∀ cls d σ' H', σ'.length = X.N.length → Ech cls d H' → W cls d σ' H') ∧ tb Ech D σ H) (ts := ts) (Wout := fun _ _ _ _ => False) hs hf hN hi hln hc takesF (fun W pn xe tk _ => ?_) hsu).run pins s σ H D J ?_
  · refine ⟨fun pins s σ H D J q => ?_⟩
    obtain ⟨Ech, sub, q⟩ := q
    exact (hb W pn xe Ech tk sub).run pins s σ H D J q
  · obtain ⟨Ech, sub, q⟩ := q
    exact ⟨Ech, fun cls d σ' H' hl h => sub cls d σ' H' (by rw [hl, J.len]) h, q⟩
/-- a class of exceptions that an except clause names: its number, its one field -/
class ExT1 (K : PySem.W.Frag) (ct : Ct) (C : Addr) (c : outParam Int) (f : outParam Str) : Prop where
  at_ : ct.cl.x c = some (C, [f])
  me : PySem.W.exmOne K (.ref C) (.ref C) = some true
instance {K : PySem.W.Frag} {ct : Ct} {C : Addr} {c : Int} {f : Str} {E : XK} {R : XD} [h : ExT1 K ct C c f] : ExT1 K (ct.w E R) C c f := ⟨h.at_, h.me⟩
/-- what a handler does with the exception's field -/
class HS1 (ct : Ct) (C : Addr) (f : Str) (i : Nat) (ts : Addr → Value → Option Addr → TS) (h : outParam (D → DEnds → List Cell → Prop)) : Prop where
  run : ∀ B g H Cs (a dx : Addr) (v : V) (d1 : D) D DD (σ : L2.St), Rel ct B g [] H [] Cs → (∀ w H' g' C' u, Gk g H g' H' → Rel ct B g' [] H' [] C' → RW ct g' H' u w → DD.rt w C' → D.rt u H') → σ[i]? = some (some (.ref a)) → H dx = some (.xd [(f, v)]) → RD ct g.F H v d1 → h d1 DD Cs → ts a (.ref C) (some dx) D σ H
def hRet (d : D) (DD : DEnds) (Cs : List Cell) : Prop := DD.rt (.val d) Cs
instance hs_ret {ct : Ct} {C : Addr} {f : Str} {i : Nat} : HS1 ct C f i (fun a cls d => tHd i a cls C d (tXf a cls d C f (tVar i))) hRet := ⟨fun B g H Cs a dx v d1 D DD σ R e at_ hd r q =>
  ⟨⟨rfl, at_, fun dd e => ⟨[(f, v)], Option.some.inj e ▸ hd⟩⟩, .ref a, at_, rfl, rfl, dx, _, v, rfl, hd, by simp [List.lookup], e (.val d1) H g Cs v (Gk.refl _ _) R r q⟩⟩
def hRet2 (wd : Str) (d : D) (DD : DEnds) (Cs : List Cell) : Prop := DD.rt (.val (.tuple [.str wd, d])) Cs
instance hs_ret2 {ct : Ct} {C : Addr} {f wd : Str} {i : Nat} : HS1 ct C f i (fun a cls d => tHd i a cls C d (tTup (tCons (tC (.str wd)) (tCons (tXf a cls d C f (tVar i)) tNil)))) (hRet2 wd) := ⟨fun B g H Cs a dx v d1 D DD σ R e at_ hd r q => by
  refine ⟨⟨rfl, at_, fun dd e => ⟨[(f, v)], Option.some.inj e ▸ hd⟩⟩, .ref a, at_, rfl, rfl, dx, _, v, rfl, hd, by simp [List.lookup], by show 2 ≤ sizeLine; decide, fun p np => ?_⟩
  obtain ⟨k2, R2⟩ := R.new (o := .tup [.str wd, v]) false np
  exact e (.val (.tuple [.str wd, d1])) _ _ Cs (.ref p) k2 R2 (RD.tup upd_same (.cons (.str _) (.cons (RD.mono k2.kp _ _ r) .nil))) q⟩
def dTryG (i : Nat) (c : Int) (h : D → DEnds → List Cell → Prop) (b : XD → DS) : DS := fun D E C => i < E.length ∧ b (fun c' ds C' => c' = c ∧ ∃ d1, ds = [d1] ∧ h d1 D C') D E C
theorem cs_tryG {ct : Ct} {K : PySem.W.Frag} {C : Addr} {c : Int} {f : Str} {i : Nat} {ts : Addr → Value → Option Addr → TS} {hh : D → DEnds → List Cell → Prop} {tb : XK → TS} {b : XD → DS} [hx : ExT1 K ct C c f] [hs : HS1 ct C f i ts hh] [h : ∀ E R, CS (ct.w E R) (tb E) (b R)] : CS ct (tTryG K C i ts tb) (dTryG i c hh b) := ⟨fun B g σ H E C0 D DD R e q => by
  obtain ⟨hi, q⟩ := q
  refine ⟨fun cls d H' => ∃ g' C' c' ds, Gk g H g' H' ∧ Fr0 (Bs.of g H) g' H' ∧ Clz ct g' H' C' ∧ XV ct g' H' cls d c' ds ∧ c' = c ∧ ∃ d1, ds = [d1] ∧ hh d1 DD C', fun cls d σ' H' hl w => ?_, ?_⟩
  · obtain ⟨g', C', c', ds, k, f', z, xv, rfl, d1, rfl, fin⟩ := w
    obtain ⟨C1, ns, e1, rfl, e2⟩ := xv
    rw [hx.at_] at e1
    cases e1
    rcases e2 with ⟨e2, _⟩ | ⟨dx, vs, rfl, hdx, hlv, rd⟩
    · cases e2
    · obtain ⟨v1, rfl, r1⟩ : ∃ v1, vs = [v1] ∧ RD ct g'.F H' v1 d1 := by
        cases rd with
        | cons a as =>
          cases as
          exact ⟨_, rfl, a⟩
      refine ⟨true, hx.me, fun _ a _ => ?_, fun z => nomatch z⟩
      have at_ : (σ'.set i (some (.ref a)))[i]? = some (some (V.ref a)) := List.getElem?_set_self (by rw [hl, R.len]; exact hi)
      have R1 : Rel ct B g' [] H' [] C' := ⟨fun i w h => (by simp at h), rfl, z, R.fr.comp f', R.gg.trans k, R.xo⟩
      exact hs.run B g' H' C' a dx v1 d1 _ DD _ R1 (fun w H2 g2 C2 u k2 R2 r2 q2 => e.rt u [] H2 g2 [] C2 w (k.trans k2) R2 r2 q2) at_ hdx r1 fin
  · exact (h _ _).run (Bs.of g H) g σ H E C0 D DD ⟨R.env, R.len, R.cs, Fr0.self g H, Gk.refl _ _, fun g' H' C' cls d c ds k f z x w => ⟨g', C', c, ds, k, f, z, x, w⟩⟩
      ⟨fun σ' H' g' E' C' k R' => e.nx σ' H' g' E' C' k (R.anew R'), fun v σ' H' g' E' C' w k R' => e.rt v σ' H' g' E' C' w k (R.anew R'), fun σ' H' g' E' C' k R' => e.bk σ' H' g' E' C' k (R.anew R'), fun σ' H' g' E' C' k R' => e.ct σ' H' g' E' C' k (R.anew R')⟩ q⟩
instance cs_tryGw {ct : Ct} {E0 : XK} {R0 : XD} {K : PySem.W.Frag} {C : Addr} {c : Int} {f : Str} {i : Nat} {ts : Addr → Value → Option Addr → TS} {hh : D → DEnds → List Cell → Prop} {tb : XK → TS} {b : XD → DS} [hx : ExT1 K ct C c f] [hs : HS1 (ct.w E0 R0) C f i ts hh] [h : ∀ E R, CS (ct.w E R) (tb E) (b R)] : CS (ct.w E0 R0) (tTryG K C i ts tb) (dTryG i c hh b) := cs_tryG (ct := ct.w E0 R0) (h := h)
/-! ### an exception as a value -/
def tMkV (C : Addr) (sp : Sp) (ta : TA) : TE := fun σ H Q => ta σ H fun vs H1 => vs.length ≤ 900 ∧ ∀ a, H1 a = none → sp (.ref a :: vs) (upd H1 a (exo a C none)) (fun v H2 => v = .non ∧ Q (.ref a) H2) (fun _ _ _ => False)
section
variable {X : Cx} {e : Expr} {es : List Expr} {ta : TA} {p pos : Pos}
theorem pe_oexV {CX : CXT} {x : Str} {C fI : Addr} {k : Nat} {fd : FuncData} {ps : List Str} {sp : Sp} (T : OexC X.K C) (iC : PySem.W.findIn X.K (.ref C) "__init__" = some (some (.ref fI))) (tI : PySem.W.typeIn X.K (.ref fI) = some (.type "function"))
    (F : FnOk X.prog X.w X.K X.mg X.base CX k fI fd ps sp) (hr : Room (k + 1) X.A) (hb : Binds X.K fd ps []) (hx : Passes CX X (fun _ _ _ => False)) (hg : Gl X x) (hm : X.mg x = some (.ref C)) (ha : PA X (e :: es) ta)
    (hdb : (x == ("__debug__" : Str)) = false := by decide) (he : starEach (e :: es) X.env = (false, eval e X.env) :: starEach es X.env := by rfl) (hpl : (backTo pos (starEach es X.env)).any (·.1) = false := by rfl) :
    PE X (.Call (.Name x p) (e :: es) [] pos) (tMkV C sp ta) := by
  refine ⟨fun pins s σ H Q J q => ?_⟩
  obtain ⟨y1, y2, y3, y4, y5, y6, y7, y8, y9, z0, z1, z2, z3, z4, z5, isC, isV⟩ := T.cls
  apply wpAny_Call_Name_kw
  apply ld_glob J hg hm _ hdb
  apply PySem.W.callWith_K (h₀ := X.base) J.ok.mod.kin T.kC _ he hpl
  refine thn (ha.run pos pins s σ H _ J q) fun us s1 ⟨vs, H1, J1, rv, hz, q1⟩ => ⟨J1.kIn, ?_⟩
  show wpAny _ _ (call (.ref C) us) _ _ _
  obtain ⟨hp, ge, dr, tk, os⟩ := s1
  have le : hp.objs.size ≤ hp.objs.size + 1 := Nat.le_add_right _ _
  have free : H1 (hp.objs.size + 1) = none := J1.hok.fresh le
  have q2 := q1 _ free
  have laid : ((hp.push (PySem.W.kdv_tup us)).push (PySem.HandSPX.excO C hp.objs.size)).get? (hp.objs.size + 1) = some (PySem.HandSPX.excO C hp.objs.size) := by heap_get
  have J2 : Inv X pins σ (upd H1 (hp.objs.size + 1) (exo (hp.objs.size + 1) C none)) ⟨(hp.push (PySem.W.kdv_tup us)).push (PySem.HandSPX.excO C hp.objs.size), ge, dr, tk, os⟩ :=
    J1.laid (t' := tk) (a := hp.objs.size + 1) (h' := (hp.push (PySem.W.kdv_tup us)).push (PySem.HandSPX.excO C hp.objs.size)) (fun _ _ w => Heap.get?_push_of_some _ (Heap.get?_push_of_some _ w)) le (exo_ok laid)
  have rr : Vals (V.ref (hp.objs.size + 1) :: vs) (Value.ref (hp.objs.size + 1) :: us) := .cons rfl rv
  have len : (Value.ref (hp.objs.size + 1) :: us).length = ps.length := rr.length.symm.trans (F.len _ _ _ _ q2)
  have few : us.length ≤ sizeLine := by
    rw [← Paired.length rv]
    rw [sizeLine_eq]
    omega
  apply wpAny_call
  refine PySem.HandSPX.call_own PySem.F.excBase_ValueError (fun Y => PySem.HandSPX.refsVE_contains Y y5 isV) (J1.kIn _ _ isC) (PySem.W.looks_findIn J1.kIn iC) (fun self => PySem.W.bind_fn J1.kIn self tI) few ?_
  refine codeAny_mono (F.run _ X.stack _ _ ⟨Value.ref (hp.objs.size + 1) :: us, []⟩ _ _ _ (fun _ _ _ => False) (hr.make C us []) (J2.env0.make C us []) (by
    have w := hb _ (Value.ref (hp.objs.size + 1) :: us) J2.kIn (by rw [List.append_nil]; exact len)
    rw [List.append_nil] at w
    exact w) rr q2) fun r s' fin => ?_
  rcases r with er | fl
  · exact hx pins σ _ _ er s' J2 fin
  · rcases fl with _ | _ | _ | u
    · exact fin.elim
    · exact fin.elim
    · exact fin.elim
    · obtain ⟨v, H2, o2, b2, un2, hok2, r2, ev, q3⟩ := fin
      subst ev
      have J3 : EP X pins σ Q (Value.ref (hp.objs.size + 1)) s' := J2.after ⟨.ref (hp.objs.size + 1), H2, o2, b2, un2, hok2, rfl, q3⟩
      exact ⟨r2, J3⟩
end
/-- an exception with its dict at hand -/
def exV (H : Hp) (a C dx : Addr) (fs : List (Str × V)) : Prop := H a = some (exo a C (some dx)) ∧ H dx = some (exd dx fs)
theorem exV_at {X : Cx} {pins : List (Addr × Obj)} {σ : L2.St} {H : Hp} {s : Shared} {a C dx : Addr} {fs : List (Str × V)} (J : Inv X pins σ H s) (h : exV H a C dx fs) :
    ∃ (ox od : Obj) (mA : Str → Option Value), PySem.W.InstAt s.heap a ox C (some od) ∧ (∀ n, PySem.W.lookIn n od = some (mA n)) ∧ ∀ f, RelO (fs.lookup f) (mA f) := by
  obtain ⟨t1, w1⟩ := exo_at J.hok h.1
  obtain ⟨mA, ns, rel⟩ := exd_at J.hok h.2
  obtain ⟨od, ho, hl⟩ := lookIn_ns ns
  exact ⟨_, od, mA, ⟨w1, rfl, rfl, ho⟩, hl, rel⟩
def tExf (C : Addr) (f : Str) (te : TE) : TE := fun σ H Q => te σ H fun x H1 => ∃ a dx fs v, x = .ref a ∧ exV H1 a C dx fs ∧ fs.lookup f = some v ∧ Q v H1
theorem pe_exf {X : Cx} {C : Addr} {e : Expr} {te : TE} {pos : Pos} {n : Str} (T : ExcD X.K C) (hno : PySem.W.findIn X.K (.ref C) n = some none) (he : PE X e te) (hb : attributeBase e n X.env (eval e X.env) = eval e X.env := by rfl) : PE X (.Attribute e n pos) (tExf C n te) := by
  refine ⟨fun pins s σ H Q J h => attr_of hb (thn (he.run pins s σ H _ J h) fun u s1 hh => ?_)⟩
  obtain ⟨x, H1, J1, rx, a, dx, fs, v, rfl, hx, l, q⟩ := hh
  obtain rfl : u = Value.ref a := rx
  obtain ⟨ox, od, mA, I, hl, rel⟩ := exV_at J1 hx
  obtain ⟨u1, hu, ru⟩ := RelO.some_of (v := v) (o := mA n) (by rw [← l]; exact rel n)
  exact HandSPX.exc_get J1.kIn I T.ga T.gt T.ba (PySem.W.findObj_own T.di hno rfl (by rw [hl, hu])) (handed_of ru) ⟨v, H1, J1.tok _, ru, q⟩
def rIsV (K : PySem.W.Frag) : List V → Hp → VK → Prop := fun xs H Q => ∃ (a C dx : Addr) (fs : List (Str × V)) (c : V) (cv : Value) (b : Bool), xs = [.ref a, c] ∧ exV H a C dx fs ∧ ExcD K C ∧ (∀ u, RelV c u → u = cv) ∧ PySem.W.kitOne K (.ref C) cv = some b ∧ Q (.bl b) H
theorem call_isV {X : Cx} : CallR X (.builtin "isinstance") (rIsV X.K) := by
  intro pins s σ H xs us Q J r h
  obtain ⟨a, C, dx, fs, c, cv, b, rfl, hx, T, hcv, e, q⟩ := h
  obtain ⟨u1, u2, rfl, r1, r2⟩ := vals2 r
  cases (show u1 = Value.ref a from r1)
  have eu := hcv _ r2
  subst eu
  obtain ⟨ox, od, mA, I, _, _⟩ := exV_at J hx
  exact PySem.W.kia_one (ecl_kit T) J.kIn I e (fun z => nomatch z) fun tk => ⟨.bl b, H, J.kept (t' := tk) fun _ _ z => z, rfl, q⟩
/-! ### a loop's turn lets its new cells go -/
def clrW (n : Nat) : Option W → Option W
  | some w => if wOk n w = true then some w else none
  | none => none
def clr (n : Nat) (E : Ev) : Ev := E.map (clrW n)
def tCut (n : Nat) (t : TS) : TS := t
theorem pss_cut (n : Nat) {X : Cx} {l : List Stmt} {t : TS} (h : PSs X l t) : PSs X l (tCut n t) := h
def dCut (n : Nat) (d : DS) : DS := fun D E C => C.length = n ∧ d { nx := fun E' C' => n ≤ C'.length ∧ (C'.take n).all (cellOk n) = true ∧ D.nx (clr n E') (C'.take n), rt := D.rt } E C
instance cs_cut {ct : Ct} {n : Nat} {t : TS} {d : DS} [h : CS ct t d] : CS ct (tCut n t) (dCut n d) := ⟨fun B g σ H E C D DD R e q => by
  obtain ⟨hl, q⟩ := q
  have hga : g.as.length = n := by rw [R.cs.la, hl]
  refine h.run B g σ H E C D { nx := fun E' C' => n ≤ C'.length ∧ (C'.take n).all (cellOk n) = true ∧ DD.nx (clr n E') (C'.take n), rt := DD.rt } R ⟨fun σ' H' g' E' C' k R' q' => ?_, e.rt, fun _ _ _ _ _ _ _ z => z.elim, fun _ _ _ _ _ _ _ z => z.elim⟩ q
  obtain ⟨q1, q2, q3⟩ := q'
  refine e.nx σ' H' (g'.tk n) (clr n E') _ (k.tk hga) ⟨fun i w hw => ?_, ?_, R'.cs.tk n q2, R'.fr.tk, R.gg.trans (k.tk hga), R'.xo⟩ q3
  · unfold clr at hw
    rw [List.getElem?_map] at hw
    obtain ⟨x, h1, h2⟩ := Option.map_eq_some_iff.mp hw
    cases x with
    | none => cases h2
    | some u =>
      unfold clrW at h2
      dsimp only at h2
      split at h2
      · rename_i hk
        cases h2
        obtain ⟨v, h3, h4⟩ := R'.env i w h1
        exact ⟨v, h3, h4.tk hk⟩
      · cases h2
  · unfold clr
    rw [List.length_map]
    exact R'.len⟩
/-! ### other = C(n); return other.number == n and isinstance(other, B) and C2(n + 1).number == n + 1 -/
def exUp (H : Hp) (C a dx : Addr) (v : V) : Hp := upd (upd H dx (exd dx [("number", v)])) a (exo a C (some dx))
theorem exUp_at {H : Hp} {C a dx : Addr} {v : V} (ne : dx ≠ a) : exV (exUp H C a dx v) a C dx [("number", v)] := ⟨upd_same, by unfold exUp; rw [upd_ne ne, upd_same]⟩
theorem exUp_of {H : Hp} {C a dx : Addr} {v : V} {o : HO} (ne : dx ≠ a) : upd (upd (upd H a o) dx (exd dx [("number", v)])) a (exo a C (some dx)) = exUp H C a dx v := by
  unfold exUp
  funext b
  by_cases e1 : b = a
  · rw [e1, upd_same, upd_same]
  · rw [upd_ne e1, upd_ne e1]
    by_cases e2 : b = dx
    · rw [e2, upd_same, upd_same]
    · rw [upd_ne e2, upd_ne e2, upd_ne e1]
def tExEnd (C1 C2 : Addr) (i j : Nat) : TS := fun D σ H => ∃ n : Int, i < σ.length ∧ i ≠ j ∧ σ[j]? = some (some (.int n)) ∧ ∀ a dx, H a = none → H dx = none → dx ≠ a → ∀ b dy, exUp H C1 a dx (.int n) b = none → exUp H C1 a dx (.int n) dy = none → dy ≠ b → D.rt (.bl true) (exUp (exUp H C1 a dx (.int n)) C2 b dy (.int (n + 1)))
/-- what is known of such a class -/
structure Exc1 (K : PySem.W.Frag) (C CB : Addr) : Prop where
  ox : OexC K C
  no : PySem.W.findIn K (.ref C) "number" = some none
  ed : ExcD K C
  kit : PySem.W.kitOne K (.ref C) (.ref CB) = some true
theorem mk_ex {K : PySem.W.Frag} {C CB : Addr} {H : Hp} {a : Addr} {n : Int} {Q : Hp → Prop} (T : Exc1 K C CB) (na : H a = none) (q : ∀ dx, H dx = none → dx ≠ a → Q (exUp H C a dx (.int n))) :
    spXI K ["number"] [.ref a, .int n] (upd H a (exo a C none)) (fun v H2 => v = .non ∧ Q H2) (fun _ _ _ => False) :=
  ⟨a, C, [.int n], rfl, rfl, upd_same, T.ox, fun f hf => by rw [List.mem_singleton.mp hf]; exact T.no, fun dx nd ne => ⟨rfl, by
    rw [upd_ne ne] at nd
    have w := q dx nd ne
    rw [← exUp_of (o := exo a C none) ne] at w
    exact w⟩⟩
theorem exEnd_imp {K : PySem.W.Frag} {C1 C2 CB : Addr} {i j : Nat} (T1 : Exc1 K C1 CB) (T2 : Exc1 K C2 CB) : ∀ D σ H, tExEnd C1 C2 i j D σ H →
    tSeq (tAsg (tMkV C1 (spXI K ["number"]) (tCons (tVar j) tNil)) (gName i)) (tRet (tAndV (tOp rEq (tExf C1 "number" (tVar i)) (tVar j)) (tAndV (tCB (rIsV K) (tCons (tVar i) (tCons (tC (.ref CB)) tNil)))
      (tOp rEq (tExf C2 "number" (tMkV C2 (spXI K ["number"]) (tCons (tOp (rI0 fun i j => .int (i + j)) (tVar j) (tC (.int 1))) tNil))) (tOp (rI0 fun i j => .int (i + j)) (tVar j) (tC (.int 1))))))) D σ H := by
  rintro D σ H ⟨n, hi, hij, hj, q⟩
  refine ⟨_, hj, by show 1 ≤ 900; decide, fun a na => mk_ex T1 na fun dx nd ne => ?_⟩
  have s1 : (σ.set i (some (V.ref a)))[i]? = some (some (V.ref a)) := List.getElem?_set_self hi
  have s2 : (σ.set i (some (V.ref a)))[j]? = some (some (V.int n)) := by rw [List.getElem?_set_ne hij]; exact hj
  refine ⟨_, s1, a, dx, _, .int n, rfl, exUp_at ne, by simp [List.lookup], _, s2, rfl, _, rfl, ?_⟩
  rw [decide_eq_true rfl, if_pos rfl]
  refine ⟨_, s1, a, C1, dx, _, _, _, _, rfl, exUp_at ne, T1.ed, fun u h => h, T1.kit, _, rfl, ?_⟩
  rw [if_pos rfl]
  refine ⟨_, s2, n, 1, rfl, rfl, by show 1 ≤ 900; decide, fun b nb => mk_ex T2 nb fun dy ndy ne2 => ?_⟩
  refine ⟨b, dy, _, .int (n + 1), rfl, exUp_at ne2, by simp [List.lookup], _, s2, n, 1, rfl, rfl, rfl, ?_⟩
  rw [decide_eq_true rfl]
  exact q a dx na nd ne b dy nb ndy ne2
def dExEnd (i j : Nat) : DS := fun D E C => ∃ n : Int, i < E.length ∧ i ≠ j ∧ E[j]? = some (some (.val (.int n))) ∧ D.rt (.val (.bool true)) C
theorem Rel.ex {ct : Ct} {B : Bs} {g : Gh} {σ : L2.St} {H : Hp} {E : Ev} {C : List Cell} {Ca a dx : Addr} {v : V} (R : Rel ct B g σ H E C) (na : H a = none) (nd : H dx = none) (ne : dx ≠ a) : ∃ g', Gk g H g' (exUp H Ca a dx v) ∧ Rel ct B g' σ (exUp H Ca a dx v) E C := by
  obtain ⟨k1, R1⟩ := R.new (o := exd dx [("number", v)]) false nd
  obtain ⟨k2, R2⟩ := R1.new (p := a) (o := exo a Ca (some dx)) false (by rw [upd_ne (Ne.symm ne)]; exact na)
  exact ⟨_, k1.trans k2, R2⟩
instance cs_exEnd {ct : Ct} {C1 C2 : Addr} {i j : Nat} : CS ct (tExEnd C1 C2 i j) (dExEnd i j) := ⟨fun B g σ H E C D DD R e q => by
  obtain ⟨n, hi, hij, hj, q⟩ := q
  obtain ⟨v, h1, h2⟩ := R.env j _ hj
  cases rw_int h2
  refine ⟨n, by rw [R.len]; exact hi, hij, h1, fun a dx na nd ne b dy nb ndy ne2 => ?_⟩
  obtain ⟨g1, k1, R1⟩ := R.ex (Ca := C1) (v := .int n) na nd ne
  obtain ⟨g2, k2, R2⟩ := R1.ex (Ca := C2) (v := .int (n + 1)) nb ndy ne2
  exact e.rt (.bl true) σ _ g2 E C (.val (.bool true)) (k1.trans k2) R2 (.bl true) q⟩
/-! ### an exception without fields: raise C() -/
structure Xn0 (K : PySem.W.Frag) (mg : Str → Option Value) (x : Str) (C : Addr) : Prop where
  q : PySem.W.excIn K C [.type "ValueError", .type "Exception", .type "BaseException", .type "object"] "ValueError.__new__" = true
  g : mg x = some (.ref C)
  k : PySem.W.keepIn K (.ref C) = true
  b : PySem.W.subIn K (.ref C) (.type "BaseException") = some true
  t : PySem.W.typeIn K (.ref C) = some (.type "type")
theorem pmk_none {X : Cx} {C : Addr} {x : Str} {p pos : Pos} (T : Xn0 X.K X.mg x C) (hg : Gl X x) (hdb : (x == ("__debug__" : Str)) = false := by decide) : PMk X (.Call (.Name x p) [] [] pos) (fun _ H Q => Q (.ref C) none H) := by
  intro pins z σ H Q J fin
  apply wpAny_Call_Name_kw
  apply ld_glob J hg T.g _ hdb
  refine PySem.W.callWith_K0 J.kIn T.k ?_
  obtain ⟨w1, w2, w3, w4, w5, w6, w7, w8, w9, v1, v2, v3, v4, v5, v6, v7, v8, at_, ns, no, tl⟩ := exc_obj J.kIn T.q
  refine wpAny_call_exc_subT PySem.F.excBase_ValueError tl at_ ns no (fun h' e made => ?_) (Nat.zero_le _)
  exact mk_of J made (raises_own T.b T.t) fin (J.hok.gone made.new)
def tRaise0 (C : Addr) (E : XK) : TS := fun _ _ H => E (.ref C) none H
theorem ps_raise0 {P : Program} {w : World} {K : PySem.W.Frag} {mg : Str → Option Value} {base : Heap} {N : List Str} {q : Str} {sc : Scope} {f : Addr} {cd : Value} {A : Around} {outer : List Env} {s : Shared} {H : Hp} {E : XK} {x : Str} {C : Addr} {p pos pos' : Pos}
    (T : Xn0 K mg x C) (hg : Gl (cxOf (L2.CX P w) P w K mg base N q sc f cd A outer s H E) x) (hdb : (x == ("__debug__" : Str)) = false := by decide) :
    PS (cxOf (L2.CX P w) P w K mg base N q sc f cd A outer s H E) (.Raise (some (.Call (.Name x p) [] [] pos)) none pos') (tRaise0 C E) :=
  ps_raise rfl (takes_of rfl rfl rfl rfl) (pmk_none T hg hdb)
/-- a class of exceptions without fields -/
class ExA0 (ct : Ct) (C : Addr) (c : outParam Int) : Prop where
  at_ : ct.cl.x c = some (C, [])
instance {ct : Ct} {C : Addr} {c : Int} {E : XK} {R : XD} [h : ExA0 ct C c] : ExA0 (ct.w E R) C c := ⟨h.at_⟩
def dRaise0 (R : XD) (c : Int) : DS := fun _ _ C => R c [] C
instance cs_raise0 {ct : Ct} {E : XK} {R : XD} {Ca : Addr} {c : Int} [hx : ExA0 ct Ca c] : CS (ct.w E R) (tRaise0 Ca E) (dRaise0 R c) := ⟨fun B g σ H Ev C D DD Re e q =>
  Re.xo _ _ _ (.ref Ca) none c [] Re.gg Re.fr Re.cs ⟨Ca, [], hx.at_, rfl, .inl ⟨rfl, rfl, rfl⟩⟩ q⟩
/-- an except clause that names such a class -/
class ExT0 (K : PySem.W.Frag) (ct : Ct) (C : Addr) (c : outParam Int) : Prop where
  at_ : ct.cl.x c = some (C, [])
  me : PySem.W.exmOne K (.ref C) (.ref C) = some true
instance {K : PySem.W.Frag} {ct : Ct} {C : Addr} {c : Int} {E : XK} {R : XD} [h : ExT0 K ct C c] : ExT0 K (ct.w E R) C c := ⟨h.at_, h.me⟩
class HS0 (ct : Ct) (C : Addr) (i : Nat) (ts : Addr → Value → Option Addr → TS) (h : outParam (DEnds → List Cell → Prop)) : Prop where
  run : ∀ B g H Cs (a : Addr) (d : Option Addr) D DD (σ : L2.St), (∀ dd, d = some dd → ∃ fs, H dd = some (.xd fs)) → Rel ct B g [] H [] Cs → (∀ w H' g' C' u, Gk g H g' H' → Rel ct B g' [] H' [] C' → RW ct g' H' u w → DD.rt w C' → D.rt u H') → σ[i]? = some (some (.ref a)) → h DD Cs → ts a (.ref C) d D σ H
/-- return isinstance(e, A) and not isinstance(e, B) -/
def tHd2 (i : Nat) (a : Addr) (cls : Value) (C : Addr) (d : Option Addr) : TS := fun D σ H => hX i a cls C d σ H ∧ D.rt (.bl true) H
theorem pss_hd2 {X : Cx} {a C : Addr} {oe : Obj} {cls : Value} {d : Option Addr} {pn : List (Addr × Obj)} {i : Nat} {e1 e2 : Expr} {p1 p2 p3 : Pos} {b1 b2 : Bool} (h1 : PE (X.suite a ((a, oe) :: pn)) e1 (tKn i a cls C d b1)) (h2 : PE (X.suite a ((a, oe) :: pn)) (.UnaryOp .Not e2 p1) (tKn i a cls C d b2)) (eb : (b1, b2) = (true, true) := by rfl) :
    PSs (X.suite a ((a, oe) :: pn)) [.Return (some (.BoolOp .And [e1, .UnaryOp .Not e2 p1] p2)) p3] (tHd2 i a cls C d) := by
  obtain ⟨rfl, rfl⟩ := Prod.mk.inj eb
  exact pss_imp (pss_one (ps_ret (pe_and h1 (pe_one h2)))) fun D σ H q => ⟨q.1, true, rfl, q.1, q.2⟩
theorem pe_knN {X : Cx} {a C : Addr} {oe : Obj} {cls : Value} {d : Option Addr} {pn : List (Addr × Obj)} {i : Nat} {e2 : Expr} {p1 : Pos} {b : Bool} (h : PE (X.suite a ((a, oe) :: pn)) e2 (tKn i a cls C d b)) : PE (X.suite a ((a, oe) :: pn)) (.UnaryOp .Not e2 p1) (tKn i a cls C d (!b)) :=
  pe_imp (pe_not h) fun σ H Q q => ⟨q.1, b, rfl, q.2⟩
instance hs_ret0 {ct : Ct} {C : Addr} {i : Nat} : HS0 ct C i (fun a cls d => tHd2 i a cls C d) (fun DD Cs => DD.rt (.val (.bool true)) Cs) := ⟨fun B g H Cs a d D DD σ hd R e at_ q =>
  ⟨⟨rfl, at_, hd⟩, e (.val (.bool true)) H g Cs (.bl true) (Gk.refl _ _) R (.bl true) q⟩⟩
def dTryG0 (i : Nat) (c : Int) (h : DEnds → List Cell → Prop) (b : XD → DS) : DS := fun D E C => i < E.length ∧ b (fun c' ds C' => c' = c ∧ ds = [] ∧ h D C') D E C
theorem cs_tryG0 {ct : Ct} {K : PySem.W.Frag} {C : Addr} {c : Int} {i : Nat} {ts : Addr → Value → Option Addr → TS} {hh : DEnds → List Cell → Prop} {tb : XK → TS} {b : XD → DS} [hx : ExT0 K ct C c] [hs : HS0 ct C i ts hh] [h : ∀ E R, CS (ct.w E R) (tb E) (b R)] : CS ct (tTryG K C i ts tb) (dTryG0 i c hh b) := ⟨fun B g σ H E C0 D DD R e q => by
  obtain ⟨hi, q⟩ := q
  refine ⟨fun cls d H' => ∃ g' C' c' ds, Gk g H g' H' ∧ Fr0 (Bs.of g H) g' H' ∧ Clz ct g' H' C' ∧ XV ct g' H' cls d c' ds ∧ c' = c ∧ ds = [] ∧ hh DD C', fun cls d σ' H' hl w => ?_, ?_⟩
  · obtain ⟨g', C', c', ds, k, f', z, xv, rfl, rfl, fin⟩ := w
    obtain ⟨C1, ns, e1, rfl, e2⟩ := xv
    rw [hx.at_] at e1
    cases e1
    have hd : ∀ dd, d = some dd → ∃ fs, H' dd = some (.xd fs) := fun dd ed => by
      rcases e2 with ⟨_, _, e2⟩ | ⟨dx, vs, e2, hdx, hlv, rd⟩
      · rw [e2] at ed
        cases ed
      · rw [e2] at ed
        cases ed
        exact ⟨_, hdx⟩
    refine ⟨true, hx.me, fun _ a _ => ?_, fun z => nomatch z⟩
    have at_ : (σ'.set i (some (.ref a)))[i]? = some (some (V.ref a)) := List.getElem?_set_self (by rw [hl, R.len]; exact hi)
    have R1 : Rel ct B g' [] H' [] C' := ⟨fun i w h => (by simp at h), rfl, z, R.fr.comp f', R.gg.trans k, R.xo⟩
    exact hs.run B g' H' C' a d _ DD _ hd R1 (fun w H2 g2 C2 u k2 R2 r2 q2 => e.rt u [] H2 g2 [] C2 w (k.trans k2) R2 r2 q2) at_ fin
  · exact (h _ _).run (Bs.of g H) g σ H E C0 D DD ⟨R.env, R.len, R.cs, Fr0.self g H, Gk.refl _ _, fun g' H' C' cls d c ds k f z x w => ⟨g', C', c, ds, k, f, z, x, w⟩⟩
      ⟨fun σ' H' g' E' C' k R' => e.nx σ' H' g' E' C' k (R.anew R'), fun v σ' H' g' E' C' w k R' => e.rt v σ' H' g' E' C' w k (R.anew R'), fun σ' H' g' E' C' k R' => e.bk σ' H' g' E' C' k (R.anew R'), fun σ' H' g' E' C' k R' => e.ct σ' H' g' E' C' k (R.anew R')⟩ q⟩
theorem cs_tryG0w {ct : Ct} {E0 : XK} {R0 : XD} {K : PySem.W.Frag} {C : Addr} {c : Int} {i : Nat} {ts : Addr → Value → Option Addr → TS} {hh : DEnds → List Cell → Prop} {tb : XK → TS} {b : XD → DS} [hx : ExT0 K ct C c] [hs : HS0 (ct.w E0 R0) C i ts hh] [h : ∀ E R, CS (ct.w E R) (tb E) (b R)] : CS (ct.w E0 R0) (tTryG K C i ts tb) (dTryG0 i c hh b) := cs_tryG0 (ct := ct.w E0 R0) (h := h)
/-! ### return C(n).number == n -/
def tExRet (C1 : Addr) (j : Nat) : TS := fun D σ H => ∃ n : Int, σ[j]? = some (some (.int n)) ∧ ∀ a dx, H a = none → H dx = none → dx ≠ a → D.rt (.bl true) (exUp H C1 a dx (.int n))
theorem exRet_imp {K : PySem.W.Frag} {C1 CB : Addr} {j : Nat} (T1 : Exc1 K C1 CB) : ∀ D σ H, tExRet C1 j D σ H → tRet (tOp rEq (tExf C1 "number" (tMkV C1 (spXI K ["number"]) (tCons (tVar j) tNil))) (tVar j)) D σ H := by
  rintro D σ H ⟨n, hj, q⟩
  refine ⟨_, hj, by show 1 ≤ 900; decide, fun a na => mk_ex T1 na fun dx nd ne => ?_⟩
  refine ⟨a, dx, _, .int n, rfl, exUp_at ne, by simp [List.lookup], _, hj, rfl, ?_⟩
  rw [decide_eq_true rfl]
  exact q a dx na nd ne
def dExRet (j : Nat) : DS := fun D E C => ∃ n : Int, E[j]? = some (some (.val (.int n))) ∧ D.rt (.val (.bool true)) C
instance cs_exRet {ct : Ct} {C1 : Addr} {j : Nat} : CS ct (tExRet C1 j) (dExRet j) := ⟨fun B g σ H E C D DD R e q => by
  obtain ⟨n, hj, q⟩ := q
  obtain ⟨v, h1, h2⟩ := R.env j _ hj
  cases rw_int h2
  refine ⟨n, h1, fun a dx na nd ne => ?_⟩
  obtain ⟨g1, k1, R1⟩ := R.ex (Ca := C1) (v := .int n) na nd ne
  exact e.rt (.bl true) σ _ g1 E C (.val (.bool true)) k1 R1 (.bl true) q⟩
/-! ### str of an int or of a text -/
def rStrB : List V → Hp → VK → Prop := fun xs H Q => rStrI xs H Q ∨ ∃ a, xs = [.str a] ∧ Q (.str a) H
theorem call_strB {X : Cx} : CallR X (.type "str") rStrB := call_str_int.or SkE.call_str_str
def fStrB : List W → List Cell → DK → Prop
  | [.val (.int i)], C, Q => i.natAbs.log2 < 1920 ∧ Q (.val (.str (toString i))) C
  | [.val (.str a)], C, Q => Q (.val (.str a)) C
  | _, _, _ => False
instance cc_strB {ct : Ct} : CC ct rStrB fStrB := ⟨fun B g σ H E C Q vs ws K' R k r q => by
  unfold fStrB at q
  split at q
  · obtain ⟨v, rfl, r1⟩ := rws1 r
    exact .inl ⟨_, by rw [rw_int r1], q.1, post_val R (w := .val (.str _)) (.str _) k q.2⟩
  · obtain ⟨v, rfl, r1⟩ := rws1 r
    exact .inr ⟨_, by rw [rw_str r1], post_val R (w := .val (.str _)) (.str _) k q⟩
  · exact q.elim⟩
/-! ### a dict of the module, ints at texts, read at a key that is reckoned -/
def KInts (K : PySem.W.Frag) (w : World) (a : Addr) (tb : List (Str × Int)) : Prop := ∀ p ∈ tb, KDct K w a p.1 (.int p.2)
def rKdI (a : Addr) (tb : List (Str × Int)) : R2 := fun x y H Q => x = .ref a ∧ ∃ z n, y = .str z ∧ (z, n) ∈ tb ∧ Q (.int n) H
theorem ix_kdI {X : Cx} {K : PySem.W.Frag} {w : World} {a : Addr} {tb : List (Str × Int)} (hK : X.K = K) (hw : X.w = w) (kd : KInts K w a tb) : IxR X (rKdI a tb) := by
  subst hK hw
  intro v1 v2 pins s σ H x y v u Q I rx ry h hs
  obtain ⟨rfl, z, n, rfl, hm, q⟩ := h
  exact ix_kdict v1 v2 pins s σ H _ _ v u Q I rx ry ⟨a, z, .int n, rfl, rfl, kd _ hm, q⟩ hs
def dKdI (tb : List (Str × Int)) (e : DE) : DE := fun E C Q => e E C fun w C1 => ∃ z n, w = .val (.str z) ∧ (z, n) ∈ tb ∧ Q (.val (.int n)) C1
instance ce_kdI {ct : Ct} {a : Addr} {tb : List (Str × Int)} {te : TE} {e : DE} [h : CE ct te e] : CE ct (tOp (rKdI a tb) (tC (.ref a)) te) (dKdI tb e) := ⟨fun B g σ H E C Q K' R k q => by
  refine h.run B g σ H E C _ _ R (fun v H1 ⟨g1, C1, w, k1, R1, r1, q1⟩ => ?_) q
  obtain ⟨z, n, rfl, hm, q1⟩ := q1
  exact ⟨rfl, z, n, rw_str r1, hm, post_val R1 (w := .val (.int _)) (.int _) (fun v' H' p => k v' H' (p.back k1)) q1⟩⟩
/-! ### lists that data name by their addresses: the pool -/
abbrev Pool := Addr → Option (List D)
abbrev prf (a : Addr) : D := .dict [(.none, .int (a : Nat))]
def upP (f : Pool) (a : Addr) (ds : List D) : Pool := fun b => if b = a then some ds else f b
theorem upP_same {f : Pool} {a : Addr} {ds : List D} : upP f a ds a = some ds := if_pos rfl
theorem upP_ne {f : Pool} {a b : Addr} {ds : List D} (h : b ≠ a) : upP f a ds b = f b := if_neg h
def nilP : Pool := fun _ => none
def poolIx : List Cell → Option Nat
  | [] => none
  | .pool _ :: _ => some 0
  | .lst _ :: r => (poolIx r).map (· + 1)
  | .frz _ :: r => (poolIx r).map (· + 1)
  | .obj _ _ :: r => (poolIx r).map (· + 1)
  | .nil :: r => (poolIx r).map (· + 1)
def poolOf : List Cell → Pool
  | [] => nilP
  | .pool f :: _ => f
  | .lst _ :: r => poolOf r
  | .frz _ :: r => poolOf r
  | .obj _ _ :: r => poolOf r
  | .nil :: r => poolOf r
def setPool : List Cell → Pool → List Cell
  | [], _ => []
  | .pool _ :: r, f => .pool f :: r
  | .lst ds :: r, f => .lst ds :: setPool r f
  | .frz ds :: r, f => .frz ds :: setPool r f
  | .obj c ws :: r, f => .obj c ws :: setPool r f
  | .nil :: r, f => .nil :: setPool r f
def hasPool : List Cell → Bool
  | [] => false
  | .pool _ :: _ => true
  | .lst _ :: r => hasPool r
  | .frz _ :: r => hasPool r
  | .obj _ _ :: r => hasPool r
  | .nil :: r => hasPool r
theorem pool_at : ∀ {C : List Cell}, hasPool C = true → ∃ j, poolIx C = some j ∧ C[j]? = some (.pool (poolOf C)) ∧ ∀ f, setPool C f = C.set j (.pool f)
  | [], h => nomatch h
  | .pool f :: r, _ => ⟨0, rfl, rfl, fun _ => rfl⟩
  | .lst ds :: r, h => by
    obtain ⟨j, h1, h2, h3⟩ := pool_at (C := r) h
    exact ⟨j + 1, by show (poolIx r).map (· + 1) = _; rw [h1]; rfl, h2, fun f => congrArg (Cell.lst ds :: ·) (h3 f)⟩
  | .frz ds :: r, h => by
    obtain ⟨j, h1, h2, h3⟩ := pool_at (C := r) h
    exact ⟨j + 1, by show (poolIx r).map (· + 1) = _; rw [h1]; rfl, h2, fun f => congrArg (Cell.frz ds :: ·) (h3 f)⟩
  | .obj c ws :: r, h => by
    obtain ⟨j, h1, h2, h3⟩ := pool_at (C := r) h
    exact ⟨j + 1, by show (poolIx r).map (· + 1) = _; rw [h1]; rfl, h2, fun f => congrArg (Cell.obj c ws :: ·) (h3 f)⟩
  | .nil :: r, h => by
    obtain ⟨j, h1, h2, h3⟩ := pool_at (C := r) h
    exact ⟨j + 1, by show (poolIx r).map (· + 1) = _; rw [h1]; rfl, h2, fun f => congrArg (Cell.nil :: ·) (h3 f)⟩
theorem hasPool_of : ∀ {C : List Cell} {a : Addr} {ds : List D}, poolOf C a = some ds → hasPool C = true
  | [], _, _, h => nomatch h
  | .pool f :: r, _, _, _ => rfl
  | .lst _ :: r, _, _, h => hasPool_of (C := r) h
  | .frz _ :: r, _, _, h => hasPool_of (C := r) h
  | .obj _ _ :: r, _, _, h => hasPool_of (C := r) h
  | .nil :: r, _, _, h => hasPool_of (C := r) h
section
variable {ct : Ct} {B : Bs} {g g' : Gh} {σ : L2.St} {H H' : Hp} {E : Ev} {C C' : List Cell}
/-- a cell is written at one of its places -/
theorem Rel.putM {a a0 : Addr} {o : HO} {k : Nat} {m : List Addr} {c c' : Cell} (R : Rel ct B g σ H E C) (hc : C[k]? = some c) (ha : g.as[k]? = some a0) (hm : g.ms[k]? = some m) (hca : CellAt ct g H a0 m c) (hin0 : a ∈ m)
    (new : Gk g H g (upd H a o) → CellAt ct g (upd H a o) a0 m c') : Gk g H g (upd H a o) ∧ Rel ct B g σ (upd H a o) E (C.set k c') := by
  have hin : a ∈ g.ms.flatten := mem_flat hm hin0
  have hF : ¬ g.F a := R.cs.ap a hin
  have hob : (∃ xs, H a = some (.lst xs)) ∨ ∃ C' dx fs, H a = some (.ins C' dx fs) := hca.li a hin0
  have ht : ∀ xs, H a ≠ some (.tup xs) := fun xs z => by
    rcases hob with ⟨ys, e⟩ | ⟨_, _, _, e⟩ <;> rw [e] at z <;> cases z
  have kk : Gk g H g (upd H a o) := ⟨⟨fun b xs h => by rw [upd_ne (fun e => ht xs (by rw [← e]; exact h))]; exact h, fun b h => ⟨h, upd_ne fun e => hF (by rw [← e]; exact h)⟩⟩, fun _ _ h => h, fun c q h => by
    rw [upd_ne fun e => ?_]
    · exact h
    · rw [e] at h
      rcases hob with ⟨xs, z⟩ | ⟨C', dx, fs, z⟩
      · rw [z] at h
        exact codeO_lst (Option.some.inj h).symm
      · rw [z] at h
        exact codeO_ins (Option.some.inj h).symm⟩
  have hk : k < C.length := (List.getElem?_eq_some_iff.mp hc).1
  refine ⟨kk, R.gk kk ⟨by rw [List.length_set]; exact R.cs.la, by rw [List.length_set]; exact R.cs.lm, fun j x h => ?_, R.cs.nd, R.cs.ap, fun b h => ?_, tabs_ext2 R.cs.tb fun b u h n1 n2 => ?_, R.cs.tf⟩ ⟨fun b xs h => kk.kp.1 b xs (R.fr.kt b xs h), fun b u h hu hb => ?_, fun b ps h => ?_, R.fr.newF, R.fr.newM⟩⟩
  · by_cases e : k = j
    · subst e
      rw [List.getElem?_set_self hk] at h
      cases h
      exact ⟨a0, m, ha, hm, new kk⟩
    · rw [List.getElem?_set_ne e] at h
      obtain ⟨a', m', h1, h2, h3⟩ := R.cs.at_ j x h
      exact ⟨a', m', h1, h2, h3.keep kk fun b hb => upd_ne fun e2 => flat_apart R.cs.nd hm h2 e hin0 (by rw [← e2]; exact hb)⟩
  · rw [(kk.kp.2 b h).2]
    exact R.cs.lv b h
  · rw [upd_ne fun e => ?_]
    · exact h
    · rw [e] at h
      rcases hob with ⟨xs, z⟩ | ⟨C', dx, fs, z⟩
      · rw [z] at h
        exact n1 _ (Option.some.inj h).symm
      · rw [z] at h
        exact n2 _ _ _ (Option.some.inj h).symm
  · by_cases e : b = a
    · rw [e] at hb
      rcases R.fr.newM a hin with q | q
      · exact absurd q hb
      · rw [e, q] at h
        cases h
    · rw [upd_ne e]
      exact R.fr.keep b u h hu hb
  · obtain ⟨qs, h2⟩ := R.fr.tl b ps h
    refine ⟨qs, ?_⟩
    rw [upd_ne fun e => ?_]
    · exact h2
    · rw [e] at h2
      rcases hob with ⟨xs, z⟩ | ⟨C', dx, fs, z⟩ <;> rw [z] at h2 <;> cases h2
/-- a list of the pool, as it stands -/
theorem pool_get {ct : Cl} (c : Clz ct g H C) {a : Addr} {ds : List D} (h : poolOf C a = some ds) : ∃ (j : Nat) (a0 : Addr) (m : List Addr) (xs : List V), C[j]? = some (.pool (poolOf C)) ∧ (∀ f, setPool C f = C.set j (.pool f)) ∧ g.as[j]? = some a0 ∧ g.ms[j]? = some m ∧ CellAt ct g H a0 m (.pool (poolOf C)) ∧ a ∈ m ∧ H a = some (.lst xs) ∧ RDs ct g.F H xs ds := by
  obtain ⟨j, h1, h2, h3⟩ := pool_at (hasPool_of h)
  obtain ⟨a0, m, q1, q2, q3⟩ := c.at_ j _ h2
  obtain ⟨e, hs⟩ := id q3
  obtain ⟨xs, w1, w2⟩ := hs a ds h
  exact ⟨j, a0, m, xs, h2, h3, q1, q2, q3, (e a).mpr (by rw [h]; exact fun z => nomatch z), w1, w2⟩
theorem rw_prf {ct : Cl} {v : V} {i : Int} (r : RW ct g H v (.val (.dict [(.none, .int i)]))) : ∃ a : Addr, v = .ref a ∧ i = ((a : Nat) : Int) := by
  cases (show RD ct g.F H v (.dict [(.none, .int i)]) from r) with
  | prf a => exact ⟨a, rfl, rfl⟩
/-! ### index -/
def prfD : D → Option Addr
  | .dict [(.none, .int i)] => some i.toNat
  | _ => none
def prfW : W → Option Addr
  | .val d => prfD d
  | _ => none
theorem prfW_some {x : W} {a : Addr} (h : prfW x = some a) : ∃ i : Int, x = .val (.dict [(.none, .int i)]) ∧ i.toNat = a := by
  unfold prfW at h
  split at h
  · unfold prfD at h
    split at h
    · exact ⟨_, rfl, Option.some.inj h⟩
    · cases h
  · cases h
def ixPK (C : List Cell) (Q : DK) (a : Addr) : W → Prop
  | .val (.int j) => ixL Q j (poolOf C a) C
  | _ => False
def fIxP (x y : W) (C : List Cell) (Q : DK) : Prop := match prfW x with
  | some a => ixPK C Q a y
  | none => fIx x y C Q
theorem ixP (a : Addr) (j : Int) (C : List Cell) (Q : DK) : fIxP (.val (prf a)) (.val (.int j)) C Q = ixL Q j (poolOf C a) C := rfl
theorem ixP_tup (ds : List D) (y : W) (C : List Cell) (Q : DK) : fIxP (.val (.tuple ds)) y C Q = fIx (.val (.tuple ds)) y C Q := rfl
theorem ixP_lst (ds : List D) (y : W) (C : List Cell) (Q : DK) : fIxP (.val (.list ds)) y C Q = fIx (.val (.list ds)) y C Q := rfl
theorem ixP_str (s : Str) (y : W) (C : List Cell) (Q : DK) : fIxP (.val (.str s)) y C Q = fIx (.val (.str s)) y C Q := rfl
theorem ixP_ref (k : Nat) (y : W) (C : List Cell) (Q : DK) : fIxP (.ref k) y C Q = fIx (.ref k) y C Q := rfl
def rIxP (K : PySem.W.Frag) : R2 := rIx K
instance cr_ixP {K : PySem.W.Frag} : CR2 ct (rIxP K) fIxP := ⟨fun B g σ H E C Q v u x y k R kk rx ry q => by
  unfold fIxP at q
  split at q
  · rename_i a0 e0
    obtain ⟨i0, rfl, rfl⟩ := prfW_some e0
    unfold ixPK at q
    split at q
    case h_2 => exact q.elim
    obtain ⟨a, rfl, rfl⟩ := rw_prf rx
    unfold ixL at q
    split at q
    · rename_i ds e
      obtain ⟨j0, a0, m, xs, _, _, _, _, _, _, w1, w2⟩ := pool_get R.cs (a := a) e
      obtain ⟨v', h3, h4⟩ := ixK_ok R kk w2 q
      exact .inl ⟨a, xs, _, v', rfl, rw_int ry, SqL.of w1, h3, h4⟩
    · exact q.elim
  · exact (cr_ix (K := K)).run B g σ H E C Q v u x y k R kk rx ry q⟩
theorem ix_seqP {X : Cx} : IxR X (rIxP X.K) := ix_seq
/-! ### a place is written -/
theorem Rel.writeP {a : Addr} {ds es : List D} {ys : List V} (R : Rel ct B g σ H E C) (h : poolOf C a = some ds) (r : RDs ct g.F H ys es) :
    Gk g H g (upd H a (.lst ys)) ∧ Rel ct B g σ (upd H a (.lst ys)) E (setPool C (upP (poolOf C) a es)) := by
  obtain ⟨j, a0, m, xs, hj, hset, ha, hm, hca, hin, w1, w2⟩ := pool_get R.cs h
  rw [hset]
  refine R.putM hj ha hm hca hin fun kk => ⟨fun b => ?_, fun b d hb => ?_⟩
  · by_cases e : b = a
    · subst e
      exact ⟨fun _ => by rw [upP_same]; exact (fun z => nomatch z), fun _ => hin⟩
    · rw [upP_ne e]
      exact hca.1 b
  · by_cases e : b = a
    · subst e
      rw [upP_same] at hb
      cases hb
      exact ⟨ys, upd_same, RDs.mono kk.kp _ _ r⟩
    · rw [upP_ne e] at hb
      obtain ⟨zs, z1, z2⟩ := hca.2 b d hb
      exact ⟨zs, (upd_ne e).trans z1, RDs.mono kk.kp _ _ z2⟩
def subP2 (E : Ev) (Q : Ev → List Cell → Prop) (a : Addr) (ds : List D) (d : D) : Option Nat → List Cell → Prop
  | some m, C => Q E (setPool C (upP (poolOf C) a (ds.set m d)))
  | none, _ => False
def subP1 (E : Ev) (Q : Ev → List Cell → Prop) (a : Addr) (j : Int) (d : D) : Option (List D) → List Cell → Prop
  | some ds, C => subP2 E Q a ds d (ixN ds.length j) C
  | none, _ => False
def subP0 (E : Ev) (Q : Ev → List Cell → Prop) (a : Addr) : W → W → List Cell → Prop
  | .val (.int j), .val d, C => subP1 E Q a j d (poolOf C a) C
  | _, _, _ => False
def subPK (E : Ev) (Q : Ev → List Cell → Prop) (x y w : W) (C : List Cell) : Prop := match prfW x with
  | some a => subP0 E Q a y w C
  | none => subK E Q x y w C
theorem subPK_prf (E : Ev) (Q : Ev → List Cell → Prop) (a : Addr) (j : Int) (d : D) (C : List Cell) : subPK E Q (.val (prf a)) (.val (.int j)) (.val d) C = subP1 E Q a j d (poolOf C a) C := rfl
theorem subPK_ref (E : Ev) (Q : Ev → List Cell → Prop) (k : Nat) (y w : W) (C : List Cell) : subPK E Q (.ref k) y w C = subK E Q (.ref k) y w C := rfl
def dgSubP (o i : DE) : DG := fun w E C Q => o E C fun x C1 => i E C1 fun y C2 => subPK E Q x y w C2
def gSubP (to ti : TE) (r : V → V → V → Hp → (Hp → Prop) → Prop) : TG := gSub to ti r
theorem pg_subP {X : Cx} {o i : Expr} {to ti : TE} {t : TSet} {pos : Pos} (ho : PE X o to) (hi : PE X i ti) (hs : PSet X t)
    (ha : ∀ v, assign (.Subscript o i pos) X.env v = (do
      let ov ← holding [v] (eval o X.env)
      let iv ← holding [v, ov] (eval i X.env)
      standAt pos
      holding [v, ov, iv] (setItem ov iv v)
      release [v, ov, iv] []) := by intro _; rfl) : PG X (.Subscript o i pos) (gSubP to ti t) := pg_sub ho hi hs ha
theorem subPK_ok {Q : Ev → List Cell → Prop} {vx vy vw : V} {x y w : W} (R : Rel ct B g σ H E C) (rx : RW ct g H vx x) (ry : RW ct g H vy y) (rw_ : RW ct g H vw w) (q : subPK E Q x y w C) {K : Hp → Prop}
    (k : ∀ C' H', Gk g H g H' → Rel ct B g σ H' E C' → Q E C' → K H') : rSetL vx vy vw H K := by
  unfold subPK at q
  split at q
  · rename_i a0 e0
    obtain ⟨i0, rfl, rfl⟩ := prfW_some e0
    unfold subP0 at q
    split at q
    case h_2 => exact q.elim
    obtain ⟨a, rfl, rfl⟩ := rw_prf rx
    cases rw_int ry
    unfold subP1 at q
    split at q
    · rename_i ds e
      unfold subP2 at q
      split at q
      · rename_i n e2
        obtain ⟨_, _, _, xs, _, _, _, _, _, _, w1, w2⟩ := pool_get R.cs (a := a) e
        obtain ⟨k3, R3⟩ := R.writeP (a := a) e (w2.set n rw_)
        exact ⟨a, xs, _, n, rfl, rfl, w1, by rw [w2.length]; exact e2, k _ _ k3 R3 q⟩
      · exact q.elim
    · exact q.elim
  · exact subK_ok R rx ry rw_ q k
instance cg_subP {to ti : TE} {o i : DE} [ho : CE ct to o] [hi : CE ct ti i] : CG ct (gSubP to ti rSetL) (dgSubP o i) := ⟨fun B g σ H E C v w Q K R r k q => by
  refine ho.run B g σ H E C _ _ R (fun x H1 ⟨g1, C1, xw, k1, R1, r1, q1⟩ => ?_) q
  refine hi.run B g1 σ H1 E C1 _ _ R1 (fun y H2 ⟨g2, C2, yw, k2, R2, r2, q2⟩ => ?_) q1
  exact subPK_ok R2 (r1.mono k2) r2 (r.mono (k1.trans k2)) q2 fun C' H' k3 R3 q3 => k _ _ ⟨g2, E, C', (k1.trans k2).trans k3, R3, q3⟩⟩
/-! ### a fresh list goes into the pool -/
theorem count_set {ms : List (List Addr)} {x y : List Addr} : ∀ {k : Nat}, ms[k]? = some x → ∀ b, (ms.set k y).flatten.count b + x.count b = ms.flatten.count b + y.count b := by
  induction ms with
  | nil =>
    intro k h
    simp at h
  | cons m r ih =>
    intro k h b
    cases k with
    | zero =>
      have e : m = x := Option.some.inj h
      subst e
      show (y ++ r.flatten).count b + m.count b = (m ++ r.flatten).count b + y.count b
      rw [List.count_append, List.count_append]
      omega
    | succ k =>
      have := ih (k := k) h b
      show (m ++ (r.set k y).flatten).count b + x.count b = (m ++ r.flatten).count b + y.count b
      rw [List.count_append, List.count_append]
      omega
theorem flat_move {ms : List (List Addr)} {k j : Nat} {a : Addr} {mj : List Addr} (hk : ms[k]? = some [a]) (hj : ms[j]? = some mj) (hn : k ≠ j) : ((ms.set k []).set j (a :: mj)).flatten.Perm ms.flatten := by
  rw [List.perm_iff_count]
  intro b
  have h1 := count_set (y := []) hk b
  have h2 := count_set (y := a :: mj) (show (ms.set k [])[j]? = some mj by rw [List.getElem?_set_ne hn]; exact hj) b
  have h3 : (a :: mj).count b = [a].count b + mj.count b := by
    rw [← List.count_append]
    rfl
  have h4 : ([] : List Addr).count b = 0 := rfl
  omega
theorem Rel.toPool {a : Addr} {k : Nat} {ds : List D} (R : Rel ct B g σ H E C) (hc : C[k]? = some (.lst ds)) (ha : g.as[k]? = some a) (hp : hasPool C = true) :
    poolOf C a = none ∧ ∃ g' : Gh, g'.F = g.F ∧ Gk g H g' H ∧ Rel ct B g' σ H E ((setPool C (upP (poolOf C) a ds)).set k .nil) := by
  obtain ⟨j, h1, h2, h3⟩ := pool_at hp
  obtain ⟨xs, hm, w1, w2, _⟩ := cell_lst R.cs hc ha
  obtain ⟨a0, mj, q1, q2, q3⟩ := R.cs.at_ j _ h2
  have hn : k ≠ j := fun e => by
    rw [e, h2] at hc
    cases hc
  have fr : poolOf C a = none := by
    cases e : poolOf C a with
    | none => rfl
    | some d => exact absurd ((q3.1 a).mpr (by rw [e]; exact fun z => nomatch z)) (flat_apart R.cs.nd hm q2 hn (List.mem_singleton.mpr rfl))
  refine ⟨fr, ⟨g.F, g.as, (g.ms.set k []).set j (a :: mj)⟩, rfl, ⟨Kp.refl _ _, fun _ _ h => h, fun _ _ h => h⟩, ?_⟩
  have pm := flat_move (a := a) hm q2 hn
  have kk : Gk g H ⟨g.F, g.as, (g.ms.set k []).set j (a :: mj)⟩ H := ⟨Kp.refl _ _, fun _ _ h => h, fun _ _ h => h⟩
  have hkl : k < g.ms.length := (List.getElem?_eq_some_iff.mp hm).1
  have hjl : j < g.ms.length := (List.getElem?_eq_some_iff.mp q2).1
  rw [h3]
  refine R.gk kk ⟨?_, ?_, fun i x h => ?_, pm.nodup_iff.mpr R.cs.nd, fun b hb => R.cs.ap b (pm.mem_iff.mp hb), R.cs.lv, R.cs.tb, R.cs.tf⟩ ⟨R.fr.kt, R.fr.keep, R.fr.tl, R.fr.newF, fun b hb => R.fr.newM b (pm.mem_iff.mp hb)⟩
  · rw [List.length_set, List.length_set]
    exact R.cs.la
  · show ((g.ms.set k []).set j (a :: mj)).length = _
    rw [List.length_set, List.length_set, List.length_set, List.length_set]
    exact R.cs.lm
  · by_cases e : i = k
    · subst e
      rw [List.getElem?_set_self (by rw [List.length_set, ← R.cs.lm]; exact hkl)] at h
      cases h
      refine ⟨a, [], ha, ?_, rfl⟩
      show ((g.ms.set i []).set j (a :: mj))[i]? = some []
      rw [List.getElem?_set_ne (Ne.symm hn), List.getElem?_set_self hkl]
    · rw [List.getElem?_set_ne (Ne.symm e)] at h
      by_cases e2 : i = j
      · subst e2
        rw [List.getElem?_set_self (by rw [← R.cs.lm]; exact hjl)] at h
        cases h
        refine ⟨a0, a :: mj, q1, ?_, fun b => ?_, fun b d hb => ?_⟩
        · show ((g.ms.set k []).set i (a :: mj))[i]? = _
          rw [List.getElem?_set_self (by rw [List.length_set]; exact hjl)]
        · by_cases e3 : b = a
          · subst e3
            exact ⟨fun _ => by rw [upP_same]; exact (fun z => nomatch z), fun _ => List.mem_cons_self⟩
          · rw [upP_ne e3, List.mem_cons]
            exact ⟨fun h => (q3.1 b).mp (h.resolve_left e3), fun h => .inr ((q3.1 b).mpr h)⟩
        · by_cases e3 : b = a
          · subst e3
            rw [upP_same] at hb
            cases hb
            exact ⟨xs, w1, w2⟩
          · rw [upP_ne e3] at hb
            exact q3.2 b d hb
      · rw [List.getElem?_set_ne (Ne.symm e2)] at h
        obtain ⟨a', m', z1, z2, z3⟩ := R.cs.at_ i x h
        refine ⟨a', m', z1, ?_, z3.keep kk fun _ _ => rfl⟩
        show ((g.ms.set k []).set j (a :: mj))[i]? = _
        rw [List.getElem?_set_ne (Ne.symm e2), List.getElem?_set_ne (Ne.symm e)]
        exact z2
def tPl (t : TE) : TE := t
theorem pe_pl {X : Cx} {e : Expr} {t : TE} (h : PE X e t) : PE X e (tPl t) := h
def plC (k : Nat) (Q : DK) : Option Cell → List Cell → Prop
  | some (.lst ds), C => hasPool C = true ∧ ∀ a, poolOf C a = none → Q (.val (prf a)) ((setPool C (upP (poolOf C) a ds)).set k .nil)
  | _, _ => False
def plK (Q : DK) : W → List Cell → Prop
  | .ref k, C => plC k Q C[k]? C
  | _, _ => False
def dPl (a : DE) : DE := fun E C Q => a E C (plK Q)
instance ce_pl {t : TE} {a : DE} [h : CE ct t a] : CE ct (tPl t) (dPl a) := ⟨fun B g σ H E C Q K R k q => by
  refine h.run B g σ H E C _ _ R (fun v H1 ⟨g1, C1, x, k1, R1, r1, q1⟩ => ?_) q
  unfold plK at q1
  split at q1
  · rename_i j
    obtain ⟨a0, h2, rfl⟩ := r1
    unfold plC at q1
    split at q1
    · rename_i ds e2
      obtain ⟨hp, q1⟩ := q1
      obtain ⟨fr, g', hF, kk, R'⟩ := R1.toPool e2 h2 hp
      exact k _ _ ⟨g', _, .val (prf a0), k1.trans kk, R', .prf a0, q1 a0 fr⟩
    · exact q1.elim
  · exact q1.elim⟩
/-! ### an empty pool -/
theorem Rel.newPool (R : Rel ct B g σ H E C) : ∃ g' : Gh, Gk g H g' H ∧ Rel ct B g' σ H E (C ++ [.pool nilP]) := by
  have fl : (g.ms ++ [[]]).flatten = g.ms.flatten := by
    rw [List.flatten_append]
    simp
  have kk : Gk g H ⟨g.F, g.as ++ [mainGlobals], g.ms ++ [[]]⟩ H := ⟨Kp.refl _ _, fun n b h => by
    show (g.as ++ [mainGlobals])[n]? = some b
    rw [List.getElem?_append_left (List.getElem?_eq_some_iff.mp h).1]
    exact h, fun _ _ h => h⟩
  refine ⟨⟨g.F, g.as ++ [mainGlobals], g.ms ++ [[]]⟩, kk, R.gk kk ⟨?_, ?_, fun j x h => ?_, by rw [fl]; exact R.cs.nd, fun b hb => R.cs.ap b (fl ▸ hb), R.cs.lv, R.cs.tb, R.cs.tf⟩ ⟨R.fr.kt, R.fr.keep, R.fr.tl, R.fr.newF, fun b hb => R.fr.newM b (fl ▸ hb)⟩⟩
  · show (g.as ++ [mainGlobals]).length = _
    rw [List.length_append, List.length_append, R.cs.la]
    rfl
  · show (g.ms ++ [[]]).length = _
    rw [List.length_append, List.length_append, R.cs.lm]
    rfl
  · by_cases hj : j < C.length
    · rw [List.getElem?_append_left hj] at h
      obtain ⟨a, m, h1, h2, h3⟩ := R.cs.at_ j x h
      refine ⟨a, m, kk.as _ _ h1, ?_, h3.keep kk fun _ _ => rfl⟩
      show (g.ms ++ [[]])[j]? = some m
      rw [List.getElem?_append_left (List.getElem?_eq_some_iff.mp h2).1]
      exact h2
    · have hj2 : j < (C ++ [Cell.pool nilP]).length := (List.getElem?_eq_some_iff.mp h).1
      rw [List.length_append] at hj2
      have e : j = C.length := by simp at hj2; omega
      subst e
      rw [List.getElem?_concat_length] at h
      cases h
      refine ⟨mainGlobals, [], ?_, ?_, fun b => ⟨(fun z => nomatch z), (fun z => absurd rfl z)⟩, fun b d z => nomatch z⟩
      · show (g.as ++ [mainGlobals])[C.length]? = _
        rw [← R.cs.la]
        exact List.getElem?_concat_length
      · show (g.ms ++ [[]])[C.length]? = _
        rw [← R.cs.lm]
        exact List.getElem?_concat_length
def tPl0 (t : TE) : TE := t
theorem pe_pl0 {X : Cx} {e : Expr} {t : TE} (h : PE X e t) : PE X e (tPl0 t) := h
def dPl0 (a : DE) : DE := fun E C Q => a E C fun w C1 => Q w (C1 ++ [.pool nilP])
instance ce_pl0 {t : TE} {a : DE} [h : CE ct t a] : CE ct (tPl0 t) (dPl0 a) := ⟨fun B g σ H E C Q K R k q => by
  refine h.run B g σ H E C _ _ R (fun v H1 ⟨g1, C1, x, k1, R1, r1, q1⟩ => ?_) q
  obtain ⟨g', kk, R'⟩ := R1.newPool
  exact k _ _ ⟨g', _, x, k1.trans kk, R', r1.mono kk, q1⟩⟩
/-! ### a def that is given the pool alone -/
def spP (ct : Ct) (n m : Nat) (P : DSp) : Sp := spD ct n m P
def dCallPW (n m : Nat) (P : DSp) (a : DA) (RX : XD) : DE := fun E C Q => a E C fun ws C1 => callK n m P RX Q ws C1 (poolIx C1)
end
instance ce_callPW {ct : Ct} {E : XK} {R : XD} {n m : Nat} {P : DSp} {E' : XK} {t : TA} {a : DA} [h : CA (ct.w E R) t a] : CE (ct.w E R) (tCall (spP ct (n + 1) m P) [] E' t) (dCallPW (n + 1) m P a X0) := ⟨fun B g σ H Ev C Q K Re k q => by
  refine h.run B g σ H Ev C _ _ Re (fun vs H1 ⟨g1, C1, ws, k1, R1, r1, q1⟩ => ?_) q
  unfold callK at q1
  dsimp only at q1
  split at q1
  · rename_i j e
    obtain ⟨e1, e2, e3, q2⟩ := q1
    rw [Bool.and_eq_true] at e3
    rw [List.append_nil]
    refine ⟨g1.wd j (n + 1), _, _, _, _, by rw [← e1]; exact Paired.length r1, ?_, R1.cs.wd j (n + 1) e3.2, r1.wd e3.1, q2, fun v H' g' C' w k' f' c' l' r' q' => ?_, fun _ _ _ _ _ _ _ _ _ _ _ _ z => z.elim⟩
    · rw [List.length_map, List.length_take, List.length_drop]
      omega
    obtain ⟨k2, R2, h2⟩ := R1.calledW e2 k' f' c' l'
    exact k v H' ⟨_, _, _, k1.trans k2, R2, RW.un h2 r', q'⟩
  · exact q1.elim⟩
/-! ### isinstance(x, (list, tuple)) -/
def tIsiLT (K : PySem.W.Frag) (t : TE) : TE := tCB (rIsiT K) (tCons t (tCons (tTup (tCons (tC (.ty "list")) (tCons (tC (.ty "tuple")) tNil))) tNil))
theorem pe_isiLT {X : Cx} {K : PySem.W.Frag} {e : Expr} {t : TE} (hK : X.K = K) (h : PE X e (tCB (rIsiT X.K) (tCons t (tCons (tTup (tCons (tC (.ty "list")) (tCons (tC (.ty "tuple")) tNil))) tNil)))) : PE X e (tIsiLT K t) := by
  subst hK
  exact h
def isiLT (Q : DK) : W → List Cell → Prop
  | .val (.list _), C => Q (.val (.bool true)) C
  | .val (.tuple _), C => Q (.val (.bool true)) C
  | .val (.int _), C => Q (.val (.bool false)) C
  | .val (.str _), C => Q (.val (.bool false)) C
  | .val .none, C => Q (.val (.bool false)) C
  | .val (.bool _), C => Q (.val (.bool false)) C
  | _, _ => False
def dIsiLT (a : DE) : DE := fun E C Q => a E C fun w C1 => isiLT Q w C1
theorem isiLT_ty {Q : DK} {w : W} {C : List Cell} (h : isiLT Q w C) : ∃ t b, tyD C w = some t ∧ (∀ K : PySem.W.Frag, PySem.W.kitAny K (.type t) [.type "list", .type "tuple"] = some b) ∧ Q (.val (.bool b)) C := by
  have go : ∀ (t : String) (b1 b2 : Bool), kitB t "list" = some b1 → kitB t "tuple" = some b2 → ∀ K : PySem.W.Frag, PySem.W.kitAny K (.type t) [.type "list", .type "tuple"] = some (b1 || b2) := fun t b1 b2 h1 h2 K =>
    kitAny_cons (kit_ty h1) (fun z => by
      subst z
      exact kitAny_cons (kit_ty h2) (fun z => by
        subst z
        exact kitAny_nil) fun z => by
        subst z
        rfl) fun z => by
      subst z
      rfl
  unfold isiLT at h
  split at h
  · exact ⟨"list", true, rfl, go "list" true false (by decide +kernel) (by decide +kernel), h⟩
  · exact ⟨"tuple", true, rfl, go "tuple" false true (by decide +kernel) (by decide +kernel), h⟩
  · exact ⟨"int", false, rfl, go "int" false false (by decide +kernel) (by decide +kernel), h⟩
  · exact ⟨"str", false, rfl, go "str" false false (by decide +kernel) (by decide +kernel), h⟩
  · exact ⟨"NoneType", false, rfl, go "NoneType" false false (by decide +kernel) (by decide +kernel), h⟩
  · exact ⟨"bool", false, rfl, go "bool" false false (by decide +kernel) (by decide +kernel), h⟩
  · exact h.elim
instance ce_isiLT {ct : Ct} {K : PySem.W.Frag} {t : TE} {a : DE} [h : CE ct t a] : CE ct (tIsiLT K t) (dIsiLT a) := ⟨fun B g σ H E C Q Kk R k q => by
  refine h.run B g σ H E C _ _ R (fun v H1 ⟨g1, C1, w, k1, R1, r1, q1⟩ => ?_) q
  refine ⟨by show 2 ≤ sizeLine; decide, fun p hp => ?_⟩
  obtain ⟨ty, b, e1, e2, q2⟩ := isiLT_ty q1
  have kk := R1.new (o := .tup [.ty "list", .ty "tuple"]) false hp
  have r2 := RW.mono kk.1 r1
  exact ⟨v, p, [.ty "list", .ty "tuple"], .type ty, [.type "list", .type "tuple"], b, rfl, upd_same, .cons (.ty _) (.cons (.ty _) .nil), tyD_ok r2 e1, e2 K, post_val kk.2 (w := .val (.bool b)) (.bl b) (fun v H' p2 => k v H' ((p2.back kk.1).back k1)) q2⟩⟩
theorem ix_seqPC {X : Cx} {K : PySem.W.Frag} (h : X.K = K) : IxR X (rIxP K) := h ▸ ix_seqP
/-! ### some statements of a list let their new cells go -/
theorem pss_pre3 (n : Nat) {X : Cx} {l : List Stmt} {t1 t2 t3 u : TS} (h : PSs X l (tSeq t1 (tSeq t2 (tSeq t3 u)))) : PSs X l (tSeq (RR.tCut n (tSeq t1 (tSeq t2 t3))) u) := h
theorem pss_pre4 (n : Nat) {X : Cx} {l : List Stmt} {t1 t2 t3 t4 u : TS} (h : PSs X l (tSeq t1 (tSeq t2 (tSeq t3 (tSeq t4 u))))) : PSs X l (tSeq (RR.tCut n (tSeq t1 (tSeq t2 (tSeq t3 t4)))) u) := h
open LamX
/-! ### sorted(xs, key=lambda a: a[0][0]) -/
section
variable {X : Cx} {pins : List (Addr × Obj)} {σ : L2.St} {H : Hp} {s : Shared}
theorem ix_tupK (I : Inv X pins σ H s) {value slice : Expr} {p : Addr} {xs : List V} {i : Int} {z : V} {t : Tok} {E Q : Value → Shared → Prop} (hq : SqT X.K H p xs) (he : atI xs i = some z) (q : ∀ w, RelV z w → Q w s)
    (hs : subscripted slice false (.ref p) (.int i t) = operate [.ref p, .int i t] (getItem (.ref p) (.int i t))) : wpAny (model X.prog X.w) X.A (subscriptTail value slice (.ref p) (.int i t)) Q E s := by
  obtain ⟨its, r, pl, hz⟩ := I.tuple hq
  obtain ⟨j, h1, h2, h3, h4, h5⟩ := atI_get he
  obtain ⟨w, ew, rw'⟩ := r.get h2
  have hl := r.length
  have hn := line63
  exact subscriptTail_builtinR (x := w) pl.typeIs slot_tuple_getitem.lookup
    (getItem_tuple (j := j) (Q := fun r s' => r = w ∧ Q r s') pl (by omega) (by omega) (by rw [List.size_toArray, ← hl]; exact h1) (by simpa using ew) ⟨rfl, q w rw'⟩) hs
theorem key00 (J : Inv X pins σ H s) {i : Nat} {a : Str} {p p2 : Addr} {xs xs2 : List V} {n : Int} {k1 k2 : Nat} {E Q : Value → Shared → Prop} {q1 q2 q3 q4 q5 : Pos} (hN : X.N[i]? = some a) (hv : Vis X.env.scope a) (hy : σ[i]? = some (some (.ref p))) (h1 : H p = some (.tup (.ref p2 :: xs))) (h2 : H p2 = some (.tup (.int n :: xs2)))
    (q : ∀ t tk, Q (.int n t) { s with toks := tk }) (hd : (a == ("__debug__" : Str)) = false := by decide) (hcd : (a == ("__classdict__" : Str)) = false := by decide) :
    wpAny (model X.prog X.w) X.A (eval (.Subscript (.Subscript (.Name a q1) (.Constant (.int 0) k1 q2) q3) (.Constant (.int 0) k2 q4) q5) X.env) Q E s := by
  have g1 : SqT X.K H p (.ref p2 :: xs) := SqT.of h1
  have g2 : SqT X.K H p2 (.int n :: xs2) := SqT.of h2
  obtain ⟨m, hn, hl⟩ := J.loc
  obtain ⟨u, r, l⟩ := hl i a _ hN hy hv
  obtain rfl : u = Value.ref p := r
  refine Subscript_ (Subscript_ ?_)
  have fin : ∀ {Q2 : Value → Shared → Prop}, Q2 (.ref p) s → wpAny (model X.prog X.w) X.A (eval (.Name a q1) X.env) Q2 E s := fun {Q2} fin => by
    rcases l with ⟨hk, hm⟩ | ⟨hk, c, hc, hcell⟩
    · exact wpAny_Name (wpAny_loadName_local J.ok.kind hk hn hm fin) hd
    · rcases hk with hk | hk
      · exact wpAny_Name (wpAny_loadName_cell J.ok.kind hk hc hcell fin) hd
      · exact wpAny_Name (wpAny_loadName_free J.ok.kind hk hc hcell fin hcd) hd
  refine fin (wpAny_Constant_int ?_)
  refine ix_tupK (J.tok _) g1 (z := .ref p2) (at0 _ _) (fun w rw => ?_) rfl
  obtain rfl : w = Value.ref p2 := rw
  refine wpAny_Constant_int ?_
  refine ix_tupK ((J.tok _).tok _) g2 (z := .int n) (at0 _ _) (fun w rw => ?_) rfl
  obtain ⟨t, rfl⟩ := rw
  exact q t _
abbrev exp00 (a : Str) (k1 k2 : Nat) (q1 q2 q3 q4 q5 : Pos) : Expr := .Subscript (.Subscript (.Name a q1) (.Constant (.int 0) k1 q2) q3) (.Constant (.int 0) k2 q4) q5
theorem lam_call00 {T : List (Addr × Str)} {P : Addr} {params : Arguments} {scope : Scope} {f c' : Addr} {pm ctv : Value} {H1 : Hp} {s1 : Shared} {a : Str} {k1 k2 : Nat} {q1 q2 q3 q4 q5 : Pos} {k : Nat}
    (M : Made X pins σ T P params (exp00 a k1 k2 q1 q2 q3 q4 q5) scope H f c' pm ctv H1 s1) (L : LamS1 X.env.scope scope a) (na : a ∉ X.N)
    (bind : ∀ (q : Str) (cl : List (Str × Addr)) (pm cv ctv u : Value), bindArgs (PySem.W.kla_fn "<lambda>" q params (exp00 a k1 k2 q1 q2 q3 q4 q5) scope cl pm cv ctv) ⟨[u], []⟩ = pure [(a, u)])
    (hr : Room (k + 1) X.A.in1.in1) {p p2 : Addr} {xs xs2 : List V} {n : Int} (h1 : H1 p = some (.tup (.ref p2 :: xs))) (h2 : H1 p2 = some (.tup (.int n :: xs2))) {h : Heap} {tk : Nat} (kp : ∀ b o, s1.heap.get? b = some o → h.get? b = some o)
    (hd : (a == ("__debug__" : Str)) = false := by decide) (hcd : (a == ("__classdict__" : Str)) = false := by decide) :
    wpAny (model X.prog X.w) X.A.in1.in1 (call (.ref f) [.ref p]) (PySem.W.KeyPure (.int n) { s1 with heap := h, toks := tk }) (fun _ _ => False) { s1 with heap := h, toks := tk } := by
  have J : Inv X pins σ H1 { s1 with heap := h, toks := tk } := M.inv.kept kp
  obtain ⟨⟨oc, vs, t, c1, c2, c3⟩, _, _⟩ := J.hok c' _ M.co
  have rc : codeAny (model X.prog X.w) X.A.in1.in1 (.call (.ref f) ⟨[.ref p], []⟩) (fun r s' => ∃ u, r = .ok (.ret u) ∧ PySem.W.KeyPure (.int n) { s1 with heap := h, toks := tk } u s') { s1 with heap := h, toks := tk } := by
    refine PySem.W.kla_callFunE hr.depth (kp _ _ M.ob) rfl L.nc L.ng rfl ⟨c', oc, vs, t, rfl, c1, c2, c3⟩ ?_
    rw [bind]
    refine wpAny_pure (wpAny_newFunctionEnv L.ce (fun y m => by rw [List.mem_singleton.mp m]; exact L.pa) (fun g0 ns same => ⟨J.nolimit.fresh _ same, ?_⟩) L.fn)
    have kp0 : ∀ b o, h.get? b = some o → g0.get? b = some o := fun b o e => same.extBut b o (Nat.ne_of_lt (Heap.lt_size e)) (Heap.get?_push_of_some _ e)
    have In := lam_in1 (E := L2.E0) (f := f) (c' := c') (v := .ref p) (u := .ref p) (tk := tk + ([(a, Value.ref p)] : List (Str × Value)).length) J L na rfl J.env0.in1.in1 hr.hd Un.refl ns kp0
    refine PySem.W.kla_codeExpr (key00 In (i := X.N.length) (p := p) ?_ ?_ ?_ h1 h2 (fun t2 tk2 => ⟨_, rfl, _, _, rfl, kp0, .int n t2⟩) hd hcd)
    · show (X.N ++ [a])[X.N.length]? = some a
      exact List.getElem?_concat_length
    · exact .inl L.pa
    · rw [← J.len]
      exact List.getElem?_concat_length
  refine wpAny_call (codeAny_mono rc fun r s' fin => ?_)
  obtain ⟨u, rfl, hk⟩ := fin
  exact hk
/-- the first member's first member -/
def k00 (H : Hp) : V → Option Int
  | .ref p => match H p with
    | some (.tup (.ref p2 :: _)) => match H p2 with
      | some (.tup (.int n :: _)) => some n
      | _ => none
    | _ => none
  | _ => none
theorem k00_of {H : Hp} {y : V} {n : Int} (h : k00 H y = some n) : ∃ p p2 xs xs2, y = .ref p ∧ H p = some (.tup (.ref p2 :: xs)) ∧ H p2 = some (.tup (.int n :: xs2)) := by
  unfold k00 at h
  split at h
  · rename_i p
    split at h
    · rename_i p2 xs e1
      split at h
      · rename_i m xs2 e2
        cases h
        exact ⟨p, p2, xs, xs2, rfl, e1, e2⟩
      · cases h
    · cases h
  · cases h
def key00D (H : Hp) (y : V) : PyData := .int ((k00 H y).getD 0)
def sortV (H : Hp) (ys : List V) : List V := ys.mergeSort (PySem.W.dataLe false (key00D H))
theorem each_vals : ∀ {us : List Value} {xs : List V}, PySem.W.EachIs (fun u y => RelV y u) us xs → Vals xs us
  | _, _, .nil => .nil
  | _, _, .cons h t => .cons h (each_vals t)
theorem vals_each : ∀ {us : List Value} {xs : List V}, Vals xs us → PySem.W.EachIs (fun u y => RelV y u) us xs
  | _, _, .nil => .nil
  | _, _, .cons h t => .cons h (vals_each t)
def tSortK (K : PySem.W.Frag) (T : List (Addr × Str)) (P : Addr) (t1 : TE) : TE := fun σ H Q => t1 σ H fun v1 H1 => Tabs T H1 ∧ ∃ l ys, v1 = .ref l ∧ ∀ H4, LStep P H1 H4 → Tabs T H4 → SqL K H4 l ys ∧ (∀ y ∈ ys, ∃ n, k00 H4 y = some n) ∧ ∀ r, H4 r = none → Q (.ref r) (upd H4 r (.lst (sortV H4 ys)))
theorem pe_sortK {T : List (Addr × Str)} {c P : Addr} {params : Arguments} {scope : Scope} {a : Str} {k1 k2 : Nat} {q1 q2 q3 q4 q5 p lpos kpos pos : Pos} {k : Nat} {e1 : Expr} {t1 : TE}
    (hg : Gl X "sorted") (hm : X.mg "sorted" = none) (h1 : PE X e1 t1) (TB : TabB X.base X.mg c P) (cc : X.env.code = .ref c) (inT : (P, X.env.qual ++ "<lambda>") ∈ T) (one : ∀ p ∈ T, p.1 = P → p.2 = X.env.qual ++ "<lambda>")
    (hr : Room (k + 3) X.A) (L : LamS1 X.env.scope scope a) (na : a ∉ X.N) (nodef : defaultsOf params X.env = ([], []))
    (bind : ∀ (q : Str) (cl : List (Str × Addr)) (pm cv ctv u : Value), bindArgs (PySem.W.kla_fn "<lambda>" q params (exp00 a k1 k2 q1 q2 q3 q4 q5) scope cl pm cv ctv) ⟨[u], []⟩ = pure [(a, u)])
    (hd : (a == ("__debug__" : Str)) = false := by decide) (hcd : (a == ("__classdict__" : Str)) = false := by decide)
    (he : backTo pos (starEach [e1] X.env) = (false, eval e1 X.env) :: backTo pos (starEach [] X.env) := by rfl) (hpl : (backTo pos (starEach [e1] X.env)).any (·.1) = false := by rfl) :
    PE X (.Call (.Name "sorted" p) [e1] [⟨some "key", .Lambda params (exp00 a k1 k2 q1 q2 q3 q4 q5) scope lpos, kpos⟩] pos) (tSortK X.K T P t1) := by
  refine ⟨fun pins s σ H Q I h => ?_⟩
  refine wpAny_Call_Name_kw (ld_blt (u := .builtin "sorted") I hg hm (by decide +kernel) ?_)
  refine PyProof.Rows.callWith_kw ?_ he hpl (by rfl) (by rfl)
  rw [he]
  refine Calls.spliced_cons (thn (h1.run pins s σ H _ I h) fun u1 s1 ⟨v1, H1, I1, ru, q1⟩ => ?_)
  refine Calls.spliced_nil ?_
  obtain ⟨q1, q2⟩ := q1
  obtain ⟨l, ys, rfl, q3⟩ := q2
  obtain rfl : u1 = Value.ref l := ru
  show wpAny _ _ (evalAll ((do let v ← eval (.Lambda params (exp00 a k1 k2 _ _ _ _ _) scope lpos) X.env; standAt pos; pure v) :: [])) _ _ s1
  refine wpAny_evalAll_cons (wpAny_bind (lam_new I1 TB cc inT one q1 nodef (L.all I1.ok) fun f c' pm ctv H4 z4 M => wpAny_bind (wpAny_standAt (wpAny_pure (wpAny_evalAll_nil ?_)))))
  obtain ⟨q4, q5, q6⟩ := q3 H4 M.st M.tabs
  obtain ⟨its, r, pl, hz⟩ := M.inv.list q4
  show wpAny (model X.prog X.w) X.A (call (.builtin "sorted") [.ref l] [(Str.ofString "key", .ref f)]) (EP X pins σ Q) X.xe z4
  have hun := hr.un
  refine PySem.W.sorted_key_data (R := fun u y => RelV y u) (b := false) (key00D H4) pl.isList (vals_each r) (PySem.W.AllAlike.of fun _ _ => by simp [key00D, PySem.W.alike]) (PySem.W.Sortable.others fun b => ⟨fun z => (nomatch z), fun xs z => (nomatch z)⟩) hz (fun x _ => by
    show X.A.units + 2 + 0 < cLine
    omega) (PyProof.Rows.ksk_s1 _ _) (fun _ => PyProof.Rows.ksk_l1 _ _) (fun _ => PyProof.Rows.ksk_t1 _ _) (fun v x rv hx h tk kp => ?_) fun out c h' tk kp fr hD len eo => ?_
  · obtain ⟨n, hn⟩ := q5 x hx
    obtain ⟨p, p2, xs, xs2, rfl, e1, e2⟩ := k00_of hn
    obtain rfl : v = Value.ref p := rv
    have ek : key00D H4 (.ref p) = .int n := by
      unfold key00D
      rw [hn]
      rfl
    rw [ek]
    exact lam_call00 M L na bind hr.in1.in1 e1 e2 kp hd hcd
  · have hf : H4 (z4.heap.objs.size + 1) = none := M.inv.hok.fresh (Nat.le_succ _)
    have rv := each_vals eo
    refine ⟨.ref (z4.heap.objs.size + 1), upd H4 (z4.heap.objs.size + 1) (.lst (sortV H4 ys)), M.inv.laid kp (Nat.le_succ _) ⟨?_, out, c, rv, hD⟩, rfl, q6 _ hf⟩
    show (ys.mergeSort _).length ≤ _
    rw [rv.length, len]
    exact hz
end
open LamX
/-! ### sorted(xs, key=lambda a: a[0][0]), over data -/
def keyD (d : D) : PyData := .int ((k00D d).getD 0)
def sortD (ds : List D) : List D := ds.mergeSort (PySem.W.dataLe false keyD)
theorem k00_rd {ct : Cl} {F : Addr → Prop} {H : Hp} {y : V} {d : D} {n : Int} (r : RD ct F H y d) (h : k00D d = some n) : k00 H y = some n := by
  unfold k00D at h
  split at h
  · rename_i m ds2 ds
    cases h
    cases r with
    | tup e1 hs =>
      cases hs with
      | cons r2 _ =>
        cases r2 with
        | tup e2 hs2 =>
          cases hs2 with
          | cons r3 _ =>
            cases r3
            unfold k00
            dsimp only
            rw [e1]
            dsimp only
            rw [e2]
  · cases h
theorem rds_zip {ct : Cl} {F : Addr → Prop} {H : Hp} : ∀ {ys : List V} {ds : List D}, RDs ct F H ys ds → (ys.zip ds).map (·.1) = ys ∧ (ys.zip ds).map (·.2) = ds ∧ ∀ p ∈ ys.zip ds, RD ct F H p.1 p.2
  | _, _, .nil => ⟨rfl, rfl, fun p h => nomatch h⟩
  | _, _, .cons r t => by
    obtain ⟨h1, h2, h3⟩ := rds_zip t
    refine ⟨by rw [List.zip_cons_cons, List.map_cons, h1], by rw [List.zip_cons_cons, List.map_cons, h2], fun p hp => ?_⟩
    rw [List.zip_cons_cons] at hp
    rcases List.mem_cons.mp hp with rfl | hp
    · exact r
    · exact h3 p hp
theorem rds_of {ct : Cl} {F : Addr → Prop} {H : Hp} : ∀ (ps : List (V × D)), (∀ p ∈ ps, RD ct F H p.1 p.2) → RDs ct F H (ps.map (·.1)) (ps.map (·.2))
  | [], _ => .nil
  | p :: ps, h => .cons (h p List.mem_cons_self) (rds_of ps fun q hq => h q (List.mem_cons_of_mem _ hq))
theorem rds_sort {ct : Cl} {F : Addr → Prop} {H : Hp} {ys : List V} {ds : List D} (r : RDs ct F H ys ds) (hk : ∀ d ∈ ds, ∃ n, k00D d = some n) : RDs ct F H (sortV H ys) (sortD ds) := by
  obtain ⟨h1, h2, h3⟩ := rds_zip r
  have ek : ∀ p ∈ ys.zip ds, key00D H p.1 = keyD p.2 := fun p hp => by
    have hm : p.2 ∈ ds := by
      rw [← h2]
      exact List.mem_map_of_mem hp
    obtain ⟨n, hn⟩ := hk _ hm
    unfold key00D keyD
    rw [k00_rd (h3 p hp) hn, hn]
  have e1 : ((ys.zip ds).mergeSort (PySem.W.dataLe false fun p => keyD p.2)).map (·.1) = sortV H ys := by
    unfold sortV
    have := List.map_mergeSort (r := PySem.W.dataLe false fun p : V × D => keyD p.2) (s := PySem.W.dataLe false (key00D H)) (f := fun p : V × D => p.1) (l := ys.zip ds) (fun a ha b hb => by
      unfold PySem.W.dataLe PySem.W.sortLe
      dsimp only
      rw [ek a ha, ek b hb])
    rw [h1] at this
    exact this
  have e2 : ((ys.zip ds).mergeSort (PySem.W.dataLe false fun p => keyD p.2)).map (·.2) = sortD ds := by
    unfold sortD
    have := List.map_mergeSort (r := PySem.W.dataLe false fun p : V × D => keyD p.2) (s := PySem.W.dataLe false keyD) (f := fun p : V × D => p.2) (l := ys.zip ds) (fun a ha b hb => rfl)
    rw [h2] at this
    exact this
  have := rds_of ((ys.zip ds).mergeSort (PySem.W.dataLe false fun p => keyD p.2)) fun p hp => h3 p (List.mem_mergeSort.mp hp)
  rw [e1, e2] at this
  exact this
def sortK (Q : DK) : W → List Cell → Prop
  | .val (.list ds), C => C = [] ∧ (∀ d ∈ ds, ∃ n, k00D d = some n) ∧ Q (.val (.list (sortD ds))) C
  | _, _ => False
def dSortK (a : DE) : DE := fun E C Q => a E C fun w C1 => sortK Q w C1
theorem ce_sortK {ct : Ct} {K : PySem.W.Frag} {P : Addr} {q : Str} {t : TE} {a : DE} [h1 : CE ct t a] (inT : (P, q) ∈ ct.cl.T) : CE ct (tSortK K ct.cl.T P t) (dSortK a) := ⟨fun B g σ H E C Q Kk R k hq => by
  refine h1.run B g σ H E C _ _ R (fun v1 H1 ⟨g1, C1, w1, k1, R1, r1, q1⟩ => ?_) hq
  have q1 : sortK Q w1 C1 := q1
  cases w1 with
  | ref n => exact q1.elim
  | ty n => exact q1.elim
  | fn _ => exact q1.elim
  | dct ds => exact q1.elim
  | val d1 =>
  cases d1 with
  | none => exact q1.elim
  | bool b => exact q1.elim
  | int i => exact q1.elim
  | str z => exact q1.elim
  | tuple xs => exact q1.elim
  | dict xs => exact q1.elim
  | list ds =>
    obtain ⟨rfl, hk, q1⟩ := q1
    have r1 : RD ct.cl g1.F H1 v1 (.list ds) := r1
    cases r1 with
    | @lst l ys _ f hl hs =>
      refine ⟨R1.cs.tb, l, ys, rfl, fun H4 st hT => ?_⟩
      obtain ⟨k4, R4⟩ := R1.grow st hT (R1.cs.tf _ inT)
      have hl4 : H4 l = some (.lst ys) := ((k4.kp.2 l f).2).trans hl
      have hs4 := RDs.mono k4.kp _ _ hs
      obtain ⟨z1, z2, z3⟩ := rds_zip hs4
      refine ⟨SqL.of hl4, fun y hy => ?_, fun r hr => ?_⟩
      · rw [← z1] at hy
        obtain ⟨p, hp, rfl⟩ := List.mem_map.mp hy
        have hm : p.2 ∈ ds := by
          rw [← z2]
          exact List.mem_map_of_mem hp
        obtain ⟨n, hn⟩ := hk _ hm
        exact ⟨n, k00_rd (z3 p hp) hn⟩
      · exact post_lst R4 hr (rds_sort hs4 hk) (fun v H' p => k v H' ((p.back k4).back k1)) q1
⟩
open LamX
/-! ### a dict by comprehension, each item under its first member's first member -/
def keyOf (d : D) : Key := Sum.inl ((k00D d).getD 0)
def putD (acc : List D) (d : D) : List D := if (acc.any fun e => decide (keyOf e = keyOf d)) = true then acc.map (fun e => if keyOf e = keyOf d then d else e) else acc ++ [d]
def KRel (ct : Cl) (F : Addr → Prop) (H : Hp) (kvs : List (Key × V)) (ds : List D) : Prop := kvs.map (·.1) = ds.map keyOf ∧ RDs ct F H (kvs.map (·.2)) ds
theorem krel_any {ks : List (Key × V)} {ds : List D} {k : Key} : ks.map (·.1) = ds.map keyOf → (ks.any fun kv => decide (kv.1 = k)) = ds.any fun e => decide (keyOf e = k) := fun h => by
  have e1 : (ks.any fun kv => decide (kv.1 = k)) = (ks.map (·.1)).any fun x => decide (x = k) := by rw [List.any_map]; rfl
  have e2 : (ds.any fun e => decide (keyOf e = k)) = (ds.map keyOf).any fun x => decide (x = k) := by rw [List.any_map]; rfl
  rw [e1, e2, h]
theorem krel_map {ct : Cl} {F : Addr → Prop} {H : Hp} {v : V} {d : D} (r : RD ct F H v d) : ∀ {kvs : List (Key × V)} {ds : List D}, KRel ct F H kvs ds → KRel ct F H (kvs.map fun kv => if kv.1 = keyOf d then (kv.1, v) else kv) (ds.map fun e => if keyOf e = keyOf d then d else e)
  | [], [], h => h
  | [], _ :: _, ⟨h, _⟩ => by cases h
  | _ :: _, [], ⟨h, _⟩ => by cases h
  | kv :: kvs, e :: ds, ⟨h1, h2⟩ => by
    have h1 : kv.1 :: kvs.map (·.1) = keyOf e :: ds.map keyOf := h1
    obtain ⟨h3, h4⟩ := List.cons.inj h1
    have h2 : RDs ct F H (kv.2 :: kvs.map (·.2)) (e :: ds) := h2
    cases h2 with
    | cons r2 rs =>
      obtain ⟨g1, g2⟩ := krel_map r ⟨h4, rs⟩
      by_cases hk : keyOf e = keyOf d
      · refine ⟨?_, ?_⟩
        · rw [List.map_cons, List.map_cons, List.map_cons, List.map_cons, g1, if_pos (h3.trans hk), if_pos hk, h3, hk]
        · rw [List.map_cons, List.map_cons, List.map_cons, if_pos (h3.trans hk), if_pos hk]
          exact .cons r g2
      · have hk2 : ¬ kv.1 = keyOf d := fun z => hk (h3.symm.trans z)
        refine ⟨?_, ?_⟩
        · rw [List.map_cons, List.map_cons, List.map_cons, List.map_cons, g1, if_neg hk2, if_neg hk, h3]
        · rw [List.map_cons, List.map_cons, List.map_cons, if_neg hk2, if_neg hk]
          exact .cons r2 g2
theorem krel_put {ct : Cl} {F : Addr → Prop} {H : Hp} {v : V} {d : D} {kvs : List (Key × V)} {ds : List D} (h : KRel ct F H kvs ds) (r : RD ct F H v d) : KRel ct F H (putK kvs (keyOf d) v) (putD ds d) := by
  unfold putK putD
  rw [krel_any h.1]
  split
  · exact krel_map r h
  · refine ⟨?_, ?_⟩
    · rw [List.map_append, List.map_append, h.1]
      rfl
    · rw [List.map_append]
      exact h.2.app (.cons r .nil)
def getD2 (ds : List D) (n : Int) : D := ((ds.find? fun e => decide (keyOf e = Sum.inl n)).getD .none)
theorem krel_val {ct : Cl} {F : Addr → Prop} {H : Hp} {n : Int} : ∀ {kvs : List (Key × V)} {ds : List D}, KRel ct F H kvs ds → RD ct F H ((valV kvs (Sum.inl n)).getD .non) (getD2 ds n)
  | [], [], _ => .non
  | [], _ :: _, ⟨h, _⟩ => by cases h
  | _ :: _, [], ⟨h, _⟩ => by cases h
  | kv :: kvs, e :: ds, ⟨h1, h2⟩ => by
    have h1 : kv.1 :: kvs.map (·.1) = keyOf e :: ds.map keyOf := h1
    obtain ⟨h3, h4⟩ := List.cons.inj h1
    have h2 : RDs ct F H (kv.2 :: kvs.map (·.2)) (e :: ds) := h2
    cases h2 with
    | cons r2 rs =>
      by_cases hk : keyOf e = Sum.inl n
      · rw [valV_pos (h3.trans hk)]
        unfold getD2
        rw [List.find?_cons_of_pos (by exact decide_eq_true hk)]
        exact r2
      · rw [valV_neg fun z => hk (h3.symm.trans z)]
        unfold getD2
        rw [List.find?_cons_of_neg (by rw [decide_eq_true_eq]; exact hk)]
        exact krel_val ⟨h4, rs⟩
/-! ### the dict beside the cells -/
structure SideD (B : Bs) (g : Gh) (H : Hp) (A : Addr) (kvs : List (Key × V)) : Prop where
  at_ : H A = some (.dK kvs)
  nf : ¬ g.F A
  nm : A ∉ g.ms.flatten
  nb : B.H A = none ∨ A ∈ B.M
theorem codeO_dK {c : Addr} {q : Str} {kvs : List (Key × V)} : LamX.CodeO c q ≠ .dK kvs := fun z => by
  unfold LamX.CodeO at z
  cases z
section
variable {ct : Ct} {B : Bs} {g g' : Gh} {σ : L2.St} {H H' : Hp} {E : Ev} {C C' : List Cell} {A : Addr} {kvs lvs : List (Key × V)}
theorem Rel.sideD (R : Rel ct B g σ H E C) (s : SideD B g H A kvs) : Gk g H g (upd H A (.dK lvs)) ∧ Rel ct B g σ (upd H A (.dK lvs)) E C ∧ SideD B g (upd H A (.dK lvs)) A lvs := by
  have kk : Gk g H g (upd H A (.dK lvs)) := ⟨⟨fun a zs h => by
    rw [upd_ne (fun e => by rw [e, s.at_] at h; cases h)]
    exact h, fun a h => ⟨h, upd_ne fun e => s.nf (by rw [← e]; exact h)⟩⟩, fun _ _ h => h, fun c q h => by
    rw [upd_ne fun e => by rw [e, s.at_] at h; exact codeO_dK (Option.some.inj h).symm]
    exact h⟩
  refine ⟨kk, R.gk kk ⟨R.cs.la, R.cs.lm, fun k x h => ?_, R.cs.nd, R.cs.ap, fun a h => ?_, fun q hq => ?_, R.cs.tf⟩ ⟨fun a zs h => kk.kp.1 a zs (R.fr.kt a zs h), fun a o h hu hm => ?_, fun a ps h => ?_, R.fr.newF, R.fr.newM⟩, ⟨upd_same, s.nf, s.nm, s.nb⟩⟩
  · obtain ⟨a, m, h1, h2, h3⟩ := R.cs.at_ k x h
    exact ⟨a, m, h1, h2, h3.keep kk fun b hb => upd_ne fun e => s.nm (by rw [← e]; exact mem_flat h2 hb)⟩
  · rw [(kk.kp.2 a h).2]
    exact R.cs.lv a h
  · obtain ⟨ps, e1, e2, e3⟩ := R.cs.tb q hq
    refine ⟨ps, (upd_ne fun e => by rw [e, s.at_] at e1; cases e1).trans e1, e2, fun pos cv hc => ?_⟩
    obtain ⟨c, e4, e5⟩ := e3 pos cv hc
    exact ⟨c, e4, (upd_ne fun e => by rw [e, s.at_] at e5; exact codeO_dK (Option.some.inj e5).symm).trans e5⟩
  · by_cases e : a = A
    · rcases s.nb with q | q
      · rw [e, q] at h
        cases h
      · exact absurd (by rw [e]; exact q) hm
    · rw [upd_ne e]
      exact R.fr.keep a o h hu hm
  · obtain ⟨qs, h2⟩ := R.fr.tl a ps h
    refine ⟨qs, ?_⟩
    rw [upd_ne fun e => ?_]
    · exact h2
    · rw [e, s.at_] at h2
      cases h2
theorem Rel.adoptD {ds : List D} (R : Rel ct B g σ H E C) (s : SideD B g H A kvs) (r : KRel ct g.F H kvs ds) : Gk g H (g.fz true A) H ∧ Rel ct B (g.fz true A) σ H E C ∧ RW ct (g.fz true A) H (.ref A) (.dct ds) := by
  have kk : Gk g H (g.fz true A) H := ⟨⟨fun _ _ h => h, fun a h => ⟨.inl h, rfl⟩⟩, fun _ _ h => h, fun _ _ h => h⟩
  refine ⟨kk, R.gk kk ⟨R.cs.la, R.cs.lm, fun k x h => ?_, R.cs.nd, fun a ha h => ?_, fun a h => ?_, R.cs.tb, fun q hq h => ?_⟩ ⟨R.fr.kt, R.fr.keep, R.fr.tl, fun a h => ?_, R.fr.newM⟩, ⟨A, kvs, rfl, .inr ⟨rfl, rfl⟩, s.at_, r.1, RDs.mono kk.kp _ _ r.2⟩⟩
  · obtain ⟨a, m, h1, h2, h3⟩ := R.cs.at_ k x h
    exact ⟨a, m, h1, h2, h3.keep kk (fun _ _ => rfl)⟩
  · rcases h with h | ⟨_, h⟩
    · exact R.cs.ap a ha h
    · exact s.nm (by rw [← h]; exact ha)
  · rcases h with h | ⟨_, h⟩
    · exact R.cs.lv a h
    · rw [h, s.at_]
      exact fun z => nomatch z
  · rcases h with h | ⟨_, h⟩
    · exact R.cs.tf q hq h
    · obtain ⟨ps, e⟩ := tab_some R.cs.tb q hq
      rw [h, s.at_] at e
      cases e
  · rcases h with h | ⟨_, h⟩
    · exact R.fr.newF a h
    · rw [h]
      exact .inr s.nb
theorem Rel.newSideD {p : Addr} (R : Rel ct B g σ H E C) (hp : H p = none) : Gk g H (g.fz false p) (upd H p (.dK kvs)) ∧ Rel ct B (g.fz false p) σ (upd H p (.dK kvs)) E C ∧ SideD B (g.fz false p) (upd H p (.dK kvs)) p kvs := by
  obtain ⟨k, R'⟩ := R.new (o := .dK kvs) false hp
  refine ⟨k, R', upd_same, fun h => ?_, fun h => R.cs.mutSome p h hp, R.fr.fresh hp⟩
  rcases h with h | ⟨h, _⟩
  · exact R.cs.lv p h hp
  · cases h
theorem Rel.step2D (R : Rel ct B g σ H E C) (s : SideD B g H A kvs) (h : H' = H ∨ ∃ T xs, H T = none ∧ H' = upd H T (.tup xs)) :
    ∃ g', Gk g H g' H' ∧ Rel ct B g' σ H' E C ∧ SideD B g' H' A kvs := by
  rcases h with rfl | ⟨T, ys, hT, rfl⟩
  · exact ⟨g, Gk.refl _ _, R, s⟩
  · obtain ⟨k, R'⟩ := R.new (o := .tup ys) false hT
    refine ⟨_, k, R', ?_, fun h => ?_, s.nm, s.nb⟩
    · rw [upd_ne (ne_of_none s.at_ hT)]
      exact s.at_
    · rcases h with h | ⟨h, _⟩
      · exact s.nf h
      · cases h
theorem SideD.later (s : SideD B g H A kvs) (f : Fr0 (Bs.of g H) g' H') : SideD B g' H' A kvs := by
  refine ⟨f.keep A _ s.at_ (fun _ z => nomatch z) s.nm, fun h => ?_, fun h => ?_, s.nb⟩
  · rcases f.newF A h with q | q | q
    · exact s.nf q
    · rw [show (Bs.of g H).H A = H A from rfl, s.at_] at q
      cases q
    · exact s.nm q
  · rcases f.newM A h with q | q
    · exact s.nm q
    · rw [show (Bs.of g H).H A = H A from rfl, s.at_] at q
      cases q
end
/-! ### the rules -/
def keyK (N : Int → List Cell → Prop) : W → List Cell → Prop
  | .val (.int n), C => N n C
  | _, _ => False
def putKD (len : Nat) (n : Int) (N : D → List Cell → Prop) : W → List Cell → Prop
  | .val d, C => len < sizeLine ∧ k00D d = some n ∧ N d C
  | _, _ => False
def dDcGo (h : DG) (tt : DT) (dk dv : DE) (E : Ev) : List D → List D → List Cell → (List D → List Cell → Prop) → Prop
  | [], acc, C, Q => Q acc C
  | x :: xs, acc, C, Q => h (.val x) E C fun E2 C1 => tt E2 C1 fun b C2 => if b = true then dk E2 C2 (keyK fun n C3 => dv E2 C3 (putKD acc.length n fun d C4 => dDcGo h tt dk dv E xs (putD acc d) C4 Q)) else dDcGo h tt dk dv E xs acc C2 Q
def dDc (it : DI) (h : DG) (tt : DT) (dk dv : DE) (sl vs : List Nat) : DE := fun E C Q => (sl.all fun i => vs.contains i) = true ∧ it E C fun ds C1 => dDcGo h tt dk dv (wipeE E vs) ds [] C1 fun acc C2 => Q (.dct acc) C2
theorem KRel.mono {ct : Cl} {F F' : Addr → Prop} {H H' : Hp} {kvs : List (Key × V)} {ds : List D} (h : KRel ct F H kvs ds) (k : Kp F H F' H') : KRel ct F' H' kvs ds := ⟨h.1, RDs.mono k _ _ h.2⟩
theorem KRel.length {ct : Cl} {F : Addr → Prop} {H : Hp} {kvs : List (Key × V)} {ds : List D} (h : KRel ct F H kvs ds) : kvs.length = ds.length := by
  have := congrArg List.length h.1
  rw [List.length_map, List.length_map] at this
  exact this
instance ce_dc {ct : Ct} {wi : TI} {gt : TG} {t1 : TT} {tk tv : TE} {vs sl : List Nat} {it : DI} {h : DG} {dt : DT} {dk dv : DE} [hi : CI ct wi it] [hg : CG ct gt h] [hw : GW gt sl] [ht : CT ct t1 dt] [hk : CE ct tk dk] [hv : CE ct tv dv] : CE ct (tDc wi gt t1 tk tv vs) (dDc it h dt dk dv sl vs) := ⟨fun B g σ H E C Q K R k q => by
  obtain ⟨hsl, q⟩ := q
  refine hi.run B g σ H E C _ _ R (fun J H1 g1 C1 ds k1 R1 ok q1 => ?_) q
  intro A hA
  have hsl2 : ∀ j, j ∉ vs → j ∉ sl := fun j hj hm => hj (by
    have := List.all_eq_true.mp hsl j hm
    simpa using this)
  obtain ⟨k0, R0, s0⟩ := R1.newSideD (kvs := []) hA
  refine ⟨fun i m H2 => m = ds.length - i ∧ i ≤ ds.length ∧ ∃ g2 C2 kvs acc, Gk g1 H1 g2 H2 ∧ Rel ct B g2 σ H2 E C2 ∧ SideD B g2 H2 A kvs ∧ KRel ct g2.F H2 kvs acc ∧ dDcGo h dt dk dv (wipeE E vs) (ds.drop i) acc C2 (fun acc C2 => Q (.dct acc) C2), ⟨ds.length, by simp, Nat.zero_le _, _, C1, [], [], k0, R0, s0, ⟨rfl, .nil⟩, q1⟩, ?_⟩
  rintro i m H2 ⟨rfl, hle, g2, C2, kvs, acc, k2, R2, s2, r2, q2⟩
  by_cases hlt : i < ds.length
  · refine .inr ⟨ok.go g2 H2 k2 i hlt, fun H' => ds.length - (i + 1) = ds.length - (i + 1) ∧ i + 1 ≤ ds.length ∧ ∃ g2 C2 kvs acc, Gk g1 H1 g2 H' ∧ Rel ct B g2 σ H' E C2 ∧ SideD B g2 H' A kvs ∧ KRel ct g2.F H' kvs acc ∧ dDcGo h dt dk dv (wipeE E vs) (ds.drop (i + 1)) acc C2 (fun acc C2 => Q (.dct acc) C2), fun H' p => ⟨ds.length - (i + 1), by omega, p⟩, fun x H3 y => ?_⟩
    obtain ⟨h1, h2⟩ := ok.yld g2 H2 k2 i x H3 ds[i] (List.getElem?_eq_getElem hlt) y
    obtain ⟨g3, k3, R3, s3⟩ := R2.step2D s2 h1
    have q3 : dDcGo h dt dk dv (wipeE E vs) (ds[i] :: ds.drop (i + 1)) acc C2 (fun acc C2 => Q (.dct acc) C2) := by
      rw [← List.drop_eq_getElem_cons hlt]
      exact q2
    have r3 := r2.mono k3.kp
    refine hw.run _ _ _ (PostG ct (Bs.of g3 H3) g3 H3 _) _ (hg.run (Bs.of g3 H3) g3 (L2.wipe σ vs) H3 (wipeE E vs) C2 x (.val ds[i]) _ _ ((R3.wipe vs).self) (h2 g3 k3) (fun _ _ p => p) q3) ?_
    rintro σ2 H4 ⟨g4, E4, C4, k4, R4, q4⟩ hl hn
    refine ⟨?_, ?_⟩
    · rw [wipe_ext (σ := σ2) (τ := L2.wipe σ vs) (fun j hj => hn j (hsl2 j hj)) hl]
      exact wipe_ext (fun j hj => by rw [wipe_get, if_neg hj]) (wipe_length σ vs)
    refine ht.run _ g4 σ2 H4 E4 C4 _ _ R4 (fun b H5 ⟨g5, C5, k5, R5, q5⟩ => ?_) q4
    have k35 := k4.trans k5
    cases b with
    | false =>
      refine iteF ⟨rfl, hlt, g5, C5, kvs, acc, (k2.trans k3).trans k35, R3.gk k35 R5.cs (R3.fr.comp R5.fr), s3.later R5.fr, r3.mono k35.kp, q5⟩
    | true =>
      refine iteT (hk.run _ g5 σ2 H5 E4 C5 _ _ R5 (fun y H6 ⟨g6, C6, w, k6, R6, r6, q6⟩ => ?_) q5)
      unfold keyK at q6
      split at q6
      · rename_i n
        have ey : y = .int n := rw_int r6
        subst ey
        refine hv.run _ g6 σ2 H6 E4 C6 _ _ R6 (fun z H7 ⟨g7, C7, w2, k7, R7, r7, q7⟩ => ?_) q6
        have k37 := (k35.trans k6).trans k7
        have s7 := s3.later R7.fr
        unfold putKD at q7
        split at q7
        · rename_i d
          obtain ⟨hz, hn2, q8⟩ := q7
          have r37 := r3.mono k37.kp
          have ek : keyOf d = Sum.inl n := by
            unfold keyOf
            rw [hn2]
            rfl
          refine ⟨kvs, Sum.inl n, rfl, s7.at_, by rw [r37.length]; exact hz, ?_⟩
          have R7' := R3.gk k37 R7.cs (R3.fr.comp R7.fr)
          obtain ⟨k8, R8, s8⟩ := R7'.sideD (lvs := putK kvs (Sum.inl n) z) s7
          have r8 : KRel ct g7.F H7 (putK kvs (Sum.inl n) z) (putD acc d) := by
            rw [← ek]
            exact krel_put r37 r7
          exact ⟨rfl, hlt, g7, C7, _, putD acc d, ((k2.trans k3).trans k37).trans k8, R8, s8, r8.mono k8.kp, q8⟩
        · exact q7.elim
      · exact q6.elim
  · have hi2 : i = ds.length := by omega
    subst hi2
    rw [List.drop_length] at q2
    obtain ⟨k9, R9, r9⟩ := R2.adoptD s2 r2
    exact .inl ⟨ok.stop g2 H2 k2, k _ _ ⟨_, C2, .dct acc, (k1.trans k2).trans k9, R9, r9, q2⟩⟩⟩
def getK (dy : Ev → List Cell → DK → Prop) (E : Ev) (Q : DK) : W → List Cell → Prop
  | .dct ds, C => dy E C (fun w C1 => keyK (fun n C2 => Q (.val (getD2 ds n)) C2) w C1)
  | _, _ => False
def dGet1 (dd dy : DE) : DE := fun E C Q => dd E C fun w C1 => getK dy E Q w C1
instance ce_dget1 {ct : Ct} {td ty : TE} {dd dy : DE} [hd : CE ct td dd] [hy : CE ct ty dy] : CE ct (tDGet1 td ty) (dGet1 dd dy) := ⟨fun B g σ H E C Q K R k q => by
  refine hd.run B g σ H E C _ _ R (fun x H1 ⟨g1, C1, w, k1, R1, r1, q1⟩ => ?_) q
  have q1 : getK dy E Q w C1 := q1
  unfold getK at q1
  split at q1
  · rename_i ds _
    obtain ⟨a, kvs, rfl, f, ha, hkv, hrd⟩ := r1
    refine ⟨a, rfl, .inl ⟨kvs, .inl ha⟩, ?_⟩
    refine hy.run B g1 σ H1 E C1 _ _ R1 (fun y H2 ⟨g2, C2, w2, k2, R2, r2, q2⟩ => ?_) q1
    have q2 : keyK (fun n C2 => Q (.val (getD2 ds n)) C2) w2 C2 := q2
    unfold keyK at q2
    split at q2
    · rename_i n _
      have ey : y = .int n := rw_int r2
      subst ey
      have ha2 : H2 a = some (.dK kvs) := ((k2.kp.2 a f).2).trans ha
      have kr : KRel ct g2.F H2 kvs ds := ⟨hkv, RDs.mono k2.kp _ _ hrd⟩
      exact ⟨_, .inl ⟨kvs, Sum.inl n, .inl ha2, rfl, rfl⟩, k _ _ ⟨g2, C2, .val (getD2 ds n), k1.trans k2, R2, krel_val kr, q2⟩⟩
    · exact q2.elim
  · exact q1.elim⟩
theorem hu1 {A : Around} {k : Nat} (hr : Room k A) : A.units + 1 < cLine := Nat.lt_of_le_of_lt (Nat.add_le_add_left (by decide) _) (hu65 hr)
class LamAny (ct : Ct) (P : Addr) : Prop where
  mem : ∃ q, (P, q) ∈ ct.cl.T
instance ce_sortKi {ct : Ct} {E : XK} {R : XD} {K : PySem.W.Frag} {P : Addr} {t : TE} {a : DE} [hl : LamAny ct P] [h1 : CE (ct.w E R) t a] : CE (ct.w E R) (tSortK K ct.cl.T P t) (dSortK a) := by
  obtain ⟨q, hq⟩ := hl.mem
  exact @ce_sortK (ct.w E R) K P q t a h1 hq
section
variable {X : Cx}
/-- name = {..} on one line, the name a local -/
theorem ps_setDc {i : Nat} {y : Str} {py : Pos} {kx vx tg iter : Expr} {ifs : List Expr} {scope : Scope} {own : List (Str × Nat)} {pos spos : Pos} {wi : TI} {g : TG} {tt : TT} {tk tv : TE} (hc : X.calm = true) (hN : X.N.Nodup) (hy : X.N[i]? = some y) (hyl : X.env.scope.names.lookup y = some .local)
    (hsw : swapsWith (.DictComp kx vx [⟨tg, iter, ifs, 0⟩] scope pos) (some (.Name y py)) spos.line X.env = pure true) (hi : PI X tg iter wi) (ok : BlkOk X.N X.env.scope scope own)
    (hg : ∀ (s : Shared) (H : Hp) (C : Addr) (cl : List (Str × Addr)) (fp : List Addr), PG (X.blk s H scope (compEnvC scope cl C X.env) fp) tg g) (ht : ∀ (s : Shared) (H : Hp) (C : Addr) (cl : List (Str × Addr)) (fp : List Addr), PTs (X.blk s H scope (compEnvC scope cl C X.env) fp) ifs tt)
    (hk : ∀ (s : Shared) (H : Hp) (C : Addr) (cl : List (Str × Addr)) (fp : List Addr), PE (X.blk s H scope (compEnvC scope cl C X.env) fp) kx tk)
    (he : ∀ (s : Shared) (H : Hp) (C : Addr) (cl : List (Str × Addr)) (fp : List Addr), PE (X.blk s H scope (compEnvC scope cl C X.env) fp) vx tv) (hs : ∀ x, foldedSetIterable iter X.env x = pure x := by intro _; rfl) :
    PS X (.Assign [.Name y py] (.DictComp kx vx [⟨tg, iter, ifs, 0⟩] scope pos) spos) (tAsg (tDc wi g tt tk tv (own.map (·.2))) (gName i)) := by
  refine ⟨fun pins s σ H D I h => ?_⟩
  rw [exec_Assign_Name_used _ _ _ _ hsw]
  refine wpAny_bind (wpAny_standAt (wpAny_bind ?_))
  show wpAny _ X.A (do let _ ← comprehension (.DictComp kx vx [⟨tg, iter, ifs, 0⟩] scope pos) scope X.env (firstIterPos [⟨tg, iter, ifs, 0⟩] pos) newDict false (eval iter X.env) (some (assign (.Name y py) X.env))) _ _ s
  have h : tDc wi g tt tk tv (own.map (·.2)) σ H (fun x H1 => gName i x σ H1 D.nx) := h
  refine wpAny_bind (thn (dc_core (Qf := fun _ s' => SP X pins D .next s') hc hN I hi ok hg ht hk he hs h fun L C s' m H' I' q hn f => ?_) fun _ s' hq => wpAny_pure (wpAny_pure hq))
  show wpAny _ _ (assign (.Name y py) X.env (.ref L)) _ _ _
  refine wpAny_assign_Name (store_ok2 (v := V.ref L) I' hN hy (.inl hyl) rfl (fun s2 I2 ⟨a, sb, ha⟩ => ?_) (.inr hyl))
  obtain ⟨f0, f1, f2, f3, f4, f5⟩ := f
  have haC : C ≠ a := by
    rcases ha with z | z
    · rw [z]; exact f1
    · exact fun e => f4 y a z e.symm
  refine ⟨m, hn.sameBut sb haC, fun h3 sb3 => ?_⟩
  exact ⟨_, H', I2.turned (t' := s2.toks) (fun b o hb e => (sb3.2 b hb).trans e) f0 f1 f3 f4 f5, q⟩
theorem sw_trueD {kx vx : Expr} {gs : List Comprehension} {scope : Scope} {pos py : Pos} {y : Str} {l : Nat} {env : Env} (hk : env.scope.kind = .function) (hy : env.scope.names.lookup y = some .local) (hl : (py.line == pos.line) = true)
    (ha : (scope.names.any fun (n, k) => n == y && (k == .local || k == .cell)) = false) : swapsWith (.DictComp kx vx gs scope pos) (some (.Name y py)) l env = pure true := by
  have ky : env.kindOf y = some .local := hy
  have hb : env.blockKind = .function := by unfold Env.blockKind; rw [hk]; rfl
  unfold swapsWith
  simp only [hb, ky, ha, Expr.pos, hl]
  rfl
end
def topS (i : Nat) : Stmt := PySem.Challenge.pw_rightrows_k27_parting.main.body.getD i (.Pass ⟨0, 0, 0, 0⟩)
abbrev sDraw : Stmt := topS 3
/-! ### heaps -/
theorem same_new {H : Hp} {p : Addr} (h : H p = none) (o : HO) : Same H (upd H p o) := fun b u q => by
  rw [upd_ne (ne_of_none q h)]
  exact q
/-- all but the drawer's list stands as it was -/
def Le (st : Addr) (H H' : Hp) : Prop := ∀ b o, b ≠ st → H b = some o → H' b = some o
theorem Le.refl (st : Addr) (H : Hp) : Le st H H := fun _ _ _ h => h
theorem Le.trans {st : Addr} {H H1 H2 : Hp} (a : Le st H H1) (b : Le st H1 H2) : Le st H H2 := fun c o n h => b c o n (a c o n h)
theorem Le.of {st : Addr} {H H' : Hp} (a : Same H H') : Le st H H' := fun b o _ h => a b o h
theorem Le.st {st : Addr} {H : Hp} (o : HO) : Le st H (upd H st o) := fun b u n h => by
  rw [upd_ne n]
  exact h
/-- the drawer's list -/
def Good (st l : Addr) (H : Hp) : Prop := ∃ (a p c : Int) (ns : List Int), H st = some (.lst [.int a, .int p, .ref l, .int c]) ∧ 0 ≤ a ∧ 0 ≤ p ∧ 0 ≤ c ∧ c < 2147483647 ∧ l ≠ st ∧ H l = some (.lst (ns.map V.int))
theorem Good.same {st l : Addr} {H H' : Hp} (g : Good st l H) (s : Same H H') : Good st l H' := by
  obtain ⟨a, p, c, ns, h, h1, h2, h3, h4, h5, h6⟩ := g
  exact ⟨a, p, c, ns, s _ _ h, h1, h2, h3, h4, h5, s _ _ h6⟩
theorem Good.ne {st l D : Addr} {H : Hp} (g : Good st l H) (h : H D = none) : D ≠ st ∧ D ≠ l := by
  obtain ⟨a, p, c, ns, h1, _, _, _, _, _, h6⟩ := g
  refine ⟨fun e => ?_, fun e => ?_⟩
  · rw [e, h1] at h
    cases h
  · rw [e, h6] at h
    cases h
theorem Good.put {st l D : Addr} {H : Hp} {o : HO} (g : Good st l H) (h : D ≠ st ∧ D ≠ l) : Good st l (upd H D o) := by
  obtain ⟨a, p, c, ns, h1, h2, h3, h4, h5, h6, h7⟩ := g
  exact ⟨a, p, c, ns, by rw [upd_ne h.1.symm]; exact h1, h2, h3, h4, h5, h6, by rw [upd_ne h.2.symm]; exact h7⟩
theorem Le.mut {st D : Addr} {H H' : Hp} {o : HO} (le : Le st H H') (h : H D = none) : Le st H (upd H' D o) := fun b u n e => by
  rw [upd_ne (ne_of_none e h)]
  exact le b u n e
theorem small {n : Nat} (h : n ≤ 1000) : n ≤ sizeLine := Nat.le_of_lt (small1000 h)
/-- a def of the text as it stands behind the top -/
structure Def (K : PySem.W.Frag) (mg : Str → Option Value) (x : Str) (st : Stmt) (ps : List Str) where
  f : Addr
  fd : FuncData
  F : Fun K x x st f fd
  b : Binds K fd ps []
  m : mg x = some (.ref f)
def spDraw : Sp := fun vs H Q _ => ∃ (st l : Addr) (n : Int), vs = [.ref st, .int n] ∧ Good st l H ∧ 0 < n ∧ n.natAbs < 2 ^ 200 ∧ ∀ d H', 0 ≤ d → d < n → Le st H H' → Good st l H' → Q (.int d) H'
theorem scDraw : FnScope ["state", "limit", "position", "cell", "mixed", "digit"] ["state", "limit"] (defScope sDraw) := ⟨rfl, rfl, rfl, by decide +kernel, rfl, by decide +kernel, by decide +kernel⟩
section
variable {P : Program} {w : World} {K : PySem.W.Frag} {mg : Str → Option Value} {base : Heap}
theorem ok_draw (D : Def K mg "_law_draw" sDraw ["state", "limit"]) (ml : mg "len" = none) (mi : mg "int" = none) : FnOk P w K mg base CX0 1 D.f D.fd ["state", "limit"] spDraw := by
  refine D.F.ok scDraw (fun vs H Q E h => ?_) (fun cdv A outer s H vs Q E hr h => ?_)
  · obtain ⟨st, l, n, rfl, _⟩ := h
    rfl
  obtain ⟨st, l, n, rfl, g, hn0, hn, q⟩ := h
  refine ⟨_, C8.pss_cut (ps_if (pt_cmpR op_lt (pe_ix ix_list (pv 0) pe_int (fun _ _ => rfl)) (pv 1) (nomark _))
      (pss_cons (ps_set (i := 2) scDraw.nd rfl (.inl rfl) (pe_ix ix_list (pv 0) pe_int (fun _ _ => rfl)))
      (pss_cons (ps_asg (pe_op op_add (pv 2) pe_int) (pg_sub (pv 0) pe_int set_list))
      (pss_cons (ps_set (i := 3) scDraw.nd rfl (.inl rfl) pe_int)
      (C8.pss_cut (ps_if (pt_cmpR op_lt (pv 2) (pe_callB call_len_seq (by rfl) ml PySem.boot_len (pa_cons (pe_ix ix_list (pv 0) pe_int (fun _ _ => rfl)) pa_nil)) (nomark _))
        (pss_one (ps_set (i := 3) scDraw.nd rfl (.inl rfl) (pe_ix ix_list (pe_ix ix_list (pv 0) pe_int (fun _ _ => rfl)) (pv 2) (fun _ _ => rfl)))) pss_nil)
      (pss_one (ps_if (pt_cmpR op_ge (pv 3) (pe_op op_pow pe_int pe_int) (nomark _))
        (pss_one (ps_asg (pv 3) (pg_sub (pv 0) pe_int set_list)))
        (C8.pss_cut (ps_asg (pe_op op_modN (pe_callTy call_int1 (by rfl) mi (by decide +kernel) (pa_cons (pe_op op_mul (pe_op op_add (pe_op op_add (pe_op op_add (pe_ix ix_list (pv 0) pe_int (fun _ _ => rfl)) (pe_op op_modN (pe_callTy call_int1 (by rfl) mi (by decide +kernel) (pa_cons (pv 3) pa_nil)) pe_int)) (pv 2)) pe_int) pe_int) pa_nil)) pe_int) (pg_sub (pv 0) pe_int set_list))
        (C8.pss_cut (ps_set (i := 4) scDraw.nd rfl (.inl rfl) (pe_op op_modN (pe_callTy call_int1 (by rfl) mi (by decide +kernel) (pa_cons (pe_op op_add (pe_op op_mul (pe_ix ix_list (pv 0) pe_int (fun _ _ => rfl)) pe_int) pe_int) pa_nil)) pe_int))
        (pss_one (ps_asg (pe_op op_add (pe_op op_mul (pv 4) pe_int) (pe_op op_modN (pe_callTy call_int1 (by rfl) mi (by decide +kernel) (pa_cons (pe_op op_add (pe_op op_mul (pv 4) pe_int) (pe_ix ix_list (pv 0) pe_int (fun _ _ => rfl))) pa_nil)) pe_int)) (pg_sub (pv 0) pe_int set_list))))))))))) pss_nil)
    (pss_cons (ps_set (i := 5) scDraw.nd rfl (.inl rfl) (pe_op op_modN (pe_callTy call_int1 (by rfl) mi (by decide +kernel) (pa_cons (pe_ix ix_list (pv 0) pe_int (fun _ _ => rfl)) pa_nil)) (pv 1)))
    (pss_cons (ps_asg (pe_op op_fdivW (pe_ix ix_list (pv 0) pe_int (fun _ _ => rfl)) (pv 1)) (pg_sub (pv 0) pe_int set_list))
    (pss_one (ps_ret (pv 5))))), ?_⟩
  obtain ⟨a, p, c, ns, h, ha, hp, hc, hc2, hl, hns⟩ := g
  refine ⟨fun σ' H' => ∃ y2 y3 y4 y5, σ' = [some (.ref st), some (.int n), y2, y3, y4, y5] ∧ Le st H H' ∧ Good st l H', ?_, ?_⟩
  · refine ⟨_, rfl, st, _, 0, _, rfl, rfl, SqL.of h, atI_nat (j := 0) rfl, _, rfl, _, _, rfl, rfl, _, rfl, ite2 (fun _ => ?_) (fun _ => ?_)⟩
    · refine ⟨_, rfl, st, _, 1, _, rfl, rfl, SqL.of h, atI_nat (j := 1) rfl, ?_⟩
      refine ⟨_, rfl, _, _, rfl, rfl, _, rfl, st, _, 1, 1, rfl, rfl, h, rfl, ?_⟩
      have h1 : upd H st (.lst ([.int a, .int p, .ref l, .int c].set 1 (.int (p + 1)))) st = some (.lst [.int a, .int (p + 1), .ref l, .int c]) := upd_same
      have hns1 : upd H st (.lst ([.int a, .int p, .ref l, .int c].set 1 (.int (p + 1)))) l = some (.lst (ns.map V.int)) := by
        rw [upd_ne hl]
        exact hns
      refine ⟨fun σ' H' => ∃ cell : Int, σ' = [some (.ref st), some (.int n), some (.int p), some (.int cell), none, none] ∧ H' = upd H st (.lst ([.int a, .int p, .ref l, .int c].set 1 (.int (p + 1)))), ?_, ?_⟩
      · refine ⟨_, rfl, _, rfl, st, _, 2, _, rfl, rfl, SqL.of h1, atI_nat (j := 2) rfl, l, _, rfl, .inl (SqL.of hns1), _, _, rfl, rfl, _, rfl, ite2 (fun hlt => ?_) (fun _ => ?_)⟩
        · have hlt2 : p < (((ns.map V.int).length : Nat) : Int) := of_decide_eq_true hlt
          rw [List.length_map] at hlt2
          have hk : p.toNat < ns.length := by omega
          have hg : atI (ns.map V.int) p = some (.int ns[p.toNat]) := by
            have e : ((p.toNat : Nat) : Int) = p := by omega
            have z : atI (ns.map V.int) ((p.toNat : Nat) : Int) = some (.int ns[p.toNat]) := atI_nat (by rw [List.getElem?_map, List.getElem?_eq_getElem hk]; rfl)
            rw [e] at z
            exact z
          refine ⟨_, rfl, st, _, 2, _, rfl, rfl, SqL.of h1, atI_nat (j := 2) rfl, _, rfl, l, _, p, _, rfl, rfl, SqL.of hns1, hg, ?_⟩
          exact ⟨_, rfl, rfl⟩
        · exact ⟨_, rfl, rfl⟩
      · rintro σ' H' ⟨cell, rfl, rfl⟩
        refine ⟨_, rfl, 10, 18, rfl, rfl, ⟨by decide, by decide, by decide⟩, _, _, rfl, rfl, _, rfl, ite2 (fun hge => ?_) (fun _ => ?_)⟩
        · have hge2 : cell ≥ 10 ^ 18 := of_decide_eq_true hge
          refine ⟨_, rfl, _, rfl, st, _, 0, 0, rfl, rfl, h1, rfl, ?_⟩
          refine ⟨_, _, _, _, rfl, fun b o nb e => by rw [upd_ne nb, upd_ne nb]; exact e, cell, p + 1, c, ns, upd_same, by omega, by omega, hc, hc2, hl, ?_⟩
          rw [upd_ne hl]
          exact hns1
        · have le1 : Le st H (upd H st (.lst ([.int a, .int p, .ref l, .int c].set 1 (.int (p + 1))))) := Le.st _
          refine ⟨fun σ' H' => ∃ x : Int, σ' = [some (.ref st), some (.int n), some (.int p), some (.int cell), none, none] ∧ 0 ≤ x ∧ x < 2147483647 ∧ H' st = some (.lst [.int a, .int (p + 1), .ref l, .int x]) ∧ H' l = some (.lst (ns.map V.int)) ∧ Le st H H', ?_, ?_⟩
          · refine ⟨_, rfl, st, _, 3, _, rfl, rfl, SqL.of h1, atI_nat (j := 3) rfl, _, rfl, .inl ⟨_, rfl, _, _, rfl, rfl, (by show (2147483629 : Int) ≠ 0; decide), _, _, rfl, rfl, ?_⟩⟩
            refine ⟨_, rfl, _, _, rfl, rfl, _, _, rfl, rfl, _, _, rfl, rfl, .inr (by decide), .inl ⟨_, rfl, _, _, rfl, rfl, (by show (2147483647 : Int) ≠ 0; decide), ?_⟩⟩
            refine ⟨_, rfl, st, _, 3, 3, rfl, rfl, h1, rfl, ?_⟩
            exact ⟨_, rfl, Int.fmod_nonneg_of_pos _ (by decide), Int.fmod_lt_of_pos _ (by decide), upd_same, by rw [upd_ne hl]; exact hns1, le1.trans (Le.st _)⟩
          · rintro σ' H2 ⟨x, rfl, hx0, hx1, h2, hns2, le2⟩
            refine ⟨fun σ' H' => ∃ m : Int, σ' = [some (.ref st), some (.int n), some (.int p), some (.int cell), some (.int m), none] ∧ 0 ≤ m ∧ H' = H2, ?_, ?_⟩
            · refine ⟨_, rfl, st, _, 3, _, rfl, rfl, SqL.of h2, atI_nat (j := 3) rfl, _, _, rfl, rfl, .inr (by decide), _, _, rfl, rfl, .inl ⟨_, rfl, _, _, rfl, rfl, (by show (2147483629 : Int) ≠ 0; decide), ?_⟩⟩
              exact ⟨_, rfl, Int.fmod_nonneg_of_pos _ (by decide), rfl⟩
            · rintro σ' H3 ⟨m, rfl, hm0, rfl⟩
              refine ⟨_, rfl, _, _, rfl, rfl, .inr (by decide), _, rfl, _, _, rfl, rfl, .inr (by decide), _, rfl, st, _, 3, _, rfl, rfl, SqL.of h2, atI_nat (j := 3) rfl, _, _, rfl, rfl, .inl ⟨_, rfl, _, _, rfl, rfl, (by show (2147483587 : Int) ≠ 0; decide), _, _, rfl, rfl, ?_⟩⟩
              refine ⟨_, rfl, st, _, 0, 0, rfl, rfl, h2, rfl, ?_⟩
              have hk0 : 0 ≤ Int.fmod (m * 30011 + x) 2147483587 := Int.fmod_nonneg_of_pos _ (by decide)
              refine ⟨_, _, _, _, rfl, le2.trans (Le.st _), m * 2147483647 + Int.fmod (m * 30011 + x) 2147483587, p + 1, x, ns, upd_same, by omega, by omega, hx0, hx1, hl, ?_⟩
              rw [upd_ne hl]
              exact hns2
    · exact ⟨_, _, _, _, rfl, Le.refl _ _, a, p, c, ns, h, ha, hp, hc, hc2, hl, hns⟩
  · rintro σ' H' ⟨y2, y3, y4, y5, rfl, le, a, p, c, ns, h, ha, hp, hc, hc2, hl, hns⟩
    refine ⟨_, rfl, st, _, 0, _, rfl, rfl, SqL.of h, atI_nat (j := 0) rfl, .inl ⟨_, rfl, ?_⟩⟩
    refine ⟨_, rfl, _, _, rfl, rfl, (by omega), ?_⟩
    refine ⟨_, rfl, st, _, 0, _, rfl, rfl, SqL.of h, atI_nat (j := 0) rfl, _, rfl, _, _, rfl, rfl, wide_div hn0 hn (by decide) (by decide), ?_⟩
    refine ⟨_, rfl, st, _, 0, 0, rfl, rfl, h, rfl, ?_⟩
    refine ⟨_, rfl, ?_⟩
    refine q _ _ (Int.fmod_nonneg_of_pos _ hn0) (Int.fmod_lt_of_pos _ hn0) (fun b o nb e => by rw [upd_ne nb]; exact le _ _ nb e) ⟨a / n, p, c, ns, upd_same, Int.ediv_nonneg ha (by omega), hp, hc, hc2, hl, by rw [upd_ne hl]; exact hns⟩
end

abbrev sKey : Stmt := topS 8
abbrev sRow : Stmt := topS 9
/-! ### data that never changes -/
/-- tuples stand as they stood -/
def Tk (H H' : Hp) : Prop := ∀ a xs, H a = some (.tup xs) → H' a = some (.tup xs)
theorem Tk.refl (H : Hp) : Tk H H := fun _ _ h => h
theorem Tk.trans {H H1 H2 : Hp} (a : Tk H H1) (b : Tk H1 H2) : Tk H H2 := fun c o h => b c o (a c o h)
theorem Tk.same {H H' : Hp} (s : Same H H') : Tk H H' := fun _ _ h => s _ _ h
theorem Tk.le {st l : Addr} {H H' : Hp} (g : Good st l H) (s : Le st H H') : Tk H H' := fun a xs h => s a _ (fun e => by
  obtain ⟨i, p, c, ns, h2, _⟩ := g
  rw [e, h2] at h
  cases h) h
/-- a store to what is no tuple -/
theorem Tk.put {H : Hp} {p : Addr} (o : HO) (h : ∀ xs, H p ≠ some (.tup xs)) : Tk H (upd H p o) := fun a xs e => by
  rw [upd_ne (fun z => h xs (by rw [← z]; exact e))]
  exact e
theorem Tk.new {H : Hp} {p : Addr} (h : H p = none) (o : HO) : Tk H (upd H p o) := Tk.same (same_new h o)
mutual
inductive TD (H : Hp) : V → PyData → Prop
  | non : TD H .non .none
  | int (i : Int) : TD H (.int i) (.int i)
  | str (x : Str) : TD H (.str x) (.str x)
  | bl (b : Bool) : TD H (.bl b) (.bool b)
  | tup {a : Addr} {xs : List V} {ds : List PyData} : H a = some (.tup xs) → TDs H xs ds → TD H (.ref a) (.tuple ds)
inductive TDs (H : Hp) : List V → List PyData → Prop
  | nil : TDs H [] []
  | cons {v : V} {vs : List V} {d : PyData} {ds : List PyData} : TD H v d → TDs H vs ds → TDs H (v :: vs) (d :: ds)
end
mutual
theorem TD.mono {H H' : Hp} (k : Tk H H') : ∀ (d : PyData) (v : V), TD H v d → TD H' v d
  | _, _, .non => .non
  | _, _, .int i => .int i
  | _, _, .str x => .str x
  | _, _, .bl b => .bl b
  | .tuple ds, .ref a, .tup (xs := xs) h hs => .tup (k _ _ h) (TDs.mono k ds xs hs)
theorem TDs.mono {H H' : Hp} (k : Tk H H') : ∀ (ds : List PyData) (vs : List V), TDs H vs ds → TDs H' vs ds
  | _, _, .nil => .nil
  | d :: ds, v :: vs, .cons h hs => .cons (TD.mono k d v h) (TDs.mono k ds vs hs)
end
mutual
theorem TD.dp {K : PySem.W.Frag} {H : Hp} : ∀ (d : PyData) (v : V), TD H v d → Dp K H v d
  | _, _, .non => .non
  | _, _, .int i => .int i
  | _, _, .str x => .str x
  | _, _, .bl b => .bl b
  | .tuple ds, .ref a, .tup (xs := xs) h hs => .tup (SqT.of h) (TDs.dp ds xs hs)
theorem TDs.dp {K : PySem.W.Frag} {H : Hp} : ∀ (ds : List PyData) (vs : List V), TDs H vs ds → DpAll K H vs ds
  | _, _, .nil => .nil
  | d :: ds, v :: vs, .cons h hs => .cons (TD.dp d v h) (TDs.dp ds vs hs)
end
theorem TDs.length {H : Hp} : ∀ {vs : List V} {ds : List PyData}, TDs H vs ds → vs.length = ds.length
  | _, _, .nil => rfl
  | _, _, .cons _ h => congrArg Nat.succ (TDs.length h)
theorem TDs.get {H : Hp} : ∀ {vs : List V} {ds : List PyData}, TDs H vs ds → ∀ (i : Nat) (v : V), vs[i]? = some v → ∃ d, ds[i]? = some d ∧ TD H v d
  | _, _, .nil, i, v, h => by simp at h
  | _, _, .cons h1 h, 0, v, e => ⟨_, rfl, by
      have e2 := Option.some.inj e
      rw [← e2]
      exact h1⟩
  | _, _, .cons h1 h, i + 1, v, e => TDs.get h i v e
theorem TDs.app {H : Hp} : ∀ {vs ws : List V} {ds es : List PyData}, TDs H vs ds → TDs H ws es → TDs H (vs ++ ws) (ds ++ es)
  | _, _, _, _, .nil, h => h
  | _, _, _, _, .cons h1 h2, h => .cons h1 (TDs.app h2 h)
theorem TDs.ints {H : Hp} : ∀ ns : List Int, TDs H (ns.map V.int) (ns.map PyData.int)
  | [] => .nil
  | n :: r => .cons (.int n) (TDs.ints r)
def rowD (ns : List Int) : PyData := .tuple (ns.map PyData.int)
def pairD (p : Str × List Int) : PyData := .tuple [.str p.1, rowD p.2]
/-! ### keys, rows -/
def letS : Str := "abcdefghijklmnopqrstuvwxyz0123456789"
def KeyOk (s : Str) : Prop := 1 ≤ s.length ∧ s.length ≤ 8 ∧ ∀ c ∈ s.cps.toList, c ∈ letS.cps.toList
def RowOk (ns : List Int) : Prop := 1 ≤ ns.length ∧ ns.length ≤ 3 ∧ ∀ n ∈ ns, 0 ≤ n ∧ n ≤ 65535
theorem pick {z : Str} {d : Int} (h0 : 0 ≤ d) (h1 : d < (z.cps.toList.length : Int)) : ∃ c, atI z.cps.toList d = some c ∧ c ∈ z.cps.toList := by
  have hk : d.toNat < z.cps.toList.length := by omega
  have e : ((d.toNat : Nat) : Int) = d := by omega
  have q : atI z.cps.toList ((d.toNat : Nat) : Int) = some z.cps.toList[d.toNat] := atI_nat (List.getElem?_eq_getElem hk)
  rw [e] at q
  exact ⟨_, q, List.getElem_mem hk⟩
def spKey : Sp := fun vs H Q _ => ∃ st l : Addr, vs = [.ref st] ∧ Good st l H ∧ ∀ s H', KeyOk s → Le st H H' → Good st l H' → Q (.str s) H'
def spRow : Sp := fun vs H Q _ => ∃ st l : Addr, vs = [.ref st] ∧ Good st l H ∧ ∀ r ns H', RowOk ns → Le st H H' → Good st l H' → H' r = some (.tup (ns.map V.int)) → Q (.ref r) H'
theorem scKey : FnScope ["state", "letters", "choice", "key", "k"] ["state"] (defScope sKey) := ⟨rfl, rfl, rfl, by decide +kernel, rfl, by decide +kernel, by decide +kernel⟩
theorem scRow : FnScope ["state", "k"] ["state"] (defScope sRow) := ⟨rfl, rfl, rfl, by decide +kernel, rfl, by decide +kernel, by decide +kernel⟩
theorem sub1 : ∀ c ∈ ("abcdefghij" : Str).cps.toList, c ∈ letS.cps.toList := by decide +kernel
theorem sub2 : ∀ c ∈ ("ab0z" : Str).cps.toList, c ∈ letS.cps.toList := by decide +kernel
theorem sub3 : ∀ c ∈ ("ab9" : Str).cps.toList, c ∈ letS.cps.toList := by decide +kernel
theorem len1 : (("abcdefghij" : Str).cps.toList.length : Int) = 10 := by decide +kernel
theorem len2 : (("ab0z" : Str).cps.toList.length : Int) = 4 := by decide +kernel
theorem len3 : (("ab9" : Str).cps.toList.length : Int) = 3 := by decide +kernel
theorem lenL : (letS.cps.toList.length : Int) = 36 := by decide +kernel
theorem app_list (a b : Str) : (a ++ b).cps.toList = a.cps.toList ++ b.cps.toList := Array.toList_append
theorem str_len (a : Str) : a.length = a.cps.toList.length := (Array.length_toList).symm
theorem app_len (a b : Str) : (a ++ b).length = a.length + b.length := by
  rw [str_len, str_len, str_len, app_list, List.length_append]
theorem KeyOk.app {s : Str} {c : Nat} (h : s.length < 8) (hs : ∀ c ∈ s.cps.toList, c ∈ letS.cps.toList) (hc : c ∈ letS.cps.toList) : KeyOk (s ++ ⟨#[c]⟩) := by
  refine ⟨?_, ?_, fun x hx => ?_⟩
  · rw [app_len]
    show 1 ≤ s.length + 1
    omega
  · rw [app_len]
    show s.length + 1 ≤ 8
    omega
  · rw [app_list, List.mem_append] at hx
    rcases hx with hx | hx
    · exact hs x hx
    · have e : x = c := by simpa using hx
      rw [e]
      exact hc
theorem pow7 {n : Nat} (h : n ≤ 100000) : n < 2 ^ 200 := Nat.lt_of_le_of_lt h (by decide)
section
variable {P : Program} {w : World} {K : PySem.W.Frag} {mg : Str → Option Value} {base : Heap}
theorem ok_key (D : Def K mg "_law_key" sKey ["state"]) (DD : Def K mg "_law_draw" sDraw ["state", "limit"]) (mr : mg "range" = none) (GD : FnOk P w K mg base CX0 1 DD.f DD.fd ["state", "limit"] spDraw) : FnOk P w K mg base CX0 2 D.f D.fd ["state"] spKey := by
  refine D.F.ok scKey (fun vs H Q E h => ?_) (fun cdv A outer s H vs Q E hr h => ?_)
  · obtain ⟨st, l, rfl, _⟩ := h
    rfl
  obtain ⟨st, l, rfl, g, q⟩ := h
  refine ⟨_, pss_cons (ps_set (i := 1) scKey.nd rfl (.inl rfl) pe_str)
    (pss_cons (ps_set (i := 2) scKey.nd rfl (.inl rfl) (pe_call GD hr (by rfl) DD.m DD.F.kp DD.b .nil pass0 (pa_cons (pv 0) (pa_cons pe_int pa_nil))))
    (pss_cons (ps_if (pt_cmpR op_eq (pv 2) pe_int (nomark _))
      (pss_one (ps_ret (pe_ix ix_str pe_str (pe_call GD hr (by rfl) DD.m DD.F.kp DD.b .nil pass0 (pa_cons (pv 0) (pa_cons pe_int pa_nil))) (fun _ _ => rfl)))) pss_nil)
    (pss_cons (ps_if (pt_cmpR op_eq (pv 2) pe_int (nomark _))
      (pss_one (ps_ret (pe_op op_add_str (pe_ix ix_str pe_str (pe_call GD hr (by rfl) DD.m DD.F.kp DD.b .nil pass0 (pa_cons (pv 0) (pa_cons pe_int pa_nil))) (fun _ _ => rfl)) (pe_ix ix_str pe_str (pe_call GD hr (by rfl) DD.m DD.F.kp DD.b .nil pass0 (pa_cons (pv 0) (pa_cons pe_int pa_nil))) (fun _ _ => rfl))))) pss_nil)
    (pss_cons (ps_set (i := 3) scKey.nd rfl (.inl rfl) pe_str)
    (pss_cons (ps_for PassesOwn.never rfl (pi_range1 (by rfl) mr (pa_cons (pe_op op_add pe_int (pe_call GD hr (by rfl) DD.m DD.F.kp DD.b .nil pass0 (pa_cons (pv 0) (pa_cons pe_int pa_nil)))) pa_nil)) (pg_name (i := 4) scKey.nd rfl (.inl rfl))
      (pss_one (ps_set (i := 3) scKey.nd rfl (.inl rfl) (pe_op op_add_str (pv 3) (pe_ix ix_str (pv 1) (pe_call GD hr (by rfl) DD.m DD.F.kp DD.b .nil pass0 (pa_cons (pv 0) (pa_cons pe_int pa_nil))) (fun _ _ => rfl))))))
    (pss_one (ps_ret (pv 3)))))))), ?_⟩
  refine ⟨_, rfl, st, l, 3, rfl, g, by decide, by decide, fun d H1 d0 d1 le1 g1 => ?_⟩
  refine ⟨_, rfl, rfl, _, rfl, ite2 (fun _ => ?_) (fun _ => ?_)⟩
  · refine ⟨_, rfl, st, l, 10, rfl, g1, by decide, by decide, fun d2 H2 d20 d21 le2 g2 => ?_⟩
    obtain ⟨c, hc, hm⟩ := pick (z := "abcdefghij") d20 (by rw [len1]; exact d21)
    refine ⟨_, _, c, rfl, rfl, by decide, hc, ?_⟩
    refine q _ _ ⟨by show 1 ≤ 1; decide, by show 1 ≤ 8; decide, fun x hx => ?_⟩ (le1.trans le2) g2
    have e : x = c := by simpa using hx
    rw [e]
    exact sub1 c hm
  refine ⟨_, rfl, rfl, _, rfl, ite2 (fun _ => ?_) (fun _ => ?_)⟩
  · refine ⟨_, rfl, st, l, 4, rfl, g1, by decide, by decide, fun d2 H2 d20 d21 le2 g2 => ?_⟩
    obtain ⟨c, hc, hm⟩ := pick (z := "ab0z") d20 (by rw [len2]; exact d21)
    refine ⟨_, _, c, rfl, rfl, by decide, hc, ?_⟩
    refine ⟨_, rfl, st, l, 3, rfl, g2, by decide, by decide, fun d3 H3 d30 d31 le3 g3 => ?_⟩
    obtain ⟨c3, hc3, hm3⟩ := pick (z := "ab9") d30 (by rw [len3]; exact d31)
    refine ⟨_, _, c3, rfl, rfl, by decide, hc3, ?_⟩
    refine ⟨_, _, rfl, rfl, by show 2 ≤ sizeLine; decide, ?_⟩
    refine q _ _ (KeyOk.app (by show 1 < 8; decide) (fun x hx => ?_) (sub3 c3 hm3)) ((le1.trans le2).trans le3) g3
    have e : x = c := by simpa using hx
    rw [e]
    exact sub2 c hm
  refine ⟨_, rfl, st, l, 8, rfl, g1, by decide, by decide, fun d2 H2 d20 d21 le2 g2 => ?_⟩
  refine ⟨_, _, rfl, rfl, _, rfl, by omega, by omega, for_range (lo := 0) (n := (1 + d2).toNat) (fun i σ H' => ∃ s y, σ = [some (.ref st), some (.str letS), some (.int d), some (.str s), y] ∧ s.length = i ∧ (∀ c ∈ s.cps.toList, c ∈ letS.cps.toList) ∧ Le st H H' ∧ Good st l H') ?_ ?_ ?_⟩
  · exact ⟨_, _, rfl, rfl, fun c hc => (by cases hc), le1.trans le2, g2⟩
  · rintro i σ H' hi ⟨s, y, rfl, hl, hs, le, g3⟩
    refine ⟨_, rfl, _, rfl, _, rfl, st, l, 36, rfl, g3, by decide, by decide, fun d3 H3 d30 d31 le3 g3 => ?_⟩
    obtain ⟨c, hc, hm⟩ := pick (z := letS) d30 (by rw [lenL]; exact d31)
    refine ⟨_, _, c, rfl, rfl, by decide +kernel, hc, ?_⟩
    have hl8 : s.length < 8 := by omega
    refine ⟨_, _, rfl, rfl, by show s.length + 1 ≤ sizeLine; exact small (by omega), ?_⟩
    refine ⟨_, _, rfl, ?_, (KeyOk.app hl8 hs hm).2.2, le.trans le3, g3⟩
    rw [app_len, hl]
    rfl
  · rintro σ H' ⟨s, y, rfl, hl, hs, le, g3⟩
    exact ⟨_, rfl, q _ _ ⟨by omega, by omega, hs⟩ le g3⟩
theorem ok_row (D : Def K mg "_law_row" sRow ["state"]) (DD : Def K mg "_law_draw" sDraw ["state", "limit"]) (mr : mg "range" = none) (mt : mg "tuple" = none) (GD : FnOk P w K mg base CX0 1 DD.f DD.fd ["state", "limit"] spDraw) : FnOk P w K mg base CX0 2 D.f D.fd ["state"] spRow := by
  refine D.F.ok scRow (fun vs H Q E h => ?_) (fun cdv A outer s H vs Q E hr h => ?_)
  · obtain ⟨st, l, rfl, _⟩ := h
    rfl
  obtain ⟨st, l, rfl, g, q⟩ := h
  refine ⟨_, pss_one (ps_ret (pe_callTy call_tuple_of (by rfl) mt (by decide +kernel) (pa_cons (pe_lc (own := [("k", 1)]) (g := gName 1) (by rfl) scRow.nd
      (pi_range1 (by rfl) mr (pa_cons (pe_op op_add pe_int (pe_call GD hr (by rfl) DD.m DD.F.kp DD.b .nil pass0 (pa_cons (pv 0) (pa_cons pe_int pa_nil)))) pa_nil))
      (blkOk_by (own := [("k", 1)]) (N := ["state", "k"]) (sc := defScope sRow) (by decide +kernel))
      (fun _ _ _ _ _ => pg_name (i := 1) scRow.nd rfl (Or.inl rfl)) (fun _ _ _ _ _ => pts_nil)
      (fun _ _ _ _ _ => pe_call GD hr (by rfl) DD.m DD.F.kp DD.b .nil pass0 (pa_cons (pv 0) (pa_cons (pe_ix (r := rIxL K) ix_list (pe_lst (pa_cons pe_int (pa_cons pe_int pa_nil))) (pe_call GD hr (by rfl) DD.m DD.F.kp DD.b .nil pass0 (pa_cons (pv 0) (pa_cons pe_int pa_nil))) (fun _ _ => rfl)) pa_nil)))) pa_nil))), ?_⟩
  refine ⟨_, rfl, st, l, 3, rfl, g, by decide, by decide, fun d H1 d0 d1 le1 g1 => ?_⟩
  refine ⟨_, _, rfl, rfl, _, rfl, by omega, by omega, fun D hD => ?_⟩
  refine lc_range (lo := 0) (n := (1 + d).toNat) (fun i H' => ∃ ns : List Int, H' D = some (.lst (ns.map V.int)) ∧ ns.length = i ∧ (∀ n ∈ ns, 0 ≤ n ∧ n ≤ 65535) ∧ Le st H1 H' ∧ Good st l H') ?_ ?_ ?_
  · exact ⟨[], upd_same, rfl, fun n hn => (by cases hn), Le.of (same_new hD _), g1.same (same_new hD _)⟩
  · rintro i H2 hi ⟨ns, hns, hl, hb, le2, g2⟩
    refine ⟨rfl, ?_⟩
    refine ⟨_, rfl, by show 2 ≤ sizeLine; decide, fun z hz => ?_⟩
    have nDz : D ≠ z := ne_of_none hns hz
    have g3 := g2.same (same_new hz (.lst [.int 4, .int 65536]))
    refine ⟨_, rfl, st, l, 2, rfl, g3, by decide, by decide, fun d3 H3 d30 d31 le3 g3 => ?_⟩
    have hz3 : H3 z = some (.lst [.int 4, .int 65536]) := le3 z _ (g2.ne hz).1 upd_same
    have hD3 : H3 D = some (.lst (ns.map V.int)) := le3 D _ (g1.ne hD).1 (by rw [upd_ne nDz]; exact hns)
    obtain ⟨m, hm, m0, m1⟩ : ∃ m : Int, atI [V.int 4, .int 65536] d3 = some (.int m) ∧ 0 < m ∧ m ≤ 65536 := by
      rcases (by omega : d3 = 0 ∨ d3 = 1) with e | e
      · exact ⟨4, by rw [e]; rfl, by decide, by decide⟩
      · exact ⟨65536, by rw [e]; rfl, by decide, by decide⟩
    refine ⟨z, _, d3, _, rfl, rfl, SqL.of hz3, hm, ?_⟩
    refine ⟨st, l, m, rfl, g3, m0, pow7 (by omega), fun d4 H4 d40 d41 le4 g4 => ?_⟩
    have hD4 : H4 D = some (.lst (ns.map V.int)) := le4 D _ (g1.ne hD).1 hD3
    refine ⟨_, hD4, ?_, ns ++ [d4], ?_, ?_, ?_, ?_, g4.put (g1.ne hD)⟩
    · rw [List.length_map]
      exact small1000 (by omega)
    · rw [upd_same, List.map_append]
      rfl
    · rw [List.length_append, hl]
      rfl
    · intro n hn
      rw [List.mem_append] at hn
      rcases hn with hn | hn
      · exact hb n hn
      · have e : n = d4 := by simpa using hn
        omega
    · exact (((le2.trans (Le.of (same_new hz _))).trans le3).trans le4).mut hD
  · rintro H2 ⟨ns, hns, hl, hb, le2, g2⟩
    refine ⟨D, _, rfl, .inl ⟨SqL.of hns, fun r hr2 => ?_⟩⟩
    refine q r ns _ ⟨by omega, by omega, hb⟩ ((le1.trans le2).trans (Le.of (same_new hr2 _))) (g2.same (same_new hr2 _)) upd_same
end

abbrev sTable : Stmt := topS 10
/-! ### order of keys -/
def Lt (a b : Str) : Prop := a.cps.toList < b.cps.toList
theorem tri : ∀ a b : List Nat, a < b ∨ a = b ∨ b < a
  | [], [] => .inr (.inl rfl)
  | [], _ :: _ => .inl (by simp)
  | _ :: _, [] => .inr (.inr (by simp))
  | x :: a, y :: b => by
    rcases Nat.lt_trichotomy x y with h | h | h
    · exact .inl (List.cons_lt_cons_iff.mpr (.inl h))
    · subst h
      rcases tri a b with q | q | q
      · exact .inl (List.cons_lt_cons_iff.mpr (.inr ⟨rfl, q⟩))
      · exact .inr (.inl (by rw [q]))
      · exact .inr (.inr (List.cons_lt_cons_iff.mpr (.inr ⟨rfl, q⟩)))
    · exact .inr (.inr (List.cons_lt_cons_iff.mpr (.inl h)))
theorem ltr : ∀ {a b c : List Nat}, a < b → b < c → a < c
  | _, [], _, h, _ => absurd h (by simp)
  | _, _ :: _, [], _, h => absurd h (by simp)
  | [], _ :: _, _ :: _, _, _ => by simp
  | x :: a, y :: b, z :: c, h, k => by
    rw [List.cons_lt_cons_iff] at h k ⊢
    rcases h with h | ⟨rfl, h⟩
    · rcases k with k | ⟨rfl, k⟩
      · exact .inl (Nat.lt_trans h k)
      · exact .inl h
    · rcases k with k | ⟨rfl, k⟩
      · exact .inl k
      · exact .inr ⟨rfl, ltr h k⟩
theorem lirr : ∀ {a : List Nat}, ¬ a < a
  | [], h => absurd h (by simp)
  | x :: a, h => by
    rw [List.cons_lt_cons_iff] at h
    rcases h with h | ⟨_, h⟩
    · exact Nat.lt_irrefl _ h
    · exact lirr h
theorem Lt.trans {a b c : Str} (h : Lt a b) (k : Lt b c) : Lt a c := ltr h k
theorem Lt.irrefl {a : Str} : ¬ Lt a a := lirr
theorem str_ext {a b : Str} (h : a.cps.toList = b.cps.toList) : a = b := by
  cases a
  cases b
  exact congrArg Str.mk (Array.toList_inj.mp h)
theorem Lt.tri (a b : Str) : Lt a b ∨ a = b ∨ Lt b a := by
  rcases RR.tri a.cps.toList b.cps.toList with h | h | h
  · exact .inl h
  · exact .inr (.inl (str_ext h))
  · exact .inr (.inr h)
theorem asc_of : ∀ (r : List Str) (p : Str), risingS p r = true → (p :: r).Nodup → (p :: r).Pairwise Lt
  | [], p, _, _ => List.pairwise_singleton _ _
  | x :: r, p, h, n => by
    have h1 : (!ltCps x.cps.toList p.cps.toList && risingS x r) = true := h
    rw [Bool.and_eq_true] at h1
    have h2 := h1.1
    rw [ltCps_eq] at h2
    have n2 := List.nodup_cons.mp n
    have hx : Lt p x := by
      rcases Lt.tri p x with k | k | k
      · exact k
      · exact absurd (by rw [k]; exact List.mem_cons_self) n2.1
      · rw [decide_eq_true (show x.cps.toList < p.cps.toList from k)] at h2
        cases h2
    have ih := asc_of r x h1.2 n2.2
    refine List.pairwise_cons.mpr ⟨fun y hy => ?_, ih⟩
    rcases List.mem_cons.mp hy with e | e
    · rw [e]
      exact hx
    · exact hx.trans (List.rel_of_pairwise_cons ih e)
theorem asc {ys : List Str} (h : sortedS ys = true) (n : ys.Nodup) : ys.Pairwise Lt := by
  cases ys with
  | nil => exact List.Pairwise.nil
  | cons x r => exact asc_of r x h n
def TabOk (tb : List (Str × List Int)) : Prop := (tb.map (·.1)).Pairwise Lt ∧ ∀ p ∈ tb, KeyOk p.1 ∧ RowOk p.2
/-! ### dicts -/
theorem mem_put {kvs : List (Key × V)} {k : Key} {v : V} {e : Key × V} (h : e ∈ putK kvs k v) : e = (k, v) ∨ e ∈ kvs := by
  unfold putK at h
  split at h
  · obtain ⟨a, ha, rfl⟩ := List.mem_map.mp h
    by_cases q : a.1 = k
    · rw [if_pos q, q]
      exact .inl rfl
    · rw [if_neg q]
      exact .inr ha
  · rcases List.mem_append.mp h with h | h
    · exact .inr h
    · exact .inl (by simpa using h)
theorem put_keys (kvs : List (Key × V)) (k : Key) (v : V) : (k ∈ kvs.map (·.1) ∧ (putK kvs k v).map (·.1) = kvs.map (·.1)) ∨ (k ∉ kvs.map (·.1) ∧ (putK kvs k v).map (·.1) = kvs.map (·.1) ++ [k]) := by
  have ha : (kvs.any fun kv => decide (kv.1 = k)) = true ↔ k ∈ kvs.map (·.1) := by
    rw [List.any_eq_true, List.mem_map]
    constructor
    · rintro ⟨x, hx, e⟩
      exact ⟨x, hx, of_decide_eq_true e⟩
    · rintro ⟨x, hx, e⟩
      exact ⟨x, hx, decide_eq_true e⟩
  unfold putK
  by_cases h : k ∈ kvs.map (·.1)
  · refine .inl ⟨h, ?_⟩
    rw [if_pos (ha.mpr h), List.map_map]
    refine List.map_congr_left fun x _ => ?_
    show (if x.1 = k then (x.1, v) else x).1 = x.1
    split <;> rfl
  · refine .inr ⟨h, ?_⟩
    rw [if_neg (fun z => h (ha.mp z)), List.map_append]
    rfl
theorem val_mem {kvs : List (Key × V)} {k : Key} (h : k ∈ kvs.map (·.1)) : ∃ v, valV kvs k = some v ∧ (k, v) ∈ kvs := by
  induction kvs with
  | nil => cases h
  | cons p r ih =>
    by_cases e : p.1 = k
    · exact ⟨p.2, valV_pos e, by rw [← e]; exact List.mem_cons_self⟩
    · rw [List.map_cons, List.mem_cons] at h
      rcases h with h | h
      · exact absurd h.symm e
      · obtain ⟨v, hv, hm⟩ := ih h
        exact ⟨v, by rw [valV_neg e]; exact hv, List.mem_cons_of_mem _ hm⟩
def RowsOk (H : Hp) (kvs : List (Key × V)) : Prop := (kvs.map (·.1)).Nodup ∧ ∀ e ∈ kvs, ∃ s ns, e.1 = .inr s ∧ KeyOk s ∧ RowOk ns ∧ TD H e.2 (rowD ns)
theorem RowsOk.mono {H H' : Hp} {kvs : List (Key × V)} (k : Tk H H') (h : RowsOk H kvs) : RowsOk H' kvs := ⟨h.1, fun e he => by
  obtain ⟨s, ns, h1, h2, h3, h4⟩ := h.2 e he
  exact ⟨s, ns, h1, h2, h3, TD.mono k _ _ h4⟩⟩
theorem RowsOk.put {H : Hp} {kvs : List (Key × V)} {s : Str} {v : V} {ns : List Int} (h : RowsOk H kvs) (hs : KeyOk s) (hn : RowOk ns) (hv : TD H v (rowD ns)) : RowsOk H (putK kvs (.inr s) v) := by
  refine ⟨?_, fun e he => ?_⟩
  · rcases put_keys kvs (.inr s) v with ⟨hk, q⟩ | ⟨hk, q⟩
    · rw [q]
      exact h.1
    · rw [q]
      refine List.nodup_append.mpr ⟨h.1, by simp, fun a ha b hb => ?_⟩
      have e : b = Sum.inr s := by simpa using hb
      intro z
      rw [z, e] at ha
      exact hk ha
  · rcases mem_put he with e | e
    · rw [e]
      exact ⟨s, ns, rfl, hs, hn, hv⟩
    · exact h.2 _ e
theorem put_len (kvs : List (Key × V)) (k : Key) (v : V) : (putK kvs k v).length ≤ kvs.length + 1 := by
  rcases put_keys kvs k v with ⟨hk, q⟩ | ⟨hk, q⟩
  · have h := congrArg List.length q
    rw [List.length_map, List.length_map] at h
    omega
  · have h := congrArg List.length q
    rw [List.length_map, List.length_append, List.length_map, List.length_singleton] at h
    omega
theorem RowsOk.strs {H : Hp} {kvs : List (Key × V)} (h : RowsOk H kvs) : ∃ ks : List Str, kvs.map (·.1) = ks.map Sum.inr ∧ ks.Nodup := by
  obtain ⟨h1, h2⟩ := h
  induction kvs with
  | nil => exact ⟨[], rfl, List.nodup_nil⟩
  | cons p r ih =>
    rw [List.map_cons, List.nodup_cons] at h1
    obtain ⟨ks, e, n⟩ := ih h1.2 fun e he => h2 e (List.mem_cons_of_mem _ he)
    obtain ⟨s, ns, e1, _⟩ := h2 p List.mem_cons_self
    refine ⟨s :: ks, by rw [List.map_cons, List.map_cons, e, e1], List.nodup_cons.mpr ⟨fun hs => ?_, n⟩⟩
    refine h1.1 ?_
    rw [e, e1]
    exact List.mem_map.mpr ⟨s, hs, rfl⟩
theorem Le.free {st l : Addr} {H H' : Hp} {D : Addr} (le : Le st H H') (g : Good st l H') (h : H' D = none) : H D = none := by
  cases e : H D with
  | none => rfl
  | some o =>
    rw [le D o (g.ne h).1 e] at h
    cases h
def spTable : Sp := fun vs H Q _ => ∃ (st l : Addr) (most : Int), vs = [.ref st, .int most] ∧ Good st l H ∧ 0 ≤ most ∧ most ≤ 30 ∧
  ∀ t vs tb H', TabOk tb → (tb.length : Int) ≤ most → H t = none → Le st H H' → Good st l H' → H' t = some (.lst vs) → TDs H' vs (tb.map pairD) → Q (.ref t) H'
theorem scTable : FnScope ["state", "most", "rows", "k", "key"] ["state", "most"] (defScope sTable) := ⟨rfl, rfl, rfl, by decide +kernel, rfl, by decide +kernel, by decide +kernel⟩
section
variable {P : Program} {w : World} {K : PySem.W.Frag} {mg : Str → Option Value} {base : Heap}
theorem ok_table (D : Def K mg "_law_table" sTable ["state", "most"]) (DD : Def K mg "_law_draw" sDraw ["state", "limit"]) (DK : Def K mg "_law_key" sKey ["state"]) (DR : Def K mg "_law_row" sRow ["state"]) (mr : mg "range" = none) (ms : mg "sorted" = none)
    (GD : FnOk P w K mg base CX0 1 DD.f DD.fd ["state", "limit"] spDraw) (GK : FnOk P w K mg base CX0 2 DK.f DK.fd ["state"] spKey) (GR : FnOk P w K mg base CX0 2 DR.f DR.fd ["state"] spRow) : FnOk P w K mg base CX0 3 D.f D.fd ["state", "most"] spTable := by
  refine D.F.ok scTable (fun vs H Q E h => ?_) (fun cdv A outer s H vs Q E hr h => ?_)
  · obtain ⟨st, l, most, rfl, _⟩ := h
    rfl
  obtain ⟨st, l, most, rfl, g, hm0, hm1, q⟩ := h
  refine ⟨_, pss_cons (ps_set (i := 2) scTable.nd rfl (.inr rfl) pe_dnewK)
    (pss_cons (ps_for PassesOwn.never rfl (pi_range1 (by rfl) mr (pa_cons (pe_call GD (hr.mono (by decide)) (by rfl) DD.m DD.F.kp DD.b .nil pass0 (pa_cons (pv 0) (pa_cons (pe_op op_add (pv 1) pe_int) pa_nil))) pa_nil)) (pg_name (i := 3) scTable.nd rfl (.inl rfl))
      (pss_cons (ps_set (i := 4) scTable.nd rfl (.inl rfl) (pe_call GK hr (by rfl) DK.m DK.F.kp DK.b .nil pass0 (pa_cons (pv 0) pa_nil)))
      (pss_one (ps_dput (hu_of hr) (pv 2) (pv 4) (pe_call GR hr (by rfl) DR.m DR.F.kp DR.b .nil pass0 (pa_cons (pv 0) pa_nil)) rfl))))
    (pss_one (ps_ret (pe_lc (own := [("key", 4)]) (g := gName 4) (by rfl) scTable.nd
      (pi_list (pe_callB (call_sortedD rfl) (by rfl) ms (by decide +kernel) (pa_cons (pv 2) pa_nil)))
      (blkOk_by (own := [("key", 4)]) (N := ["state", "most", "rows", "k", "key"]) (sc := defScope sTable) (by decide +kernel))
      (fun _ _ _ _ _ => pg_name (i := 4) scTable.nd rfl (Or.inl rfl)) (fun _ _ _ _ _ => pts_nil)
      (fun _ _ _ _ _ => pe_tup (pa_cons (pv 4) (pa_cons (pe_dget (hu_of hr) (pv 2) (pv 4) (fun _ _ => rfl)) pa_nil))))))), ?_⟩
  intro d hd
  have g0 := g.same (same_new hd (.dK []))
  refine ⟨_, rfl, _, rfl, _, _, rfl, rfl, st, l, most + 1, rfl, g0, by omega, pow7 (by omega), fun n H1 n0 n1 le1 g1 => ?_⟩
  have hd1 : H1 d = some (.dK []) := le1 d _ (g.ne hd).1 upd_same
  have le1' : Le st H H1 := (Le.of (same_new hd _)).trans le1
  refine ⟨n, rfl, by omega, by omega, for_range (lo := 0) (n := n.toNat) (fun i σ H' => ∃ kvs y3 y4, σ = [some (.ref st), some (.int most), some (.ref d), y3, y4] ∧ H' d = some (.dK kvs) ∧ kvs.length ≤ i ∧ RowsOk H' kvs ∧ Le st H H' ∧ Good st l H') ?_ ?_ ?_⟩
  · exact ⟨[], _, _, rfl, hd1, Nat.le_refl _, ⟨List.nodup_nil, fun e he => (by cases he)⟩, le1', g1⟩
  · rintro i σ H2 hi ⟨kvs, y3, y4, rfl, hd2, hl, hk, le2, g2⟩
    refine ⟨_, rfl, st, l, rfl, g2, fun s H3 hs le3 g3 => ?_⟩
    refine ⟨_, rfl, st, l, rfl, g3, fun r ns H4 hn le4 g4 hr4 => ?_⟩
    have hd4 : H4 d = some (.dK kvs) := le4 d _ (g.ne hd).1 (le3 d _ (g.ne hd).1 hd2)
    have hk4 : RowsOk H4 kvs := (hk.mono (Tk.le g2 le3)).mono (Tk.le g3 le4)
    refine ⟨_, rfl, _, rfl, d, _, rfl, DPut.k (k := Sum.inr s) hd4 (small1000 (by omega)), ?_⟩
    have tk : Tk H4 (upd H4 d (.dK (putK kvs (Sum.inr s) (.ref r)))) := Tk.put _ fun xs e => by
      rw [hd4] at e
      cases e
    refine ⟨putK kvs (Sum.inr s) (.ref r), _, _, rfl, upd_same, Nat.le_trans (put_len _ _ _) (by omega), (hk4.put hs hn ?_).mono tk, ((le2.trans le3).trans le4).mut hd, g4.put (g.ne hd)⟩
    exact .tup hr4 (TDs.ints ns)
  · rintro σ H2 ⟨kvs, y3, y4, rfl, hd2, hl, hk, le2, g2⟩
    obtain ⟨ks, eks, nks⟩ := hk.strs
    have lks : ks.length = kvs.length := by
      have h := congrArg List.length eks
      rw [List.length_map, List.length_map] at h
      exact h.symm
    refine ⟨_, rfl, d, kvs, ks, rfl, .inl hd2, eks, by omega, fun ys p hp hsort hpn => ?_⟩
    refine ⟨p, rfl, ⟨_, SqL.of upd_same⟩, fun D hD => ?_⟩
    have npd : d ≠ p := ne_of_none hd2 hpn
    have npD : p ≠ D := ne_of_none upd_same hD
    have hHD : H2 D = none := by
      rw [upd_ne npD.symm] at hD
      exact hD
    have ndD : d ≠ D := ne_of_none hd2 hHD
    have s3 : Same H2 (upd (upd H2 p (.lst (ys.map V.str))) D (.lst [])) := (same_new hpn _).trans (same_new hD _)
    refine lc_list (K := K) (a := p) (xs := ys.map V.str) (fun i H' => ∃ (vs : List V) (tb : List (Str × List Int)), H' D = some (.lst vs) ∧ TDs H' vs (tb.map pairD) ∧ tb.map (·.1) = ys.take i ∧ (∀ p ∈ tb, KeyOk p.1 ∧ RowOk p.2) ∧ Le st H H' ∧ Good st l H' ∧ H' d = some (.dK kvs) ∧ RowsOk H' kvs ∧ H' p = some (.lst (ys.map V.str))) ?_ ?_ ?_ ?_
    · exact ⟨[], [], upd_same, .nil, rfl, fun p hp => (by cases hp), le2.trans (Le.of s3), g2.same s3, s3 _ _ hd2, hk.mono (Tk.same s3), by rw [upd_ne npD]; exact upd_same⟩
    · rintro i H' hi ⟨vs, tb, _, _, _, _, _, _, _, _, h⟩
      exact SqL.of h
    · rintro i x H' hi ⟨vs, tb, hD', hT, et, hok, le', g', hd', hk', hp'⟩
      obtain ⟨y, hy, rfl⟩ : ∃ y, ys[i]? = some y ∧ x = .str y := by
        rw [List.getElem?_map] at hi
        cases e : ys[i]? with
        | none =>
          rw [e] at hi
          cases hi
        | some y =>
          rw [e] at hi
          exact ⟨y, rfl, (Option.some.inj hi).symm⟩
      have hyk : (Sum.inr y : Key) ∈ kvs.map (·.1) := by
        rw [eks]
        exact List.mem_map.mpr ⟨y, hp.mem_iff.mp (List.mem_of_getElem? hy), rfl⟩
      obtain ⟨v, hv, hm⟩ := val_mem hyk
      obtain ⟨s0, ns, e1, h2, h3, h4⟩ := hk'.2 _ hm
      have e1' : y = s0 := Sum.inr.inj e1
      subst e1'
      refine ⟨rfl, ?_⟩
      refine ⟨_, rfl, _, rfl, _, rfl, d, v, rfl, (by rw [← hv]; exact DGet.k (k := Sum.inr y) hd'), by show 2 ≤ sizeLine; decide, fun t ht => ?_⟩
      have nDt : D ≠ t := ne_of_none hD' ht
      have s5 := same_new ht (.tup [.str y, v])
      have hlen : vs.length = tb.length := by
        have h := TDs.length hT
        rw [List.length_map] at h
        exact h
      have htb : tb.length ≤ 30 := by
        have h := congrArg List.length et
        rw [List.length_map, List.length_take] at h
        have h9 := hp.length_eq
        omega
      refine ⟨vs, by rw [upd_ne nDt]; exact hD', small1000 (by omega), ?_⟩
      have tk : Tk H' (upd (upd H' t (.tup [.str y, v])) D (.lst (vs ++ [.ref t]))) := (Tk.same s5).trans (Tk.put _ fun xs e => by
        rw [upd_ne nDt, hD'] at e
        cases e)
      have nDst : D ≠ st ∧ D ≠ l := g2.ne hHD
      refine ⟨vs ++ [.ref t], tb ++ [(y, ns)], upd_same, ?_, ?_, ?_, (le'.trans (Le.of s5)).mut (le2.free g2 hHD), (g'.same s5).put nDst, ?_, hk'.mono tk, ?_⟩
      · rw [List.map_append]
        refine TDs.app (TDs.mono tk _ _ hT) (.cons ?_ .nil)
        refine .tup (xs := [.str y, v]) ?_ (.cons (.str y) (.cons (TD.mono tk _ _ h4) .nil))
        rw [upd_ne nDt.symm]
        exact upd_same
      · rw [List.map_append, et, List.take_add_one, hy]
        rfl
      · intro p hp
        rw [List.mem_append] at hp
        rcases hp with hp | hp
        · exact hok p hp
        · have e : p = (y, ns) := by simpa using hp
          rw [e]
          exact ⟨h2, h3⟩
      · rw [upd_ne ndD]
        exact s5 _ _ hd'
      · rw [upd_ne npD]
        exact s5 _ _ hp'
    · rintro H' ⟨vs, tb, hD', hT, et, hok, le', g', hd', hk', hp'⟩
      rw [List.length_map, List.take_length] at et
      have hlen : tb.length = ys.length := by
        have h := congrArg List.length et
        rw [List.length_map] at h
        exact h
      have h9 := hp.length_eq
      refine q D vs tb H' ⟨by rw [et]; exact asc hsort (hp.nodup_iff.mpr nks), hok⟩ (by omega) (le2.free g2 hHD) le' g' hD' hT
end

def Sh (n : Nat) (d : PyData) : Prop := d.canLay0 = true ∧ d.depth ≤ n
theorem all_lay : ∀ xs : List PyData, (∀ x ∈ xs, x.canLay0 = true) → PyData.canLayAll0 xs = true
  | [], _ => rfl
  | x :: xs, h => by
    show (x.canLay0 && PyData.canLayAll0 xs) = true
    rw [h x List.mem_cons_self, all_lay xs fun y hy => h y (List.mem_cons_of_mem _ hy)]
    rfl
theorem all_depth {n : Nat} : ∀ xs : List PyData, (∀ x ∈ xs, x.depth ≤ n) → PyData.depthAll xs ≤ n
  | [], _ => Nat.zero_le _
  | x :: xs, h => by
    show max x.depth (PyData.depthAll xs) ≤ n
    exact Nat.max_le.mpr ⟨h x List.mem_cons_self, all_depth xs fun y hy => h y (List.mem_cons_of_mem _ hy)⟩
theorem Sh.list {n : Nat} {xs : List PyData} (h : ∀ x ∈ xs, Sh n x) : Sh (n + 1) (.list xs) := ⟨all_lay xs fun x hx => (h x hx).1, Nat.succ_le_succ (all_depth xs fun x hx => (h x hx).2)⟩
theorem Sh.tuple {n : Nat} {xs : List PyData} (h : ∀ x ∈ xs, Sh n x) : Sh (n + 1) (.tuple xs) := ⟨all_lay xs fun x hx => (h x hx).1, Nat.succ_le_succ (all_depth xs fun x hx => (h x hx).2)⟩
theorem Sh.int {n : Nat} (i : Int) : Sh n (.int i) := ⟨rfl, Nat.zero_le _⟩
theorem Sh.non {n : Nat} : Sh n .none := ⟨rfl, Nat.zero_le _⟩
theorem let_ok : ∀ c ∈ letS.cps.toList, c < 128 := by decide +kernel
theorem Sh.str {n : Nat} {s : Str} (h : ∀ c ∈ s.cps.toList, c < 128) : Sh n (.str s) := by
  refine ⟨?_, Nat.zero_le _⟩
  show s.cps.all (· < 0x110000) = true
  rw [← Array.all_toList, List.all_eq_true]
  intro x hx
  exact decide_eq_true (Nat.lt_trans (h x hx) (by decide))
theorem Sh.key {n : Nat} {s : Str} (h : KeyOk s) : Sh n (.str s) := Sh.str fun c hc => let_ok c (h.2.2 c hc)
theorem Sh.row (n : Nat) (ns : List Int) : Sh (n + 1) (rowD ns) := Sh.tuple fun x hx => by
  obtain ⟨i, _, rfl⟩ := List.mem_map.mp hx
  exact Sh.int i
theorem Sh.pair {n : Nat} {p : Str × List Int} (h : KeyOk p.1) : Sh (n + 2) (pairD p) := Sh.tuple fun x hx => by
  rcases List.mem_cons.mp hx with e | e
  · rw [e]
    exact Sh.key h
  · have e2 : x = rowD p.2 := by simpa using e
    rw [e2]
    exact Sh.row n _
theorem Sh.tab {n : Nat} {tb : List (Str × List Int)} (h : ∀ p ∈ tb, KeyOk p.1) : Sh (n + 3) (.list (tb.map pairD)) := Sh.list fun x hx => by
  obtain ⟨p, hp, rfl⟩ := List.mem_map.mp hx
  exact Sh.pair (h p hp)
theorem Sh.mono {n m : Nat} {d : PyData} (h : Sh n d) (k : n ≤ m) : Sh m d := ⟨h.1, Nat.le_trans h.2 k⟩
theorem Sh.ok {n : Nat} {d : PyData} (h : Sh n d) (k : n ≤ 64) : SeqAt.shaped d = true := by
  unfold SeqAt.shaped
  rw [h.1, decide_eq_true (Nat.le_trans h.2 k)]
  rfl
theorem Sh.refl {n : Nat} {d : PyData} (h : Sh n d) : PyData.eqv d d = true := SeqAt.eqv_refl d h.1
theorem TD.un {H : Hp} {v : V} {ds : List PyData} (h : TD H v (.tuple ds)) : ∃ a xs, v = .ref a ∧ H a = some (.tup xs) ∧ TDs H xs ds := by
  cases h with
  | tup h1 h2 => exact ⟨_, _, rfl, h1, h2⟩
theorem TD.str_eq {H : Hp} {v : V} {s : Str} (h : TD H v (.str s)) : v = .str s := by
  cases h with
  | str => rfl
theorem TD.int_eq {H : Hp} {v : V} {i : Int} (h : TD H v (.int i)) : v = .int i := by
  cases h with
  | int => rfl
theorem TDs.un {H : Hp} {vs : List V} {d : PyData} {ds : List PyData} (h : TDs H vs (d :: ds)) : ∃ v ws, vs = v :: ws ∧ TD H v d ∧ TDs H ws ds := by
  cases h with
  | cons h1 h2 => exact ⟨_, _, rfl, h1, h2⟩
theorem TDs.un0 {H : Hp} {vs : List V} (h : TDs H vs []) : vs = [] := by
  cases h with
  | nil => rfl
theorem TD.pair {H : Hp} {v : V} {p : Str × List Int} (h : TD H v (pairD p)) : ∃ a r, v = .ref a ∧ H a = some (.tup [.str p.1, r]) ∧ TD H r (rowD p.2) := by
  obtain ⟨a, xs, rfl, h1, h2⟩ := TD.un h
  obtain ⟨x, ys, rfl, h3, h4⟩ := h2.un
  obtain ⟨r, zs, rfl, h5, h6⟩ := h4.un
  have e := h6.un0
  subst e
  have e2 := h3.str_eq
  subst e2
  exact ⟨a, r, rfl, h1, h5⟩
def below (k : Str) (tb : List (Str × List Int)) : List (Str × List Int) := tb.filter fun p => decide (p.1.cps.toList < k.cps.toList)
def above (k : Str) (tb : List (Str × List Int)) : List (Str × List Int) := tb.filter fun p => decide (k.cps.toList < p.1.cps.toList)
theorem lt_asym {a b : List Nat} (h : a < b) : ¬ b < a := fun k => lirr (ltr h k)
theorem parts_len (k : Str) : ∀ tb : List (Str × List Int), (below k tb).length + (above k tb).length ≤ tb.length
  | [] => Nat.le_refl _
  | p :: r => by
    have ih := parts_len k r
    unfold below above at ih ⊢
    rw [List.filter_cons, List.filter_cons]
    by_cases h1 : p.1.cps.toList < k.cps.toList
    · rw [if_pos (decide_eq_true h1), if_neg (by rw [decide_eq_false (lt_asym h1)]; decide)]
      simp only [List.length_cons]
      omega
    · rw [if_neg (by rw [decide_eq_false h1]; decide)]
      split <;> simp only [List.length_cons] <;> omega
/-- [x for x in xs if test]: a test that makes nothing -/
theorem lc_filt {K : PySem.W.Frag} {a D : Addr} {vs : List V} {tb : List (Str × List Int)} {i : Nat} {tt : TT} {ws : List Nat} {σ : L2.St} {H1 : Hp} {Qd : Hp → Prop} (f : Str × List Int → Bool)
    (hS : H1 a = some (.lst vs)) (hT : TDs H1 vs (tb.map pairD)) (hD : H1 D = none) (hlen : vs.length ≤ 1000)
    (hw : ∀ v, wipe ((wipe σ ws).set i (some v)) ws = wipe σ ws) (hi : ∀ v, ((wipe σ ws).set i (some v))[i]? = some (some v))
    (ht : ∀ (p : Str × List Int) (c : Addr) (r : V) (H' : Hp), p ∈ tb → H' c = some (.tup [.str p.1, r]) → TD H' r (rowD p.2) → Same H1 H' → ∀ Q : Bool → Hp → Prop, Q (f p) H' → tt ((wipe σ ws).set i (some (.ref c))) H' Q)
    (hd : ∀ us H', Same H1 H' → H' D = some (.lst us) → TDs H' us ((tb.filter f).map pairD) → Qd H') :
    ∃ W : Nat → Nat → Hp → Prop, (∃ m, W 0 m (upd H1 D (.lst []))) ∧ ∀ j m H, W j m H →
      ((Itl K a).stop j H ∧ Qd H) ∨ ((Itl K a).go j H ∧ ∃ Nx : Hp → Prop, (∀ H', Nx H' → ∃ m', m' < m ∧ W (j + 1) m' H') ∧ ∀ x H', (Itl K a).yld j H x H' → gName i x (wipe σ ws) H' fun σ2 H2 => wipe σ2 ws = wipe σ ws ∧ tt σ2 H2 fun b H3 =>
        if b = true then tVar i σ2 H3 fun y H4 => ∃ acc, H4 D = some (.lst acc) ∧ acc.length < sizeLine ∧ Nx (upd H4 D (.lst (acc ++ [y]))) else Nx H3) := by
  have hl := hT.length
  rw [List.length_map] at hl
  refine lc_list (K := K) (a := a) (xs := vs) (fun j H' => ∃ us, H' D = some (.lst us) ∧ TDs H' us (((tb.take j).filter f).map pairD) ∧ Same H1 H') ?_ ?_ ?_ ?_
  · exact ⟨[], upd_same, .nil, same_new hD _⟩
  · rintro j H' _ ⟨us, _, _, s⟩
    exact SqL.of (s _ _ hS)
  · rintro j x H' hx ⟨us, hus, hU, s⟩
    have hj : j < vs.length := (List.getElem?_eq_some_iff.mp hx).1
    obtain ⟨d, hd1, hd2⟩ := TDs.get hT j x hx
    rw [List.getElem?_map] at hd1
    obtain ⟨p, hp, rfl⟩ : ∃ p, tb[j]? = some p ∧ d = pairD p := by
      cases e : tb[j]? with
      | none =>
        rw [e] at hd1
        cases hd1
      | some p =>
        rw [e] at hd1
        exact ⟨p, rfl, (Option.some.inj hd1).symm⟩
    have hm : p ∈ tb := List.mem_of_getElem? hp
    obtain ⟨c, r, rfl, hc, hr⟩ := (TD.mono (Tk.same s) _ _ hd2).pair
    have etake : tb.take (j + 1) = tb.take j ++ [p] := by
      rw [List.take_add_one, hp]
      rfl
    refine ⟨hw _, ht p c r H' hm hc hr s _ ?_⟩
    cases e : f p with
    | true =>
      refine iteT ?_
      have hul : us.length ≤ vs.length := by
        have h := hU.length
        rw [List.length_map] at h
        have h2 := List.length_filter_le f (tb.take j)
        rw [List.length_take] at h2
        omega
      have tk : Tk H' (upd H' D (.lst (us ++ [.ref c]))) := Tk.put _ fun xs e => by
        rw [hus] at e
        cases e
      refine ⟨_, hi _, us, hus, small1000 (by omega), us ++ [.ref c], upd_same, ?_, fun b o e => ?_⟩
      · rw [etake, List.filter_append, List.filter_cons, e, if_pos rfl, List.map_append]
        exact TDs.app (TDs.mono tk _ _ hU) (.cons (TD.mono (tk) _ _ (TD.mono (Tk.same s) _ _ hd2)) .nil)
      · rw [upd_ne (ne_of_none e hD)]
        exact s _ _ e
    | false =>
      refine iteF ?_
      refine ⟨us, hus, ?_, s⟩
      rw [etake, List.filter_append, List.filter_cons, e, if_neg Bool.false_ne_true, List.filter_nil, List.append_nil]
      exact hU
  · rintro H' ⟨us, hus, hU, s⟩
    rw [hl, List.take_length] at hU
    exact hd us H' s hus hU
abbrev Tab := List (Str × List Int)
def inR (lo hi k : Str) : Bool := !decide (k.cps.toList < lo.cps.toList) && decide (k.cps.toList < hi.cps.toList)
def within (lo hi : Str) (tb : Tab) : Tab := tb.filter fun p => inR lo hi p.1
def colOf (ns : List Int) (c : Int) : Int := if c < (ns.length : Int) then ns.getD c.toNat 0 else 0
def look (tb : Tab) (k : Str) : Option (List Int) := (tb.find? fun p => decide (p.1 = k)).map (·.2)
def optD : Option (List Int) → PyData
  | none => .none
  | some r => rowD r
def pairO : Option (Str × List Int) → PyData
  | none => .none
  | some p => pairD p
inductive Qry where
  | get (k : Str)
  | range (lo hi : Str)
  | next (k : Str) (n : Int)
  | count (lo hi : Str)
  | sum (c : Int) (lo hi : Str)
  | place (k : Str)
  | at_ (n : Int)
def qryD : Qry → PyData
  | .get k => .tuple [.str "get", .str k]
  | .range lo hi => .tuple [.str "range", .str lo, .str hi]
  | .next k n => .tuple [.str "next", .str k, .int n]
  | .count lo hi => .tuple [.str "count", .str lo, .str hi]
  | .sum c lo hi => .tuple [.str "sum", .int c, .str lo, .str hi]
  | .place k => .tuple [.str "place", .str k]
  | .at_ n => .tuple [.str "at", .int n]
def BndOk (s : Str) : Prop := s.length ≤ 9 ∧ ∀ c ∈ s.cps.toList, c ∈ letS.cps.toList
def Qry.Ok : Qry → Prop
  | .get k => KeyOk k
  | .range lo hi => BndOk lo ∧ BndOk hi
  | .next k n => BndOk k ∧ 0 ≤ n ∧ n ≤ 100
  | .count lo hi => BndOk lo ∧ BndOk hi
  | .sum c lo hi => (0 ≤ c ∧ c ≤ 2) ∧ BndOk lo ∧ BndOk hi
  | .place k => BndOk k
  | .at_ n => 0 ≤ n ∧ n ≤ 100000
inductive Res where
  | dat (d : PyData)
  | lst (tb : Tab)
def ansOf (tb : Tab) : Qry → Res
  | .get k => .dat (optD (look tb k))
  | .range lo hi => .lst (within lo hi tb)
  | .next k n => .lst ((above k tb).take n.toNat)
  | .count lo hi => .dat (.int ((within lo hi tb).length : Int))
  | .sum c lo hi => .dat (.int ((within lo hi tb).map fun p => colOf p.2 c).sum)
  | .place k => .dat (.int ((below k tb).length : Int))
  | .at_ n => .dat (pairO tb[n.toNat]?)
def ResAt (H H' : Hp) (v : V) : Res → Prop
  | .dat d => TD H' v d
  | .lst tb => ∃ p ws, v = .ref p ∧ H p = none ∧ H' p = some (.lst ws) ∧ TDs H' ws (tb.map pairD)
theorem tab_pairs {K : PySem.W.Frag} {H : Hp} : ∀ {vs : List V} {tb : Tab}, TDs H vs (tb.map pairD) → ∃ (ps : List Addr) (kvs : List (Key × V)), vs = ps.map V.ref ∧ Paired (fun p kv => SqT K H p [kV kv.1, kv.2]) ps kvs ∧ kvs.map (·.1) = tb.map (fun p => (Sum.inr p.1 : Key)) ∧ TDs H (kvs.map (·.2)) (tb.map fun p => rowD p.2)
  | vs, [], h => by
    have e := h.un0
    subst e
    exact ⟨[], [], rfl, .nil, rfl, .nil⟩
  | vs, p :: tb, h => by
    obtain ⟨v, ws, rfl, h1, h2⟩ := h.un
    obtain ⟨ps, kvs, rfl, h3, h4, h5⟩ := tab_pairs h2
    obtain ⟨a, r, rfl, h6, h7⟩ := h1.pair
    exact ⟨a :: ps, (Sum.inr p.1, r) :: kvs, rfl, .cons (SqT.of h6) h3, by rw [List.map_cons, List.map_cons, h4], .cons h7 h5⟩
theorem merge_app (acc more : List (Key × V)) (h : ((acc ++ more).map (·.1)).Nodup) : mergeK acc more = acc ++ more := by
  induction more generalizing acc with
  | nil =>
    rw [List.append_nil]
    rfl
  | cons p r ih =>
    have e : putK acc p.1 p.2 = acc ++ [p] := by
      rcases put_keys acc p.1 p.2 with ⟨hk, _⟩ | ⟨hk, _⟩
      · rw [List.map_append, List.nodup_append] at h
        exact absurd rfl (h.2.2 p.1 hk p.1 (by simp))
      · refine putK_new p.2 ?_
        cases e : valV acc p.1 with
        | none => rfl
        | some v => exact absurd (valV_in e) hk
    show mergeK (putK acc p.1 p.2) r = acc ++ p :: r
    rw [e, ih (acc ++ [p]) (by rw [List.append_assoc]; exact h), List.append_assoc]
    rfl
theorem keys_nodup {tb : Tab} (h : (tb.map (·.1)).Pairwise Lt) : (tb.map fun p => (Sum.inr p.1 : Key)).Nodup := by
  have h1 : (tb.map (·.1)).Nodup := List.Pairwise.imp (R := Lt) (fun {a b} q e => by
    rw [e] at q
    exact Lt.irrefl q) h
  have h2 : (tb.map fun p => (Sum.inr p.1 : Key)) = (tb.map (·.1)).map Sum.inr := by
    rw [List.map_map]
    rfl
  rw [h2]
  exact List.Pairwise.map _ (fun a b q e => q (Sum.inr.inj e)) h1
theorem val_look {H : Hp} (k : Str) : ∀ {tb : Tab} {kvs : List (Key × V)}, kvs.map (·.1) = tb.map (fun p => (Sum.inr p.1 : Key)) → TDs H (kvs.map (·.2)) (tb.map fun p => rowD p.2) → TD H ((valV kvs (.inr k)).getD .non) (optD (look tb k))
  | [], [], _, _ => .non
  | [], _ :: _, h, _ => by cases h
  | _ :: _, [], h, _ => by cases h
  | p :: tb, kv :: kvs, h, h2 => by
    rw [List.map_cons, List.map_cons] at h
    have e1 := (List.cons.inj h).1
    have e2 := (List.cons.inj h).2
    obtain ⟨v, ws, e3, h3, h4⟩ := h2.un
    rw [List.map_cons] at e3
    have e4 := (List.cons.inj e3).1
    have e5 := (List.cons.inj e3).2
    rw [← e5] at h4
    by_cases hk : p.1 = k
    · have hv : valV (kv :: kvs) (.inr k) = some kv.2 := valV_pos (by rw [e1, hk])
      have hl : look (p :: tb) k = some p.2 := by
        unfold look
        rw [List.find?_cons, decide_eq_true hk]
        rfl
      rw [hv, hl, e4]
      exact h3
    · have hv : valV (kv :: kvs) (.inr k) = valV kvs (.inr k) := valV_neg (by rw [e1]; exact fun e => hk (Sum.inr.inj e))
      have hl : look (p :: tb) k = look tb k := by
        unfold look
        rw [List.find?_cons, decide_eq_false hk]
      rw [hv, hl]
      exact val_look k e2 h4
theorem small_len {n : Nat} (h : n ≤ 1000) : n < sizeLine := small1000 h
theorem row_un {H : Hp} {v : V} {ns : List Int} (h : TD H v (rowD ns)) : ∃ a, v = .ref a ∧ H a = some (.tup (ns.map V.int)) := by
  obtain ⟨a, xs, rfl, h1, h2⟩ := h.un
  refine ⟨a, rfl, ?_⟩
  have e : ∀ {vs : List V} {ns : List Int}, TDs H vs (ns.map PyData.int) → vs = ns.map V.int := by
    intro vs ns
    induction ns generalizing vs with
    | nil => exact fun h => h.un0
    | cons n r ih =>
      intro h
      obtain ⟨v, ws, rfl, h3, h4⟩ := h.un
      rw [h3.int_eq, ih h4]
      rfl
  rw [h1, e h2]
theorem at_of {α : Type} {xs : List α} {n : Int} (h0 : 0 ≤ n) {x : α} (h : xs[n.toNat]? = some x) : atI xs n = some x := by
  have e : ((n.toNat : Nat) : Int) = n := by omega
  have q : atI xs ((n.toNat : Nat) : Int) = some x := atI_nat h
  rw [e] at q
  exact q
theorem TDs.take {H : Hp} : ∀ {vs : List V} {ds : List PyData} (n : Nat), TDs H vs ds → TDs H (vs.take n) (ds.take n)
  | _, _, 0, _ => .nil
  | _, _, n + 1, .nil => .nil
  | _, _, n + 1, .cons h1 h2 => .cons h1 (TDs.take n h2)
theorem cut_to (xs : List V) {m : Int} (h : 0 ≤ m) : cutV xs none (some m) = xs.take m.toNat := by
  have e : ((m.toNat : Nat) : Int) = m := by omega
  unfold cutV
  rw [HT.sIx_none, ← e, HT.sIx_nat, List.drop_zero, Nat.sub_zero]
  rw [show ((m.toNat : Nat) : Int).toNat = m.toNat by omega]
  by_cases hm : m.toNat ≤ xs.length
  · rw [Nat.min_eq_left hm]
  · rw [Nat.min_eq_right (by omega), List.take_length, List.take_of_length_le (by omega)]
theorem q_un2 {H : Hp} {v : V} {z k : Str} (h : TD H v (.tuple [.str z, .str k])) : ∃ a, v = .ref a ∧ H a = some (.tup [.str z, .str k]) := by
  obtain ⟨a, xs, rfl, h1, h2⟩ := h.un
  obtain ⟨x, ys, rfl, h3, h4⟩ := h2.un
  obtain ⟨y, zs, rfl, h5, h6⟩ := h4.un
  rw [h3.str_eq, h5.str_eq, h6.un0] at h1
  exact ⟨a, rfl, h1⟩
theorem q_un2i {H : Hp} {v : V} {z : Str} {n : Int} (h : TD H v (.tuple [.str z, .int n])) : ∃ a, v = .ref a ∧ H a = some (.tup [.str z, .int n]) := by
  obtain ⟨a, xs, rfl, h1, h2⟩ := h.un
  obtain ⟨x, ys, rfl, h3, h4⟩ := h2.un
  obtain ⟨y, zs, rfl, h5, h6⟩ := h4.un
  rw [h3.str_eq, h5.int_eq, h6.un0] at h1
  exact ⟨a, rfl, h1⟩
theorem q_un3 {H : Hp} {v : V} {z k l : Str} (h : TD H v (.tuple [.str z, .str k, .str l])) : ∃ a, v = .ref a ∧ H a = some (.tup [.str z, .str k, .str l]) := by
  obtain ⟨a, xs, rfl, h1, h2⟩ := h.un
  obtain ⟨x, ys, rfl, h3, h4⟩ := h2.un
  obtain ⟨y, zs, rfl, h5, h6⟩ := h4.un
  obtain ⟨w, us, rfl, h7, h8⟩ := h6.un
  rw [h3.str_eq, h5.str_eq, h7.str_eq, h8.un0] at h1
  exact ⟨a, rfl, h1⟩
theorem q_un3i {H : Hp} {v : V} {z k : Str} {n : Int} (h : TD H v (.tuple [.str z, .str k, .int n])) : ∃ a, v = .ref a ∧ H a = some (.tup [.str z, .str k, .int n]) := by
  obtain ⟨a, xs, rfl, h1, h2⟩ := h.un
  obtain ⟨x, ys, rfl, h3, h4⟩ := h2.un
  obtain ⟨y, zs, rfl, h5, h6⟩ := h4.un
  obtain ⟨w, us, rfl, h7, h8⟩ := h6.un
  rw [h3.str_eq, h5.str_eq, h7.int_eq, h8.un0] at h1
  exact ⟨a, rfl, h1⟩
theorem q_un4 {H : Hp} {v : V} {z k l : Str} {n : Int} (h : TD H v (.tuple [.str z, .int n, .str k, .str l])) : ∃ a, v = .ref a ∧ H a = some (.tup [.str z, .int n, .str k, .str l]) := by
  obtain ⟨a, xs, rfl, h1, h2⟩ := h.un
  obtain ⟨x, ys, rfl, h3, h4⟩ := h2.un
  obtain ⟨y, zs, rfl, h5, h6⟩ := h4.un
  obtain ⟨w, us, rfl, h7, h8⟩ := h6.un
  obtain ⟨w2, us2, rfl, h9, h10⟩ := h8.un
  rw [h3.str_eq, h5.int_eq, h7.str_eq, h9.str_eq, h10.un0] at h1
  exact ⟨a, rfl, h1⟩
def keyAt (tb : Tab) (i : Nat) : Str := (tb.map (·.1)).getD i ""
theorem key_at {tb : Tab} {i : Nat} {p : Str × List Int} (h : tb[i]? = some p) : keyAt tb i = p.1 := by
  unfold keyAt
  rw [List.getD_eq_getElem?_getD, List.getElem?_map, h]
  rfl
/-- a pair of a table, by its index -/
theorem pair_at {H : Hp} {us : List V} {tb : Tab} (hT : TDs H us (tb.map pairD)) {i : Nat} {p : Str × List Int} (h : tb[i]? = some p) : ∃ c r, us[i]? = some (.ref c) ∧ H c = some (.tup [.str p.1, r]) ∧ TD H r (rowD p.2) := by
  have hl := hT.length
  rw [List.length_map] at hl
  have hi : i < tb.length := (List.getElem?_eq_some_iff.mp h).1
  have hu : us[i]? = some us[i] := List.getElem?_eq_getElem (by omega)
  obtain ⟨d, hd, ht⟩ := TDs.get hT i _ hu
  rw [List.getElem?_map, h] at hd
  have e : pairD p = d := Option.some.inj hd
  rw [← e] at ht
  obtain ⟨c, r, ec, hc, hr⟩ := ht.pair
  exact ⟨c, r, by rw [hu, ec], hc, hr⟩
theorem KeyOk.bnd {s : Str} (h : KeyOk s) : BndOk s := ⟨by have := h.2.1; omega, h.2.2⟩
/-- the pair at a drawn place -/
theorem pair_got {H : Hp} {us : List V} {tb : Tab} {d : Int} (hT : TDs H us (tb.map pairD)) (h0 : 0 ≤ d) (h1 : d < (us.length : Int)) : ∃ c r p, atI us d = some (.ref c) ∧ H c = some (.tup [.str p.1, r]) ∧ p ∈ tb := by
  have hj : d.toNat < us.length := by omega
  obtain ⟨dd, hd1, hd2⟩ := TDs.get hT _ _ (List.getElem?_eq_getElem hj)
  rw [List.getElem?_map] at hd1
  cases e : tb[d.toNat]? with
  | none =>
    rw [e] at hd1
    cases hd1
  | some p =>
    rw [e] at hd1
    have e2 : pairD p = dd := Option.some.inj hd1
    rw [← e2] at hd2
    obtain ⟨c, r, ec, hc, _⟩ := hd2.pair
    refine ⟨c, r, p, ?_, hc, List.mem_of_getElem? e⟩
    rw [← ec]
    exact at_of h0 (List.getElem?_eq_getElem hj)
def spColumnOf : Sp := fun vs H Q _ => ∃ (r : Addr) (ns : List Int) (c : Int), vs = [.ref r, .int c] ∧ H r = some (.tup (ns.map V.int)) ∧ 0 ≤ c ∧ ns.length ≤ 1000 ∧ Q (.int (colOf ns c)) H
def spWithin : Sp := fun vs H Q _ => ∃ (t : Addr) (lo hi : Str) (us : List V) (tb : Tab), vs = [.ref t, .str lo, .str hi] ∧ H t = some (.lst us) ∧ TDs H us (tb.map pairD) ∧ tb.length ≤ 1000 ∧
  ∀ p ws H', H p = none → Same H H' → H' p = some (.lst ws) → TDs H' ws ((within lo hi tb).map pairD) → Q (.ref p) H'
def spAns : Sp := fun vs H Q _ => ∃ (t : Addr) (c : V) (qy : Qry) (us : List V) (tb : Tab), vs = [.ref t, c] ∧ TD H c (qryD qy) ∧ qy.Ok ∧ H t = some (.lst us) ∧ TDs H us (tb.map pairD) ∧ tb.length ≤ 100 ∧ (tb.map (·.1)).Pairwise Lt ∧ (∀ p ∈ tb, p.2.length ≤ 1000) ∧
  ∀ v H', Same H H' → ResAt H H' v (ansOf tb qy) → Q v H'

/-! ### from the drawer's promises to the data layer's -/
def StL (l : List D) : Prop := ∃ (a p c : Int) (ns : List Int), l = [.int a, .int p, .list (ns.map .int), .int c] ∧ 0 ≤ a ∧ 0 ≤ p ∧ 0 ≤ c ∧ c < 2147483647
theorem st0_ok (ns : List Int) : StL [.int 0, .int 0, .list (ns.map .int), .int 1] := ⟨0, 0, 1, ns, rfl, by decide, by decide, by decide, by decide⟩
mutual
def noL : D → Bool
  | .tuple ds => noLs ds
  | .list _ => false
  | .dict _ => false
  | _ => true
def noLs : List D → Bool
  | [] => true
  | d :: ds => noL d && noLs ds
end
mutual
theorem TD.rd {ct : Cl} {F : Addr → Prop} {H : Hp} : ∀ (d : D) (v : V), TD H v d → RD ct F H v d
  | _, _, .non => .non
  | _, _, .int i => .int i
  | _, _, .str x => .str x
  | _, _, .bl b => .bl b
  | .tuple ds, .ref a, .tup (xs := xs) h hs => .tup h (TDs.rds ds xs hs)
theorem TDs.rds {ct : Cl} {F : Addr → Prop} {H : Hp} : ∀ (ds : List D) (vs : List V), TDs H vs ds → RDs ct F H vs ds
  | _, _, .nil => .nil
  | d :: ds, v :: vs, .cons h hs => .cons (TD.rd d v h) (TDs.rds ds vs hs)
end
mutual
theorem RD.td {ct : Cl} {F : Addr → Prop} {H : Hp} : ∀ (d : D) (v : V), RD ct F H v d → noL d = true → TD H v d
  | _, _, .non, _ => .non
  | _, _, .int i, _ => .int i
  | _, _, .str x, _ => .str x
  | _, _, .bl b, _ => .bl b
  | .tuple ds, .ref a, .tup (xs := xs) h hs, n => .tup h (RDs.tds ds xs hs n)
  | .list ds, _, .lst _ _ _, n => nomatch n
  | .dict _, _, .obj _ _ _ _ _, n => nomatch n
theorem RDs.tds {ct : Cl} {F : Addr → Prop} {H : Hp} : ∀ (ds : List D) (vs : List V), RDs ct F H vs ds → noLs ds = true → TDs H vs ds
  | _, _, .nil, _ => .nil
  | d :: ds, v :: vs, .cons h hs, n => by
    have n' : (noL d && noLs ds) = true := n
    rw [Bool.and_eq_true] at n'
    exact .cons (RD.td d v h n'.1) (RDs.tds ds vs hs n'.2)
end
theorem noLs_ints (ns : List Int) : noLs (ns.map .int) = true := by
  induction ns with
  | nil => rfl
  | cons n r ih => exact ih
theorem noL_pair (p : Str × List Int) : noL (pairD p) = true := by
  show (true && (noLs (p.2.map .int) && true)) = true
  rw [noLs_ints]
  rfl
theorem noLs_tab (tb : List (Str × List Int)) : noLs (tb.map pairD) = true := by
  induction tb with
  | nil => rfl
  | cons p r ih =>
    show (noL (pairD p) && noLs (r.map pairD)) = true
    rw [noL_pair, ih]
    rfl
/-- the state's cell, in the heap -/
theorem st_in {ct : Cl} {g : Gh} {H : Hp} {l : List D} (c : Clz ct g H [.lst l]) (s : StL l) : ∃ st lA, g.as = [st] ∧ g.ms = [[st]] ∧ g.F lA ∧ ¬ g.F st ∧ Good st lA H := by
  obtain ⟨a, p, cc, ns, rfl, h1, h2, h3, h4⟩ := s
  obtain ⟨st, m, q1, q2, q3, xs, q4, q5⟩ := c.at_ 0 _ rfl
  subst q3
  have ea : g.as = [st] := by
    have := c.la
    match e : g.as, this, q1 with
    | [x], _, q => simpa using q
  have em : g.ms = [[st]] := by
    have := c.lm
    match e : g.ms, this, q2 with
    | [x], _, q => simpa using q
  have nF : ¬ g.F st := c.ap st (by rw [em]; simp)
  obtain ⟨x1, xs1, rfl, r1, q6⟩ : ∃ x r, xs = x :: r ∧ RD ct g.F H x (.int a) ∧ RDs ct g.F H r [.int p, .list (ns.map .int), .int cc] := by
    cases q5 with
    | cons h hs => exact ⟨_, _, rfl, h, hs⟩
  obtain ⟨x2, xs2, rfl, r2, q7⟩ : ∃ x r, xs1 = x :: r ∧ RD ct g.F H x (.int p) ∧ RDs ct g.F H r [.list (ns.map .int), .int cc] := by
    cases q6 with
    | cons h hs => exact ⟨_, _, rfl, h, hs⟩
  obtain ⟨x3, xs3, rfl, r3, q8⟩ : ∃ x r, xs2 = x :: r ∧ RD ct g.F H x (.list (ns.map .int)) ∧ RDs ct g.F H r [.int cc] := by
    cases q7 with
    | cons h hs => exact ⟨_, _, rfl, h, hs⟩
  obtain ⟨x4, xs4, rfl, r4, q9⟩ : ∃ x r, xs3 = x :: r ∧ RD ct g.F H x (.int cc) ∧ RDs ct g.F H r [] := by
    cases q8 with
    | cons h hs => exact ⟨_, _, rfl, h, hs⟩
  cases q9
  cases r1
  cases r2
  cases r4
  cases r3 with
  | lst f hl hns =>
    rename_i lA ys
    rw [hns.ints_eq] at hl
    exact ⟨st, lA, ea, em, f, nF, a, p, cc, ns, q4, h1, h2, h3, h4, fun e => nF (by rw [← e]; exact f), hl⟩
/-- .. and back -/
theorem st_out {ct : Cl} {g : Gh} {H H' : Hp} {l : List D} {st lA : Addr} (c : Clz ct g H [.lst l]) (ea : g.as = [st]) (em : g.ms = [[st]]) (f : g.F lA) (nF : ¬ g.F st) (G : Good st lA H) (le : Le st H H') (G' : Good st lA H') :
    ∃ l', StL l' ∧ Gk g H g H' ∧ Fr0 (Bs.of g H) g H' ∧ Clz ct g H' [.lst l'] := by
  have hst : ∀ xs, H st ≠ some (.tup xs) := fun xs e => by
    obtain ⟨_, _, _, _, h, _⟩ := G
    rw [h] at e
    cases e
  obtain ⟨a, p, cc, ns, h1, h2, h3, h4, h5, h6, h7⟩ := G'
  have hT : LamX.Tabs ct.T H' := tabs_ext2 c.tb fun b o h n1 n2 => le b o (fun z => by rw [z] at h; obtain ⟨_, _, _, _, h', _⟩ := G; rw [h'] at h; exact n1 _ (Option.some.inj h).symm) h
  have kF : ∀ b, g.F b → H' b = H b := fun b hb => by
    cases e : H b with
    | none => exact absurd e (c.lv b hb)
    | some o => exact le b o (fun z => nF (by rw [← z]; exact hb)) e
  have kp : Gk g H g H' := ⟨⟨fun b xs h => le b _ (fun z => hst xs (by rw [← z]; exact h)) h, fun b hb => ⟨hb, kF b hb⟩⟩, fun _ _ h => h, fun c q h => le c _ (fun z => by rw [z] at h; obtain ⟨_, _, _, _, h', _⟩ := G; rw [h'] at h; exact codeO_lst (Option.some.inj h).symm) h⟩
  refine ⟨[.int a, .int p, .list (ns.map .int), .int cc], ⟨a, p, cc, ns, rfl, h2, h3, h4, h5⟩, kp, ⟨kp.kp.1, fun b o h hu hm => le b o (fun z => hm (by rw [z]; show st ∈ g.ms.flatten; rw [em]; simp)) h, fun b ps h => ⟨ps, le b _ (fun z => by rw [z] at h; obtain ⟨_, _, _, _, h', _⟩ := G; rw [show (Bs.of g H).H st = H st from rfl, h'] at h; cases h) h⟩, fun b h => .inl h, fun b h => .inl h⟩, by rw [ea]; rfl, by rw [em]; rfl, fun k x h => ?_, c.nd, c.ap, fun b hb => by rw [kF b hb]; exact c.lv b hb, hT, c.tf⟩
  cases k with
  | zero =>
    cases h
    exact ⟨st, [st], by rw [ea]; rfl, by rw [em]; rfl, rfl, _, h1, .cons (.int _) (.cons (.int _) (.cons (.lst f h7 (RDs.ints ns)) (.cons (.int _) .nil)))⟩
  | succ k => simp at h
/-- a new list behind it -/
theorem st_new {ct : Cl} {g : Gh} {H H' : Hp} {C : List Cell} {t : Addr} {us : List V} {ds : List D} (k : Gk g H g H') (f : Fr0 (Bs.of g H) g H') (c : Clz ct g H' C) {C0 : List Cell} (c0 : Clz ct g H C0) (hn : H t = none) (ht : H' t = some (.lst us)) (hT : RDs ct g.F H' us ds) :
    Gk g H (g.fz true t) H' ∧ Fr0 (Bs.of g H) (g.fz true t) H' ∧ Clz ct (g.fz true t) H' C ∧ RD ct (g.fz true t).F H' (.ref t) (.list ds) := by
  have k2 : Gk g H' (g.fz true t) H' := ⟨⟨fun _ _ h => h, fun a h => ⟨.inl h, rfl⟩⟩, fun _ _ h => h, fun _ _ h => h⟩
  refine ⟨k.trans k2, ⟨f.kt, f.keep, f.tl, fun a h => ?_, f.newM⟩, ⟨c.la, c.lm, fun j x h => ?_, c.nd, fun a ha h => ?_, fun a h => ?_, c.tb, fun q hq h => ?_⟩, .lst (.inr ⟨rfl, rfl⟩) ht (RDs.mono k2.kp _ _ hT)⟩
  · rcases h with h | ⟨_, h⟩
    · exact f.newF a h
    · rw [h]
      exact .inr (.inl hn)
  · obtain ⟨a, m, h1, h2, h3⟩ := c.at_ j x h
    exact ⟨a, m, h1, h2, h3.keep k2 (fun _ _ => rfl)⟩
  · rcases h with h | ⟨_, h⟩
    · exact c.ap a ha h
    · exact c0.mutSome a ha (by rw [h]; exact hn)
  · rcases h with h | ⟨_, h⟩
    · exact c.lv a h
    · rw [h, ht]
      exact fun z => nomatch z
  · rcases h with h | ⟨_, h⟩
    · exact c.tf q hq h
    · obtain ⟨ps, e⟩ := tab_some c.tb q hq
      rw [h, ht] at e
      cases e

/-! ### the drawer, keys, rows, tables -/
def pLDraw : DSp := fun ws C Q _ => ∃ (n : Int) (l : List D), ws = [.ref 0, .val (.int n)] ∧ C = [.lst l] ∧ StL l ∧ 0 < n ∧ n.natAbs < 2 ^ 200 ∧ ∀ d l', 0 ≤ d → d < n → StL l' → Q (.val (.int d)) [.lst l']
def pLKey : DSp := fun ws C Q _ => ∃ (l : List D), ws = [.ref 0] ∧ C = [.lst l] ∧ StL l ∧ ∀ s l', KeyOk s → StL l' → Q (.val (.str s)) [.lst l']
def pLRow : DSp := fun ws C Q _ => ∃ (l : List D), ws = [.ref 0] ∧ C = [.lst l] ∧ StL l ∧ ∀ ns l', RowOk ns → StL l' → Q (.val (rowD ns)) [.lst l']
abbrev tabD (tb : List (Str × List Int)) : D := .list (tb.map pairD)
def pLTable : DSp := fun ws C Q _ => ∃ (n : Int) (l : List D), ws = [.ref 0, .val (.int n)] ∧ C = [.lst l] ∧ StL l ∧ 0 ≤ n ∧ n ≤ 30 ∧ ∀ tb l', TabOk tb → (tb.length : Int) ≤ n → StL l' → Q (.val (tabD tb)) [.lst l']
/-- what an old promise about the state is asked: all but results that are data -/
theorem st_bridge {ct : Ct} {m : Nat} {P : DSp} {vs : List V} {H : Hp} {Q : VK} {E : XK} (h : spD ct 1 m P vs H Q E) (hc : ∀ ws C QD RX, P ws C QD RX → ∃ l, C = [.lst l] ∧ StL l) :
    ∃ (g : Gh) (l : List D) (ws : List W) (QD : DK) (RX : XD) (st lA : Addr), Clz ct g H [.lst l] ∧ RWs ct g H vs ws ∧ g.as = [st] ∧ Good st lA H ∧ P ws [.lst l] QD RX ∧
      (∀ v d H', Le st H H' → Good st lA H' → TD H' v d → (∀ l', StL l' → QD (.val d) [.lst l']) → Q v H') ∧
      (∀ t us ds H', Le st H H' → Good st lA H' → H t = none → H' t = some (.lst us) → TDs H' us ds → (∀ l', StL l' → QD (.val (.list ds)) [.lst l']) → Q (.ref t) H') := by
  obtain ⟨g, C, ws, QD, RX, h1, h2, h3, h4, h5, h6, h7⟩ := h
  obtain ⟨l, rfl, s⟩ := hc _ _ _ _ h5
  obtain ⟨st, lA, ea, em, f, nF, G⟩ := st_in h3 s
  refine ⟨g, l, ws, QD, RX, st, lA, h3, h4, ea, G, h5, fun v d H' le G' r q => ?_, fun t us ds H' le G' hn ht hT q => ?_⟩
  · obtain ⟨l', s', k, fr, c⟩ := st_out h3 ea em f nF G le G'
    exact h6 v H' g _ (.val d) k fr c rfl (TD.rd _ _ r) (q l' s')
  · obtain ⟨l', s', k, fr, c⟩ := st_out h3 ea em f nF G le G'
    obtain ⟨k2, fr2, c2, r2⟩ := st_new k fr c h3 hn ht (TDs.rds _ _ hT)
    exact h6 _ H' _ _ (.val (.list ds)) k2 fr2 c2 rfl r2 (q l' s')
theorem st_ref {ct : Cl} {g : Gh} {H : Hp} {v : V} {st : Addr} (r : RW ct g H v (.ref 0)) (ea : g.as = [st]) : v = .ref st := by
  obtain ⟨a, h1, rfl⟩ := r
  rw [ea] at h1
  cases h1
  rfl
section
variable {P : Program} {w : World} {K : PySem.W.Frag} {mg : Str → Option Value} {base : Heap} {ct : Ct} {k : Nat} {f : Addr} {fd : FuncData}
theorem br_draw (F : FnOk P w K mg base CX0 k f fd ["state", "limit"] spDraw) : FnOk P w K mg base CX0 k f fd ["state", "limit"] (spD ct 1 2 pLDraw) := F.imp fun vs H Q E h => by
  obtain ⟨g, l, ws, QD, RX, st, lA, c, r, ea, G, ⟨n, l0, rfl, hl, s, h1, h2, q⟩, out, _⟩ := st_bridge h (fun ws C QD RX ⟨n, l, _, h, s, _⟩ => ⟨l, h, s⟩)
  obtain ⟨v, u, rfl, r1, r2⟩ := rws2 r
  rw [st_ref r1 ea, rw_int r2]
  exact ⟨st, lA, n, rfl, G, h1, h2, fun d H' d0 d1 le G' => out _ (.int d) H' le G' (.int d) fun l' s' => q d l' d0 d1 s'⟩
theorem br_key (F : FnOk P w K mg base CX0 k f fd ["state"] spKey) : FnOk P w K mg base CX0 k f fd ["state"] (spD ct 1 1 pLKey) := F.imp fun vs H Q E h => by
  obtain ⟨g, l, ws, QD, RX, st, lA, c, r, ea, G, ⟨l0, rfl, hl, s, q⟩, out, _⟩ := st_bridge h (fun ws C QD RX ⟨l, _, h, s, _⟩ => ⟨l, h, s⟩)
  obtain ⟨v, rfl, r1⟩ := rws1 r
  rw [st_ref r1 ea]
  exact ⟨st, lA, rfl, G, fun s H' hs le G' => out _ (.str s) H' le G' (.str s) fun l' s' => q s l' hs s'⟩
theorem br_row (F : FnOk P w K mg base CX0 k f fd ["state"] spRow) : FnOk P w K mg base CX0 k f fd ["state"] (spD ct 1 1 pLRow) := F.imp fun vs H Q E h => by
  obtain ⟨g, l, ws, QD, RX, st, lA, c, r, ea, G, ⟨l0, rfl, hl, s, q⟩, out, _⟩ := st_bridge h (fun ws C QD RX ⟨l, _, h, s, _⟩ => ⟨l, h, s⟩)
  obtain ⟨v, rfl, r1⟩ := rws1 r
  rw [st_ref r1 ea]
  exact ⟨st, lA, rfl, G, fun a ns H' hs le G' ha => out _ (rowD ns) H' le G' (.tup ha (TDs.ints ns)) fun l' s' => q ns l' hs s'⟩
theorem br_table (F : FnOk P w K mg base CX0 k f fd ["state", "most"] spTable) : FnOk P w K mg base CX0 k f fd ["state", "most"] (spD ct 1 2 pLTable) := F.imp fun vs H Q E h => by
  obtain ⟨g, l, ws, QD, RX, st, lA, c, r, ea, G, ⟨n, l0, rfl, hl, s, h1, h2, q⟩, _, out⟩ := st_bridge h (fun ws C QD RX ⟨n, l, _, h, s, _⟩ => ⟨l, h, s⟩)
  obtain ⟨v, u, rfl, r1, r2⟩ := rws2 r
  rw [st_ref r1 ea, rw_int r2]
  exact ⟨st, lA, n, rfl, G, h1, h2, fun t us tb H' hok hn ht le G' hu hT => out t us _ H' le G' ht hu hT fun l' s' => q tb l' hok hn s'⟩
end

abbrev sLDraw : Stmt := sDraw
abbrev sLKey : Stmt := sKey
abbrev sLRow : Stmt := sRow
abbrev sLTable : Stmt := sTable
theorem spD_none {P : Program} {w : World} {K : PySem.W.Frag} {mg : Str → Option Value} {base : Heap} {CX : CXT} {k : Nat} {f : Addr} {fd : FuncData} {ps : List Str} {ct : Ct} {n m : Nat} {p : DSp} (no : ∀ ws C Q R, ¬ p ws C Q R) : FnOk P w K mg base CX k f fd ps (spD ct n m p) := by
  have no' : ∀ vs H Q E, ¬ spD ct n m p vs H Q E := fun vs H Q E ⟨g, C, ws, QD, RX, _, _, _, _, h, _⟩ => no _ _ _ _ h
  exact ⟨fun vs H Q E h => absurd h (no' vs H Q E), fun A outer s H args us vs Q E _ _ _ _ h => absurd h (no' vs H Q E)⟩

/-! ### encodings -/
mutual
def enc : PyData → List Int
  | .int i => [0, i]
  | .str s => 1 :: (s.length : Int) :: s.cps.toList.map (fun c => ((c : Nat) : Int))
  | .tuple ds => 2 :: (ds.length : Int) :: encs ds
  | _ => []
def encs : List PyData → List Int
  | [] => []
  | d :: ds => enc d ++ encs ds
end
mutual
def isV : PyData → Bool
  | .int _ => true
  | .str _ => true
  | .tuple ds => areV ds
  | _ => false
def areV : List PyData → Bool
  | [] => true
  | d :: ds => isV d && areV ds
end
theorem encs_app : ∀ xs ys : List PyData, encs (xs ++ ys) = encs xs ++ encs ys
  | [], ys => rfl
  | x :: xs, ys => by
    show enc x ++ encs (xs ++ ys) = (enc x ++ encs xs) ++ encs ys
    rw [encs_app xs ys, List.append_assoc]
theorem areV_app : ∀ xs ys : List PyData, areV (xs ++ ys) = (areV xs && areV ys)
  | [], ys => rfl
  | x :: xs, ys => by
    show (isV x && areV (xs ++ ys)) = ((isV x && areV xs) && areV ys)
    rw [areV_app xs ys, Bool.and_assoc]
theorem areV_rev (xs : List PyData) : areV xs.reverse = areV xs := by
  induction xs with
  | nil => rfl
  | cons x xs ih =>
    rw [List.reverse_cons, areV_app, ih]
    show (areV xs && (isV x && true)) = (isV x && areV xs)
    rw [Bool.and_true, Bool.and_comm]
theorem enc_two {d : PyData} (h : isV d = true) : 2 ≤ (enc d).length := by
  cases d with
  | int i => exact Nat.le_refl _
  | str s =>
    show 2 ≤ (s.cps.toList.map _).length + 1 + 1
    omega
  | tuple ds =>
    show 2 ≤ (encs ds).length + 1 + 1
    omega
  | none => cases h
  | bool b => cases h
  | list ds => cases h
  | dict kvs => cases h
theorem encs_len : ∀ {ds : List PyData}, areV ds = true → 2 * ds.length ≤ (encs ds).length
  | [], _ => Nat.zero_le _
  | d :: ds, h => by
    have h1 : (isV d && areV ds) = true := h
    rw [Bool.and_eq_true] at h1
    have h2 := enc_two h1.1
    have h3 := encs_len h1.2
    show 2 * (ds.length + 1) ≤ (enc d ++ encs ds).length
    rw [List.length_append]
    omega
theorem big {n : Nat} (h : n ≤ 1000000) : n ≤ sizeLine := Nat.le_trans h (by decide)
theorem bigL {n : Nat} (h : n ≤ 1000000) : n < sizeLine := Nat.lt_of_le_of_lt h (by decide)
/-! ### digests -/
def RuleOk (b m : Int) : Prop := 1 ≤ b ∧ b ≤ 10 ^ 18 ∧ 2 ≤ m ∧ m ≤ 10 ^ 18
def digF (b m : Int) (ns : List Int) : Int := ns.foldl (fun r n => Int.fmod (r * b + n + 1) m) 1
def dig (b m : Int) (ns : List Int) : Int := Int.fmod (digF b m ns * b + (ns.length : Int)) m
theorem digF_snoc (b m n : Int) (ns : List Int) : digF b m (ns ++ [n]) = Int.fmod (digF b m ns * b + n + 1) m := by
  unfold digF
  rw [List.foldl_append]
  rfl

theorem last_get {α : Type} (xs : List α) (x : α) : (xs ++ [x])[(xs ++ [x]).length - 1]? = some x := by
  rw [List.length_append]
  exact List.getElem?_concat_length
theorem isEmpty_concat {α : Type} (xs : List α) (x : α) : (xs ++ [x]).isEmpty = false := by
  cases xs <;> rfl
theorem concat_cases {α : Type} (xs : List α) : xs = [] ∨ ∃ ys y, xs = ys ++ [y] := by
  rcases List.eq_nil_or_concat xs with h | ⟨ys, y, h⟩
  · exact .inl h
  · exact .inr ⟨ys, y, by rw [h, List.concat_eq_append]⟩
def intsD (ns : List Int) : List D := ns.map .int
theorem intsD_app (a b : List Int) : intsD (a ++ b) = intsD a ++ intsD b := List.map_append
theorem intsD_len (a : List Int) : (intsD a).length = a.length := List.length_map ..
theorem big2 {n : Nat} (h : n ≤ 1000000) : n ≤ sizeLine := Nat.le_trans h (by decide)

def codesI (s : Str) : List Int := s.cps.toList.map fun c => ((c : Nat) : Int)
def rkF (ns : List Int) : Int := ns.foldl (fun r n => Int.fmod (r * 131 + n) 1000003) 7
def rk (s : Str) : Int := rkF (codesI s)
theorem rkF_snoc (ns : List Int) (n : Int) : rkF (ns ++ [n]) = Int.fmod (rkF ns * 131 + n) 1000003 := by
  unfold rkF
  rw [List.foldl_append]
  rfl
/-- the index of the highest of the first n -/
def topI (tb : Tab) : Nat → Nat
  | 0 => 0
  | n + 1 => if rk (keyAt tb (topI tb n)) < rk (keyAt tb n) then n else topI tb n
theorem topI_lt (tb : Tab) : ∀ n, topI tb (n + 1) ≤ n
  | 0 => by
    show (if _ then 0 else 0) ≤ 0
    split <;> exact Nat.le_refl 0
  | n + 1 => by
    have h := topI_lt tb n
    show (if _ then n + 1 else topI tb (n + 1)) ≤ n + 1
    split
    · exact Nat.le_refl _
    · omega
theorem topI_in {tb : Tab} (h : tb ≠ []) : topI tb tb.length < tb.length := by
  cases tb with
  | nil => exact absurd rfl h
  | cons p r => exact Nat.lt_succ_of_le (topI_lt (p :: r) r.length)
structure Lnk where
  d : Int
  c : Int
  s0 : Int
  s1 : Int
  s2 : Int
deriving DecidableEq
def Lnk.s (l : Lnk) : Nat → Int
  | 0 => l.s0
  | 1 => l.s1
  | _ => l.s2
def sumsD (l : Lnk) : PyData := .tuple [.int l.s0, .int l.s1, .int l.s2]
def linkD (l : Lnk) : PyData := .tuple [.int l.d, .int l.c, sumsD l]
structure Ent where
  key : Str
  row : List Int
  l : Lnk
  r : Lnk
deriving DecidableEq
def entDs (e : Ent) : List PyData := [.str e.key, rowD e.row, linkD e.l, linkD e.r]
def entD (e : Ent) : PyData := .tuple (entDs e)
def nodeD (e : Ent) : PyData := .tuple (.str "node" :: entDs e)
def lnkOf (b m : Int) (e : Ent) : Lnk := ⟨dig b m (enc (nodeD e)), 1 + e.l.c + e.r.c, colOf e.row 0 + e.l.s0 + e.r.s0, colOf e.row 1 + e.l.s1 + e.r.s1, colOf e.row 2 + e.l.s2 + e.r.s2⟩
def lnk0 (b m : Int) : Lnk := ⟨dig b m (enc (.tuple [.str "empty"])), 0, 0, 0, 0⟩
def Ent.Fit (e : Ent) : Prop := e.key.length ≤ 1000 ∧ e.row.length ≤ 1000
theorem areV_ints : ∀ ns : List Int, areV (ns.map PyData.int) = true
  | [] => rfl
  | _ :: r => areV_ints r
theorem depth_ints : ∀ ns : List Int, PyData.depthAll (ns.map PyData.int) = 0
  | [] => rfl
  | n :: r => by
    show max 0 (PyData.depthAll (r.map PyData.int)) = 0
    rw [depth_ints r]
    rfl
theorem encs_ints : ∀ ns : List Int, (encs (ns.map PyData.int)).length = 2 * ns.length
  | [] => rfl
  | n :: r => by
    show (encs (r.map PyData.int)).length + 1 + 1 = 2 * (r.length + 1)
    rw [encs_ints r]
    omega
theorem enc_str_len (s : Str) : (enc (.str s)).length = s.length + 2 := by
  show (s.cps.toList.map _).length + 1 + 1 = s.length + 2
  rw [List.length_map, str_len]
theorem node_fit {e : Ent} (h : e.Fit) : isV (nodeD e) = true ∧ (nodeD e).depth < 8 ∧ (enc (nodeD e)).length ≤ 100000 := by
  refine ⟨?_, ?_, ?_⟩
  · show (true && (true && (areV (e.row.map PyData.int) && (true && (true && true))))) = true
    rw [areV_ints]
    rfl
  · show max 0 (max 0 (max (PyData.depthAll (e.row.map PyData.int) + 1) (max 2 (max 2 0)))) + 1 < 8
    rw [depth_ints]
    decide
  · have h1 := enc_str_len e.key
    have h2 := encs_ints e.row
    obtain ⟨k1, k2⟩ := h
    show (enc (.str "node") ++ (enc (.str e.key) ++ ((2 :: _ :: encs (e.row.map PyData.int)) ++ (enc (linkD e.l) ++ (enc (linkD e.r) ++ []))))).length + 1 + 1 ≤ 100000
    rw [List.length_append, List.length_append, List.length_append, List.length_append, List.length_append, List.length_cons, List.length_cons, h1, h2]
    show 6 + (_ + (_ + (14 + (14 + 0)))) + 1 + 1 ≤ 100000
    omega
inductive Tree where
  | nil
  | node (k : Str) (r : List Int) (x y : Tree)
def Tree.lnk (b m : Int) : Tree → Lnk
  | .nil => lnk0 b m
  | .node k r x y => lnkOf b m ⟨k, r, x.lnk b m, y.lnk b m⟩
def treeN : Nat → Tab → Tree
  | 0, _ => .nil
  | n + 1, tb => match tb[topI tb tb.length]? with
    | none => .nil
    | some p => .node p.1 p.2 (treeN n (tb.take (topI tb tb.length))) (treeN n (tb.drop (topI tb tb.length + 1)))
def treeOf (tb : Tab) : Tree := treeN tb.length tb
theorem treeN_same : ∀ (n m : Nat) (tb : Tab), tb.length ≤ n → tb.length ≤ m → treeN n tb = treeN m tb := by
  intro n
  induction n with
  | zero =>
    intro m tb h _
    have e : tb = [] := List.eq_nil_of_length_eq_zero (by omega)
    subst e
    cases m <;> rfl
  | succ n ih =>
    intro m tb h k
    cases m with
    | zero =>
      have e : tb = [] := List.eq_nil_of_length_eq_zero (by omega)
      subst e
      rfl
    | succ m =>
      show (match tb[topI tb tb.length]? with | none => Tree.nil | some p => _) = (match tb[topI tb tb.length]? with | none => Tree.nil | some p => _)
      cases e : tb[topI tb tb.length]? with
      | none => rfl
      | some p =>
        have hi : topI tb tb.length < tb.length := (List.getElem?_eq_some_iff.mp e).1
        show Tree.node _ _ _ _ = Tree.node _ _ _ _
        rw [ih m _ (by rw [List.length_take]; omega) (by rw [List.length_take]; omega), ih m _ (by rw [List.length_drop]; omega) (by rw [List.length_drop]; omega)]
theorem treeOf_nil : treeOf [] = .nil := rfl
theorem treeOf_node {tb : Tab} {p : Str × List Int} (h : tb[topI tb tb.length]? = some p) : treeOf tb = .node p.1 p.2 (treeOf (tb.take (topI tb tb.length))) (treeOf (tb.drop (topI tb tb.length + 1))) := by
  have hi : topI tb tb.length < tb.length := (List.getElem?_eq_some_iff.mp h).1
  have e : treeOf tb = treeN (tb.length - 1 + 1) tb := treeN_same _ _ _ (Nat.le_refl _) (by omega)
  rw [e]
  show (match tb[topI tb tb.length]? with | none => Tree.nil | some p => _) = _
  rw [h]
  show Tree.node _ _ _ _ = Tree.node _ _ _ _
  unfold treeOf
  rw [treeN_same (tb.length - 1) _ (tb.take (topI tb tb.length)) (by rw [List.length_take]; omega) (Nat.le_refl _), treeN_same (tb.length - 1) _ (tb.drop (topI tb tb.length + 1)) (by rw [List.length_drop]; omega) (Nat.le_refl _)]
def TabFit (tb : Tab) : Prop := ∀ p ∈ tb, p.1.length ≤ 1000 ∧ p.2.length ≤ 1000
theorem TabOk.fit {tb : Tab} (h : TabOk tb) : TabFit tb := fun p hp => by
  obtain ⟨⟨_, k1, _⟩, _, k2, _⟩ := h.2 p hp
  exact ⟨by omega, by omega⟩
theorem empty_fit : isV (.tuple [.str "empty"]) = true ∧ (PyData.tuple [.str "empty"]).depth < 8 ∧ (enc (.tuple [.str "empty"])).length ≤ 100000 := by
  decide +kernel
inductive Chg where
  | put (k : Str) (r : List Int)
  | rem (k : Str)
def Chg.key : Chg → Str
  | .put k _ => k
  | .rem k => k
def Chg.own : Chg → List (Str × List Int)
  | .put k r => [(k, r)]
  | .rem _ => []
def Chg.Ok : Chg → Prop
  | .put k r => KeyOk k ∧ RowOk r
  | .rem k => KeyOk k
def chgD : Chg → PyData
  | .put k r => .tuple [.str "put", .str k, rowD r]
  | .rem k => .tuple [.str "remove", .str k]
def changed (tb : List (Str × List Int)) (ch : Chg) : List (Str × List Int) := below ch.key tb ++ ch.own ++ above ch.key tb
theorem Chg.key_ok {ch : Chg} (h : ch.Ok) : KeyOk ch.key := by
  cases ch with
  | put k r => exact h.1
  | rem k => exact h
theorem changed_ok {tb : List (Str × List Int)} {ch : Chg} (h : ∀ p ∈ tb, KeyOk p.1 ∧ RowOk p.2) (hc : ch.Ok) : ∀ p ∈ changed tb ch, KeyOk p.1 ∧ RowOk p.2 := by
  intro p hp
  rcases List.mem_append.mp hp with hp | hp
  · rcases List.mem_append.mp hp with hp | hp
    · exact h p (List.mem_filter.mp hp).1
    · cases ch with
      | put k r =>
        have e : p = (k, r) := by simpa [Chg.own] using hp
        rw [e]
        exact hc
      | rem k => cases hp
  · exact h p (List.mem_filter.mp hp).1
theorem changed_len (tb : List (Str × List Int)) (ch : Chg) : (changed tb ch).length ≤ tb.length + 1 := by
  have h := parts_len ch.key tb
  unfold changed
  rw [List.length_append, List.length_append]
  have h2 : ch.own.length ≤ 1 := by
    cases ch with
    | put k r => exact Nat.le_refl _
    | rem k => exact Nat.zero_le _
  omega
def slt (a b : Str) : Bool := decide (a.cps.toList < b.cps.toList)
def Tree.size : Tree → Nat
  | .nil => 0
  | .node _ _ x y => x.size + y.size + 1
def entOf (b m : Int) (k : Str) (r : List Int) (x y : Tree) : Ent := ⟨k, r, x.lnk b m, y.lnk b m⟩
def wGet (b m : Int) (key : Str) : Tree → List Ent
  | .nil => []
  | .node k r x y => entOf b m k r x y :: (if slt key k = true then wGet b m key x else if slt k key = true then wGet b m key y else [])
def wPlace (b m : Int) (key : Str) : Tree → List Ent
  | .nil => []
  | .node k r x y => entOf b m k r x y :: (if slt k key = true then wPlace b m key y else wPlace b m key x)
def wAt (b m : Int) : Tree → Int → List Ent
  | .nil, _ => []
  | .node k r x y, p => if ((Tree.node k r x y).lnk b m).c ≤ p then [] else
      entOf b m k r x y :: (if p < (x.lnk b m).c then wAt b m x p else if (x.lnk b m).c < p then wAt b m y (p - (x.lnk b m).c - 1) else [])
def wRange (b m : Int) (lo hi : Str) : Tree → List Ent
  | .nil => []
  | .node k r x y => entOf b m k r x y :: ((if slt lo k = true then wRange b m lo hi x else []) ++ (if slt k hi = true then wRange b m lo hi y else []))
def wNext (b m : Int) (key : Str) (cnt : Int) : Tree → Int → Int × List Ent
  | .nil, g => (g, [])
  | .node k r x y, g => if cnt ≤ g then (g, []) else
      if slt key k = true then
        ((wNext b m key cnt y (if (wNext b m key cnt x g).1 < cnt then (wNext b m key cnt x g).1 + 1 else (wNext b m key cnt x g).1)).1,
          entOf b m k r x y :: ((wNext b m key cnt x g).2 ++ (wNext b m key cnt y (if (wNext b m key cnt x g).1 < cnt then (wNext b m key cnt x g).1 + 1 else (wNext b m key cnt x g).1)).2))
      else ((wNext b m key cnt y g).1, entOf b m k r x y :: (wNext b m key cnt y g).2)
def aboveB (lo : Str) : Option Str → Bool
  | none => false
  | some ab => !slt ab lo
def inside (lo hi : Str) (ab be : Option Str) : Bool :=
  match be with
  | none => false
  | some be => !slt hi be && (decide (lo = "") || aboveB lo ab)
def wSum (b m : Int) (lo hi : Str) : Tree → Option Str → Option Str → List Ent
  | .nil, _, _ => []
  | .node k r x y, ab, be => if inside lo hi ab be = true then [] else
      entOf b m k r x y :: ((if slt lo k = true then wSum b m lo hi x ab (some k) else []) ++ (if slt k hi = true then wSum b m lo hi y (some k) be else []))
/-- the walk of a query -/
def certOf (b m : Int) (t : Tree) : Qry → List Ent
  | .get k => wGet b m k t
  | .range lo hi => wRange b m lo hi t
  | .next k n => (wNext b m k n t 0).2
  | .count lo hi => wSum b m lo hi t none none
  | .sum _ lo hi => wSum b m lo hi t none none
  | .place k => wPlace b m k t
  | .at_ n => wAt b m t n
theorem wGet_len (b m : Int) (key : Str) : ∀ t : Tree, (wGet b m key t).length ≤ t.size
  | .nil => Nat.le_refl _
  | .node k r x y => by
    have h1 := wGet_len b m key x
    have h2 := wGet_len b m key y
    show (if _ then _ else if _ then _ else _ : List Ent).length + 1 ≤ x.size + y.size + 1
    split
    · omega
    · split
      · omega
      · show 0 + 1 ≤ _
        omega
theorem wPlace_len (b m : Int) (key : Str) : ∀ t : Tree, (wPlace b m key t).length ≤ t.size
  | .nil => Nat.le_refl _
  | .node k r x y => by
    have h1 := wPlace_len b m key x
    have h2 := wPlace_len b m key y
    show (if _ then _ else _ : List Ent).length + 1 ≤ x.size + y.size + 1
    split <;> omega
theorem wAt_len (b m : Int) : ∀ (t : Tree) (p : Int), (wAt b m t p).length ≤ t.size
  | .nil, _ => Nat.le_refl _
  | .node k r x y, p => by
    have h1 := wAt_len b m x p
    have h2 := wAt_len b m y (p - (x.lnk b m).c - 1)
    unfold wAt
    split
    · exact Nat.zero_le _
    · show (if _ then _ else if _ then _ else _ : List Ent).length + 1 ≤ x.size + y.size + 1
      split
      · omega
      · split
        · omega
        · show 0 + 1 ≤ _
          omega
theorem wRange_len (b m : Int) (lo hi : Str) : ∀ t : Tree, (wRange b m lo hi t).length ≤ t.size
  | .nil => Nat.le_refl _
  | .node k r x y => by
    have h1 := wRange_len b m lo hi x
    have h2 := wRange_len b m lo hi y
    show (_ ++ _ : List Ent).length + 1 ≤ x.size + y.size + 1
    rw [List.length_append]
    have e : ([] : List Ent).length = 0 := rfl
    split <;> split <;> omega
theorem wSum_len (b m : Int) (lo hi : Str) : ∀ (t : Tree) (ab be : Option Str), (wSum b m lo hi t ab be).length ≤ t.size
  | .nil, _, _ => Nat.le_refl _
  | .node k r x y, ab, be => by
    have h1 := wSum_len b m lo hi x ab (some k)
    have h2 := wSum_len b m lo hi y (some k) be
    unfold wSum
    split
    · exact Nat.zero_le _
    · show (_ ++ _ : List Ent).length + 1 ≤ x.size + y.size + 1
      rw [List.length_append]
      have e : ([] : List Ent).length = 0 := rfl
      split <;> split <;> omega
theorem wNext_len (b m : Int) (key : Str) (cnt : Int) : ∀ (t : Tree) (g : Int), (wNext b m key cnt t g).2.length ≤ t.size
  | .nil, _ => Nat.le_refl _
  | .node k r x y, g => by
    have h1 := wNext_len b m key cnt x g
    have h2 := wNext_len b m key cnt y
    unfold wNext
    split
    · exact Nat.zero_le _
    · split
      · have h3 := h2 (if (wNext b m key cnt x g).1 < cnt then (wNext b m key cnt x g).1 + 1 else (wNext b m key cnt x g).1)
        show (_ ++ _ : List Ent).length + 1 ≤ x.size + y.size + 1
        rw [List.length_append]
        omega
      · have h3 := h2 g
        show (wNext b m key cnt y g).2.length + 1 ≤ x.size + y.size + 1
        omega
theorem certOf_len (b m : Int) (t : Tree) (q : Qry) : (certOf b m t q).length ≤ t.size := by
  cases q with
  | get k => exact wGet_len ..
  | range lo hi => exact wRange_len ..
  | next k n => exact wNext_len ..
  | count lo hi => exact wSum_len ..
  | sum c lo hi => exact wSum_len ..
  | place k => exact wPlace_len ..
  | at_ n => exact wAt_len ..
theorem treeN_size : ∀ (n : Nat) (tb : Tab), (treeN n tb).size ≤ tb.length
  | 0, _ => Nat.zero_le _
  | n + 1, tb => by
    show (match tb[topI tb tb.length]? with | none => Tree.nil | some p => _ : Tree).size ≤ _
    cases e : tb[topI tb tb.length]? with
    | none => exact Nat.zero_le _
    | some p =>
      have hi : topI tb tb.length < tb.length := (List.getElem?_eq_some_iff.mp e).1
      have h1 := treeN_size n (tb.take (topI tb tb.length))
      have h2 := treeN_size n (tb.drop (topI tb tb.length + 1))
      rw [List.length_take] at h1
      rw [List.length_drop] at h2
      show (treeN n (tb.take (topI tb tb.length))).size + (treeN n (tb.drop (topI tb tb.length + 1))).size + 1 ≤ tb.length
      omega
theorem treeOf_size (tb : Tab) : (treeOf tb).size ≤ tb.length := treeN_size _ _




def entsD (es : List Ent) : List PyData := es.map entD
def spAnswered : Sp := fun vs H Q _ => ∃ (r t : Addr) (c : V) (b m : Int) (us : List V) (tb : Tab) (qy : Qry), vs = [.ref r, .ref t, c] ∧ H r = some (.tup [.int b, .int m]) ∧ RuleOk b m ∧ H t = some (.lst us) ∧ TDs H us (tb.map pairD) ∧ TabOk tb ∧ tb.length ≤ 100 ∧ TD H c (qryD qy) ∧ qy.Ok ∧
  ∀ p v f ws H', H f = none → Same H H' → H' p = some (.tup [v, .ref f]) → ResAt H H' v (ansOf tb qy) → H' f = some (.lst ws) → TDs H' ws ((certOf b m (treeOf tb) qy).map entD) → Q (.ref p) H'
/-! ### what stands in a tree -/
def Tree.All (P : Str → List Int → Prop) : Tree → Prop
  | .nil => True
  | .node k r x y => P k r ∧ x.All P ∧ y.All P
theorem treeN_all {P : Str → List Int → Prop} : ∀ (n : Nat) (tb : Tab), (∀ p ∈ tb, P p.1 p.2) → (treeN n tb).All P
  | 0, _, _ => trivial
  | n + 1, tb, h => by
    show (match tb[topI tb tb.length]? with | none => Tree.nil | some p => _ : Tree).All P
    cases e : tb[topI tb tb.length]? with
    | none => trivial
    | some p => exact ⟨h p (List.mem_of_getElem? e), treeN_all n _ fun q hq => h q (List.mem_of_mem_take hq), treeN_all n _ fun q hq => h q (List.mem_of_mem_drop hq)⟩
theorem treeOf_all {P : Str → List Int → Prop} {tb : Tab} (h : ∀ p ∈ tb, P p.1 p.2) : (treeOf tb).All P := treeN_all _ _ h
theorem wGet_all {P : Str → List Int → Prop} (b m : Int) (key : Str) : ∀ t : Tree, t.All P → ∀ e ∈ wGet b m key t, P e.key e.row
  | .nil, _, e, he => by cases he
  | .node k r x y, h, e, he => by
    rcases List.mem_cons.mp he with z | z
    · rw [z]
      exact h.1
    · split at z
      · exact wGet_all b m key x h.2.1 e z
      · split at z
        · exact wGet_all b m key y h.2.2 e z
        · cases z
theorem wPlace_all {P : Str → List Int → Prop} (b m : Int) (key : Str) : ∀ t : Tree, t.All P → ∀ e ∈ wPlace b m key t, P e.key e.row
  | .nil, _, e, he => by cases he
  | .node k r x y, h, e, he => by
    rcases List.mem_cons.mp he with z | z
    · rw [z]
      exact h.1
    · split at z
      · exact wPlace_all b m key y h.2.2 e z
      · exact wPlace_all b m key x h.2.1 e z
theorem wAt_all {P : Str → List Int → Prop} (b m : Int) : ∀ (t : Tree) (p : Int), t.All P → ∀ e ∈ wAt b m t p, P e.key e.row
  | .nil, _, _, e, he => by cases he
  | .node k r x y, p, h, e, he => by
    unfold wAt at he
    split at he
    · cases he
    · rcases List.mem_cons.mp he with z | z
      · rw [z]
        exact h.1
      · split at z
        · exact wAt_all b m x _ h.2.1 e z
        · split at z
          · exact wAt_all b m y _ h.2.2 e z
          · cases z
theorem wRange_all {P : Str → List Int → Prop} (b m : Int) (lo hi : Str) : ∀ t : Tree, t.All P → ∀ e ∈ wRange b m lo hi t, P e.key e.row
  | .nil, _, e, he => by cases he
  | .node k r x y, h, e, he => by
    rcases List.mem_cons.mp he with z | z
    · rw [z]
      exact h.1
    · rcases List.mem_append.mp z with z | z
      · split at z
        · exact wRange_all b m lo hi x h.2.1 e z
        · cases z
      · split at z
        · exact wRange_all b m lo hi y h.2.2 e z
        · cases z
theorem wSum_all {P : Str → List Int → Prop} (b m : Int) (lo hi : Str) : ∀ (t : Tree) (ab be : Option Str), t.All P → ∀ e ∈ wSum b m lo hi t ab be, P e.key e.row
  | .nil, _, _, _, e, he => by cases he
  | .node k r x y, ab, be, h, e, he => by
    unfold wSum at he
    split at he
    · cases he
    · rcases List.mem_cons.mp he with z | z
      · rw [z]
        exact h.1
      · rcases List.mem_append.mp z with z | z
        · split at z
          · exact wSum_all b m lo hi x _ _ h.2.1 e z
          · cases z
        · split at z
          · exact wSum_all b m lo hi y _ _ h.2.2 e z
          · cases z
theorem wNext_all {P : Str → List Int → Prop} (b m : Int) (key : Str) (cnt : Int) : ∀ (t : Tree) (g : Int), t.All P → ∀ e ∈ (wNext b m key cnt t g).2, P e.key e.row
  | .nil, _, _, e, he => by cases he
  | .node k r x y, g, h, e, he => by
    unfold wNext at he
    split at he
    · cases he
    · split at he
      · rcases List.mem_cons.mp he with z | z
        · rw [z]
          exact h.1
        · rcases List.mem_append.mp z with z | z
          · exact wNext_all b m key cnt x _ h.2.1 e z
          · exact wNext_all b m key cnt y _ h.2.2 e z
      · rcases List.mem_cons.mp he with z | z
        · rw [z]
          exact h.1
        · exact wNext_all b m key cnt y _ h.2.2 e z
theorem certOf_all {P : Str → List Int → Prop} (b m : Int) {t : Tree} (h : t.All P) (q : Qry) : ∀ e ∈ certOf b m t q, P e.key e.row := by
  cases q with
  | get k => exact wGet_all _ _ _ _ h
  | range lo hi => exact wRange_all _ _ _ _ _ h
  | next k n => exact wNext_all _ _ _ _ _ _ h
  | count lo hi => exact wSum_all _ _ _ _ _ _ _ h
  | sum c lo hi => exact wSum_all _ _ _ _ _ _ _ h
  | place k => exact wPlace_all _ _ _ _ h
  | at_ n => exact wAt_all _ _ _ _ h
theorem cert_ok {b m : Int} {tb : Tab} (h : ∀ p ∈ tb, KeyOk p.1 ∧ RowOk p.2) (q : Qry) : ∀ e ∈ certOf b m (treeOf tb) q, KeyOk e.key ∧ RowOk e.row :=
  certOf_all (P := fun k r => KeyOk k ∧ RowOk r) b m (treeOf_all h) q
theorem KeyOk.asc {s : Str} (h : KeyOk s) : ∀ c ∈ s.cps.toList, c < 128 := fun c hc => let_ok c (h.2.2 c hc)

/-! ### entries among values -/
def Lnk.Ok (l : Lnk) : Prop := 0 ≤ l.d ∧ 0 ≤ l.c ∧ 0 ≤ l.s0 ∧ 0 ≤ l.s1 ∧ 0 ≤ l.s2
def Ent.Ok (e : Ent) : Prop := KeyOk e.key ∧ RowOk e.row ∧ e.l.Ok ∧ e.r.Ok
theorem Ent.Ok.fit {e : Ent} (h : e.Ok) : e.Fit := by
  obtain ⟨⟨_, h1, _⟩, ⟨_, h2, _⟩, _⟩ := h
  exact ⟨by omega, by omega⟩
theorem ints_inj : ∀ {xs ys : List Int}, xs.map PyData.int = ys.map PyData.int → xs = ys
  | [], [], _ => rfl
  | [], _ :: _, h => by cases h
  | _ :: _, [], h => by cases h
  | x :: xs, y :: ys, h => by
    rw [List.map_cons, List.map_cons, List.cons.injEq] at h
    rw [PyData.int.inj h.1, ints_inj h.2]
theorem linkD_inj {a b : Lnk} (h : linkD a = linkD b) : a = b := by
  cases a
  cases b
  simp only [linkD, sumsD, PyData.tuple.injEq, List.cons.injEq, PyData.int.injEq, and_true] at h
  obtain ⟨h1, h2, h3, h4, h5⟩ := h
  subst h1 h2 h3 h4 h5
  rfl
theorem entD_inj {a b : Ent} (h : entD a = entD b) : a = b := by
  cases a
  cases b
  simp only [entD, entDs, rowD, PyData.tuple.injEq, List.cons.injEq, PyData.str.injEq, and_true] at h
  obtain ⟨h1, h2, h3, h4⟩ := h
  rw [h1, ints_inj h2, linkD_inj h3, linkD_inj h4]
open Classical in
noncomputable def asEnt (d : PyData) : Option Ent := if h : ∃ e : Ent, d = entD e ∧ e.Ok then some h.choose else none
theorem asEnt_some {d : PyData} {e : Ent} (h : asEnt d = some e) : d = entD e ∧ e.Ok := by
  unfold asEnt at h
  split at h
  · rename_i k
    have e2 : k.choose = e := Option.some.inj h
    rw [← e2]
    exact k.choose_spec
  · cases h
theorem asEnt_ent {e : Ent} (h : e.Ok) : asEnt (entD e) = some e := by
  have k : ∃ e' : Ent, entD e = entD e' ∧ e'.Ok := ⟨e, rfl, h⟩
  unfold asEnt
  rw [dif_pos k]
  exact congrArg some (entD_inj k.choose_spec.1).symm
theorem asEnt_none {d : PyData} (h : asEnt d = none) (e : Ent) (he : e.Ok) : d ≠ entD e := fun z => by
  rw [z, asEnt_ent he] at h
  cases h
/-! ### a reader: what it asks for, what it is given -/
inductive Out (α : Type) where
  | ref (w : Str) (n : Nat)
  | got (a : α)
  | end_
/-- a walk by links; `out` where the fuel ends -/
inductive Wm (α : Type) where
  | out : Wm α
  | ret : α → Wm α
  | ask : Lnk → (Ent → Wm α) → Wm α
def Wm.bind {α β : Type} : Wm α → (α → Wm β) → Wm β
  | .out, _ => .out
  | .ret a, f => f a
  | .ask l k, f => .ask l fun e => (k e).bind f
/-- the word at an entry -/
noncomputable def judge (b m : Int) (l : Lnk) (d : PyData) : Str ⊕ Ent :=
  match asEnt d with
  | none => .inl "form"
  | some e => if (lnkOf b m e).d ≠ l.d then .inl "digest" else if lnkOf b m e ≠ l then .inl "sums" else .inr e
noncomputable def Wm.run {α : Type} (b m : Int) : Wm α → List PyData → Nat → Out α
  | .out => fun _ _ => .end_
  | .ret a => fun ds n => match ds with
    | [] => .got a
    | _ :: _ => .ref "long" n
  | .ask l k => fun ds n => match ds with
    | [] => .ref "short" n
    | d :: ds => match judge b m l d with
      | .inl w => .ref w n
      | .inr e => (k e).run b m ds (n + 1)
theorem run_ask {α : Type} {b m : Int} (l : Lnk) (k : Ent → Wm α) (d : PyData) (ds : List PyData) (n : Nat) : (Wm.ask l k).run b m (d :: ds) n = (match judge b m l d with | .inl w => Out.ref w n | .inr e => (k e).run b m ds (n + 1)) := by
  rw [Wm.run]
theorem run_ask0 {α : Type} {b m : Int} (l : Lnk) (k : Ent → Wm α) (n : Nat) : (Wm.ask l k).run b m [] n = .ref "short" n := by
  rw [Wm.run]
theorem run_ret0 {α : Type} {b m : Int} (a : α) (n : Nat) : (Wm.ret a).run b m [] n = .got a := by
  rw [Wm.run]
theorem run_ret {α : Type} {b m : Int} (a : α) (d : PyData) (ds : List PyData) (n : Nat) : (Wm.ret a).run b m (d :: ds) n = .ref "long" n := by
  rw [Wm.run]
/-- what a walk comes to with the right entries -/
inductive Hon {α : Type} (b m : Int) : Wm α → List Ent → α → Prop
  | ret (a : α) : Hon b m (.ret a) [] a
  | ask {l : Lnk} {k : Ent → Wm α} {e : Ent} {es : List Ent} {a : α} : lnkOf b m e = l → e.Ok → Hon b m (k e) es a → Hon b m (.ask l k) (e :: es) a
theorem Hon.bind {α β : Type} {b m : Int} {w : Wm α} {es fs : List Ent} {a : α} {c : β} {f : α → Wm β} (h : Hon b m w es a) (k : Hon b m (f a) fs c) : Hon b m (w.bind f) (es ++ fs) c := by
  induction h with
  | ret a => exact k
  | ask h1 h2 _ ih => exact .ask h1 h2 (ih k)
theorem judge_right {b m : Int} {e : Ent} (h : e.Ok) : judge b m (lnkOf b m e) (entD e) = .inr e := by
  unfold judge
  rw [asEnt_ent h]
  simp
/-- the right entries are taken -/
theorem Hon.run {α : Type} {b m : Int} {w : Wm α} {es : List Ent} {a : α} (h : Hon b m w es a) : ∀ n, w.run b m (es.map entD) n = .got a := by
  induction h with
  | ret a => exact fun n => run_ret0 a n
  | @ask l k e es a h1 h2 _ ih =>
    intro n
    rw [List.map_cons, run_ask, ← h1, judge_right h2]
    exact ih (n + 1)
/-! ### the verdict beside the right entries -/
inductive Verdict where
  | taken
  | clash (e g : Ent)
  | ref (w : Str) (n : Nat)
noncomputable def verdict (b m : Int) : List Ent → List PyData → Nat → Verdict
  | [], [], _ => .taken
  | [], _ :: _, n => .ref "long" n
  | _ :: _, [], n => .ref "short" n
  | e :: es, d :: ds, n => match asEnt d with
    | none => .ref "form" n
    | some g => if (lnkOf b m e).d ≠ (lnkOf b m g).d then .ref "digest" n
      else if lnkOf b m e ≠ lnkOf b m g then .ref "sums" n
      else if e ≠ g then .clash e g else verdict b m es ds (n + 1)
/-- a verdict that is none of a clash is the reader's -/
theorem Hon.verdict {α : Type} {b m : Int} {w : Wm α} {es : List Ent} {a : α} (h : Hon b m w es a) : ∀ (ds : List PyData) (n : Nat),
    (verdict b m es ds n = .taken → w.run b m ds n = .got a) ∧ (∀ v k, verdict b m es ds n = .ref v k → w.run b m ds n = .ref v k) := by
  induction h with
  | ret a =>
    intro ds n
    cases ds with
    | nil => exact ⟨fun _ => run_ret0 a n, fun v k h => (by cases h)⟩
    | cons d ds => exact ⟨fun h => (by cases h), fun v k h => (by cases h; exact run_ret a d ds n)⟩
  | @ask l k e es a h1 h2 _ ih =>
    intro ds n
    cases ds with
    | nil => exact ⟨fun h => (by cases h), fun v k' h => (by cases h; exact run_ask0 l k n)⟩
    | cons d ds =>
      rw [run_ask]
      unfold RR.verdict judge
      cases ea : asEnt d with
      | none => exact ⟨fun h => (by cases h), fun v k h => (by cases h; rfl)⟩
      | some g =>
        subst h1
        dsimp only
        by_cases hd : (lnkOf b m e).d ≠ (lnkOf b m g).d
        · rw [if_pos hd, if_pos (Ne.symm hd)]
          exact ⟨fun h => (by cases h), fun v k h => (by cases h; rfl)⟩
        · rw [if_neg hd, if_neg (fun z => hd (Ne.symm z))]
          by_cases hs : lnkOf b m e ≠ lnkOf b m g
          · rw [if_pos hs, if_pos (Ne.symm hs)]
            exact ⟨fun h => (by cases h), fun v k h => (by cases h; rfl)⟩
          · rw [if_neg hs, if_neg (fun z => hs (Ne.symm z))]
            by_cases hg : e ≠ g
            · rw [if_pos hg]
              exact ⟨fun h => (by cases h), fun v k h => (by cases h)⟩
            · rw [if_neg hg]
              have e2 : e = g := Classical.not_not.mp hg
              subst e2
              exact ih ds (n + 1)
theorem verdict_clash {b m : Int} : ∀ {es : List Ent} {ds : List PyData} {n : Nat} {e g : Ent}, verdict b m es ds n = .clash e g → e ≠ g ∧ lnkOf b m e = lnkOf b m g ∧ entD g ∈ ds ∧ e ∈ es ∧ g.Ok
  | [], [], _, _, _, h => by cases h
  | [], _ :: _, _, _, _, h => by cases h
  | _ :: _, [], _, _, _, h => by cases h
  | e0 :: es, d :: ds, n, e, g, h => by
    unfold verdict at h
    cases ea : asEnt d with
    | none =>
      rw [ea] at h
      cases h
    | some g0 =>
      rw [ea] at h
      obtain ⟨hd, hok⟩ := asEnt_some ea
      simp only at h
      split at h
      · cases h
      · split at h
        · cases h
        · rename_i hs
          split at h
          · rename_i hg
            cases h
            exact ⟨hg, Classical.not_not.mp hs, by rw [hd]; exact List.mem_cons_self, List.mem_cons_self, hok⟩
          · obtain ⟨h1, h2, h3, h4, h5⟩ := verdict_clash h
            exact ⟨h1, h2, List.mem_cons_of_mem _ h3, List.mem_cons_of_mem _ h4, h5⟩
/-! ### fuel -/
/-- asks at least n times ahead of an end of the fuel -/
def Wm.Deep {α : Type} : Nat → Wm α → Prop
  | 0, _ => True
  | _ + 1, .out => False
  | _ + 1, .ret _ => True
  | n + 1, .ask _ k => ∀ e, Wm.Deep n (k e)
theorem Deep.ret {α : Type} (n : Nat) (a : α) : Wm.Deep n (.ret a) := by
  cases n <;> trivial
theorem Deep.ask {α : Type} {n : Nat} {l : Lnk} {k : Ent → Wm α} (h : ∀ e, Wm.Deep (n - 1) (k e)) : Wm.Deep n (.ask l k) := by
  cases n with
  | zero => trivial
  | succ n => exact h
theorem Deep.less {α : Type} : ∀ {n m : Nat} {w : Wm α}, Wm.Deep n w → m ≤ n → Wm.Deep m w
  | _, 0, _, _, _ => trivial
  | 0, m + 1, _, _, h => absurd h (by omega)
  | n + 1, m + 1, .out, h, _ => h
  | n + 1, m + 1, .ret _, _, _ => trivial
  | n + 1, m + 1, .ask _ k, h, hm => fun e => Deep.less (h e) (by omega)
theorem Deep.bind {α β : Type} : ∀ {n : Nat} {w : Wm α} {f : α → Wm β}, Wm.Deep n w → (∀ a, Wm.Deep n (f a)) → Wm.Deep n (w.bind f)
  | 0, _, _, _, _ => trivial
  | n + 1, .out, _, h, _ => h
  | n + 1, .ret a, _, _, hf => hf a
  | n + 1, .ask _ k, _, h, hf => fun e => Deep.bind (h e) fun a => Deep.less (hf a) (by omega)
/-- the same walk, with less fuel -/
inductive Wm.Le {α : Type} : Wm α → Wm α → Prop
  | out (w : Wm α) : Wm.Le .out w
  | ret (a : α) : Wm.Le (.ret a) (.ret a)
  | ask {l : Lnk} {k k' : Ent → Wm α} : (∀ e, Wm.Le (k e) (k' e)) → Wm.Le (.ask l k) (.ask l k')
theorem Wm.Le.refl {α : Type} : ∀ w : Wm α, Wm.Le w w
  | .out => .out _
  | .ret a => .ret a
  | .ask _ k => .ask fun e => Wm.Le.refl (k e)
theorem Wm.Le.bind {α β : Type} {w w' : Wm α} {f f' : α → Wm β} (h : Wm.Le w w') (hf : ∀ a, Wm.Le (f a) (f' a)) : Wm.Le (w.bind f) (w'.bind f') := by
  induction h with
  | out w => exact .out _
  | ret a => exact hf a
  | ask _ ih => exact .ask ih
theorem Wm.Le.run {α : Type} {b m : Int} : ∀ {w w' : Wm α}, Wm.Le w w' → ∀ (ds : List PyData) (n : Nat), Wm.Deep (ds.length + 1) w → w.run b m ds n = w'.run b m ds n := by
  intro w w' h
  induction h with
  | out w =>
    intro ds n hd
    cases hd
  | ret a =>
    intro ds n hd
    rfl
  | @ask l k k' h ih =>
    intro ds n hd
    cases ds with
    | nil => rw [run_ask0, run_ask0]
    | cons d ds =>
      rw [run_ask, run_ask]
      cases judge b m l d with
      | inl w => rfl
      | inr e => exact ih e ds (n + 1) (hd e)

/-! ### rows of trees -/
def Tree.rows : Tree → Tab
  | .nil => []
  | .node k r x y => x.rows ++ (k, r) :: y.rows
theorem treeN_rows : ∀ (n : Nat) (tb : Tab), tb.length ≤ n → (treeN n tb).rows = tb
  | 0, tb, h => by
    have e : tb = [] := List.eq_nil_of_length_eq_zero (by omega)
    subst e
    rfl
  | n + 1, tb, h => by
    show (match tb[topI tb tb.length]? with | none => Tree.nil | some p => _ : Tree).rows = tb
    cases e : tb[topI tb tb.length]? with
    | none =>
      have h1 : tb.length ≤ topI tb tb.length := List.getElem?_eq_none_iff.mp e
      have e0 : tb = [] := by
        cases tb with
        | nil => rfl
        | cons p r =>
          have := topI_in (tb := p :: r) (by intro z; cases z)
          omega
      rw [e0]
      rfl
    | some p =>
      have hi : topI tb tb.length < tb.length := (List.getElem?_eq_some_iff.mp e).1
      show (treeN n (tb.take (topI tb tb.length))).rows ++ (p.1, p.2) :: (treeN n (tb.drop (topI tb tb.length + 1))).rows = tb
      rw [treeN_rows n _ (by rw [List.length_take]; omega), treeN_rows n _ (by rw [List.length_drop]; omega)]
      have h2 := List.take_append_drop (topI tb tb.length) tb
      have h3 : tb.drop (topI tb tb.length) = p :: tb.drop (topI tb tb.length + 1) := by
        have h4 := List.getElem?_eq_some_iff.mp e
        rw [← h4.2]
        exact List.drop_eq_getElem_cons hi
      rw [h3] at h2
      exact h2
theorem treeOf_rows (tb : Tab) : (treeOf tb).rows = tb := treeN_rows _ _ (Nat.le_refl _)
theorem rows_len : ∀ t : Tree, t.rows.length = t.size
  | .nil => rfl
  | .node k r x y => by
    show (x.rows ++ (k, r) :: y.rows).length = x.size + y.size + 1
    rw [List.length_append, List.length_cons, rows_len x, rows_len y]
    omega
def Tree.Bst (t : Tree) : Prop := (t.rows.map (·.1)).Pairwise Lt
structure BstN (k : Str) (x y : Tree) : Prop where
  left : x.Bst
  right : y.Bst
  lo : ∀ p ∈ x.rows, Lt p.1 k
  hi : ∀ p ∈ y.rows, Lt k p.1
theorem Tree.Bst.node {k : Str} {r : List Int} {x y : Tree} (h : (Tree.node k r x y).Bst) : BstN k x y := by
  unfold Tree.Bst at h
  rw [show (Tree.node k r x y).rows = x.rows ++ (k, r) :: y.rows from rfl, List.map_append, List.map_cons, List.pairwise_append] at h
  obtain ⟨h1, h2, h3⟩ := h
  rw [List.pairwise_cons] at h2
  exact ⟨h1, h2.2, fun p hp => h3 _ (List.mem_map.mpr ⟨p, hp, rfl⟩) _ List.mem_cons_self, fun p hp => h2.1 _ (List.mem_map.mpr ⟨p, hp, rfl⟩)⟩
theorem treeOf_bst {tb : Tab} (h : (tb.map (·.1)).Pairwise Lt) : (treeOf tb).Bst := by
  unfold Tree.Bst
  rw [treeOf_rows]
  exact h
theorem Lt.asym {a b : Str} (h : Lt a b) : ¬ Lt b a := fun k => Lt.irrefl (h.trans k)
theorem Lt.ne {a b : Str} (h : Lt a b) : a ≠ b := fun e => by
  rw [e] at h
  exact Lt.irrefl h
theorem slt_iff {a b : Str} : slt a b = true ↔ Lt a b := ⟨fun h => of_decide_eq_true (p := a.cps.toList < b.cps.toList) h, fun h => decide_eq_true (p := a.cps.toList < b.cps.toList) h⟩
theorem slt_no {a b : Str} : ¬ slt a b = true ↔ ¬ Lt a b := not_congr slt_iff
/-! ### the numbers of a tree -/
structure Tot where
  c : Int
  s0 : Int
  s1 : Int
  s2 : Int
deriving DecidableEq
def tot0 : Tot := ⟨0, 0, 0, 0⟩
def Tot.add (a b : Tot) : Tot := ⟨a.c + b.c, a.s0 + b.s0, a.s1 + b.s1, a.s2 + b.s2⟩
def tot1 (r : List Int) : Tot := ⟨1, colOf r 0, colOf r 1, colOf r 2⟩
def Lnk.tot (l : Lnk) : Tot := ⟨l.c, l.s0, l.s1, l.s2⟩
def totOf : Tab → Tot
  | [] => tot0
  | p :: r => (tot1 p.2).add (totOf r)
theorem Tot.ext {a b : Tot} (h : a.c = b.c) (h0 : a.s0 = b.s0) (h1 : a.s1 = b.s1) (h2 : a.s2 = b.s2) : a = b := by
  cases a
  cases b
  cases h
  cases h0
  cases h1
  cases h2
  rfl
theorem add_assoc (a b c : Tot) : (a.add b).add c = a.add (b.add c) := Tot.ext (Int.add_assoc ..) (Int.add_assoc ..) (Int.add_assoc ..) (Int.add_assoc ..)
theorem add_comm (a b : Tot) : a.add b = b.add a := Tot.ext (Int.add_comm ..) (Int.add_comm ..) (Int.add_comm ..) (Int.add_comm ..)
theorem zero_add (a : Tot) : tot0.add a = a := Tot.ext (Int.zero_add _) (Int.zero_add _) (Int.zero_add _) (Int.zero_add _)
theorem add_zero (a : Tot) : a.add tot0 = a := Tot.ext (Int.add_zero _) (Int.add_zero _) (Int.add_zero _) (Int.add_zero _)
theorem totOf_app : ∀ a b : Tab, totOf (a ++ b) = (totOf a).add (totOf b)
  | [], b => (zero_add _).symm
  | p :: r, b => by
    show (tot1 p.2).add (totOf (r ++ b)) = ((tot1 p.2).add (totOf r)).add (totOf b)
    rw [totOf_app r b, add_assoc]
theorem lnk_tot (b m : Int) : ∀ t : Tree, (t.lnk b m).tot = totOf t.rows
  | .nil => rfl
  | .node k r x y => by
    have h1 := lnk_tot b m x
    have h2 := lnk_tot b m y
    show _ = totOf (x.rows ++ (k, r) :: y.rows)
    rw [totOf_app]
    show _ = (totOf x.rows).add ((tot1 r).add (totOf y.rows))
    rw [← h1, ← h2]
    refine Tot.ext ?_ ?_ ?_ ?_
    · show 1 + (x.lnk b m).c + (y.lnk b m).c = (x.lnk b m).c + (1 + (y.lnk b m).c)
      omega
    · show colOf r 0 + (x.lnk b m).s0 + (y.lnk b m).s0 = (x.lnk b m).s0 + (colOf r 0 + (y.lnk b m).s0)
      omega
    · show colOf r 1 + (x.lnk b m).s1 + (y.lnk b m).s1 = (x.lnk b m).s1 + (colOf r 1 + (y.lnk b m).s1)
      omega
    · show colOf r 2 + (x.lnk b m).s2 + (y.lnk b m).s2 = (x.lnk b m).s2 + (colOf r 2 + (y.lnk b m).s2)
      omega
theorem totOf_c : ∀ tb : Tab, (totOf tb).c = (tb.length : Int)
  | [] => rfl
  | p :: r => by
    have h := totOf_c r
    show 1 + (totOf r).c = ((r.length + 1 : Nat) : Int)
    omega
theorem lnk_c (b m : Int) (t : Tree) : (t.lnk b m).c = (t.size : Int) := by
  have h := congrArg Tot.c (lnk_tot b m t)
  rw [totOf_c, rows_len] at h
  exact h
def Tot.col (t : Tot) (c : Int) : Int := if c = 0 then t.s0 else if c = 1 then t.s1 else t.s2
theorem totOf_col {c : Int} (h0 : 0 ≤ c) (h2 : c ≤ 2) : ∀ tb : Tab, (totOf tb).col c = (tb.map fun p => colOf p.2 c).sum
  | [] => by
    unfold Tot.col
    split
    · rfl
    · split <;> rfl
  | p :: r => by
    have ih := totOf_col h0 h2 r
    rw [List.map_cons, List.sum_cons, ← ih]
    rcases (by omega : c = 0 ∨ c = 1 ∨ c = 2) with e | e | e <;> rw [e] <;> rfl
/-! ### links and entries of trees are such -/
theorem colOf_pos {r : List Int} (h : RowOk r) (c : Int) : 0 ≤ colOf r c := by
  unfold colOf
  split
  · rename_i hc
    rw [List.getD_eq_getElem?_getD]
    cases e : r[c.toNat]? with
    | none => exact Int.le_refl _
    | some n => exact (h.2.2 n (List.mem_of_getElem? e)).1
  · exact Int.le_refl _
def TreeOk (t : Tree) : Prop := t.All fun k r => KeyOk k ∧ RowOk r
theorem dig_pos {b m : Int} (h : RuleOk b m) (ns : List Int) : 0 ≤ dig b m ns := Int.fmod_nonneg_of_pos _ (by have := h.2.2.1; omega)
theorem lnk_ok {b m : Int} (h : RuleOk b m) : ∀ t : Tree, TreeOk t → (t.lnk b m).Ok
  | .nil, _ => ⟨dig_pos h _, Int.le_refl _, Int.le_refl _, Int.le_refl _, Int.le_refl _⟩
  | .node k r x y, ht => by
    obtain ⟨⟨_, hr⟩, hx, hy⟩ := ht
    obtain ⟨_, x1, x2, x3, x4⟩ := lnk_ok h x hx
    obtain ⟨_, y1, y2, y3, y4⟩ := lnk_ok h y hy
    have c0 := colOf_pos hr 0
    have c1 := colOf_pos hr 1
    have c2 := colOf_pos hr 2
    refine ⟨dig_pos h _, ?_, ?_, ?_, ?_⟩
    · show 0 ≤ 1 + (x.lnk b m).c + (y.lnk b m).c
      omega
    · show 0 ≤ colOf r 0 + (x.lnk b m).s0 + (y.lnk b m).s0
      omega
    · show 0 ≤ colOf r 1 + (x.lnk b m).s1 + (y.lnk b m).s1
      omega
    · show 0 ≤ colOf r 2 + (x.lnk b m).s2 + (y.lnk b m).s2
      omega
theorem ent_ok {b m : Int} (h : RuleOk b m) {k : Str} {r : List Int} {x y : Tree} (ht : TreeOk (.node k r x y)) : (entOf b m k r x y).Ok := ⟨ht.1.1, ht.1.2, lnk_ok h x ht.2.1, lnk_ok h y ht.2.2⟩

/-! ### the readers' walks -/
def headL (b m : Int) (tb : Tab) : Lnk := (treeOf tb).lnk b m
def rGet : Nat → Str → Lnk → Wm (Option (List Int))
  | 0, _, _ => .out
  | f + 1, key, l => if l.c = 0 then .ret none else .ask l fun e => if e.key = key then .ret (some e.row) else if slt e.key key = true then rGet f key e.r else rGet f key e.l
def rPlace : Nat → Str → Lnk → Int → Wm Int
  | 0, _, _, _ => .out
  | f + 1, key, l, a => if l.c = 0 then .ret a else .ask l fun e => if slt e.key key = true then rPlace f key e.r (a + 1 + e.l.c) else rPlace f key e.l a
def rAt : Nat → Lnk → Int → Wm (Option (Str × List Int))
  | 0, _, _ => .out
  | f + 1, l, p => if l.c ≤ p then .ret none else .ask l fun e => if p = e.l.c then .ret (some (e.key, e.row)) else if p < e.l.c then rAt f e.l p else rAt f e.r (p - e.l.c - 1)
def optW {α : Type} (c : Bool) (z : α) (w : Wm α) : Wm α := if c = true then w else .ret z
def ownR (c : Bool) (e : Ent) : Tab := if c = true then [(e.key, e.row)] else []
def rRange : Nat → Str → Str → Lnk → Wm Tab
  | 0, _, _, _ => .out
  | f + 1, lo, hi, l => if l.c = 0 then .ret [] else .ask l fun e =>
      (optW (slt lo e.key) [] (rRange f lo hi e.l)).bind fun a => (optW (slt e.key hi) [] (rRange f lo hi e.r)).bind fun c => .ret (a ++ (ownR (inR lo hi e.key) e ++ c))
def rNext : Nat → Str → Int → Lnk → Wm Tab
  | 0, _, _, _ => .out
  | f + 1, key, n, l => if l.c = 0 ∨ n ≤ 0 then .ret [] else .ask l fun e =>
      if slt key e.key = true then (rNext f key n e.l).bind fun a => (rNext f key (n - ((a ++ ownR (decide ((a.length : Int) < n)) e).length : Int)) e.r).bind fun c => .ret ((a ++ ownR (decide ((a.length : Int) < n)) e) ++ c)
      else rNext f key n e.r
def rSum : Nat → Str → Str → Lnk → Option Str → Option Str → Wm Tot
  | 0, _, _, _, _, _ => .out
  | f + 1, lo, hi, l, ab, be => if l.c = 0 then .ret tot0 else if inside lo hi ab be = true then .ret l.tot else .ask l fun e =>
      (optW (slt lo e.key) tot0 (rSum f lo hi e.l ab (some e.key))).bind fun a => (optW (slt e.key hi) tot0 (rSum f lo hi e.r (some e.key) be)).bind fun c => .ret ((totOf (ownR (inR lo hi e.key) e)).add (a.add c))
def Wm.map {α β : Type} (f : α → β) (w : Wm α) : Wm β := w.bind fun a => .ret (f a)
def rWalk (f : Nat) (l : Lnk) : Qry → Wm Res
  | .get k => (rGet f k l).map fun o => .dat (optD o)
  | .range lo hi => (rRange f lo hi l).map .lst
  | .next k n => (rNext f k n l).map .lst
  | .count lo hi => (rSum f lo hi l none none).map fun t => .dat (.int t.c)
  | .sum c lo hi => (rSum f lo hi l none none).map fun t => .dat (.int (t.col c))
  | .place k => (rPlace f k l 0).map fun n => .dat (.int n)
  | .at_ n => (rAt f l n).map fun o => .dat (pairO o)
/-! ### depth and fuel -/
theorem optW_deep {α : Type} {n : Nat} {c : Bool} {z : α} {w : Wm α} (h : Wm.Deep n w) : Wm.Deep n (optW c z w) := by
  unfold optW
  split
  · exact h
  · exact Deep.ret _ _
theorem optW_le {α : Type} {c : Bool} {z : α} {w w' : Wm α} (h : Wm.Le w w') : Wm.Le (optW c z w) (optW c z w') := by
  unfold optW
  split
  · exact h
  · exact .ret _
theorem rGet_deep : ∀ (f : Nat) (key : Str) (l : Lnk), Wm.Deep f (rGet f key l)
  | 0, _, _ => trivial
  | f + 1, key, l => by
    unfold rGet
    split
    · trivial
    · intro e
      dsimp only
      split
      · exact Deep.ret _ _
      · split <;> exact rGet_deep f _ _
theorem rPlace_deep : ∀ (f : Nat) (key : Str) (l : Lnk) (a : Int), Wm.Deep f (rPlace f key l a)
  | 0, _, _, _ => trivial
  | f + 1, key, l, a => by
    unfold rPlace
    split
    · trivial
    · intro e
      dsimp only
      split <;> exact rPlace_deep f _ _ _
theorem rAt_deep : ∀ (f : Nat) (l : Lnk) (p : Int), Wm.Deep f (rAt f l p)
  | 0, _, _ => trivial
  | f + 1, l, p => by
    unfold rAt
    split
    · trivial
    · intro e
      dsimp only
      split
      · exact Deep.ret _ _
      · split <;> exact rAt_deep f _ _
theorem rRange_deep : ∀ (f : Nat) (lo hi : Str) (l : Lnk), Wm.Deep f (rRange f lo hi l)
  | 0, _, _, _ => trivial
  | f + 1, lo, hi, l => by
    unfold rRange
    split
    · trivial
    · intro e
      exact Deep.bind (optW_deep (rRange_deep f _ _ _)) fun a => Deep.bind (optW_deep (rRange_deep f _ _ _)) fun c => Deep.ret _ _
theorem rNext_deep : ∀ (f : Nat) (key : Str) (n : Int) (l : Lnk), Wm.Deep f (rNext f key n l)
  | 0, _, _, _ => trivial
  | f + 1, key, n, l => by
    unfold rNext
    split
    · trivial
    · intro e
      dsimp only
      split
      · exact Deep.bind (rNext_deep f _ _ _) fun a => Deep.bind (rNext_deep f _ _ _) fun c => Deep.ret _ _
      · exact rNext_deep f _ _ _
theorem rSum_deep : ∀ (f : Nat) (lo hi : Str) (l : Lnk) (ab be : Option Str), Wm.Deep f (rSum f lo hi l ab be)
  | 0, _, _, _, _, _ => trivial
  | f + 1, lo, hi, l, ab, be => by
    unfold rSum
    split
    · trivial
    · split
      · trivial
      · intro e
        exact Deep.bind (optW_deep (rSum_deep f _ _ _ _ _)) fun a => Deep.bind (optW_deep (rSum_deep f _ _ _ _ _)) fun c => Deep.ret _ _
theorem map_deep {α β : Type} {n : Nat} {w : Wm α} {f : α → β} (h : Wm.Deep n w) : Wm.Deep n (w.map f) := Deep.bind h fun _ => Deep.ret _ _
theorem rWalk_deep (f : Nat) (l : Lnk) (q : Qry) : Wm.Deep f (rWalk f l q) := by
  cases q with
  | get k => exact map_deep (rGet_deep _ _ _)
  | range lo hi => exact map_deep (rRange_deep _ _ _ _)
  | next k n => exact map_deep (rNext_deep _ _ _ _)
  | count lo hi => exact map_deep (rSum_deep _ _ _ _ _ _)
  | sum c lo hi => exact map_deep (rSum_deep _ _ _ _ _ _)
  | place k => exact map_deep (rPlace_deep _ _ _ _)
  | at_ n => exact map_deep (rAt_deep _ _ _)
theorem rGet_le : ∀ (f : Nat) (key : Str) (l : Lnk), Wm.Le (rGet f key l) (rGet (f + 1) key l)
  | 0, _, _ => .out _
  | f + 1, key, l => by
    rw [rGet, rGet]
    split
    · exact .ret _
    · refine .ask fun e => ?_
      split
      · exact .ret _
      · split <;> exact rGet_le f _ _
theorem rPlace_le : ∀ (f : Nat) (key : Str) (l : Lnk) (a : Int), Wm.Le (rPlace f key l a) (rPlace (f + 1) key l a)
  | 0, _, _, _ => .out _
  | f + 1, key, l, a => by
    rw [rPlace, rPlace]
    split
    · exact .ret _
    · refine .ask fun e => ?_
      split <;> exact rPlace_le f _ _ _
theorem rAt_le : ∀ (f : Nat) (l : Lnk) (p : Int), Wm.Le (rAt f l p) (rAt (f + 1) l p)
  | 0, _, _ => .out _
  | f + 1, l, p => by
    rw [rAt, rAt]
    split
    · exact .ret _
    · refine .ask fun e => ?_
      split
      · exact .ret _
      · split <;> exact rAt_le f _ _
theorem rRange_le : ∀ (f : Nat) (lo hi : Str) (l : Lnk), Wm.Le (rRange f lo hi l) (rRange (f + 1) lo hi l)
  | 0, _, _, _ => .out _
  | f + 1, lo, hi, l => by
    rw [rRange, rRange]
    split
    · exact .ret _
    · exact .ask fun e => Wm.Le.bind (optW_le (rRange_le f _ _ _)) fun a => Wm.Le.bind (optW_le (rRange_le f _ _ _)) fun c => .ret _
theorem rNext_le : ∀ (f : Nat) (key : Str) (n : Int) (l : Lnk), Wm.Le (rNext f key n l) (rNext (f + 1) key n l)
  | 0, _, _, _ => .out _
  | f + 1, key, n, l => by
    rw [rNext, rNext]
    split
    · exact .ret _
    · refine .ask fun e => ?_
      split
      · exact Wm.Le.bind (rNext_le f _ _ _) fun a => Wm.Le.bind (rNext_le f _ _ _) fun c => .ret _
      · exact rNext_le f _ _ _
theorem rSum_le : ∀ (f : Nat) (lo hi : Str) (l : Lnk) (ab be : Option Str), Wm.Le (rSum f lo hi l ab be) (rSum (f + 1) lo hi l ab be)
  | 0, _, _, _, _, _ => .out _
  | f + 1, lo, hi, l, ab, be => by
    rw [rSum, rSum]
    split
    · exact .ret _
    · split
      · exact .ret _
      · exact .ask fun e => Wm.Le.bind (optW_le (rSum_le f _ _ _ _ _)) fun a => Wm.Le.bind (optW_le (rSum_le f _ _ _ _ _)) fun c => .ret _
theorem map_le {α β : Type} {w w' : Wm α} {f : α → β} (h : Wm.Le w w') : Wm.Le (w.map f) (w'.map f) := Wm.Le.bind h fun _ => .ret _
theorem rWalk_le1 (f : Nat) (l : Lnk) (q : Qry) : Wm.Le (rWalk f l q) (rWalk (f + 1) l q) := by
  cases q with
  | get k => exact map_le (rGet_le _ _ _)
  | range lo hi => exact map_le (rRange_le _ _ _ _)
  | next k n => exact map_le (rNext_le _ _ _ _)
  | count lo hi => exact map_le (rSum_le _ _ _ _ _ _)
  | sum c lo hi => exact map_le (rSum_le _ _ _ _ _ _)
  | place k => exact map_le (rPlace_le _ _ _ _)
  | at_ n => exact map_le (rAt_le _ _ _)
/-- more fuel than entries does not matter -/
theorem rWalk_fuel {b m : Int} {l : Lnk} {q : Qry} {ds : List PyData} {n : Nat} : ∀ (f : Nat), ds.length + 1 ≤ f → (rWalk f l q).run b m ds n = (rWalk (ds.length + 1) l q).run b m ds n := by
  intro f h
  induction f with
  | zero => omega
  | succ f ih =>
    by_cases e : ds.length + 1 = f + 1
    · rw [e]
    · rw [← ih (by omega)]
      exact ((rWalk_le1 f l q).run ds n (Deep.less (rWalk_deep f l q) (by omega))).symm
/-- what read has to give -/
noncomputable def readM (b m : Int) (l : Lnk) (q : Qry) (ds : List PyData) : Out Res := (rWalk (ds.length + 1) l q).run b m ds 0
/-! ### the right entries -/
theorem within_app (lo hi : Str) (a b : Tab) : within lo hi (a ++ b) = within lo hi a ++ within lo hi b := List.filter_append ..
theorem within_cons (lo hi : Str) (p : Str × List Int) (b : Tab) : within lo hi (p :: b) = (if inR lo hi p.1 = true then [p] else []) ++ within lo hi b := by
  unfold within
  rw [List.filter_cons]
  split <;> rfl
theorem within_none {lo hi : Str} {tb : Tab} (h : ∀ p ∈ tb, inR lo hi p.1 = false) : within lo hi tb = [] := List.filter_eq_nil_iff.mpr fun p hp => by
  rw [h p hp]
  decide
theorem inR_iff {lo hi k : Str} : inR lo hi k = true ↔ ¬ Lt k lo ∧ Lt k hi := by
  unfold inR
  rw [Bool.and_eq_true]
  refine and_congr ?_ ⟨fun h => of_decide_eq_true (p := k.cps.toList < hi.cps.toList) h, fun h => decide_eq_true (p := k.cps.toList < hi.cps.toList) h⟩
  constructor
  · intro h k2
    rw [decide_eq_true (show k.cps.toList < lo.cps.toList from k2)] at h
    cases h
  · intro h
    rw [decide_eq_false (show ¬ k.cps.toList < lo.cps.toList from h)]
    rfl
theorem inR_no {lo hi k : Str} (h : ¬ (¬ Lt k lo ∧ Lt k hi)) : inR lo hi k = false := Bool.eq_false_iff.mpr fun z => h (inR_iff.mp z)
theorem hon_opt {α : Type} {b m : Int} {c : Bool} {z a : α} {w : Wm α} {es : List Ent} (h1 : c = true → Hon b m w es a) (h2 : ¬ c = true → a = z) : Hon b m (optW c z w) (if c = true then es else []) a := by
  unfold optW
  by_cases h : c = true
  · rw [if_pos h, if_pos h]
    exact h1 h
  · rw [if_neg h, if_neg h, h2 h]
    exact .ret _
theorem hon_range {b m : Int} (hr : RuleOk b m) (lo hi : Str) : ∀ (t : Tree), TreeOk t → t.Bst → ∀ f, t.size < f → Hon b m (rRange f lo hi (t.lnk b m)) (wRange b m lo hi t) (within lo hi t.rows)
  | .nil, _, _, f, hf => by
    obtain ⟨g, rfl⟩ : ∃ g, f = g + 1 := ⟨f - 1, by omega⟩
    exact .ret _
  | .node k r x y, ht, hb, f, hf => by
    obtain ⟨g, rfl⟩ : ∃ g, f = g + 1 := ⟨f - 1, by omega⟩
    have hs : x.size + y.size + 1 < g + 1 := hf
    have bn := hb.node
    have hx := hon_range hr lo hi x ht.2.1 bn.left g (by omega)
    have hy := hon_range hr lo hi y ht.2.2 bn.right g (by omega)
    unfold rRange
    rw [if_neg (by rw [lnk_c]; show ¬ ((x.size + y.size + 1 : Nat) : Int) = 0; omega)]
    refine .ask rfl (ent_ok hr ht) ?_
    show Hon b m _ ((if slt lo k = true then wRange b m lo hi x else []) ++ (if slt k hi = true then wRange b m lo hi y else [])) (within lo hi (x.rows ++ (k, r) :: y.rows))
    rw [within_app, within_cons]
    refine Hon.bind (a := within lo hi x.rows) (hon_opt (c := slt lo k) (fun _ => hx) fun z => within_none fun p hp => inR_no fun c => c.1 ?_) ?_
    · rcases Lt.tri lo k with h | h | h
      · exact absurd h (slt_no.mp z)
      · rw [h]
        exact bn.lo p hp
      · exact (bn.lo p hp).trans h
    · rw [← List.append_nil (if slt k hi = true then wRange b m lo hi y else [])]
      exact Hon.bind (a := within lo hi y.rows) (hon_opt (c := slt k hi) (fun _ => hy) fun z => within_none fun p hp => inR_no fun c => slt_no.mp z ((bn.hi p hp).trans c.2)) (.ret _)
/-! get -/
theorem look_none {tb : Tab} {k : Str} (h : ∀ p ∈ tb, p.1 ≠ k) : look tb k = none := by
  unfold look
  rw [List.find?_eq_none.mpr fun p hp => by rw [decide_eq_false (h p hp)]; decide]
  rfl
theorem look_app (a c : Tab) (k : Str) : look (a ++ c) k = (look a k).or (look c k) := by
  unfold look
  rw [List.find?_append]
  cases a.find? _ <;> rfl
theorem look_cons (p : Str × List Int) (c : Tab) (k : Str) : look (p :: c) k = if p.1 = k then some p.2 else look c k := by
  unfold look
  rw [List.find?_cons]
  by_cases h : p.1 = k
  · rw [decide_eq_true h, if_pos h]
    rfl
  · rw [decide_eq_false h, if_neg h]
theorem hon_get {b m : Int} (hr : RuleOk b m) (key : Str) : ∀ (t : Tree), TreeOk t → t.Bst → ∀ f, t.size < f → Hon b m (rGet f key (t.lnk b m)) (wGet b m key t) (look t.rows key)
  | .nil, _, _, f, hf => by
    obtain ⟨g, rfl⟩ : ∃ g, f = g + 1 := ⟨f - 1, by omega⟩
    exact .ret _
  | .node k r x y, ht, hb, f, hf => by
    obtain ⟨g, rfl⟩ : ∃ g, f = g + 1 := ⟨f - 1, by omega⟩
    have hs : x.size + y.size + 1 < g + 1 := hf
    have bn := hb.node
    have hx := hon_get hr key x ht.2.1 bn.left g (by omega)
    have hy := hon_get hr key y ht.2.2 bn.right g (by omega)
    unfold rGet
    rw [if_neg (by rw [lnk_c]; show ¬ ((x.size + y.size + 1 : Nat) : Int) = 0; omega)]
    refine .ask rfl (ent_ok hr ht) ?_
    show Hon b m (if k = key then _ else if slt k key = true then rGet g key (y.lnk b m) else rGet g key (x.lnk b m)) (if slt key k = true then wGet b m key x else if slt k key = true then wGet b m key y else []) (look (x.rows ++ (k, r) :: y.rows) key)
    rw [look_app, look_cons]
    by_cases e : k = key
    · have n1 : ¬ slt key k = true := slt_no.mpr (by rw [e]; exact Lt.irrefl)
      have n2 : ¬ slt k key = true := slt_no.mpr (by rw [e]; exact Lt.irrefl)
      rw [if_pos e, if_neg n1, if_neg n2, if_pos e, look_none fun p hp z => (bn.lo p hp).ne (z.trans e.symm)]
      exact .ret _
    · rw [if_neg e, if_neg e]
      rcases Lt.tri k key with h | h | h
      · rw [if_pos (slt_iff.mpr h), if_neg (slt_no.mpr h.asym), if_pos (slt_iff.mpr h), look_none (tb := x.rows) fun p hp => ((bn.lo p hp).trans h).ne]
        exact hy
      · exact absurd h e
      · rw [if_neg (slt_no.mpr h.asym), if_pos (slt_iff.mpr h), look_none (tb := y.rows) fun p hp => (h.trans (bn.hi p hp)).ne.symm, Option.or_none]
        exact hx
/-! place -/
theorem below_app (k : Str) (a c : Tab) : below k (a ++ c) = below k a ++ below k c := List.filter_append ..
theorem below_cons (k : Str) (p : Str × List Int) (c : Tab) : below k (p :: c) = (if slt p.1 k = true then [p] else []) ++ below k c := by
  unfold below slt
  rw [List.filter_cons]
  split <;> rfl
theorem below_all {k : Str} {tb : Tab} (h : ∀ p ∈ tb, Lt p.1 k) : below k tb = tb := List.filter_eq_self.mpr fun p hp => decide_eq_true (show p.1.cps.toList < k.cps.toList from h p hp)
theorem below_none {k : Str} {tb : Tab} (h : ∀ p ∈ tb, ¬ Lt p.1 k) : below k tb = [] := List.filter_eq_nil_iff.mpr fun p hp => by
  rw [decide_eq_false (show ¬ p.1.cps.toList < k.cps.toList from h p hp)]
  decide
theorem hon_place {b m : Int} (hr : RuleOk b m) (key : Str) : ∀ (t : Tree), TreeOk t → t.Bst → ∀ (f : Nat) (a : Int), t.size < f → Hon b m (rPlace f key (t.lnk b m) a) (wPlace b m key t) (a + ((below key t.rows).length : Int))
  | .nil, _, _, f, a, hf => by
    obtain ⟨g, rfl⟩ : ∃ g, f = g + 1 := ⟨f - 1, by omega⟩
    rw [show a + ((below key Tree.nil.rows).length : Int) = a from Int.add_zero a]
    exact .ret _
  | .node k r x y, ht, hb, f, a, hf => by
    obtain ⟨g, rfl⟩ : ∃ g, f = g + 1 := ⟨f - 1, by omega⟩
    have hs : x.size + y.size + 1 < g + 1 := hf
    have bn := hb.node
    unfold rPlace
    rw [if_neg (by rw [lnk_c]; show ¬ ((x.size + y.size + 1 : Nat) : Int) = 0; omega)]
    refine .ask rfl (ent_ok hr ht) ?_
    show Hon b m (if slt k key = true then rPlace g key (y.lnk b m) (a + 1 + (x.lnk b m).c) else rPlace g key (x.lnk b m) a) (if slt k key = true then wPlace b m key y else wPlace b m key x) (a + ((below key (x.rows ++ (k, r) :: y.rows)).length : Int))
    rw [below_app, below_cons]
    by_cases z : slt k key = true
    · have h := slt_iff.mp z
      rw [if_pos z, if_pos z, if_pos z, below_all fun p hp => (bn.lo p hp).trans h]
      have hy := hon_place hr key y ht.2.2 bn.right g (a + 1 + (x.lnk b m).c) (by omega)
      rw [lnk_c, ← rows_len x] at hy
      rw [lnk_c, ← rows_len x]
      rw [show a + (((x.rows ++ ([(k, r)] ++ below key y.rows)).length : Nat) : Int) = a + 1 + (x.rows.length : Int) + ((below key y.rows).length : Int) by
        rw [List.length_append, List.length_append, List.length_singleton]
        omega]
      exact hy
    · have h := slt_no.mp z
      rw [if_neg z, if_neg z, if_neg z, below_none fun p hp c => h ((bn.hi p hp).trans c)]
      rw [List.nil_append, List.append_nil]
      exact hon_place hr key x ht.2.1 bn.left g a (by omega)
/-! at -/
theorem hon_at {b m : Int} (hr : RuleOk b m) : ∀ (t : Tree), TreeOk t → t.Bst → ∀ (f : Nat) (p : Int), 0 ≤ p → t.size < f → Hon b m (rAt f (t.lnk b m) p) (wAt b m t p) t.rows[p.toNat]?
  | .nil, _, _, f, p, hp, hf => by
    obtain ⟨g, rfl⟩ : ∃ g, f = g + 1 := ⟨f - 1, by omega⟩
    unfold rAt
    rw [if_pos (show (Tree.lnk b m .nil).c ≤ p from hp)]
    exact .ret _
  | .node k r x y, ht, hb, f, p, hp, hf => by
    obtain ⟨g, rfl⟩ : ∃ g, f = g + 1 := ⟨f - 1, by omega⟩
    have hs : x.size + y.size + 1 < g + 1 := hf
    have bn := hb.node
    unfold rAt wAt
    by_cases z : ((Tree.node k r x y).lnk b m).c ≤ p
    · rw [if_pos z, if_pos z]
      rw [lnk_c, ← rows_len] at z
      rw [List.getElem?_eq_none (by omega)]
      exact .ret _
    rw [if_neg z, if_neg z]
    refine .ask rfl (ent_ok hr ht) ?_
    show Hon b m (if p = (x.lnk b m).c then .ret (some (k, r)) else if p < (x.lnk b m).c then rAt g (x.lnk b m) p else rAt g (y.lnk b m) (p - (x.lnk b m).c - 1)) (if p < (x.lnk b m).c then wAt b m x p else if (x.lnk b m).c < p then wAt b m y (p - (x.lnk b m).c - 1) else []) (x.rows ++ (k, r) :: y.rows)[p.toNat]?
    rw [lnk_c, ← rows_len x]
    rcases (by omega : p < (x.rows.length : Int) ∨ p = (x.rows.length : Int) ∨ (x.rows.length : Int) < p) with h | h | h
    · rw [if_neg (by omega), if_pos h, if_pos h, List.getElem?_append_left (by omega)]
      exact hon_at hr x ht.2.1 bn.left g p hp (by omega)
    · rw [if_pos h, if_neg (by omega), if_neg (by omega), h]
      rw [Int.toNat_natCast, List.getElem?_append_right (Nat.le_refl _), Nat.sub_self]
      exact .ret _
    · rw [if_neg (by omega), if_neg (by omega), if_neg (by omega), if_pos h, List.getElem?_append_right (by omega)]
      have hy := hon_at hr y ht.2.2 bn.right g (p - (x.rows.length : Int) - 1) (by omega) (by omega)
      have e : p.toNat - x.rows.length = (p - (x.rows.length : Int) - 1).toNat + 1 := by omega
      rw [e, List.getElem?_cons_succ]
      exact hy
/-! next -/
theorem above_app (k : Str) (a c : Tab) : above k (a ++ c) = above k a ++ above k c := List.filter_append ..
theorem above_cons (k : Str) (p : Str × List Int) (c : Tab) : above k (p :: c) = (if slt k p.1 = true then [p] else []) ++ above k c := by
  unfold above slt
  rw [List.filter_cons]
  split <;> rfl
theorem above_none {k : Str} {tb : Tab} (h : ∀ p ∈ tb, ¬ Lt k p.1) : above k tb = [] := List.filter_eq_nil_iff.mpr fun p hp => by
  rw [decide_eq_false (show ¬ k.cps.toList < p.1.cps.toList from h p hp)]
  decide
theorem take_three {α : Type} (A C : List α) (p : α) {n : Int} (hn : 0 < n) : (A ++ ([p] ++ C)).take n.toNat = (A.take n.toNat ++ (if ((A.take n.toNat).length : Int) < n then [p] else [])) ++ C.take (n - ((A.take n.toNat ++ (if ((A.take n.toNat).length : Int) < n then [p] else [])).length : Int)).toNat := by
  by_cases h : (A.length : Int) < n
  · have e : A.take n.toNat = A := List.take_of_length_le (by omega)
    rw [e, if_pos h]
    have e2 : (n - ((A ++ [p]).length : Int)).toNat = n.toNat - A.length - 1 := by
      rw [List.length_append, List.length_singleton]
      omega
    rw [e2, List.take_append, e]
    have e3 : n.toNat - A.length = (n.toNat - A.length - 1) + 1 := by omega
    rw [e3]
    show A ++ (p :: C).take (_ + 1) = _
    rw [List.take_succ_cons, List.append_assoc]
    simp
  · have l : (A.take n.toNat).length = n.toNat := by
      rw [List.length_take]
      omega
    rw [if_neg (by omega), List.append_nil, l]
    have e2 : (n - (n.toNat : Int)).toNat = 0 := by omega
    rw [e2, List.take_zero, List.append_nil, List.take_append]
    have e3 : n.toNat - A.length = 0 := by omega
    rw [e3, List.take_zero, List.append_nil]
theorem own_eq {c : Prop} [Decidable c] (e : Ent) : ownR (decide c) e = if c then [(e.key, e.row)] else [] := by
  unfold ownR
  by_cases h : c
  · rw [if_pos (decide_eq_true h), if_pos h]
  · rw [if_neg (fun z => h (of_decide_eq_true z)), if_neg h]
theorem hon_next {b m : Int} (hr : RuleOk b m) (key : Str) (cnt : Int) : ∀ (t : Tree), TreeOk t → t.Bst → ∀ (f : Nat) (g : Int), t.size < f →
    Hon b m (rNext f key (cnt - g) (t.lnk b m)) (wNext b m key cnt t g).2 ((above key t.rows).take (cnt - g).toNat) ∧ (wNext b m key cnt t g).1 = g + (((above key t.rows).take (cnt - g).toNat).length : Int)
  | .nil, _, _, f, g, hf => by
    obtain ⟨f, rfl⟩ : ∃ f', f = f' + 1 := ⟨f - 1, by omega⟩
    have e : (above key Tree.nil.rows).take (cnt - g).toNat = [] := List.take_nil
    rw [e]
    refine ⟨?_, (Int.add_zero g).symm⟩
    unfold rNext
    rw [if_pos (Or.inl (show (Tree.lnk b m .nil).c = 0 from rfl))]
    exact .ret _
  | .node k r x y, ht, hb, f, g, hf => by
    obtain ⟨f, rfl⟩ : ∃ f', f = f' + 1 := ⟨f - 1, by omega⟩
    have hs : x.size + y.size + 1 < f + 1 := hf
    have bn := hb.node
    have hx := hon_next hr key cnt x ht.2.1 bn.left f
    have hy := hon_next hr key cnt y ht.2.2 bn.right f
    unfold rNext wNext
    by_cases hg : cnt ≤ g
    · rw [if_pos hg, if_pos (Or.inr (by omega))]
      have e : (cnt - g).toNat = 0 := by omega
      rw [e, List.take_zero]
      exact ⟨.ret _, (Int.add_zero g).symm⟩
    rw [if_neg hg, if_neg (by rw [lnk_c]; show ¬ (((x.size + y.size + 1 : Nat) : Int) = 0 ∨ _); omega)]
    have er : above key (Tree.node k r x y).rows = above key x.rows ++ ((if slt key k = true then [(k, r)] else []) ++ above key y.rows) := by
      show above key (x.rows ++ (k, r) :: y.rows) = _
      rw [above_app, above_cons]
    rw [er]
    by_cases z : slt key k = true
    · rw [if_pos z, if_pos z]
      obtain ⟨hx1, hx2⟩ := hx g (by omega)
      rw [take_three _ _ _ (show (0 : Int) < cnt - g by omega)]
      generalize eA : (above key x.rows).take (cnt - g).toNat = A at hx1 hx2
      have eg : (if (wNext b m key cnt x g).1 < cnt then (wNext b m key cnt x g).1 + 1 else (wNext b m key cnt x g).1) = g + ((A ++ (if (A.length : Int) < cnt - g then [(k, r)] else [])).length : Int) := by
        rw [hx2]
        by_cases h : (A.length : Int) < cnt - g
        · rw [if_pos (show g + (A.length : Int) < cnt by omega), if_pos h, List.length_append, List.length_singleton]
          omega
        · rw [if_neg (show ¬ g + (A.length : Int) < cnt by omega), if_neg h, List.append_nil]
      rw [eg]
      generalize eF : A ++ (if (A.length : Int) < cnt - g then [(k, r)] else []) = F
      obtain ⟨hy1, hy2⟩ := hy (g + (F.length : Int)) (by omega)
      have en : cnt - (g + (F.length : Int)) = cnt - g - (F.length : Int) := by omega
      rw [en] at hy1 hy2
      refine ⟨.ask rfl (ent_ok hr ht) ?_, ?_⟩
      · show Hon b m (if slt key k = true then (rNext f key (cnt - g) (x.lnk b m)).bind _ else _) _ _
        rw [if_pos z]
        refine Hon.bind hx1 ?_
        rw [← List.append_nil (wNext b m key cnt y (g + (F.length : Int))).2]
        have eo : A ++ ownR (decide ((A.length : Int) < cnt - g)) (entOf b m k r x y) = F := by
          rw [own_eq, ← eF]
          rfl
        rw [eo]
        exact Hon.bind hy1 (.ret _)
      · rw [hy2, List.length_append]
        omega
    · rw [if_neg z, if_neg z]
      have h0 : above key x.rows = [] := above_none fun p hp c => slt_no.mp z (c.trans (bn.lo p hp))
      rw [h0, List.nil_append, List.nil_append]
      obtain ⟨hy1, hy2⟩ := hy g (by omega)
      refine ⟨.ask rfl (ent_ok hr ht) ?_, hy2⟩
      show Hon b m (if slt key k = true then _ else rNext f key (cnt - g) (y.lnk b m)) _ _
      rw [if_neg z]
      exact hy1
/-! sum -/
def Between (ab be : Option Str) (k : Str) : Prop := (∀ a, ab = some a → Lt a k) ∧ (∀ e, be = some e → Lt k e)
theorem not_lt_empty (k : Str) : ¬ Lt k "" := fun h => List.not_lt_nil _ h
theorem le_lt {a c d : Str} (h : ¬ Lt c a) (k : Lt c d) : Lt a d := by
  rcases Lt.tri a c with z | z | z
  · exact z.trans k
  · rw [z]
    exact k
  · exact absurd z h
theorem lt_le {a c d : Str} (h : Lt a c) (k : ¬ Lt d c) : Lt a d := by
  rcases Lt.tri c d with z | z | z
  · exact h.trans z
  · rw [← z]
    exact h
  · exact absurd z k
theorem inside_all {lo hi : Str} {ab be : Option Str} (h : inside lo hi ab be = true) {k : Str} (hk : Between ab be k) : inR lo hi k = true := by
  cases be with
  | none => cases h
  | some e =>
    have h2 : (!slt hi e && (decide (lo = "") || aboveB lo ab)) = true := h
    rw [Bool.and_eq_true] at h2
    have n1 : ¬ Lt hi e := slt_no.mp fun z => by
      rw [z] at h2
      cases h2.1
    refine inR_iff.mpr ⟨?_, lt_le (hk.2 e rfl) n1⟩
    rw [Bool.or_eq_true] at h2
    rcases h2.2 with z | z
    · rw [of_decide_eq_true z]
      exact not_lt_empty k
    · cases ab with
      | none => cases z
      | some a =>
        have z2 : (!slt a lo) = true := z
        have n2 : ¬ Lt a lo := slt_no.mp fun y => by
          rw [y] at z2
          cases z2
        exact fun y => n2 ((hk.1 a rfl).trans y)
theorem within_all {lo hi : Str} {tb : Tab} (h : ∀ p ∈ tb, inR lo hi p.1 = true) : within lo hi tb = tb := List.filter_eq_self.mpr h
theorem hon_sum {b m : Int} (hr : RuleOk b m) (lo hi : Str) : ∀ (t : Tree), TreeOk t → t.Bst → ∀ (f : Nat) (ab be : Option Str), (∀ p ∈ t.rows, Between ab be p.1) → t.size < f →
    Hon b m (rSum f lo hi (t.lnk b m) ab be) (wSum b m lo hi t ab be) (totOf (within lo hi t.rows))
  | .nil, _, _, f, ab, be, _, hf => by
    obtain ⟨g, rfl⟩ : ∃ g, f = g + 1 := ⟨f - 1, by omega⟩
    exact .ret _
  | .node k r x y, ht, hb, f, ab, be, hk, hf => by
    obtain ⟨g, rfl⟩ : ∃ g, f = g + 1 := ⟨f - 1, by omega⟩
    have hs : x.size + y.size + 1 < g + 1 := hf
    have bn := hb.node
    have hm1 : ∀ p ∈ x.rows, p ∈ (Tree.node k r x y).rows := fun p hp => List.mem_append.mpr (.inl hp)
    have hm2 : ∀ p ∈ y.rows, p ∈ (Tree.node k r x y).rows := fun p hp => List.mem_append.mpr (.inr (List.mem_cons_of_mem _ hp))
    have hx := hon_sum hr lo hi x ht.2.1 bn.left g ab (some k) (fun p hp => ⟨(hk p (hm1 p hp)).1, fun e h => by rw [← Option.some.inj h]; exact bn.lo p hp⟩) (by omega)
    have hy := hon_sum hr lo hi y ht.2.2 bn.right g (some k) be (fun p hp => ⟨fun a h => by rw [← Option.some.inj h]; exact bn.hi p hp, (hk p (hm2 p hp)).2⟩) (by omega)
    unfold rSum wSum
    rw [if_neg (by rw [lnk_c]; show ¬ ((x.size + y.size + 1 : Nat) : Int) = 0; omega)]
    by_cases hi2 : inside lo hi ab be = true
    · rw [if_pos hi2, if_pos hi2, within_all fun p hp => inside_all hi2 (hk p hp), ← lnk_tot b m]
      exact .ret _
    rw [if_neg hi2, if_neg hi2]
    refine .ask rfl (ent_ok hr ht) ?_
    have er : totOf (within lo hi (Tree.node k r x y).rows) = (totOf (ownR (inR lo hi k) (entOf b m k r x y))).add ((totOf (within lo hi x.rows)).add (totOf (within lo hi y.rows))) := by
      show totOf (within lo hi (x.rows ++ (k, r) :: y.rows)) = _
      rw [within_app, within_cons, totOf_app, totOf_app, ← add_assoc, add_comm (totOf (within lo hi x.rows)), add_assoc]
      rfl
    rw [er]
    refine Hon.bind (a := totOf (within lo hi x.rows)) (hon_opt (c := slt lo k) (fun _ => hx) fun z => ?_) ?_
    · rw [within_none fun p hp => inR_no fun c => c.1 ?_]
      · rfl
      · rcases Lt.tri lo k with h | h | h
        · exact absurd h (slt_no.mp z)
        · rw [h]
          exact bn.lo p hp
        · exact (bn.lo p hp).trans h
    · rw [← List.append_nil (if slt k hi = true then wSum b m lo hi y (some k) be else [])]
      refine Hon.bind (a := totOf (within lo hi y.rows)) (hon_opt (c := slt k hi) (fun _ => hy) fun z => ?_) (.ret _)
      rw [within_none fun p hp => inR_no fun c => slt_no.mp z ((bn.hi p hp).trans c.2)]
      rfl
theorem Hon.map {α β : Type} {b m : Int} {w : Wm α} {es : List Ent} {a : α} (h : Hon b m w es a) (f : α → β) : Hon b m (w.map f) es (f a) := by
  rw [← List.append_nil es]
  exact Hon.bind h (.ret _)
/-- the right certificate of a query leads to the table's answer -/
theorem hon_walk {b m : Int} (hr : RuleOk b m) {tb : Tab} (ht : TabOk tb) {q : Qry} (hq : q.Ok) {f : Nat} (hf : tb.length < f) : Hon b m (rWalk f (headL b m tb) q) (certOf b m (treeOf tb) q) (ansOf tb q) := by
  have h1 : TreeOk (treeOf tb) := treeOf_all (P := fun k r => KeyOk k ∧ RowOk r) ht.2
  have h2 := treeOf_bst ht.1
  have h3 := treeOf_rows tb
  have h4 : (treeOf tb).size < f := by rw [← rows_len, h3]; exact hf
  unfold headL
  cases q with
  | get k =>
    have h := (hon_get hr k _ h1 h2 f h4).map fun o => Res.dat (optD o)
    rw [h3] at h
    exact h
  | range lo hi =>
    have h := (hon_range hr lo hi _ h1 h2 f h4).map Res.lst
    rw [h3] at h
    exact h
  | next k n =>
    have h := (hon_next hr k n _ h1 h2 f 0 h4).1.map Res.lst
    rw [h3, Int.sub_zero] at h
    exact h
  | count lo hi =>
    have h := (hon_sum hr lo hi _ h1 h2 f none none (fun p _ => ⟨fun a h => (by cases h), fun a h => (by cases h)⟩) h4).map fun t => Res.dat (.int t.c)
    rw [h3, totOf_c] at h
    exact h
  | sum c lo hi =>
    have h := (hon_sum hr lo hi _ h1 h2 f none none (fun p _ => ⟨fun a h => (by cases h), fun a h => (by cases h)⟩) h4).map fun t => Res.dat (.int (t.col c))
    rw [h3, totOf_col hq.1.1 hq.1.2] at h
    exact h
  | place k =>
    have h := (hon_place hr k _ h1 h2 f 0 h4).map fun n => Res.dat (.int n)
    rw [h3, Int.zero_add] at h
    exact h
  | at_ n =>
    have h := (hon_at hr _ h1 h2 f n hq.1 h4).map fun o => Res.dat (pairO o)
    rw [h3] at h
    exact h
/-- read beside the right certificate -/
theorem readM_verdict {b m : Int} (hr : RuleOk b m) {tb : Tab} (ht : TabOk tb) {q : Qry} (hq : q.Ok) (ds : List PyData) :
    (verdict b m (certOf b m (treeOf tb) q) ds 0 = .taken → readM b m (headL b m tb) q ds = .got (ansOf tb q)) ∧ (∀ v k, verdict b m (certOf b m (treeOf tb) q) ds 0 = .ref v k → readM b m (headL b m tb) q ds = .ref v k) := by
  have h := hon_walk hr ht hq (f := ds.length + 1 + tb.length) (by omega)
  unfold readM
  rw [← rWalk_fuel (ds.length + 1 + tb.length) (by omega)]
  exact h.verdict ds 0
theorem readM_right {b m : Int} (hr : RuleOk b m) {tb : Tab} (ht : TabOk tb) {q : Qry} (hq : q.Ok) : readM b m (headL b m tb) q ((certOf b m (treeOf tb) q).map entD) = .got (ansOf tb q) := by
  have h := hon_walk hr ht hq (f := ((certOf b m (treeOf tb) q).map entD).length + 1 + tb.length) (by omega)
  unfold readM
  rw [← rWalk_fuel (((certOf b m (treeOf tb) q).map entD).length + 1 + tb.length) (by omega)]
  exact h.run 0

abbrev ruleD (b m : Int) : PyData := .tuple [.int b, .int m]

set_option hygiene false in
local macro_rules | `(tactic| walk_at "d") => `(tactic| simp -implicitDefEqProofs only [dSeqS, dNext, dDrop, dRet, dRetN, dIfS, dAsg, dAsgC, dgName, dgTup.eq_1, dgTup.eq_2, dgCons.eq_1, dgCons.eq_2, dgNil, dgSub, subK.eq_1, subK.eq_2, dVar, dVarF, dC, dOp, fII.eq_1, fII.eq_2, fIIc.eq_1, fIIc.eq_2, fAdd.eq_1, fAdd.eq_2, fAdd.eq_3, fAdd.eq_4, fAdd.eq_5, fAdd.eq_6, fCmp.eq_1, fCmp.eq_2, fCmp.eq_3, fEqD, fIsN.eq_1, fIsN.eq_2, isNon.eq_1, isNon.eq_2, rdV.eq_1, rdV.eq_2, rdV.eq_3, rdL.eq_1, rdL.eq_2, rdL.eq_3, dB, dAnd, dOr, dNot, dTru, dIf, dAndV, dOrV, dNotV, dChain, dNil, dCons, vals.eq_1, vals.eq_2, vals.eq_3, dTup, dLst, fIx.eq_1, fIx.eq_2, fIx.eq_3, fIx.eq_4, fIx.eq_5, dSl, dPart, dNoPart, dCB, fLen.eq_1, fLen.eq_2, fLen.eq_3, fLen.eq_4, fLen.eq_5, fInt.eq_1, fInt.eq_2, fInt.eq_3, fList.eq_1, fList.eq_2, rdS.eq_1, rdS.eq_2, rdS.eq_3, rdS.eq_4, fTup.eq_1, fTup.eq_2, fOrd.eq_1, fOrd.eq_2, fIsi.eq_1, fIsi.eq_2, tyD.eq_1, tyD.eq_2, tyD.eq_3, tyD.eq_4, tyD.eq_5, tyD.eq_6, tyD.eq_7, kb1, kb2, kb3, kb4, kb5, kb6, kb7, kb8, kb9, kb10, kb11, kb12, kb13, kb14, kb15, kb16, kb17, kb18, kb19, kb20, kb21, kb22, kb23, kb24, dSeq, seqK.eq_1, seqK.eq_2, seqK.eq_3, seqK.eq_4, seqK.eq_5, dRng1, dRng2, dRev, lstK.eq_1, lstK.eq_2, lstK.eq_3, dEnum, dZip, dBM, dBM0, fAppend.eq_1, fAppend.eq_2, fExtend.eq_1, fExtend.eq_2, fExtA.eq_1, fExtA.eq_2, fPop.eq_1, fPop.eq_2, dRevT, dRevL, f2I.eq_1, f2I.eq_2, bK.eq_1, bK.eq_2, truK.eq_1, truK.eq_2, truK.eq_3, truK.eq_4, truK.eq_5, truK.eq_6, truK.eq_7, truL.eq_1, truL.eq_2, dispK.eq_1, dispK.eq_2, ixK.eq_1, ixK.eq_2, ixS.eq_1, ixS.eq_2, ixL.eq_1, ixL.eq_2, partK.eq_1, partK.eq_2, slK.eq_1, slK.eq_2, slK.eq_3, slK.eq_4, slK.eq_5, slL.eq_1, slL.eq_2, lenLK.eq_1, lenLK.eq_2, mkL.eq_1, mkL.eq_2, isiB.eq_1, isiB.eq_2, isiK.eq_1, isiK.eq_2, frzK.eq_1, frzK.eq_2, frzK.eq_3, rng1K.eq_1, rng1K.eq_2, rng2K.eq_1, rng2K.eq_2, lst1K.eq_1, lst1K.eq_2, zipK.eq_1, zipK.eq_2, sub1K.eq_1, sub1K.eq_2, sub2K.eq_1, sub2K.eq_2, appK.eq_1, appK.eq_2, extK.eq_1, extK.eq_2, pop2K.eq_1, pop2K.eq_2, popK.eq_1, popK.eq_2, lstFK.eq_1, lstFK.eq_2, lisFK.eq_1, lisFK.eq_2, lisF2K.eq_1, lisF2K.eq_2, accK.eq_1, accK.eq_2, dVal, revTK.eq_1, revTK.eq_2, callK.eq_1, callK.eq_2, eqK.eq_1, eqK.eq_2, catK.eq_1, catK.eq_2, cellL.eq_1, cellL.eq_2, cellL.eq_3, okDi, okDb, okDn, eqvi, eqvs, dLstF, dListF, dLc, dYes, wipeE.eq_1, wipeE.eq_2, dFor, fin, finD, wOk.eq_1, wOk.eq_2, cellOk.eq_1, cellOk.eq_2, E0D, dCallP, dCallW, putW, firstRef.eq_1, firstRef.eq_2, firstRef.eq_3, shW.eq_1, shW.eq_2, unW.eq_1, unW.eq_2, inW.eq_1, inW.eq_2, shC.eq_1, shC.eq_2, unC.eq_1, unC.eq_2, inC.eq_1, inC.eq_2, dBreak, at0, at1, at2, at3, atI_last, List.getElem?_cons_zero, List.getElem?_cons_succ, List.getElem?_nil, List.set_cons_zero, List.set_cons_succ, List.map_cons, List.map_nil, List.length_cons, List.length_nil, List.replicate_succ, List.replicate_zero, List.cons_append, List.nil_append, List.append_nil, Option.map_some, Option.map_none, Option.isSome_some, if_true, if_false, ite_true, ite_false, Bool.and_true, Bool.true_and, Bool.and_false, Bool.false_and, Bool.or_true, Bool.or_false, Bool.true_or, Bool.false_or, Bool.not_true, Bool.not_false, true_and, and_true, List.take_succ_cons, List.take_zero, List.take_nil, List.drop_zero, List.drop_succ_cons, List.drop_nil, List.all_cons, List.all_nil, List.any_cons, List.any_nil, List.contains_cons, List.elem_nil, Nat.zero_add, Nat.add_zero, Nat.le_refl, Nat.reduceAdd, Nat.reduceSub, Nat.reduceLT, Nat.reduceLeDiff, Nat.sub_self, Nat.sub_zero, Nat.zero_le, decide_true, decide_false, beq_self_eq_true, Bool.false_eq_true, reduceCtorEq, List.isEmpty_cons, List.isEmpty_nil, List.dropLast_concat, dUn, unK.eq_1, unK.eq_2, dFld, fldK.eq_1, fldK.eq_2, fldK.eq_3, fldC.eq_1, fldC.eq_2, fldW.eq_1, fldW.eq_2, dMake, makK.eq_1, makK.eq_2, fld00, fld01, fld02, lenF0, lenF1, lenF2, get_end, set_end, dMethP, dMethW, isOb.eq_1, isOb.eq_2, isOb.eq_3, isObC.eq_1, isObC.eq_2, dSetF, sfK.eq_1, sfK.eq_2, sfC.eq_1, sfC.eq_2, dFz, fzK.eq_1, fzK.eq_2, fzK.eq_3, fzC.eq_1, fzC.eq_2, fzC.eq_3, dMakeRec, recK.eq_1, recK.eq_2, fld10, fld11, dMatch, dMCase.eq_1, dMCase.eq_2, dMNil, fillE.eq_1, fillE.eq_2, dAug, aug0.eq_1, aug0.eq_2, augK.eq_1, augK.eq_2, fIsiO.eq_1, fIsiO.eq_2, dCallPX, dMethWX, dRaise, raiK.eq_1, raiK.eq_2, dPar, parK.eq_1, parK.eq_2, dPar3, parK3.eq_1, parK3.eq_2, shW0, unW0, unC0, shC0, id])
set_option hygiene false in
local macro_rules | `(tactic| walk_at "s") => `(tactic| simp -implicitDefEqProofs only [dNext, dDrop, dRet, dRetN, dIfS, dAsg, dAsgC, dgName, dgTup.eq_1, dgTup.eq_2, dgCons.eq_1, dgCons.eq_2, dgNil, dgSub, subK.eq_1, subK.eq_2, dVar, dVarF, dC, dOp, fII.eq_1, fII.eq_2, fIIc.eq_1, fIIc.eq_2, fAdd.eq_1, fAdd.eq_2, fAdd.eq_3, fAdd.eq_4, fAdd.eq_5, fAdd.eq_6, fCmp.eq_1, fCmp.eq_2, fCmp.eq_3, fEqD, fIsN.eq_1, fIsN.eq_2, isNon.eq_1, isNon.eq_2, rdV.eq_1, rdV.eq_2, rdV.eq_3, rdL.eq_1, rdL.eq_2, rdL.eq_3, dB, dAnd, dOr, dNot, dTru, dIf, dAndV, dOrV, dNotV, dChain, dNil, dCons, vals.eq_1, vals.eq_2, vals.eq_3, dTup, dLst, fIx.eq_1, fIx.eq_2, fIx.eq_3, fIx.eq_4, fIx.eq_5, dSl, dPart, dNoPart, dCB, fLen.eq_1, fLen.eq_2, fLen.eq_3, fLen.eq_4, fLen.eq_5, fInt.eq_1, fInt.eq_2, fInt.eq_3, fList.eq_1, fList.eq_2, rdS.eq_1, rdS.eq_2, rdS.eq_3, rdS.eq_4, fTup.eq_1, fTup.eq_2, fOrd.eq_1, fOrd.eq_2, fIsi.eq_1, fIsi.eq_2, tyD.eq_1, tyD.eq_2, tyD.eq_3, tyD.eq_4, tyD.eq_5, tyD.eq_6, tyD.eq_7, kb1, kb2, kb3, kb4, kb5, kb6, kb7, kb8, kb9, kb10, kb11, kb12, kb13, kb14, kb15, kb16, kb17, kb18, kb19, kb20, kb21, kb22, kb23, kb24, dSeq, seqK.eq_1, seqK.eq_2, seqK.eq_3, seqK.eq_4, seqK.eq_5, dRng1, dRng2, dRev, lstK.eq_1, lstK.eq_2, lstK.eq_3, dEnum, dZip, dBM, dBM0, fAppend.eq_1, fAppend.eq_2, fExtend.eq_1, fExtend.eq_2, fExtA.eq_1, fExtA.eq_2, fPop.eq_1, fPop.eq_2, dRevT, dRevL, f2I.eq_1, f2I.eq_2, bK.eq_1, bK.eq_2, truK.eq_1, truK.eq_2, truK.eq_3, truK.eq_4, truK.eq_5, truK.eq_6, truK.eq_7, truL.eq_1, truL.eq_2, dispK.eq_1, dispK.eq_2, ixK.eq_1, ixK.eq_2, ixS.eq_1, ixS.eq_2, ixL.eq_1, ixL.eq_2, partK.eq_1, partK.eq_2, slK.eq_1, slK.eq_2, slK.eq_3, slK.eq_4, slK.eq_5, slL.eq_1, slL.eq_2, lenLK.eq_1, lenLK.eq_2, mkL.eq_1, mkL.eq_2, isiB.eq_1, isiB.eq_2, isiK.eq_1, isiK.eq_2, frzK.eq_1, frzK.eq_2, frzK.eq_3, rng1K.eq_1, rng1K.eq_2, rng2K.eq_1, rng2K.eq_2, lst1K.eq_1, lst1K.eq_2, zipK.eq_1, zipK.eq_2, sub1K.eq_1, sub1K.eq_2, sub2K.eq_1, sub2K.eq_2, appK.eq_1, appK.eq_2, extK.eq_1, extK.eq_2, pop2K.eq_1, pop2K.eq_2, popK.eq_1, popK.eq_2, lstFK.eq_1, lstFK.eq_2, lisFK.eq_1, lisFK.eq_2, lisF2K.eq_1, lisF2K.eq_2, accK.eq_1, accK.eq_2, dVal, revTK.eq_1, revTK.eq_2, callK.eq_1, callK.eq_2, eqK.eq_1, eqK.eq_2, catK.eq_1, catK.eq_2, cellL.eq_1, cellL.eq_2, cellL.eq_3, okDi, okDb, okDn, eqvi, eqvs, dLstF, dListF, dLc, dYes, wipeE.eq_1, wipeE.eq_2, dFor, fin, finD, wOk.eq_1, wOk.eq_2, cellOk.eq_1, cellOk.eq_2, E0D, dCallP, dCallW, putW, firstRef.eq_1, firstRef.eq_2, firstRef.eq_3, shW.eq_1, shW.eq_2, unW.eq_1, unW.eq_2, inW.eq_1, inW.eq_2, shC.eq_1, shC.eq_2, unC.eq_1, unC.eq_2, inC.eq_1, inC.eq_2, dBreak, at0, at1, at2, at3, atI_last, List.getElem?_cons_zero, List.getElem?_cons_succ, List.getElem?_nil, List.set_cons_zero, List.set_cons_succ, List.map_cons, List.map_nil, List.length_cons, List.length_nil, List.replicate_succ, List.replicate_zero, List.cons_append, List.nil_append, List.append_nil, Option.map_some, Option.map_none, Option.isSome_some, if_true, if_false, ite_true, ite_false, Bool.and_true, Bool.true_and, Bool.and_false, Bool.false_and, Bool.or_true, Bool.or_false, Bool.true_or, Bool.false_or, Bool.not_true, Bool.not_false, true_and, and_true, List.take_succ_cons, List.take_zero, List.take_nil, List.drop_zero, List.drop_succ_cons, List.drop_nil, List.all_cons, List.all_nil, List.any_cons, List.any_nil, List.contains_cons, List.elem_nil, Nat.zero_add, Nat.add_zero, Nat.le_refl, Nat.reduceAdd, Nat.reduceSub, Nat.reduceLT, Nat.reduceLeDiff, Nat.sub_self, Nat.sub_zero, Nat.zero_le, decide_true, decide_false, beq_self_eq_true, Bool.false_eq_true, reduceCtorEq, List.isEmpty_cons, List.isEmpty_nil, List.dropLast_concat, dUn, unK.eq_1, unK.eq_2, dFld, fldK.eq_1, fldK.eq_2, fldK.eq_3, fldC.eq_1, fldC.eq_2, fldW.eq_1, fldW.eq_2, dMake, makK.eq_1, makK.eq_2, fld00, fld01, fld02, lenF0, lenF1, lenF2, get_end, set_end, dMethP, dMethW, isOb.eq_1, isOb.eq_2, isOb.eq_3, isObC.eq_1, isObC.eq_2, dSetF, sfK.eq_1, sfK.eq_2, sfC.eq_1, sfC.eq_2, dFz, fzK.eq_1, fzK.eq_2, fzK.eq_3, fzC.eq_1, fzC.eq_2, fzC.eq_3, dMakeRec, recK.eq_1, recK.eq_2, fld10, fld11, dMatch, dMCase.eq_1, dMCase.eq_2, dMNil, fillE.eq_1, fillE.eq_2, dAug, aug0.eq_1, aug0.eq_2, augK.eq_1, augK.eq_2, fIsiO.eq_1, fIsiO.eq_2, dCallPX, dMethWX, dRaise, raiK.eq_1, raiK.eq_2, dPar, parK.eq_1, parK.eq_2, dPar3, parK3.eq_1, parK3.eq_2, shW0, unW0, unC0, shC0, id])
set_option hygiene false in
local macro_rules | `(tactic| walk_at "o") => `(tactic| simp -implicitDefEqProofs only [dSeqS, dNext, dDrop, dRet, dRetN, dIfS, dAsg, dAsgC, dgName, dgTup.eq_1, dgTup.eq_2, dgCons.eq_1, dgCons.eq_2, dgNil, dgSub, subK.eq_1, subK.eq_2, dVar, dVarF, dC, dOp, fII.eq_1, fII.eq_2, fIIc.eq_1, fIIc.eq_2, fAdd.eq_1, fAdd.eq_2, fAdd.eq_3, fAdd.eq_4, fAdd.eq_5, fAdd.eq_6, fCmp.eq_1, fCmp.eq_2, fCmp.eq_3, fEqD, fIsN.eq_1, fIsN.eq_2, isNon.eq_1, isNon.eq_2, rdV.eq_1, rdV.eq_2, rdV.eq_3, rdL.eq_1, rdL.eq_2, rdL.eq_3, dB, dAnd, dOr, dNot, dTru, dIf, dAndV, dOrV, dNotV, dChain, dNil, dCons, vals.eq_1, vals.eq_2, vals.eq_3, dTup, dLst, fIx.eq_1, fIx.eq_2, fIx.eq_3, fIx.eq_4, fIx.eq_5, dSl, dPart, dNoPart, dCB, fLen.eq_1, fLen.eq_2, fLen.eq_3, fLen.eq_4, fLen.eq_5, fInt.eq_1, fInt.eq_2, fInt.eq_3, fList.eq_1, fList.eq_2, rdS.eq_1, rdS.eq_2, rdS.eq_3, rdS.eq_4, fTup.eq_1, fTup.eq_2, fOrd.eq_1, fOrd.eq_2, fIsi.eq_1, fIsi.eq_2, tyD.eq_1, tyD.eq_2, tyD.eq_3, tyD.eq_4, tyD.eq_5, tyD.eq_6, tyD.eq_7, kb1, kb2, kb3, kb4, kb5, kb6, kb7, kb8, kb9, kb10, kb11, kb12, kb13, kb14, kb15, kb16, kb17, kb18, kb19, kb20, kb21, kb22, kb23, kb24, dSeq, seqK.eq_1, seqK.eq_2, seqK.eq_3, seqK.eq_4, seqK.eq_5, dRng1, dRng2, dRev, lstK.eq_1, lstK.eq_2, lstK.eq_3, dEnum, dZip, dBM, dBM0, fAppend.eq_1, fAppend.eq_2, fExtend.eq_1, fExtend.eq_2, fExtA.eq_1, fExtA.eq_2, fPop.eq_1, fPop.eq_2, dRevT, dRevL, f2I.eq_1, f2I.eq_2, bK.eq_1, bK.eq_2, truK.eq_1, truK.eq_2, truK.eq_3, truK.eq_4, truK.eq_5, truK.eq_6, truK.eq_7, truL.eq_1, truL.eq_2, dispK.eq_1, dispK.eq_2, ixK.eq_1, ixK.eq_2, ixS.eq_1, ixS.eq_2, ixL.eq_1, ixL.eq_2, partK.eq_1, partK.eq_2, slK.eq_1, slK.eq_2, slK.eq_3, slK.eq_4, slK.eq_5, slL.eq_1, slL.eq_2, lenLK.eq_1, lenLK.eq_2, mkL.eq_1, mkL.eq_2, isiB.eq_1, isiB.eq_2, isiK.eq_1, isiK.eq_2, frzK.eq_1, frzK.eq_2, frzK.eq_3, rng1K.eq_1, rng1K.eq_2, rng2K.eq_1, rng2K.eq_2, lst1K.eq_1, lst1K.eq_2, zipK.eq_1, zipK.eq_2, sub1K.eq_1, sub1K.eq_2, sub2K.eq_1, sub2K.eq_2, appK.eq_1, appK.eq_2, extK.eq_1, extK.eq_2, pop2K.eq_1, pop2K.eq_2, popK.eq_1, popK.eq_2, lstFK.eq_1, lstFK.eq_2, lisFK.eq_1, lisFK.eq_2, lisF2K.eq_1, lisF2K.eq_2, accK.eq_1, accK.eq_2, dVal, revTK.eq_1, revTK.eq_2, callK.eq_1, callK.eq_2, eqK.eq_1, eqK.eq_2, catK.eq_1, catK.eq_2, cellL.eq_1, cellL.eq_2, cellL.eq_3, okDi, okDb, okDn, eqvi, eqvs, dLstF, dListF, dLc, dYes, wipeE.eq_1, wipeE.eq_2, dFor, fin, finD, wOk.eq_1, wOk.eq_2, cellOk.eq_1, cellOk.eq_2, E0D, dCallP, dCallW, putW, firstRef.eq_1, firstRef.eq_2, firstRef.eq_3, shW.eq_1, shW.eq_2, unW.eq_1, unW.eq_2, inW.eq_1, inW.eq_2, shC.eq_1, shC.eq_2, unC.eq_1, unC.eq_2, inC.eq_1, inC.eq_2, dBreak, at0, at1, at2, at3, atI_last, List.getElem?_cons_zero, List.getElem?_cons_succ, List.getElem?_nil, List.set_cons_zero, List.set_cons_succ, List.map_cons, List.map_nil, List.length_cons, List.length_nil, List.replicate_succ, List.replicate_zero, List.cons_append, List.nil_append, List.append_nil, Option.map_some, Option.map_none, Option.isSome_some, if_true, if_false, ite_true, ite_false, Bool.and_true, Bool.true_and, Bool.and_false, Bool.false_and, Bool.or_true, Bool.or_false, Bool.true_or, Bool.false_or, Bool.not_true, Bool.not_false, true_and, and_true, List.take_succ_cons, List.take_zero, List.take_nil, List.drop_zero, List.drop_succ_cons, List.drop_nil, List.all_cons, List.all_nil, List.any_cons, List.any_nil, List.contains_cons, List.elem_nil, Nat.zero_add, Nat.add_zero, Nat.le_refl, Nat.reduceAdd, Nat.reduceSub, Nat.reduceLT, Nat.reduceLeDiff, Nat.sub_self, Nat.sub_zero, Nat.zero_le, decide_true, decide_false, beq_self_eq_true, Bool.false_eq_true, reduceCtorEq, List.isEmpty_cons, List.isEmpty_nil, List.dropLast_concat, dUn, unK.eq_1, unK.eq_2, dFld, fldK.eq_1, fldK.eq_2, fldK.eq_3, fldC.eq_1, fldC.eq_2, fldW.eq_1, fldW.eq_2, dMake, makK.eq_1, makK.eq_2, fld00, fld01, fld02, lenF0, lenF1, lenF2, get_end, set_end, dMethP, dMethW, isOb.eq_1, isOb.eq_2, isOb.eq_3, isObC.eq_1, isObC.eq_2, dSetF, sfK.eq_1, sfK.eq_2, sfC.eq_1, sfC.eq_2, dFz, fzK.eq_1, fzK.eq_2, fzK.eq_3, fzC.eq_1, fzC.eq_2, fzC.eq_3, dMakeRec, recK.eq_1, recK.eq_2, fld10, fld11, dMatch, dMCase.eq_1, dMCase.eq_2, dMNil, fillE.eq_1, fillE.eq_2, dAug, aug0.eq_1, aug0.eq_2, augK.eq_1, augK.eq_2, fIsiO.eq_1, fIsiO.eq_2, dCallPX, dMethWX, dRaise, raiK.eq_1, raiK.eq_2, dPar, parK.eq_1, parK.eq_2, dPar3, parK3.eq_1, parK3.eq_2, shW0, unW0, unC0, shC0, Opn.win, Opn.ain, Opn.wok, Opn.aok, Opn.rule, id])
set_option hygiene false in
local macro_rules | `(tactic| walk_at "t") => `(tactic| simp -implicitDefEqProofs only [dNext, dDrop, dRet, dRetN, dIfS, dAsg, dAsgC, dgName, dgTup.eq_1, dgTup.eq_2, dgCons.eq_1, dgCons.eq_2, dgNil, dgSub, subK.eq_1, subK.eq_2, dVar, dVarF, dC, dOp, fII.eq_1, fII.eq_2, fIIc.eq_1, fIIc.eq_2, fAdd.eq_1, fAdd.eq_2, fAdd.eq_3, fAdd.eq_4, fAdd.eq_5, fAdd.eq_6, fCmp.eq_1, fCmp.eq_2, fCmp.eq_3, fEqD, fIsN.eq_1, fIsN.eq_2, isNon.eq_1, isNon.eq_2, rdV.eq_1, rdV.eq_2, rdV.eq_3, rdL.eq_1, rdL.eq_2, rdL.eq_3, dB, dAnd, dOr, dNot, dTru, dIf, dAndV, dOrV, dNotV, dChain, dNil, dCons, vals.eq_1, vals.eq_2, vals.eq_3, dTup, dLst, fIx.eq_1, fIx.eq_2, fIx.eq_3, fIx.eq_4, fIx.eq_5, dSl, dPart, dNoPart, dCB, fLen.eq_1, fLen.eq_2, fLen.eq_3, fLen.eq_4, fLen.eq_5, fInt.eq_1, fInt.eq_2, fInt.eq_3, fList.eq_1, fList.eq_2, rdS.eq_1, rdS.eq_2, rdS.eq_3, rdS.eq_4, fTup.eq_1, fTup.eq_2, fOrd.eq_1, fOrd.eq_2, fIsi.eq_1, fIsi.eq_2, tyD.eq_1, tyD.eq_2, tyD.eq_3, tyD.eq_4, tyD.eq_5, tyD.eq_6, tyD.eq_7, kb1, kb2, kb3, kb4, kb5, kb6, kb7, kb8, kb9, kb10, kb11, kb12, kb13, kb14, kb15, kb16, kb17, kb18, kb19, kb20, kb21, kb22, kb23, kb24, dSeq, seqK.eq_1, seqK.eq_2, seqK.eq_3, seqK.eq_4, seqK.eq_5, dRng1, dRng2, dRev, lstK.eq_1, lstK.eq_2, lstK.eq_3, dEnum, dZip, dBM, dBM0, fAppend.eq_1, fAppend.eq_2, fExtend.eq_1, fExtend.eq_2, fExtA.eq_1, fExtA.eq_2, fPop.eq_1, fPop.eq_2, dRevT, dRevL, f2I.eq_1, f2I.eq_2, bK.eq_1, bK.eq_2, truK.eq_1, truK.eq_2, truK.eq_3, truK.eq_4, truK.eq_5, truK.eq_6, truK.eq_7, truL.eq_1, truL.eq_2, dispK.eq_1, dispK.eq_2, ixK.eq_1, ixK.eq_2, ixS.eq_1, ixS.eq_2, ixL.eq_1, ixL.eq_2, partK.eq_1, partK.eq_2, slK.eq_1, slK.eq_2, slK.eq_3, slK.eq_4, slK.eq_5, slL.eq_1, slL.eq_2, lenLK.eq_1, lenLK.eq_2, mkL.eq_1, mkL.eq_2, isiB.eq_1, isiB.eq_2, isiK.eq_1, isiK.eq_2, frzK.eq_1, frzK.eq_2, frzK.eq_3, rng1K.eq_1, rng1K.eq_2, rng2K.eq_1, rng2K.eq_2, lst1K.eq_1, lst1K.eq_2, zipK.eq_1, zipK.eq_2, sub1K.eq_1, sub1K.eq_2, sub2K.eq_1, sub2K.eq_2, appK.eq_1, appK.eq_2, extK.eq_1, extK.eq_2, pop2K.eq_1, pop2K.eq_2, popK.eq_1, popK.eq_2, lstFK.eq_1, lstFK.eq_2, lisFK.eq_1, lisFK.eq_2, lisF2K.eq_1, lisF2K.eq_2, accK.eq_1, accK.eq_2, dVal, revTK.eq_1, revTK.eq_2, callK.eq_1, callK.eq_2, eqK.eq_1, eqK.eq_2, catK.eq_1, catK.eq_2, cellL.eq_1, cellL.eq_2, cellL.eq_3, okDi, okDb, okDn, eqvi, eqvs, dLstF, dListF, dLc, dYes, wipeE.eq_1, wipeE.eq_2, dFor, fin, finD, wOk.eq_1, wOk.eq_2, cellOk.eq_1, cellOk.eq_2, E0D, dCallP, dCallW, putW, firstRef.eq_1, firstRef.eq_2, firstRef.eq_3, shW.eq_1, shW.eq_2, unW.eq_1, unW.eq_2, inW.eq_1, inW.eq_2, shC.eq_1, shC.eq_2, unC.eq_1, unC.eq_2, inC.eq_1, inC.eq_2, dBreak, at0, at1, at2, at3, atI_last, List.getElem?_cons_zero, List.getElem?_cons_succ, List.getElem?_nil, List.set_cons_zero, List.set_cons_succ, List.map_cons, List.map_nil, List.length_cons, List.length_nil, List.replicate_succ, List.replicate_zero, List.cons_append, List.nil_append, List.append_nil, Option.map_some, Option.map_none, Option.isSome_some, if_true, if_false, ite_true, ite_false, Bool.and_true, Bool.true_and, Bool.and_false, Bool.false_and, Bool.or_true, Bool.or_false, Bool.true_or, Bool.false_or, Bool.not_true, Bool.not_false, true_and, and_true, List.take_succ_cons, List.take_zero, List.take_nil, List.drop_zero, List.drop_succ_cons, List.drop_nil, List.all_cons, List.all_nil, List.any_cons, List.any_nil, List.contains_cons, List.elem_nil, Nat.zero_add, Nat.add_zero, Nat.le_refl, Nat.reduceAdd, Nat.reduceSub, Nat.reduceLT, Nat.reduceLeDiff, Nat.sub_self, Nat.sub_zero, Nat.zero_le, decide_true, decide_false, beq_self_eq_true, Bool.false_eq_true, reduceCtorEq, List.isEmpty_cons, List.isEmpty_nil, List.dropLast_concat, dUn, unK.eq_1, unK.eq_2, dFld, fldK.eq_1, fldK.eq_2, fldK.eq_3, fldC.eq_1, fldC.eq_2, fldW.eq_1, fldW.eq_2, dMake, makK.eq_1, makK.eq_2, fld00, fld01, fld02, lenF0, lenF1, lenF2, get_end, set_end, dMethP, dMethW, isOb.eq_1, isOb.eq_2, isOb.eq_3, isObC.eq_1, isObC.eq_2, dSetF, sfK.eq_1, sfK.eq_2, sfC.eq_1, sfC.eq_2, dFz, fzK.eq_1, fzK.eq_2, fzK.eq_3, fzC.eq_1, fzC.eq_2, fzC.eq_3, dMakeRec, recK.eq_1, recK.eq_2, fld10, fld11, dMatch, dMCase.eq_1, dMCase.eq_2, dMNil, fillE.eq_1, fillE.eq_2, dAug, aug0.eq_1, aug0.eq_2, augK.eq_1, augK.eq_2, fIsiO.eq_1, fIsiO.eq_2, dCallPX, dMethWX, dRaise, raiK.eq_1, raiK.eq_2, dPar, parK.eq_1, parK.eq_2, dPar3, parK3.eq_1, parK3.eq_2, shW0, unW0, unC0, shC0, Opn.win, Opn.ain, Opn.wok, Opn.aok, Opn.rule, id])
abbrev sLCodes : Stmt := topS 5
theorem scLCodes : FnScope ["text", "letter"] ["text"] (defScope sLCodes) := ⟨rfl, rfl, rfl, by decide +kernel, rfl, by decide +kernel, by decide +kernel⟩
def pLCodes : DSp := fun ws C Q _ => ∃ z, ws = [.val (.str z)] ∧ z.length ≤ 1000000 ∧ Q (.val (.list (intsD (codesI z)))) C
theorem chars_codes (z : Str) : (chars z).map (fun x => match x with | .str y => PyData.int (y.cps.getD 0 0 : Nat) | x => x) = intsD (codesI z) := by
  unfold chars intsD codesI
  rw [List.map_map, List.map_map]
  rfl
section
variable {P : Program} {w : World} {K : PySem.W.Frag} {mg : Str → Option Value} {base : Heap} {ct : Ct}
theorem ok_LCodes  (D : Def K mg "_law_codes" sLCodes ["text"]) (m_ord : mg "ord" = none)
    : FnOk P w K mg base CX0 1 D.f D.fd ["text"] (spD ct 0 1 pLCodes) := by
  refine D.F.ok scLCodes (fun vs H Q E h => spD_len h) (fun cdv A outer s H vs Q E hr h => ⟨_, (pss_one (ps_ret (pe_lc (own := [("letter", 1)]) (g := (gName 1)) (by rfl) scLCodes.nd (pi_seqA (pv 0))
        (blkOk_by (own := [("letter", 1)]) (N := ["text", "letter"]) (sc := defScope sLCodes) (by decide +kernel))
        (fun _ _ _ _ _ => (pg_name (i := 1) scLCodes.nd rfl (Or.inl rfl))) (fun _ _ _ _ _ => pts_nil)
        (fun _ _ _ _ _ => (pe_callB call_ordA (by rfl) m_ord (by decide +kernel) (pa_cons (pv 1) pa_nil)))))), body_ok _ (fun R => inferInstance) (by decide) (fun ws C Q R hw hC hP => ?_) h⟩)
  obtain rfl := List.eq_nil_of_length_eq_zero hC
  obtain ⟨z, rfl, hl, q⟩ := hP
  walk_at "d"
  refine dLcGo_map (fun x => match x with | .str y => PyData.int (y.cps.getD 0 0 : Nat) | x => x) _ (by rw [chars_len]; exact big2 hl) (fun x hx K k => ?_) ?_
  · obtain ⟨c, _, rfl⟩ := List.mem_map.mp hx
    walk_at "d"
    exact ⟨rfl, k⟩
  · rw [chars_codes]
    exact q
end
abbrev sLEncode : Stmt := topS 6
theorem scLEncode : FnScope ["value", "made", "one"] ["value"] (defScope sLEncode) := ⟨rfl, rfl, rfl, by decide +kernel, rfl, by decide +kernel, by decide +kernel⟩
def pLEncode (n : Nat) : DSp := fun ws C Q _ => ∃ d, ws = [.val d] ∧ isV d = true ∧ d.depth < n ∧ (enc d).length ≤ 1000000 ∧ Q (.val (.list (intsD (enc d)))) C
theorem no_LEncode : ∀ ws C Q R, ¬ pLEncode 0 ws C Q R := fun ws C Q R ⟨d, _, _, h, _⟩ => absurd h (Nat.not_lt_zero _)
theorem depth_in {ds : List PyData} : ∀ d ∈ ds, d.depth ≤ PyData.depthAll ds := by
  induction ds with
  | nil => exact fun d h => by cases h
  | cons x xs ih =>
    intro d h
    show d.depth ≤ max x.depth (PyData.depthAll xs)
    rcases List.mem_cons.mp h with rfl | h
    · exact Nat.le_max_left _ _
    · exact Nat.le_trans (ih d h) (Nat.le_max_right _ _)
theorem areV_in : ∀ {ds : List PyData}, areV ds = true → ∀ d ∈ ds, isV d = true
  | x :: xs, hv, d, h => by
    have h' : (isV x && areV xs) = true := hv
    rw [Bool.and_eq_true] at h'
    rcases List.mem_cons.mp h with rfl | h
    · exact h'.1
    · exact areV_in h'.2 d h
section
variable {P : Program} {w : World} {K : PySem.W.Frag} {mg : Str → Option Value} {base : Heap} {ct : Ct}
theorem step_LEncode {n : Nat}  (D : Def K mg "_law_encode" sLEncode ["value"]) (D_LCodes : Def K mg "_law_codes" sLCodes ["text"]) (m_isinstance : mg "isinstance" = none) (m_len : mg "len" = none) (m_str : mg "str" = none) (m_tuple : mg "tuple" = none)
    (G_LCodes : FnOk P w K mg base CX0 1 D_LCodes.f D_LCodes.fd ["text"] (spD ct 0 1 pLCodes)) (G : FnOk P w K mg base CX0 (n + 1) D.f D.fd ["value"] (spD ct 0 1 (pLEncode n))) : FnOk P w K mg base CX0 (n + 1 + 1) D.f D.fd ["value"] (spD ct 0 1 (pLEncode (n + 1))) := by
  refine D.F.ok scLEncode (fun vs H Q E h => spD_len h) (fun cdv A outer s H vs Q E hr h => ⟨_, (pss_cons (ps_if (pt_truA (pe_callB call_isi (by rfl) m_isinstance (by decide +kernel) (pa_cons (pv 0) (pa_cons (pe_bltn (v := .ty "str") (by rfl) m_str (by decide +kernel) rfl) pa_nil))))
      (pss_one (ps_ret (pe_op op_addA (pe_lst (pa_cons pe_int (pa_cons (pe_callB call_lenA (by rfl) m_len (by decide +kernel) (pa_cons (pv 0) pa_nil)) pa_nil))) (pe_call G_LCodes (hr.mono (by omega)) (by rfl) D_LCodes.m D_LCodes.F.kp D_LCodes.b .nil pass0 (pa_cons (pv 0) pa_nil))))) pss_nil) <|
    pss_cons (ps_if (pt_truA (pe_callB call_isi (by rfl) m_isinstance (by decide +kernel) (pa_cons (pv 0) (pa_cons (pe_bltn (v := .ty "tuple") (by rfl) m_tuple (by decide +kernel) rfl) pa_nil))))
      (pss_cons (ps_set (i := 1) scLEncode.nd rfl (.inl rfl) (pe_lst (pa_cons pe_int (pa_cons (pe_callB call_lenA (by rfl) m_len (by decide +kernel) (pa_cons (pv 0) pa_nil)) pa_nil)))) <|
        pss_cons (ps_for PassesOwn.never rfl (pi_seqA (pv 0)) (pg_name (i := 2) scLEncode.nd rfl (Or.inl rfl))
          (pss_one (ps_set (i := 1) scLEncode.nd rfl (.inl rfl) (pe_op op_addA (pv 1) (pe_call G (hr.mono (by omega)) (by rfl) D.m D.F.kp D.b .nil pass0 (pa_cons (pv 2) pa_nil)))))) <|
        pss_one (ps_ret (pv 1))) pss_nil) <|
    pss_one (ps_ret (pe_lst (pa_cons pe_int (pa_cons (pv 0) pa_nil))))), body_ok _ (fun R => inferInstance) (by decide) (fun ws C Q R hw hC hP => ?_) h⟩)
  obtain rfl := List.eq_nil_of_length_eq_zero hC
  obtain ⟨d, rfl, hv, hd, hl, q⟩ := hP
  walk_at "d"
  cases d with
  | none => cases hv
  | bool b => cases hv
  | list ds => cases hv
  | dict kvs => cases hv
  | int i =>
    walk_at "d"
    exact ⟨by decide, q⟩
  | str z =>
    have hz : (enc (.str z)).length = z.length + 2 := enc_str_len z
    walk_at "d"
    refine ⟨big2 (by omega), by decide, z, rfl, by omega, ?_⟩
    walk_at "d"
    refine ⟨?_, q⟩
    rw [intsD_len]
    unfold codesI
    rw [List.length_map, Array.length_toList]
    exact big2 (by show 2 + z.length ≤ _; omega)
  | tuple ds =>
    have hz : (enc (.tuple ds)).length = (encs ds).length + 2 := rfl
    have hds : areV ds = true := hv
    have hdd : PyData.depthAll ds + 1 < n + 1 := hd
    walk_at "d"
    refine ⟨by decide, ?_⟩
    refine dForGo_ind (fun rest E C => C = [] ∧ ∃ (pre : List PyData) (y : Option W), pre ++ rest = ds ∧ E = [some (.val (.tuple ds)), some (.val (.list (intsD (2 :: (ds.length : Int) :: encs pre)))), y]) ?_ ?_ _ _ _ ⟨rfl, [], _, rfl, rfl⟩
    · rintro E C ⟨rfl, pre, y, h1, rfl⟩
      rw [List.append_nil] at h1
      subst h1
      walk_at "d"
      exact q
    · rintro x xs E C ⟨rfl, pre, y, h1, rfl⟩ N hN
      have hx : x ∈ ds := by rw [← h1]; exact List.mem_append_right _ List.mem_cons_self
      have e2 : encs ds = encs pre ++ (enc x ++ encs xs) := by rw [← h1, encs_app]; rfl
      have e3 := congrArg List.length e2
      rw [List.length_append, List.length_append] at e3
      walk_at "d"
      refine ⟨x, rfl, areV_in hds x hx, by have := depth_in x hx; omega, by omega, ?_⟩
      walk_at "d"
      refine ⟨?_, hN _ _ ⟨rfl, pre ++ [x], some (W.val x), by rw [List.append_assoc]; exact h1, ?_⟩⟩
      · rw [intsD_len, intsD_len]
        show (encs pre).length + 1 + 1 + _ ≤ _
        exact big2 (by omega)
      · rw [← intsD_app, encs_app]
        show _ = [_, some (W.val (.list (intsD (2 :: (ds.length : Int) :: (encs pre ++ (enc x ++ [])))))), _]
        rw [List.append_nil]
        rfl
theorem ok_LEncode  (D : Def K mg "_law_encode" sLEncode ["value"]) (D_LCodes : Def K mg "_law_codes" sLCodes ["text"]) (m_isinstance : mg "isinstance" = none) (m_len : mg "len" = none) (m_str : mg "str" = none) (m_tuple : mg "tuple" = none)
    (G_LCodes : FnOk P w K mg base CX0 1 D_LCodes.f D_LCodes.fd ["text"] (spD ct 0 1 pLCodes)) : ∀ n : Nat, FnOk P w K mg base CX0 (n + 1) D.f D.fd ["value"] (spD ct 0 1 (pLEncode n))
  | 0 => spD_none no_LEncode
  | n + 1 => (step_LEncode D D_LCodes m_isinstance m_len m_str m_tuple G_LCodes (ok_LEncode D D_LCodes m_isinstance m_len m_str m_tuple G_LCodes n)).mono (by omega)

end
abbrev sLDigest : Stmt := topS 7
theorem scLDigest : FnScope ["rule", "value", "found", "numbers", "number"] ["rule", "value"] (defScope sLDigest) := ⟨rfl, rfl, rfl, by decide +kernel, rfl, by decide +kernel, by decide +kernel⟩
def pLDigest : DSp := fun ws C Q _ => ∃ b m d, ws = [.val (.tuple [.int b, .int m]), .val d] ∧ RuleOk b m ∧ isV d = true ∧ d.depth < 8 ∧ (enc d).length ≤ 1000000 ∧ Q (.val (.int (dig b m (enc d)))) C
theorem digF_inL {b m : Int} (h : RuleOk b m) (ns : List Int) : 0 ≤ digF b m ns ∧ digF b m ns < m := by
  rcases concat_cases ns with rfl | ⟨ns, n, rfl⟩
  · exact ⟨by show (0 : Int) ≤ 1; decide, by show (1 : Int) < m; have := h.2.2.1; omega⟩
  · rw [digF_snoc]
    exact ⟨Int.fmod_nonneg_of_pos _ (by have := h.2.2.1; omega), Int.fmod_lt_of_pos _ (by have := h.2.2.1; omega)⟩
theorem rule_mulL {b m r : Int} (h : RuleOk b m) (h0 : 0 ≤ r) (h1 : r < m) : CMulW r b := by
  refine wide_mul (a := 64) (b := 64) ?_ ?_ (by decide) (by decide) (by decide)
  · have := h.2.2.2
    omega
  · have := h.1
    have := h.2.1
    omega
section
variable {P : Program} {w : World} {K : PySem.W.Frag} {mg : Str → Option Value} {base : Heap} {ct : Ct}
theorem ok_LDigest  (D : Def K mg "_law_digest" sLDigest ["rule", "value"]) (D_LEncode : Def K mg "_law_encode" sLEncode ["value"]) (m_int : mg "int" = none) (m_len : mg "len" = none)
    (G_LEncode : ∀ n, FnOk P w K mg base CX0 (n + 1) D_LEncode.f D_LEncode.fd ["value"] (spD ct 0 1 (pLEncode n))) : FnOk P w K mg base CX0 10 D.f D.fd ["rule", "value"] (spD ct 0 2 pLDigest) := by
  refine D.F.ok scLDigest (fun vs H Q E h => spD_len h) (fun cdv A outer s H vs Q E hr h => ⟨_, (pss_cons (ps_set (i := 2) scLDigest.nd rfl (.inl rfl) pe_int) <|
    pss_cons (ps_set (i := 3) scLDigest.nd rfl (.inl rfl) (pe_call (G_LEncode 8) (hr.mono (by omega)) (by rfl) D_LEncode.m D_LEncode.F.kp D_LEncode.b .nil pass0 (pa_cons (pv 1) pa_nil))) <|
    pss_cons (ps_for PassesOwn.never rfl (pi_seqA (pv 3)) (pg_name (i := 4) scLDigest.nd rfl (Or.inl rfl))
      (pss_one (ps_set (i := 2) scLDigest.nd rfl (.inl rfl) (pe_op op_modN (pe_callTy call_intA (by rfl) m_int (by decide +kernel) (pa_cons (pe_op op_addA (pe_op op_addA (pe_op op_mulW (pv 2) (pe_ix ix_seq (pv 0) pe_int (fun _ _ => rfl))) (pv 4)) pe_int) pa_nil)) (pe_ix ix_seq (pv 0) pe_int (fun _ _ => rfl)))))) <|
    pss_one (ps_ret (pe_op op_modN (pe_callTy call_intA (by rfl) m_int (by decide +kernel) (pa_cons (pe_op op_addA (pe_op op_mulW (pv 2) (pe_ix ix_seq (pv 0) pe_int (fun _ _ => rfl))) (pe_callB call_lenA (by rfl) m_len (by decide +kernel) (pa_cons (pv 3) pa_nil))) pa_nil)) (pe_ix ix_seq (pv 0) pe_int (fun _ _ => rfl))))), body_ok _ (fun R => inferInstance) (by decide) (fun ws C Q R hw hC hP => ?_) h⟩)
  obtain rfl := List.eq_nil_of_length_eq_zero hC
  obtain ⟨b, m, d, rfl, hrm, hv, hdp, hl, q⟩ := hP
  have hm0 : m ≠ 0 := by have := hrm.2.2.1; omega
  walk_at "d"
  refine ⟨d, rfl, hv, hdp, hl, ?_⟩
  walk_at "d"
  refine dForGo_ind (fun ds E C => C = [] ∧ ∃ (pre rest : List Int) (y : Option W), ds = intsD rest ∧ pre ++ rest = enc d ∧ E = [some (.val (.tuple [.int b, .int m])), some (.val d), some (.val (.int (digF b m pre))), some (.val (.list (intsD (enc d)))), y]) ?_ ?_ _ _ _ ⟨rfl, [], enc d, none, rfl, rfl, rfl⟩
  · rintro E C ⟨rfl, pre, rest, y, h1, h2, rfl⟩
    have h3 : rest = [] := by
      cases rest with
      | nil => rfl
      | cons x r => cases h1
    subst h3
    rw [List.append_nil] at h2
    subst h2
    obtain ⟨r0, r1⟩ := digF_inL hrm (enc d)
    walk_at "d"
    refine ⟨rule_mulL hrm r0 r1, hm0, ?_⟩
    rw [intsD_len]
    exact q
  · rintro x xs E C ⟨rfl, pre, rest, y, h1, h2, rfl⟩ N hN
    cases rest with
    | nil => cases h1
    | cons n rest =>
      cases h1
      obtain ⟨r0, r1⟩ := digF_inL hrm pre
      walk_at "d"
      refine ⟨rule_mulL hrm r0 r1, hm0, hN _ _ ⟨rfl, pre ++ [n], rest, some (.val (.int n)), rfl, by rw [List.append_assoc]; exact h2, ?_⟩⟩
      rw [digF_snoc]
end

theorem rule_ok {x y : Int} (h0 : 0 ≤ x) (h1 : x < 10 ^ 18) (k0 : 0 ≤ y) (k1 : y < 10 ^ 18 - 1) : RuleOk (1 + x) (2 + y) := ⟨by omega, by omega, by omega, by omega⟩
theorem at_map {α : Type} (f : α → PyData) {xs : List α} {i : Nat} {x : α} (h : xs[i]? = some x) : atI (xs.map f) (i : Int) = some (f x) := atI_nat (by rw [List.getElem?_map, h]; rfl)
theorem nat_of {d : Int} {n : Nat} (h0 : 0 ≤ d) (h1 : d < (n : Int)) : ∃ j : Nat, d = (j : Int) ∧ j < n := ⟨d.toNat, by omega, by omega⟩
theorem get_of {α : Type} {xs : List α} {i : Nat} (h : i < xs.length) : ∃ x, xs[i]? = some x ∧ x ∈ xs := ⟨xs[i], List.getElem?_eq_getElem h, List.getElem_mem h⟩
/-- a drawn one of a list -/
theorem draw_in {α : Type} {xs : List α} {d : Int} (h0 : 0 ≤ d) (h1 : d < (xs.length : Int)) : ∃ (j : Nat) (x : α), d = (j : Int) ∧ xs[j]? = some x ∧ x ∈ xs := by
  obtain ⟨j, rfl, hj⟩ := nat_of h0 h1
  obtain ⟨x, h, hm⟩ := get_of hj
  exact ⟨j, x, rfl, h, hm⟩
def KeysOk (tb : Tab) : Prop := ∀ p ∈ tb, KeyOk p.1 ∧ RowOk p.2
theorem TabOk.keys {tb : Tab} (h : TabOk tb) : KeysOk tb := h.2
theorem KeysOk.fit {tb : Tab} (h : KeysOk tb) : TabFit tb := fun p hp => by
  obtain ⟨⟨_, k1, _⟩, _, k2, _⟩ := h p hp
  exact ⟨by omega, by omega⟩
theorem okD_put : okD (.str "put") := okDs_of (by decide +kernel)
theorem okD_rem : okD (.str "remove") := okDs_of (by decide +kernel)
def Chg.kind : Chg → Str
  | .put _ _ => "put"
  | .rem _ => "remove"
def Chg.rest : Chg → List PyData
  | .put _ r => [rowD r]
  | .rem _ => []
theorem chgD_eq (ch : Chg) : chgD ch = .tuple (.str ch.kind :: .str ch.key :: ch.rest) := by
  cases ch <;> rfl
theorem TabFit.take {tb : Tab} (h : TabFit tb) (n : Nat) : TabFit (tb.take n) := fun p hp => h p (List.mem_of_mem_take hp)
theorem TabFit.drop {tb : Tab} (h : TabFit tb) (n : Nat) : TabFit (tb.drop n) := fun p hp => h p (List.mem_of_mem_drop hp)
def treeD (b m : Int) : Tree → PyData
  | .nil => .list [linkD (lnk0 b m), .none, .none, .none]
  | .node k r x y => .list [linkD ((Tree.node k r x y).lnk b m), entD (entOf b m k r x y), treeD b m x, treeD b m y]
theorem treeD_head (b m : Int) (t : Tree) : ∃ r, treeD b m t = .list (linkD (t.lnk b m) :: r) := by
  cases t with
  | nil => exact ⟨_, rfl⟩
  | node k r x y => exact ⟨_, rfl⟩
/-! ### versions -/
structure Ver where
  n : Int
  h : Lnk
  p : Int
deriving DecidableEq
def verDs (v : Ver) : List PyData := [.int v.n, linkD v.h, .int v.p]
def verD (v : Ver) : PyData := .tuple [.int v.n, linkD v.h, .int v.p]
def vD (v : Ver) : PyData := .tuple [.str "version", .int v.n, linkD v.h, .int v.p]
def vdig (b m : Int) (v : Ver) : Int := dig b m (enc (vD v))
theorem vD_fit (v : Ver) : isV (vD v) = true ∧ (vD v).depth < 8 ∧ (enc (vD v)).length ≤ 1000000 := ⟨rfl, show 3 < 8 by decide, show 29 ≤ 1000000 by decide⟩
def nextV (b m : Int) (v : Ver) (h : Lnk) : Ver := ⟨v.n + 1, h, vdig b m v⟩
def hstF (b m : Int) (h0 : Lnk) (hs : List Lnk) : List Ver × Ver := hs.foldl (fun s h => (s.1 ++ [s.2], nextV b m s.2 h)) ([], ⟨0, h0, 0⟩)
theorem hstF_snoc (b m : Int) (h0 h : Lnk) (hs : List Lnk) : hstF b m h0 (hs ++ [h]) = ((hstF b m h0 hs).1 ++ [(hstF b m h0 hs).2], nextV b m (hstF b m h0 hs).2 h) := by
  unfold hstF
  rw [List.foldl_append]
  rfl
def hist (b m : Int) (h0 : Lnk) (hs : List Lnk) : List Ver := (hstF b m h0 hs).1 ++ [(hstF b m h0 hs).2]
theorem hstF_len (b m : Int) (h0 : Lnk) (hs : List Lnk) : (hstF b m h0 hs).1.length = hs.length := by
  have key : ∀ (hs : List Lnk) (s : List Ver × Ver), (hs.foldl (fun s h => (s.1 ++ [s.2], nextV b m s.2 h)) s).1.length = s.1.length + hs.length := by
    intro hs
    induction hs with
    | nil => intro s; rfl
    | cons h hs ih =>
      intro s
      rw [List.foldl_cons]
      rw [ih]
      show (s.1 ++ [s.2]).length + hs.length = s.1.length + (hs.length + 1)
      rw [List.length_append]
      show s.1.length + 1 + hs.length = _
      omega
  have := key hs ([], ⟨0, h0, 0⟩)
  unfold hstF
  rw [this]
  show 0 + _ = _
  omega
theorem hist_len (b m : Int) (h0 : Lnk) (hs : List Lnk) : (hist b m h0 hs).length = hs.length + 1 := by
  unfold hist
  rw [List.length_append, hstF_len]
  rfl
def lead1 (b m : Int) (a c : Ver) : Bool := decide (c.n = a.n + 1) && decide (c.p = vdig b m a)
def leads (b m : Int) (row : List Ver) : Bool := (row.zip (row.drop 1)).all fun p => lead1 b m p.1 p.2
theorem leads_iff {b m : Int} {row : List Ver} : leads b m row = true ↔ ∀ i a c, row[i]? = some a → row[i + 1]? = some c → lead1 b m a c = true := by
  unfold leads
  rw [List.all_eq_true]
  constructor
  · intro h i a c h1 h2
    refine h (a, c) (List.mem_of_getElem? (i := i) ?_)
    rw [List.getElem?_zip_eq_some]
    exact ⟨h1, by rw [List.getElem?_drop, Nat.add_comm]; exact h2⟩
  · intro h p hp
    obtain ⟨i, hi⟩ := List.getElem?_of_mem hp
    rw [List.getElem?_zip_eq_some] at hi
    rw [List.getElem?_drop, Nat.add_comm] at hi
    exact h i _ _ hi.1 hi.2
theorem eqv_ints : ∀ ns ms : List Int, PyData.eqvAll (ns.map PyData.int) (ms.map PyData.int) = decide (ns = ms)
  | [], [] => rfl
  | [], _ :: _ => rfl
  | _ :: _, [] => rfl
  | n :: ns, m :: ms => by
    show (decide (n = m) && PyData.eqvAll (ns.map PyData.int) (ms.map PyData.int)) = _
    rw [eqv_ints ns ms]
    simp [List.cons.injEq]
theorem eqv_link (a c : Lnk) : PyData.eqv (linkD a) (linkD c) = decide (a = c) := by
  show (decide (a.d = c.d) && (decide (a.c = c.c) && ((decide (a.s0 = c.s0) && (decide (a.s1 = c.s1) && (decide (a.s2 = c.s2) && true))) && true))) = _
  obtain ⟨a0, a1, a2, a3, a4⟩ := a
  obtain ⟨c0, c1, c2, c3, c4⟩ := c
  simp [Bool.eq_iff_iff]
theorem eqv_ver (a c : Ver) : PyData.eqv (verD a) (verD c) = decide (a = c) := by
  show (decide (a.n = c.n) && (PyData.eqv (linkD a.h) (linkD c.h) && (decide (a.p = c.p) && true))) = _
  rw [eqv_link]
  obtain ⟨a0, a1, a2⟩ := a
  obtain ⟨c0, c1, c2⟩ := c
  simp [Bool.eq_iff_iff]
theorem okD_ver (a : Ver) : okD (verD a) := rfl
theorem okD_link (a : Lnk) : okD (linkD a) := rfl
theorem eqvAll_map {α : Type} (f : α → PyData) [DecidableEq α] (h : ∀ a c, PyData.eqv (f a) (f c) = decide (a = c)) : ∀ xs ys : List α, PyData.eqvAll (xs.map f) (ys.map f) = decide (xs = ys)
  | [], [] => rfl
  | [], _ :: _ => rfl
  | _ :: _, [] => rfl
  | x :: xs, y :: ys => by
    show (PyData.eqv (f x) (f y) && PyData.eqvAll (xs.map f) (ys.map f)) = _
    rw [h, eqvAll_map f h xs ys]
    simp [List.cons.injEq]
theorem okD_list {α : Type} (f : α → PyData) {n : Nat} (hn : n ≤ 63) (h : ∀ a, (f a).canLay0 = true ∧ (f a).depth ≤ n) (xs : List α) : okD (.list (xs.map f)) := by
  have h1 : (PyData.list (xs.map f)).canLay0 = true := all_lay _ fun x hx => by
    obtain ⟨a, _, rfl⟩ := List.mem_map.mp hx
    exact (h a).1
  have h2 : (PyData.list (xs.map f)).depth ≤ n + 1 := Nat.succ_le_succ (all_depth _ fun x hx => by
    obtain ⟨a, _, rfl⟩ := List.mem_map.mp hx
    exact (h a).2)
  unfold okD SeqAt.shaped
  rw [h1, decide_eq_true (Nat.le_trans h2 (by omega))]
  rfl
theorem okD_vers (vs : List Ver) : okD (.list (vs.map verD)) := okD_list verD (n := 3) (by decide) (fun a => ⟨rfl, show 3 ≤ 3 by decide⟩) vs
theorem lead1_next (b m : Int) (a c : Ver) : decide (c = nextV b m a c.h) = lead1 b m a c := by
  obtain ⟨c0, c1, c2⟩ := c
  unfold nextV lead1
  simp [Bool.eq_iff_iff]
theorem cutL_to {α : Type} {xs : List α} {k : Nat} (h : k ≤ xs.length) : cutL xs none (some (k : Int)) = xs.take k := by
  unfold cutL
  rw [HT.sIx_none, HT.sIx_nat, Nat.min_eq_left h]
  rfl
theorem cutL_from {α : Type} {xs : List α} {k : Nat} (h : k ≤ xs.length) : cutL xs (some (k : Int)) none = xs.drop k := by
  unfold cutL
  rw [HT.sIx_none, HT.sIx_nat, Nat.min_eq_left h]
  exact List.take_of_length_le (by rw [List.length_drop]; exact Nat.le_refl _)
theorem cutL_tail {α : Type} (x : α) (xs : List α) : cutL (x :: xs) (some 1) none = xs := cutL_from (k := 1) (by rw [List.length_cons]; omega)
theorem cutL_mid {α : Type} {xs : List α} {i j : Nat} (hi : i ≤ xs.length) (hj : j ≤ xs.length) : cutL xs (some (i : Int)) (some (j : Int)) = (xs.drop i).take (j - i) := by
  unfold cutL
  rw [HT.sIx_nat, HT.sIx_nat, Nat.min_eq_left hi, Nat.min_eq_left hj]
theorem ifn {P A B : Prop} [Decidable P] (a : ¬ P → A) (b : P → B) : if (!decide P) = true then A else B := by
  by_cases e : P
  · rw [decide_eq_true e]
    exact b e
  · rw [decide_eq_false e]
    exact a e

abbrev sLRule : Stmt := topS 4
theorem scLRule : FnScope ["state", "choice"] ["state"] (defScope sLRule) := ⟨rfl, rfl, rfl, by decide +kernel, rfl, by decide +kernel, by decide +kernel⟩
def pLRule : DSp := fun ws C Q _ => ∃ l, ws = [.ref 0] ∧ C = [.lst l] ∧ StL l ∧ ∀ b m l', RuleOk b m → StL l' → Q (.val (ruleD b m)) [.lst l']
section
variable {P : Program} {w : World} {K : PySem.W.Frag} {mg : Str → Option Value} {base : Heap} {ct : Ct}
theorem ok_LRule  (D : Def K mg "_law_rule" sLRule ["state"]) (D_LDraw : Def K mg "_law_draw" sLDraw ["state", "limit"])
    (G_LDraw : FnOk P w K mg base CX0 1 D_LDraw.f D_LDraw.fd ["state", "limit"] (spD ct 1 2 pLDraw)) : FnOk P w K mg base CX0 2 D.f D.fd ["state"] (spD ct 1 1 pLRule) := by
  refine D.F.ok scLRule (fun vs H Q E h => spD_len h) (fun cdv A outer s H vs Q E hr h => ⟨_, (pss_cons (ps_set (i := 1) scLRule.nd rfl (.inl rfl) (pe_call G_LDraw (hr.mono (by omega)) (by rfl) D_LDraw.m D_LDraw.F.kp D_LDraw.b .nil pass0 (pa_cons (pv 0) (pa_cons pe_int pa_nil)))) <|
    pss_cons (ps_if (pt_cmpR (op_eqD hr.units) (pv 1) pe_int (nomark _))
      (pss_one (ps_ret (pe_tup (pa_cons (pe_op op_addA pe_int (pe_call G_LDraw (hr.mono (by omega)) (by rfl) D_LDraw.m D_LDraw.F.kp D_LDraw.b .nil pass0 (pa_cons (pv 0) (pa_cons pe_int pa_nil)))) (pa_cons (pe_op op_addA pe_int (pe_call G_LDraw (hr.mono (by omega)) (by rfl) D_LDraw.m D_LDraw.F.kp D_LDraw.b .nil pass0 (pa_cons (pv 0) (pa_cons pe_int pa_nil)))) pa_nil))))) pss_nil) <|
    pss_cons (ps_if (pt_cmpR (op_eqD hr.units) (pv 1) pe_int (nomark _))
      (pss_one (ps_ret (pe_tup (pa_cons (pe_op op_addA pe_int (pe_call G_LDraw (hr.mono (by omega)) (by rfl) D_LDraw.m D_LDraw.F.kp D_LDraw.b .nil pass0 (pa_cons (pv 0) (pa_cons pe_int pa_nil)))) (pa_cons (pe_op op_addA pe_int (pe_call G_LDraw (hr.mono (by omega)) (by rfl) D_LDraw.m D_LDraw.F.kp D_LDraw.b .nil pass0 (pa_cons (pv 0) (pa_cons pe_int pa_nil)))) pa_nil))))) pss_nil) <|
    pss_one (ps_ret (pe_tup (pa_cons (pe_op op_addA pe_int (pe_call G_LDraw (hr.mono (by omega)) (by rfl) D_LDraw.m D_LDraw.F.kp D_LDraw.b .nil pass0 (pa_cons (pv 0) (pa_cons (pe_op op_pow pe_int pe_int) pa_nil)))) (pa_cons (pe_op op_addA pe_int (pe_call G_LDraw (hr.mono (by omega)) (by rfl) D_LDraw.m D_LDraw.F.kp D_LDraw.b .nil pass0 (pa_cons (pv 0) (pa_cons (pe_op op_sub (pe_op op_pow pe_int pe_int) pe_int) pa_nil)))) pa_nil))))), body_ok _ (fun R => inferInstance) (by decide) (fun ws C Q R hw hC hP => ?_) h⟩)
  obtain ⟨l, rfl, rfl, hs, q⟩ := hP
  walk_at "d"
  refine ⟨4, l, rfl, rfl, hs, by decide, by decide, fun d l1 d0 d1 s1 => ?_⟩
  walk_at "d"
  refine ite2 (fun _ => ?_) (fun _ => ?_)
  · refine ⟨9, l1, rfl, rfl, s1, by decide, by decide, fun x l2 x0 x1 s2 => ?_⟩
    walk_at "d"
    refine ⟨6, l2, rfl, rfl, s2, by decide, by decide, fun y l3 y0 y1 s3 => ?_⟩
    walk_at "d"
    exact ⟨by decide, q _ _ l3 (rule_ok x0 (by omega) y0 (by omega)) s3⟩
  refine ite2 (fun _ => ?_) (fun _ => ?_)
  · refine ⟨1000, l1, rfl, rfl, s1, by decide, by decide, fun x l2 x0 x1 s2 => ?_⟩
    walk_at "d"
    refine ⟨200, l2, rfl, rfl, s2, by decide, by decide, fun y l3 y0 y1 s3 => ?_⟩
    walk_at "d"
    exact ⟨by decide, q _ _ l3 (rule_ok x0 (by omega) y0 (by omega)) s3⟩
  · refine ⟨⟨by decide, by decide, by decide +kernel⟩, _, l1, rfl, rfl, s1, by decide, by decide +kernel, fun x l2 x0 x1 s2 => ?_⟩
    walk_at "d"
    refine ⟨⟨by decide, by decide, by decide +kernel⟩, _, l2, rfl, rfl, s2, by decide, by decide +kernel, fun y l3 y0 y1 s3 => ?_⟩
    walk_at "d"
    exact ⟨by decide, q _ _ l3 (rule_ok x0 x1 y0 y1) s3⟩
end

abbrev sLCell : Stmt := topS 11
theorem scLCell : FnScope ["row", "column"] ["row", "column"] (defScope sLCell) := ⟨rfl, rfl, rfl, by decide +kernel, rfl, by decide +kernel, by decide +kernel⟩
def pLCell : DSp := fun ws C Q _ => ∃ ns c, ws = [.val (rowD ns), .val (.int c)] ∧ 0 ≤ c ∧ Q (.val (.int (colOf ns c))) C
theorem colOf_in {ns : List Int} {c : Int} (h0 : 0 ≤ c) (h1 : c < (ns.length : Int)) : atI (ns.map PyData.int) c = some (.int (colOf ns c)) := by
  obtain ⟨j, rfl, hj⟩ := nat_of h0 h1
  obtain ⟨x, hx, _⟩ := get_of hj
  rw [at_map PyData.int hx]
  unfold colOf
  rw [if_pos h1, List.getD_eq_getElem?_getD, show (j : Int).toNat = j by omega, hx]
  rfl
theorem colOf_out {ns : List Int} {c : Int} (h1 : ¬ c < (ns.length : Int)) : colOf ns c = 0 := if_neg h1
section
variable {P : Program} {w : World} {K : PySem.W.Frag} {mg : Str → Option Value} {base : Heap} {ct : Ct}
theorem ok_LCell  (D : Def K mg "_law_cell" sLCell ["row", "column"]) (m_len : mg "len" = none)
    : FnOk P w K mg base CX0 1 D.f D.fd ["row", "column"] (spD ct 0 2 pLCell) := by
  refine D.F.ok scLCell (fun vs H Q E h => spD_len h) (fun cdv A outer s H vs Q E hr h => ⟨_, (pss_cons (ps_if (pt_cmpR op_ltA (pv 1) (pe_callB call_lenA (by rfl) m_len (by decide +kernel) (pa_cons (pv 0) pa_nil)) (nomark _))
      (pss_one (ps_ret (pe_ix ix_seq (pv 0) (pv 1) (fun _ _ => rfl)))) pss_nil) <|
    pss_one (ps_ret pe_int)), body_ok _ (fun R => inferInstance) (by decide) (fun ws C Q R hw hC hP => ?_) h⟩)
  obtain rfl := List.eq_nil_of_length_eq_zero hC
  obtain ⟨ns, c, rfl, h0, q⟩ := hP
  unfold rowD
  walk_at "d"
  rw [List.length_map]
  refine ifd (fun h => ?_) (fun h => ?_)
  · rw [colOf_in h0 h]
    walk_at "d"
    exact q
  · rw [colOf_out h] at q
    exact q
end
abbrev sLRank : Stmt := topS 12
theorem scLRank : FnScope ["key", "found", "code"] ["key"] (defScope sLRank) := ⟨rfl, rfl, rfl, by decide +kernel, rfl, by decide +kernel, by decide +kernel⟩
theorem rkF_in (ns : List Int) : 0 ≤ rkF ns ∧ rkF ns < 1000003 := by
  rcases concat_cases ns with rfl | ⟨ns, n, rfl⟩
  · exact ⟨by show (0 : Int) ≤ 7; decide, by show (7 : Int) < 1000003; decide⟩
  · rw [rkF_snoc]
    exact ⟨Int.fmod_nonneg_of_pos _ (by decide), Int.fmod_lt_of_pos _ (by decide)⟩
def pLRank : DSp := fun ws C Q _ => ∃ z, ws = [.val (.str z)] ∧ z.length ≤ 1000 ∧ Q (.val (.int (rk z))) C
section
variable {P : Program} {w : World} {K : PySem.W.Frag} {mg : Str → Option Value} {base : Heap} {ct : Ct}
theorem ok_LRank  (D : Def K mg "_law_rank" sLRank ["key"]) (D_LCodes : Def K mg "_law_codes" sLCodes ["text"]) (m_int : mg "int" = none)
    (G_LCodes : FnOk P w K mg base CX0 1 D_LCodes.f D_LCodes.fd ["text"] (spD ct 0 1 pLCodes)) : FnOk P w K mg base CX0 2 D.f D.fd ["key"] (spD ct 0 1 pLRank) := by
  refine D.F.ok scLRank (fun vs H Q E h => spD_len h) (fun cdv A outer s H vs Q E hr h => ⟨_, (pss_cons (ps_set (i := 1) scLRank.nd rfl (.inl rfl) pe_int) <|
    pss_cons (ps_for PassesOwn.never rfl (pi_seqA (pe_call G_LCodes (hr.mono (by omega)) (by rfl) D_LCodes.m D_LCodes.F.kp D_LCodes.b .nil pass0 (pa_cons (pv 0) pa_nil))) (pg_name (i := 2) scLRank.nd rfl (Or.inl rfl))
      (pss_one (ps_set (i := 1) scLRank.nd rfl (.inl rfl) (pe_op op_modN (pe_callTy call_intA (by rfl) m_int (by decide +kernel) (pa_cons (pe_op op_addA (pe_op op_mulW (pv 1) pe_int) (pv 2)) pa_nil)) pe_int)))) <|
    pss_one (ps_ret (pv 1))), body_ok _ (fun R => inferInstance) (by decide) (fun ws C Q R hw hC hP => ?_) h⟩)
  obtain rfl := List.eq_nil_of_length_eq_zero hC
  obtain ⟨z, rfl, hl, q⟩ := hP
  walk_at "d"
  refine ⟨z, rfl, by omega, ?_⟩
  walk_at "d"
  refine dForGo_map PyData.int (codesI z) (fun pre E C => C = [] ∧ ∃ y : Option W, E = [some (.val (.str z)), some (.val (.int (rkF pre))), y]) ?_ ?_ ⟨rfl, none, rfl⟩
  · rintro pre n post E C e ⟨rfl, y, rfl⟩ N hN
    obtain ⟨r0, r1⟩ := rkF_in pre
    walk_at "d"
    refine ⟨wide_mul (a := 21) (b := 8) (by omega) (by decide) (by decide) (by decide) (by decide), by decide, hN _ _ ⟨rfl, some (.val (.int n)), ?_⟩⟩
    rw [rkF_snoc]
  · rintro E C ⟨rfl, y, rfl⟩
    walk_at "d"
    exact q
end
abbrev sLTop : Stmt := topS 13
theorem scLTop : FnScope ["table", "best", "k"] ["table"] (defScope sLTop) := ⟨rfl, rfl, rfl, by decide +kernel, rfl, by decide +kernel, by decide +kernel⟩
def pLTop : DSp := fun ws C Q _ => ∃ tb, ws = [.val (tabD tb)] ∧ TabFit tb ∧ tb.length ≤ 1000 ∧ Q (.val (.int (topI tb tb.length))) C
section
variable {P : Program} {w : World} {K : PySem.W.Frag} {mg : Str → Option Value} {base : Heap} {ct : Ct}
theorem ok_LTop  (D : Def K mg "_law_top" sLTop ["table"]) (D_LRank : Def K mg "_law_rank" sLRank ["key"]) (m_len : mg "len" = none) (m_range : mg "range" = none)
    (G_LRank : FnOk P w K mg base CX0 2 D_LRank.f D_LRank.fd ["key"] (spD ct 0 1 pLRank)) : FnOk P w K mg base CX0 3 D.f D.fd ["table"] (spD ct 0 1 pLTop) := by
  refine D.F.ok scLTop (fun vs H Q E h => spD_len h) (fun cdv A outer s H vs Q E hr h => ⟨_, (pss_cons (ps_set (i := 1) scLTop.nd rfl (.inl rfl) pe_int) <|
    pss_cons (ps_for PassesOwn.never rfl (pi_range1 (by rfl) m_range (pa_cons (pe_callB call_lenA (by rfl) m_len (by decide +kernel) (pa_cons (pv 0) pa_nil)) pa_nil)) (pg_name (i := 2) scLTop.nd rfl (Or.inl rfl))
      (pss_one (ps_if (pt_cmpR op_gtA (pe_call G_LRank (hr.mono (by omega)) (by rfl) D_LRank.m D_LRank.F.kp D_LRank.b .nil pass0 (pa_cons (pe_ix ix_seq (pe_ix ix_seq (pv 0) (pv 2) (fun _ _ => rfl)) pe_int (fun _ _ => rfl)) pa_nil)) (pe_call G_LRank (hr.mono (by omega)) (by rfl) D_LRank.m D_LRank.F.kp D_LRank.b .nil pass0 (pa_cons (pe_ix ix_seq (pe_ix ix_seq (pv 0) (pv 1) (fun _ _ => rfl)) pe_int (fun _ _ => rfl)) pa_nil)) (nomark _))
          (pss_one (ps_set (i := 1) scLTop.nd rfl (.inl rfl) (pv 2))) pss_nil))) <|
    pss_one (ps_ret (pv 1))), body_ok _ (fun R => inferInstance) (by decide) (fun ws C Q R hw hC hP => ?_) h⟩)
  obtain rfl := List.eq_nil_of_length_eq_zero hC
  obtain ⟨tb, rfl, hf, hl, q⟩ := hP
  walk_at "d"
  rw [List.length_map]
  refine ⟨by omega, by omega, ?_⟩
  rw [show ((tb.length : Nat) : Int).toNat = tb.length by omega]
  refine dForGo_range tb.length (fun n E C => C = [] ∧ ∃ y : Option W, E = [some (.val (tabD tb)), some (.val (.int ((topI tb n : Nat) : Int))), y]) ?_ ?_ ⟨rfl, none, rfl⟩
  · rintro i E C hi ⟨rfl, y, rfl⟩ N hN
    obtain ⟨p, hp, hpm⟩ := get_of hi
    have ht : topI tb i < tb.length := by
      cases i with
      | zero => exact hi
      | succ i => have := topI_lt tb i; omega
    obtain ⟨p2, hp2, hpm2⟩ := get_of ht
    have e1 : (0 : Int) + (i : Nat) = ((i : Nat) : Int) := by omega
    walk_at "d"
    rw [e1, at_map pairD hp]
    unfold pairD
    walk_at "d"
    refine ⟨p.1, rfl, (hf p hpm).1, ?_⟩
    rw [at_map _ hp2]
    walk_at "d"
    refine ⟨p2.1, rfl, (hf p2 hpm2).1, ?_⟩
    walk_at "d"
    have e2 : topI tb (i + 1) = if rk p2.1 < rk p.1 then i else topI tb i := by
      rw [← key_at hp2, ← key_at hp]
      rfl
    refine ifd (fun h => ?_) (fun h => ?_)
    · rw [if_pos h] at e2
      exact hN _ _ ⟨rfl, _, by rw [e2]⟩
    · rw [if_neg h] at e2
      exact hN _ _ ⟨rfl, _, by rw [e2]⟩
  · rintro E C ⟨rfl, y, rfl⟩
    walk_at "d"
    exact q
end
abbrev sLLink : Stmt := topS 15
theorem scLLink : FnScope ["rule", "entry", "sums", "k"] ["rule", "entry"] (defScope sLLink) := ⟨rfl, rfl, rfl, by decide +kernel, rfl, by decide +kernel, by decide +kernel⟩
def pLLink : DSp := fun ws C Q _ => ∃ b m e, ws = [.val (ruleD b m), .val (entD e)] ∧ RuleOk b m ∧ e.Fit ∧ Q (.val (linkD (lnkOf b m e))) C
section
variable {P : Program} {w : World} {K : PySem.W.Frag} {mg : Str → Option Value} {base : Heap} {ct : Ct}
theorem ok_LLink  (D : Def K mg "_law_link" sLLink ["rule", "entry"]) (D_LCell : Def K mg "_law_cell" sLCell ["row", "column"]) (D_LDigest : Def K mg "_law_digest" sLDigest ["rule", "value"]) (m_range : mg "range" = none) (m_tuple : mg "tuple" = none)
    (G_LCell : FnOk P w K mg base CX0 1 D_LCell.f D_LCell.fd ["row", "column"] (spD ct 0 2 pLCell)) (G_LDigest : FnOk P w K mg base CX0 10 D_LDigest.f D_LDigest.fd ["rule", "value"] (spD ct 0 2 pLDigest)) : FnOk P w K mg base CX0 11 D.f D.fd ["rule", "entry"] (spD ct 0 2 pLLink) := by
  refine D.F.ok scLLink (fun vs H Q E h => spD_len h) (fun cdv A outer s H vs Q E hr h => ⟨_, (pss_cons (ps_set (i := 2) scLLink.nd rfl (.inl rfl) (pe_callTy call_tupA (by rfl) m_tuple (by decide +kernel) (pa_cons (pe_lc (own := [("k", 3)]) (g := (gName 3)) (by rfl) scLLink.nd (pi_range1 (by rfl) m_range (pa_cons pe_int pa_nil))
        (blkOk_by (own := [("k", 3)]) (N := ["rule", "entry", "sums", "k"]) (sc := defScope sLLink) (by decide +kernel))
        (fun _ _ _ _ _ => (pg_name (i := 3) scLLink.nd rfl (Or.inl rfl))) (fun _ _ _ _ _ => pts_nil)
        (fun _ _ _ _ _ => (pe_op (op_addC (K := K) rfl) (pe_op (op_addC (K := K) rfl) (pe_call G_LCell (hr.mono (by omega)) (by rfl) D_LCell.m D_LCell.F.kp D_LCell.b .nil pass0 (pa_cons (pe_ix (ix_seqC (K := K) rfl) (pv 1) pe_int (fun _ _ => rfl)) (pa_cons (pv 3) pa_nil))) (pe_ix (ix_seqC (K := K) rfl) (pe_ix (ix_seqC (K := K) rfl) (pe_ix (ix_seqC (K := K) rfl) (pv 1) pe_int (fun _ _ => rfl)) pe_int (fun _ _ => rfl)) (pv 3) (fun _ _ => rfl))) (pe_ix (ix_seqC (K := K) rfl) (pe_ix (ix_seqC (K := K) rfl) (pe_ix (ix_seqC (K := K) rfl) (pv 1) pe_int (fun _ _ => rfl)) pe_int (fun _ _ => rfl)) (pv 3) (fun _ _ => rfl))))) pa_nil))) <|
    pss_one (ps_ret (pe_tup (pa_cons (pe_call G_LDigest (hr.mono (by omega)) (by rfl) D_LDigest.m D_LDigest.F.kp D_LDigest.b .nil pass0 (pa_cons (pv 0) (pa_cons (pe_op op_addA (pe_tup (pa_cons pe_str pa_nil)) (pv 1)) pa_nil))) (pa_cons (pe_op op_addA (pe_op op_addA pe_int (pe_ix ix_seq (pe_ix ix_seq (pv 1) pe_int (fun _ _ => rfl)) pe_int (fun _ _ => rfl))) (pe_ix ix_seq (pe_ix ix_seq (pv 1) pe_int (fun _ _ => rfl)) pe_int (fun _ _ => rfl))) (pa_cons (pv 2) pa_nil)))))), body_ok _ (fun R => inferInstance) (by decide) (fun ws C Q R hw hC hP => ?_) h⟩)
  obtain rfl := List.eq_nil_of_length_eq_zero hC
  obtain ⟨b, m, e, rfl, hr, hf, q⟩ := hP
  obtain ⟨f1, f2, f3⟩ := node_fit hf
  walk_at "d"
  refine ⟨by decide, by decide, ?_⟩
  rw [show rangeD 0 (Int.toNat 3) = [.int 0, .int 1, .int 2] from rfl]
  unfold entD entDs linkD sumsD
  simp only [dLcGo]
  walk_at "d"
  refine ⟨_, _, rfl, by decide, ?_⟩
  walk_at "d"
  refine ⟨by decide, _, _, rfl, by decide, ?_⟩
  walk_at "d"
  refine ⟨by decide, _, _, rfl, by decide, ?_⟩
  walk_at "d"
  refine ⟨by decide, by decide, by decide, b, m, nodeD e, rfl, hr, f1, f2, by omega, ?_⟩
  walk_at "d"
  refine ⟨by decide, q⟩
end
abbrev sLTree : Stmt := topS 14
theorem scLTree : FnScope ["rule", "table", "top", "left", "right", "entry"] ["rule", "table"] (defScope sLTree) := ⟨rfl, rfl, rfl, by decide +kernel, rfl, by decide +kernel, by decide +kernel⟩
def pLTree (n : Nat) : DSp := fun ws C Q _ => ∃ b m tb, ws = [.val (ruleD b m), .val (tabD tb)] ∧ RuleOk b m ∧ TabFit tb ∧ tb.length < n ∧ tb.length ≤ 1000 ∧ Q (.val (treeD b m (treeOf tb))) C
theorem no_LTree : ∀ ws C Q R, ¬ pLTree 0 ws C Q R := fun ws C Q R ⟨_, _, _, _, _, _, h, _⟩ => absurd h (Nat.not_lt_zero _)
section
variable {P : Program} {w : World} {K : PySem.W.Frag} {mg : Str → Option Value} {base : Heap} {ct : Ct}
theorem step_LTree {n : Nat}  (D : Def K mg "_law_tree" sLTree ["rule", "table"]) (D_LDigest : Def K mg "_law_digest" sLDigest ["rule", "value"]) (D_LTop : Def K mg "_law_top" sLTop ["table"]) (D_LLink : Def K mg "_law_link" sLLink ["rule", "entry"]) (m_len : mg "len" = none)
    (G_LDigest : FnOk P w K mg base CX0 10 D_LDigest.f D_LDigest.fd ["rule", "value"] (spD ct 0 2 pLDigest)) (G_LTop : FnOk P w K mg base CX0 3 D_LTop.f D_LTop.fd ["table"] (spD ct 0 1 pLTop)) (G_LLink : FnOk P w K mg base CX0 11 D_LLink.f D_LLink.fd ["rule", "entry"] (spD ct 0 2 pLLink)) (G : FnOk P w K mg base CX0 (n + 12) D.f D.fd ["rule", "table"] (spD ct 0 2 (pLTree n))) : FnOk P w K mg base CX0 (n + 12 + 1) D.f D.fd ["rule", "table"] (spD ct 0 2 (pLTree (n + 1))) := by
  refine D.F.ok scLTree (fun vs H Q E h => spD_len h) (fun cdv A outer s H vs Q E hr h => ⟨_, (pss_cons (ps_if (pt_cmpR (op_eqD hr.units) (pe_callB call_lenA (by rfl) m_len (by decide +kernel) (pa_cons (pv 1) pa_nil)) pe_int (nomark _))
      (pss_one (ps_ret (pe_lst (pa_cons (pe_tup (pa_cons (pe_call G_LDigest (hr.mono (by omega)) (by rfl) D_LDigest.m D_LDigest.F.kp D_LDigest.b .nil pass0 (pa_cons (pv 0) (pa_cons (pe_tup (pa_cons pe_str pa_nil)) pa_nil))) (pa_cons pe_int (pa_cons (pe_tup (pa_cons pe_int (pa_cons pe_int (pa_cons pe_int pa_nil)))) pa_nil)))) (pa_cons pe_non (pa_cons pe_non (pa_cons pe_non pa_nil))))))) pss_nil) <|
    pss_cons (ps_set (i := 2) scLTree.nd rfl (.inl rfl) (pe_call G_LTop (hr.mono (by omega)) (by rfl) D_LTop.m D_LTop.F.kp D_LTop.b .nil pass0 (pa_cons (pv 1) pa_nil))) <|
    pss_cons (ps_set (i := 3) scLTree.nd rfl (.inl rfl) (pe_call G (hr.mono (by omega)) (by rfl) D.m D.F.kp D.b .nil pass0 (pa_cons (pv 0) (pa_cons (pe_slice sl_any (pv 1) po_none (po_some (pv 2))) pa_nil)))) <|
    pss_cons (ps_set (i := 4) scLTree.nd rfl (.inl rfl) (pe_call G (hr.mono (by omega)) (by rfl) D.m D.F.kp D.b .nil pass0 (pa_cons (pv 0) (pa_cons (pe_slice sl_any (pv 1) (po_some (pe_op op_addA (pv 2) pe_int)) po_none) pa_nil)))) <|
    pss_cons (ps_set (i := 5) scLTree.nd rfl (.inl rfl) (pe_tup (pa_cons (pe_ix ix_seq (pe_ix ix_seq (pv 1) (pv 2) (fun _ _ => rfl)) pe_int (fun _ _ => rfl)) (pa_cons (pe_ix ix_seq (pe_ix ix_seq (pv 1) (pv 2) (fun _ _ => rfl)) pe_int (fun _ _ => rfl)) (pa_cons (pe_ix ix_seq (pv 3) pe_int (fun _ _ => rfl)) (pa_cons (pe_ix ix_seq (pv 4) pe_int (fun _ _ => rfl)) pa_nil)))))) <|
    pss_one (ps_ret (pe_lst (pa_cons (pe_call G_LLink (hr.mono (by omega)) (by rfl) D_LLink.m D_LLink.F.kp D_LLink.b .nil pass0 (pa_cons (pv 0) (pa_cons (pv 5) pa_nil))) (pa_cons (pv 5) (pa_cons (pv 3) (pa_cons (pv 4) pa_nil))))))), body_ok _ (fun R => inferInstance) (by decide) (fun ws C Q R hw hC hP => ?_) h⟩)
  obtain rfl := List.eq_nil_of_length_eq_zero hC
  obtain ⟨b, m, tb, rfl, hr, hf, hn, hl, q⟩ := hP
  walk_at "d"
  rw [List.length_map]
  refine ifd (fun h => ?_) (fun h => ?_)
  · obtain rfl := List.eq_nil_of_length_eq_zero (by omega : tb.length = 0)
    refine ⟨by decide, b, m, _, rfl, hr, empty_fit.1, empty_fit.2.1, Nat.le_trans empty_fit.2.2 (by decide), ?_⟩
    walk_at "d"
    exact ⟨by decide, by decide, by decide, q⟩
  have hne : tb ≠ [] := fun e => h (by rw [e]; rfl)
  have hi := topI_in hne
  obtain ⟨p, hp, hpm⟩ := get_of hi
  refine ⟨tb, rfl, hf, hl, ?_⟩
  walk_at "d"
  rw [cutL_to (by rw [List.length_map]; omega), ← List.map_take]
  refine ⟨b, m, _, rfl, hr, hf.take _, by rw [List.length_take]; omega, by rw [List.length_take]; omega, ?_⟩
  walk_at "d"
  rw [show ((topI tb tb.length : Nat) : Int) + 1 = ((topI tb tb.length + 1 : Nat) : Int) by omega, cutL_from (by rw [List.length_map]; omega), ← List.map_drop]
  refine ⟨b, m, _, rfl, hr, hf.drop _, by rw [List.length_drop]; omega, by rw [List.length_drop]; omega, ?_⟩
  obtain ⟨r1, e1⟩ := treeD_head b m (treeOf (tb.take (topI tb tb.length)))
  obtain ⟨r2, e2⟩ := treeD_head b m (treeOf (tb.drop (topI tb tb.length + 1)))
  rw [treeOf_node hp] at q
  rw [at_map pairD hp, e1, e2]
  rw [show treeD b m (.node p.1 p.2 (treeOf (tb.take (topI tb tb.length))) (treeOf (tb.drop (topI tb tb.length + 1)))) = .list [_, _, treeD b m (treeOf (tb.take (topI tb tb.length))), treeD b m (treeOf (tb.drop (topI tb tb.length + 1)))] from rfl, e1, e2] at q
  unfold pairD
  walk_at "d"
  refine ⟨by decide, b, m, entOf b m p.1 p.2 (treeOf (tb.take (topI tb tb.length))) (treeOf (tb.drop (topI tb tb.length + 1))), rfl, hr, hf p hpm, ?_⟩
  walk_at "d"
  exact ⟨by decide, q⟩
theorem ok_LTree  (D : Def K mg "_law_tree" sLTree ["rule", "table"]) (D_LDigest : Def K mg "_law_digest" sLDigest ["rule", "value"]) (D_LTop : Def K mg "_law_top" sLTop ["table"]) (D_LLink : Def K mg "_law_link" sLLink ["rule", "entry"]) (m_len : mg "len" = none)
    (G_LDigest : FnOk P w K mg base CX0 10 D_LDigest.f D_LDigest.fd ["rule", "value"] (spD ct 0 2 pLDigest)) (G_LTop : FnOk P w K mg base CX0 3 D_LTop.f D_LTop.fd ["table"] (spD ct 0 1 pLTop)) (G_LLink : FnOk P w K mg base CX0 11 D_LLink.f D_LLink.fd ["rule", "entry"] (spD ct 0 2 pLLink)) : ∀ n : Nat, FnOk P w K mg base CX0 (n + 12) D.f D.fd ["rule", "table"] (spD ct 0 2 (pLTree n))
  | 0 => spD_none no_LTree
  | n + 1 => (step_LTree D D_LDigest D_LTop D_LLink m_len G_LDigest G_LTop G_LLink (ok_LTree D D_LDigest D_LTop D_LLink m_len G_LDigest G_LTop G_LLink n)).mono (by omega)

end

theorem leads_snoc {b m : Int} {l : List Ver} {a c : Ver} (h : leads b m (l ++ [a]) = true) (k : lead1 b m a c = true) : leads b m (l ++ [a] ++ [c]) = true := by
  refine leads_iff.mpr fun i x y h1 h2 => ?_
  have hi := (List.getElem?_eq_some_iff.mp h2).1
  rw [List.length_append, List.length_append] at hi
  simp only [List.length_cons, List.length_nil] at hi
  by_cases e : i + 1 < (l ++ [a]).length
  · rw [List.getElem?_append_left e] at h2
    rw [List.getElem?_append_left (by omega)] at h1
    exact leads_iff.mp h i x y h1 h2
  · rw [List.length_append] at e
    simp only [List.length_cons, List.length_nil] at e
    have ei : i = l.length := by omega
    subst ei
    rw [List.getElem?_append_right (by simp)] at h2
    rw [List.getElem?_append_left (by simp), List.getElem?_append_right (Nat.le_refl _)] at h1
    simp at h1 h2
    rw [← h1, ← h2]
    exact k
theorem hist_leads (b m : Int) (h0 : Lnk) (hs : List Lnk) : leads b m (hist b m h0 hs) = true := by
  have key : ∀ (n : Nat) (hs : List Lnk), hs.length = n → leads b m (hist b m h0 hs) = true := by
    intro n
    induction n with
    | zero =>
      intro hs e
      rw [List.eq_nil_of_length_eq_zero e]
      rfl
    | succ n ih =>
      intro hs e
      rcases concat_cases hs with rfl | ⟨hs, h, rfl⟩
      · cases e
      · have hl : hs.length = n := by
          rw [List.length_append] at e
          simpa using e
        have h1 := ih hs hl
        unfold hist at h1 ⊢
        rw [hstF_snoc]
        refine leads_snoc h1 ?_
        rw [← lead1_next]
        exact decide_eq_true rfl
  exact key _ hs rfl
theorem leads_take {b m : Int} {row : List Ver} (h : leads b m row = true) (n : Nat) : leads b m (row.take n) = true := by
  refine leads_iff.mpr fun i x y h1 h2 => ?_
  have hi := (List.getElem?_eq_some_iff.mp h2).1
  rw [List.length_take] at hi
  rw [List.getElem?_take_of_lt (by omega)] at h1 h2
  exact leads_iff.mp h i x y h1 h2

def resD : Res → PyData
  | .dat d => d
  | .lst tb => tabD tb

theorem Sh.link {n : Nat} (l : Lnk) : Sh (n + 2) (linkD l) := ⟨rfl, by show 2 ≤ n + 2; omega⟩
theorem Sh.ent {n : Nat} {e : Ent} (h : ∀ c ∈ e.key.cps.toList, c < 128) : Sh (n + 3) (entD e) := Sh.tuple fun x hx => by
  simp only [entDs, List.mem_cons, List.not_mem_nil, or_false] at hx
  rcases hx with e | e | e | e <;> rw [e]
  · exact Sh.str h
  · exact (Sh.row 0 _).mono (by omega)
  · exact Sh.link _
  · exact Sh.link _
theorem Sh.ents {n : Nat} {es : List Ent} (h : ∀ e ∈ es, ∀ c ∈ e.key.cps.toList, c < 128) : Sh (n + 4) (.list (es.map entD)) := Sh.list fun x hx => by
  obtain ⟨e, he, rfl⟩ := List.mem_map.mp hx
  exact Sh.ent (h e he)
theorem eqvR {d : PyData} (h : okD d) : PyData.eqv d d = true := SeqAt.eqv_refl d h.lay
theorem okD_tb {tb : Tab} (h : KeysOk tb) : okD (tabD tb) := (Sh.tab (n := 0) fun p hp => (h p hp).1).ok (by decide)
theorem ifO {c : Bool} {A B : Prop} (h : c = false) (b : B) : if c = true then A else B := by
  rw [h]
  exact b
/-- a comparison of equal data that goes on where they are equal -/
theorem neq_go {d : PyData} {A B : Prop} (h : okD d) (b : B) : okD d ∧ okD d ∧ (if (!PyData.eqv d d) = true then A else B) := ⟨h, h, ifO (by rw [eqvR h]; rfl) b⟩
theorem kbl1 : kitB "list" "list" = some true := by decide +kernel
theorem kbl2 : kitB "tuple" "list" = some false := by decide +kernel
theorem kbl3 : kitB "int" "list" = some false := by decide +kernel
theorem kbl4 : kitB "str" "list" = some false := by decide +kernel
theorem kbl5 : kitB "NoneType" "list" = some false := by decide +kernel
theorem kbl6 : kitB "bool" "list" = some false := by decide +kernel

/-! ### entries by their looks -/
def natB : PyData → Bool
  | .int i => decide (0 ≤ i)
  | _ => false
def sumB : PyData → Bool
  | .tuple ds => decide (ds.length = 3) && ds.all natB
  | _ => false
def lnkB : PyData → Bool
  | .tuple [d, c, s] => natB d && (natB c && sumB s)
  | _ => false
def cellB : PyData → Bool
  | .int i => decide (0 ≤ i) && decide (i ≤ 65535)
  | _ => false
def rowB : PyData → Bool
  | .tuple ds => (decide (1 ≤ ds.length) && decide (ds.length ≤ 3)) && ds.all cellB
  | _ => false
def keyB : PyData → Bool
  | .str s => (decide (1 ≤ s.length) && decide (s.length ≤ 8)) && s.cps.toList.all fun c => decide (c ∈ letS.cps.toList)
  | _ => false
def entB : PyData → Bool
  | .tuple [k, r, x, y] => keyB k && (rowB r && (lnkB x && lnkB y))
  | _ => false
theorem nats_ints : ∀ {ds : List PyData}, (∀ d ∈ ds, natB d = true) → ∃ ns : List Int, ds = ns.map PyData.int ∧ ∀ n ∈ ns, 0 ≤ n
  | [], _ => ⟨[], rfl, fun n h => by cases h⟩
  | d :: r, h => by
    obtain ⟨ns, e, h2⟩ := nats_ints fun d hd => h d (List.mem_cons_of_mem _ hd)
    have h1 := h d List.mem_cons_self
    cases d with
    | int i => exact ⟨i :: ns, by rw [e]; rfl, fun n hn => by
        rcases List.mem_cons.mp hn with z | z
        · rw [z]
          exact of_decide_eq_true h1
        · exact h2 n z⟩
    | none => cases h1
    | bool b => cases h1
    | str s => cases h1
    | list xs => cases h1
    | tuple xs => cases h1
    | dict xs => cases h1
theorem cells_ints : ∀ {ds : List PyData}, (∀ d ∈ ds, cellB d = true) → ∃ ns : List Int, ds = ns.map PyData.int ∧ ∀ n ∈ ns, 0 ≤ n ∧ n ≤ 65535
  | [], _ => ⟨[], rfl, fun n h => by cases h⟩
  | d :: r, h => by
    obtain ⟨ns, e, h2⟩ := cells_ints fun d hd => h d (List.mem_cons_of_mem _ hd)
    have h1 := h d List.mem_cons_self
    cases d with
    | int i => exact ⟨i :: ns, by rw [e]; rfl, fun n hn => by
        rcases List.mem_cons.mp hn with z | z
        · rw [z]
          have h3 : (decide (0 ≤ i) && decide (i ≤ 65535)) = true := h1
          rw [Bool.and_eq_true] at h3
          exact ⟨of_decide_eq_true h3.1, of_decide_eq_true h3.2⟩
        · exact h2 n z⟩
    | none => cases h1
    | bool b => cases h1
    | str s => cases h1
    | list xs => cases h1
    | tuple xs => cases h1
    | dict xs => cases h1
theorem natB_int {i : Int} : natB (.int i) = true ↔ 0 ≤ i := ⟨fun h => of_decide_eq_true h, fun h => decide_eq_true h⟩
theorem lnkB_un {d : PyData} (h : lnkB d = true) : ∃ l : Lnk, d = linkD l ∧ l.Ok := by
  unfold lnkB at h
  split at h
  · rename_i a c s
    rw [Bool.and_eq_true, Bool.and_eq_true] at h
    obtain ⟨h1, h2, h3⟩ := h
    unfold sumB at h3
    split at h3
    · rename_i ds
      rw [Bool.and_eq_true, List.all_eq_true] at h3
      obtain ⟨ns, e, hn⟩ := nats_ints h3.2
      subst e
      have hl : ns.length = 3 := by
        have := of_decide_eq_true h3.1
        rw [List.length_map] at this
        exact this
      match ns, hl, hn with
      | [x, y, z], _, hn =>
        cases a with
        | int a =>
          cases c with
          | int c => exact ⟨⟨a, c, x, y, z⟩, rfl, natB_int.mp h1, natB_int.mp h2, hn x (by simp), hn y (by simp), hn z (by simp)⟩
          | _ => cases h2
        | _ => cases h1
    · cases h3
  · cases h
theorem lnkB_mk {l : Lnk} (h : l.Ok) : lnkB (linkD l) = true := by
  obtain ⟨h0, h1, h2, h3, h4⟩ := h
  show (decide (0 ≤ l.d) && (decide (0 ≤ l.c) && (true && (decide (0 ≤ l.s0) && (decide (0 ≤ l.s1) && (decide (0 ≤ l.s2) && true)))))) = true
  rw [decide_eq_true h0, decide_eq_true h1, decide_eq_true h2, decide_eq_true h3, decide_eq_true h4]
  rfl
theorem rowB_un {d : PyData} (h : rowB d = true) : ∃ ns : List Int, d = rowD ns ∧ RowOk ns := by
  unfold rowB at h
  split at h
  · rename_i ds
    rw [Bool.and_eq_true, Bool.and_eq_true, List.all_eq_true] at h
    obtain ⟨⟨h1, h2⟩, h3⟩ := h
    obtain ⟨ns, e, hn⟩ := cells_ints h3
    subst e
    have k1 := of_decide_eq_true h1
    have k2 := of_decide_eq_true h2
    rw [List.length_map] at k1 k2
    exact ⟨ns, rfl, k1, k2, hn⟩
  · cases h
theorem rowB_mk {ns : List Int} (h : RowOk ns) : rowB (rowD ns) = true := by
  show ((decide (1 ≤ (ns.map PyData.int).length) && decide ((ns.map PyData.int).length ≤ 3)) && (ns.map PyData.int).all cellB) = true
  rw [List.length_map, decide_eq_true h.1, decide_eq_true h.2.1, Bool.true_and, Bool.true_and, List.all_eq_true]
  intro x hx
  obtain ⟨n, hn, rfl⟩ := List.mem_map.mp hx
  show (decide (0 ≤ n) && decide (n ≤ 65535)) = true
  rw [decide_eq_true (h.2.2 n hn).1, decide_eq_true (h.2.2 n hn).2]
  rfl
theorem keyB_un {d : PyData} (h : keyB d = true) : ∃ s : Str, d = .str s ∧ KeyOk s := by
  unfold keyB at h
  split at h
  · rename_i s
    rw [Bool.and_eq_true, Bool.and_eq_true, List.all_eq_true] at h
    obtain ⟨⟨h1, h2⟩, h3⟩ := h
    exact ⟨s, rfl, of_decide_eq_true h1, of_decide_eq_true h2, fun c hc => of_decide_eq_true (h3 c hc)⟩
  · cases h
theorem keyB_mk {s : Str} (h : KeyOk s) : keyB (.str s) = true := by
  show ((decide (1 ≤ s.length) && decide (s.length ≤ 8)) && s.cps.toList.all fun c => decide (c ∈ letS.cps.toList)) = true
  rw [decide_eq_true h.1, decide_eq_true h.2.1, Bool.true_and, Bool.true_and, List.all_eq_true]
  exact fun c hc => decide_eq_true (h.2.2 c hc)
theorem entB_un {d : PyData} (h : entB d = true) : ∃ e : Ent, d = entD e ∧ e.Ok := by
  unfold entB at h
  split at h
  · rename_i k r x y
    rw [Bool.and_eq_true, Bool.and_eq_true, Bool.and_eq_true] at h
    obtain ⟨h1, h2, h3, h4⟩ := h
    obtain ⟨s, rfl, hs⟩ := keyB_un h1
    obtain ⟨ns, rfl, hn⟩ := rowB_un h2
    obtain ⟨a, rfl, ha⟩ := lnkB_un h3
    obtain ⟨c, rfl, hc⟩ := lnkB_un h4
    exact ⟨⟨s, ns, a, c⟩, rfl, hs, hn, ha, hc⟩
  · cases h
theorem entB_mk {e : Ent} (h : e.Ok) : entB (entD e) = true := by
  obtain ⟨h1, h2, h3, h4⟩ := h
  show (keyB (.str e.key) && (rowB (rowD e.row) && (lnkB (linkD e.l) && lnkB (linkD e.r)))) = true
  rw [keyB_mk h1, rowB_mk h2, lnkB_mk h3, lnkB_mk h4]
  rfl
theorem asEnt_none_iff {d : PyData} : asEnt d = none ↔ entB d = false := by
  constructor
  · intro h
    refine Bool.eq_false_iff.mpr fun z => ?_
    obtain ⟨e, rfl, he⟩ := entB_un z
    exact asEnt_none h e he rfl
  · intro h
    cases e : asEnt d with
    | none => rfl
    | some g =>
      obtain ⟨rfl, hg⟩ := asEnt_some e
      rw [entB_mk hg] at h
      cases h
/-! plain data, none too wide -/
mutual
def plB : PyData → Bool
  | .none => true
  | .bool _ => true
  | .int _ => true
  | .str z => decide (z.length ≤ 1000)
  | .list ds => decide (ds.length ≤ 1000) && plBs ds
  | .tuple ds => decide (ds.length ≤ 1000) && plBs ds
  | .dict _ => false
def plBs : List PyData → Bool
  | [] => true
  | d :: ds => plB d && plBs ds
end
theorem plBs_mem : ∀ {ds : List PyData} {d : PyData}, plBs ds = true → d ∈ ds → plB d = true
  | e :: ds, d, h, m => by
    have h2 : (plB e && plBs ds) = true := h
    rw [Bool.and_eq_true] at h2
    rcases List.mem_cons.mp m with rfl | m
    · exact h2.1
    · exact plBs_mem h2.2 m
theorem plB_tup {ds : List PyData} (h : plB (.tuple ds) = true) : ds.length ≤ 1000 ∧ ∀ d ∈ ds, plB d = true := by
  have h2 : (decide (ds.length ≤ 1000) && plBs ds) = true := h
  rw [Bool.and_eq_true] at h2
  exact ⟨of_decide_eq_true h2.1, fun d m => plBs_mem h2.2 m⟩
def numsB : PyData → Bool
  | .tuple ds => ds.all natB
  | _ => false
theorem all_map {α : Type} (f : α → Bool) (l : List α) : (l.map f).all id = l.all f := by
  rw [List.all_map]
  rfl
theorem lnkB_len {ds : List PyData} (h : ds.length ≠ 3) : lnkB (.tuple ds) = false := by
  match ds, h with
  | [], _ => rfl
  | [_], _ => rfl
  | [_, _], _ => rfl
  | [_, _, _], h => exact absurd rfl h
  | _ :: _ :: _ :: _ :: _, _ => rfl
theorem entB_len {ds : List PyData} (h : ds.length ≠ 4) : entB (.tuple ds) = false := by
  match ds, h with
  | [], _ => rfl
  | [_], _ => rfl
  | [_, _], _ => rfl
  | [_, _, _], _ => rfl
  | [_, _, _, _], h => exact absurd rfl h
  | _ :: _ :: _ :: _ :: _ :: _, _ => rfl
def signB (j : Str) : PyData → Bool
  | .str y => !(Builtin.Str.occurrences j y 0 j.length 1).isEmpty
  | _ => false
theorem sb_t {n k : Nat} (h : n ≤ k) : decide ((n : Int) ≤ (k : Nat)) = true := decide_eq_true (by omega)
theorem nums_tup {s : PyData} (h : numsB s = true) : ∃ ds, s = .tuple ds := by
  cases s with
  | tuple ds => exact ⟨ds, rfl⟩
  | _ => cases h
theorem sum_false {s : PyData} (h : numsB s = false) : sumB s = false := by
  cases s with
  | tuple ds =>
    have h2 : ds.all natB = false := h
    show (decide (ds.length = 3) && ds.all natB) = false
    rw [h2, Bool.and_false]
  | _ => rfl
theorem sum_true {ds : List PyData} (h : numsB (.tuple ds) = true) : sumB (.tuple ds) = decide (((ds.length : Nat) : Int) = 3) := by
  have h2 : ds.all natB = true := h
  show (decide (ds.length = 3) && ds.all natB) = _
  rw [h2, Bool.and_true]
  exact decide_eq_decide.mpr (by omega)

/-! ### members of lists -/
theorem ite_len {α : Type} {c : Prop} [Decidable c] {xs : List α} {n : Nat} (h : xs.length ≤ n) : (if c then xs else []).length ≤ n := by
  split
  · exact h
  · exact Nat.zero_le _
theorem ite_mem {α : Type} {c : Prop} [Decidable c] {xs : List α} {P : α → Prop} (h : ∀ x ∈ xs, P x) : ∀ x ∈ (if c then xs else []), P x := by
  split
  · exact h
  · exact fun x hx => by cases hx
theorem app_mem {α : Type} {P : α → Prop} {xs ys : List α} (h : ∀ x ∈ xs, P x) (k : ∀ x ∈ ys, P x) : ∀ x ∈ xs ++ ys, P x := fun x hx => (List.mem_append.mp hx).elim (h x) (k x)
theorem one_mem {α : Type} {P : α → Prop} {a : α} (h : P a) : ∀ x ∈ [a], P x := fun x hx => by
  rw [List.mem_singleton.mp hx]
  exact h
theorem cutL_toJ {α : Type} {xs : List α} {n : Int} (h : 0 ≤ n) : cutL xs none (some n) = xs.take n.toNat := by
  by_cases h2 : n.toNat ≤ xs.length
  · have := cutL_to h2
    rw [show ((n.toNat : Nat) : Int) = n by omega] at this
    exact this
  · rw [List.take_of_length_le (by omega)]
    obtain ⟨j, rfl⟩ : ∃ j : Nat, n = (j : Int) := ⟨n.toNat, by omega⟩
    unfold cutL
    rw [HT.sIx_none, HT.sIx_nat, Nat.min_eq_right (by omega)]
    exact List.take_length

/-! ### equal entries -/
theorem eqv_intsE : ∀ ns ms : List Int, PyData.eqvAll (ns.map PyData.int) (ms.map PyData.int) = decide (ns = ms)
  | [], [] => rfl
  | [], _ :: _ => rfl
  | _ :: _, [] => rfl
  | n :: ns, m :: ms => by
    show ((n == m) && PyData.eqvAll (ns.map PyData.int) (ms.map PyData.int)) = _
    rw [eqv_intsE ns ms]
    by_cases h : n = m
    · subst h
      by_cases k : ns = ms
      · subst k
        simp
      · simp [k]
    · simp [h]
theorem eqv_ent (a c : Ent) : PyData.eqv (entD a) (entD c) = decide (a = c) := by
  show ((a.key == c.key) && (PyData.eqvAll (a.row.map PyData.int) (c.row.map PyData.int) && (PyData.eqv (linkD a.l) (linkD c.l) && (PyData.eqv (linkD a.r) (linkD c.r) && true)))) = _
  rw [eqv_intsE, eqv_link, eqv_link]
  cases a
  cases c
  simp only [Ent.mk.injEq]
  simp only [Bool.and_true, Bool.decide_and]
  rfl

/-! ### verdicts as data -/
def vdD : Verdict → PyData
  | .taken => .none
  | .clash _ _ => .tuple [.str "clash"]
  | .ref w n => .tuple [.str "refused", .str w, .int ((n : Nat) : Int)]
theorem verdict_cons {b m : Int} (e : Ent) (es : List Ent) (d : PyData) (ds : List PyData) (n : Nat) : verdict b m (e :: es) (d :: ds) n = (match asEnt d with
    | none => .ref "form" n
    | some g => if (lnkOf b m e).d ≠ (lnkOf b m g).d then .ref "digest" n
      else if lnkOf b m e ≠ lnkOf b m g then .ref "sums" n
      else if e ≠ g then .clash e g else verdict b m es ds (n + 1)) := by
  (rw [verdict]) <;> (cases asEnt d <;> rfl)
theorem drop_at {α : Type} {xs : List α} {i : Nat} {x : α} (h : xs[i]? = some x) : xs.drop i = x :: xs.drop (i + 1) := by
  have h4 := List.getElem?_eq_some_iff.mp h
  rw [← h4.2]
  exact List.drop_eq_getElem_cons h4.1

/-! ### plain data with a bound on its depth -/
def Bq (n : Nat) (d : PyData) : Prop := plB d = true ∧ Sh n d
theorem Bq.mono {n m : Nat} {d : PyData} (h : Bq n d) (k : n ≤ m) : Bq m d := ⟨h.1, h.2.mono k⟩
theorem Bq.non {n : Nat} : Bq n .none := ⟨rfl, Sh.non⟩
theorem Bq.int {n : Nat} (i : Int) : Bq n (.int i) := ⟨rfl, Sh.int i⟩
theorem Bq.bool {n : Nat} (b : Bool) : Bq n (.bool b) := ⟨rfl, rfl, Nat.zero_le _⟩
theorem Bq.str {n : Nat} {s : Str} (h : s.length ≤ 1000) (k : ∀ c ∈ s.cps.toList, c < 128) : Bq n (.str s) := ⟨decide_eq_true h, Sh.str k⟩
theorem asciiQ {s : Str} (h : (s.cps.toList.all fun c => decide (c < 128)) = true) : ∀ c ∈ s.cps.toList, c < 128 := fun c hc => of_decide_eq_true (List.all_eq_true.mp h c hc)
theorem strQ {n : Nat} {s : Str} (h : (decide (s.length ≤ 1000) && s.cps.toList.all fun c => decide (c < 128)) = true) : Bq n (.str s) := by
  rw [Bool.and_eq_true] at h
  exact Bq.str (of_decide_eq_true h.1) (asciiQ h.2)
theorem plBs_all : ∀ {ds : List PyData}, (∀ d ∈ ds, plB d = true) → plBs ds = true
  | [], _ => rfl
  | d :: ds, h => by
    show (plB d && plBs ds) = true
    rw [h d List.mem_cons_self, plBs_all fun x hx => h x (List.mem_cons_of_mem _ hx)]
    rfl
theorem Bq.tup {n : Nat} {ds : List PyData} (l : ds.length ≤ 1000) (h : ∀ d ∈ ds, Bq n d) : Bq (n + 1) (.tuple ds) := by
  refine ⟨?_, Sh.tuple fun x hx => (h x hx).2⟩
  show (decide (ds.length ≤ 1000) && plBs ds) = true
  rw [decide_eq_true l, plBs_all fun d hd => (h d hd).1]
  rfl
theorem Bq.tup0 {n : Nat} : Bq (n + 1) (.tuple []) := Bq.tup (Nat.zero_le _) fun d hd => by cases hd
theorem Bq.row {n : Nat} {ns : List Int} (l : ns.length ≤ 1000) : Bq (n + 1) (rowD ns) := Bq.tup (by rw [List.length_map]; exact l) fun x hx => by
  obtain ⟨i, _, rfl⟩ := List.mem_map.mp hx
  exact Bq.int i
theorem Bq.three {n : Nat} {x y z : PyData} (hx : Bq n x) (hy : Bq n y) (hz : Bq n z) : Bq (n + 1) (.tuple [x, y, z]) := Bq.tup (by show 3 ≤ 1000; decide) fun d hd => by
  simp only [List.mem_cons, List.not_mem_nil, or_false] at hd
  rcases hd with e | e | e <;> rw [e]
  · exact hx
  · exact hy
  · exact hz
theorem Bq.four {n : Nat} {x y z w : PyData} (hx : Bq n x) (hy : Bq n y) (hz : Bq n z) (hw : Bq n w) : Bq (n + 1) (.tuple [x, y, z, w]) := Bq.tup (by show 4 ≤ 1000; decide) fun d hd => by
  simp only [List.mem_cons, List.not_mem_nil, or_false] at hd
  rcases hd with e | e | e | e <;> rw [e]
  · exact hx
  · exact hy
  · exact hz
  · exact hw
theorem Bq.sums {n : Nat} (a c e : Int) : Bq (n + 1) (.tuple [.int a, .int c, .int e]) := Bq.three (Bq.int _) (Bq.int _) (Bq.int _)
theorem Bq.link {n : Nat} (l : Lnk) : Bq (n + 2) (linkD l) := Bq.three (Bq.int _) (Bq.int _) (Bq.sums _ _ _)
theorem Bq.key {n : Nat} {s : Str} (h : KeyOk s) : Bq n (.str s) := Bq.str (by have := h.2.1; omega) h.asc
theorem Bq.ent {n : Nat} {e : Ent} (h : e.Ok) : Bq (n + 3) (entD e) := Bq.four (Bq.key h.1) ((Bq.row (n := 0) (by have := h.2.1.2.1; omega)).mono (by omega)) (Bq.link _) (Bq.link _)
theorem Bq.ents {es : List Ent} (h : ∀ e ∈ es, e.Ok) : ∀ d ∈ es.map entD, Bq 5 d := fun d hd => by
  obtain ⟨e, he, rfl⟩ := List.mem_map.mp hd
  exact (Bq.ent (n := 0) (h e he)).mono (by decide)
theorem Bq.list {n : Nat} {ds : List PyData} (h : ∀ d ∈ ds, Bq n d) : Sh (n + 1) (.list ds) := Sh.list fun d hd => (h d hd).2
theorem cutL_mem {α : Type} {xs : List α} {lo hi : Option Int} {x : α} (h : x ∈ cutL xs lo hi) : x ∈ xs := List.mem_of_mem_drop (List.mem_of_mem_take h)
theorem cutL_len {α : Type} (xs : List α) (lo hi : Option Int) : (cutL xs lo hi).length ≤ xs.length := by
  unfold cutL
  rw [List.length_take, List.length_drop]
  omega
theorem Bq.cut {n : Nat} {ds : List PyData} {lo hi : Option Int} (l : ds.length ≤ 1000) (h : ∀ d ∈ ds, Bq n d) : Bq (n + 1) (.tuple (cutL ds lo hi)) := Bq.tup (Nat.le_trans (cutL_len _ _ _) l) fun d hd => h d (cutL_mem hd)
theorem sliceQ_mem {z : Str} {lo hi : Option Int} {c : Nat} (h : c ∈ (Txt.slice z lo hi).cps.toList) : c ∈ z.cps.toList := by
  unfold Txt.slice at h
  split at h
  · exact h
  · rw [List.toList_toArray] at h
    obtain ⟨i, _, e⟩ := List.mem_filterMap.mp h
    exact Array.mem_def.mp (Array.mem_of_getElem? e)
/-- a drawn one of a list -/
theorem pick_in {ds : List PyData} {i : Int} (h0 : 0 ≤ i) (h1 : i < (ds.length : Int)) : ∃ d, atI ds i = some d ∧ d ∈ ds := by
  obtain ⟨j, x, rfl, hj, hm⟩ := draw_in h0 h1
  exact ⟨x, atI_nat hj, hm⟩

/-! ### the clash of two certificates -/
noncomputable def clashM (b m : Int) : List Ent → List PyData → Option (Ent × Ent)
  | e :: es, d :: ds => if PyData.eqv (entD e) d = true then clashM b m es ds else
      match asEnt d with
      | none => none
      | some g => if (lnkOf b m e).d = (lnkOf b m g).d then some (e, g) else none
  | _, _ => none
theorem clashM_cons (b m : Int) (e : Ent) (es : List Ent) (d : PyData) (ds : List PyData) : clashM b m (e :: es) (d :: ds) = (if PyData.eqv (entD e) d = true then clashM b m es ds else
      match asEnt d with
      | none => none
      | some g => if (lnkOf b m e).d = (lnkOf b m g).d then some (e, g) else none) := by
  rw [clashM]
def pairE : Option (Ent × Ent) → PyData
  | none => .none
  | some (e, g) => .tuple [entD e, entD g]
theorem eqv_ent_iff {a c : Ent} : PyData.eqv (entD a) (entD c) = true ↔ a = c := by
  rw [eqv_ent]
  exact ⟨fun h => of_decide_eq_true h, fun h => decide_eq_true h⟩
theorem clash_of_verdict {b m : Int} : ∀ {es : List Ent} {ds : List PyData} {n : Nat} {e g : Ent}, verdict b m es ds n = .clash e g → clashM b m es ds = some (e, g)
  | [], [], _, _, _, h => by cases h
  | [], _ :: _, _, _, _, h => by cases h
  | _ :: _, [], _, _, _, h => by cases h
  | e0 :: es, d :: ds, n, e, g, h => by
    rw [verdict_cons] at h
    unfold clashM
    cases ea : asEnt d with
    | none =>
      rw [ea] at h
      cases h
    | some g0 =>
      rw [ea] at h
      obtain ⟨hd, hok⟩ := asEnt_some ea
      subst hd
      simp only at h
      split at h
      · cases h
      · rename_i hdig
        split at h
        · cases h
        · split at h
          · rename_i hne
            cases h
            rw [if_neg (fun z => hne (eqv_ent_iff.mp z))]
            dsimp only
            rw [if_pos (Classical.not_not.mp hdig)]
          · rename_i hne
            rw [if_pos (eqv_ent_iff.mpr (Classical.not_not.mp hne))]
            exact clash_of_verdict h
theorem Sh.pairE {o : Option (Ent × Ent)} (h : ∀ p, o = some p → p.1.Ok ∧ p.2.Ok) : Sh 4 (pairE o) := by
  cases o with
  | none => exact Sh.non
  | some p =>
    obtain ⟨e, g⟩ := p
    obtain ⟨h1, h2⟩ := h _ rfl
    refine Sh.tuple fun x hx => ?_
    simp only [List.mem_cons, List.not_mem_nil, or_false] at hx
    rcases hx with z | z <;> rw [z]
    · exact Sh.ent (n := 0) h1.1.asc
    · exact Sh.ent (n := 0) h2.1.asc
theorem clashM_ok {b m : Int} : ∀ {es : List Ent} {ds : List PyData} {p : Ent × Ent}, (∀ e ∈ es, e.Ok) → clashM b m es ds = some p → p.1.Ok ∧ p.2.Ok ∧ p.1 ≠ p.2 ∧ (lnkOf b m p.1).d = (lnkOf b m p.2).d ∧ entD p.2 ∈ ds
  | [], _, _, _, h => by cases h
  | _ :: _, [], _, _, h => by cases h
  | e :: es, d :: ds, p, ho, h => by
    unfold clashM at h
    split at h
    · obtain ⟨h1, h2, h3, h4, h5⟩ := clashM_ok (fun e he => ho e (List.mem_cons_of_mem _ he)) h
      exact ⟨h1, h2, h3, h4, List.mem_cons_of_mem _ h5⟩
    · rename_i hne
      cases ea : asEnt d with
      | none =>
        rw [ea] at h
        cases h
      | some g =>
        rw [ea] at h
        obtain ⟨rfl, hg⟩ := asEnt_some ea
        simp only at h
        split at h
        · rename_i hd
          cases h
          exact ⟨ho e List.mem_cons_self, hg, fun z => hne (eqv_ent_iff.mpr z), hd, List.mem_cons_self⟩
        · cases h

def chnD (n i j : Int) : PyData := .tuple [.int n, .int i, .int j]
def chnsD (n : Int) : List PyData := [chnD n 0 0, chnD n 0 1, chnD n 1 0, chnD n 1 1]
def secD (s n i j : Int) : PyData := .tuple [.str "secret", .int s, .int n, .int i, .int j]
def secV (b m s n i j : Int) : Int := dig b m (enc (secD s n i j))
theorem secD_fit (s n i j : Int) : isV (secD s n i j) = true ∧ (secD s n i j).depth < 8 ∧ (enc (secD s n i j)).length ≤ 1000000 := ⟨rfl, show 1 < 8 by decide, show 18 ≤ 1000000 by decide⟩
theorem rangeD_cons (f : Int) (k : Nat) : rangeD f (k + 1) = .int f :: rangeD (f + 1) k := by
  unfold rangeD
  rw [List.range_succ_eq_map, List.map_cons, List.map_map, show f + ((0 : Nat) : Int) = f from Int.add_zero f]
  refine congrArg _ (List.map_congr_left fun i _ => ?_)
  show PyData.int (f + ((i + 1 : Nat) : Int)) = .int (f + 1 + (i : Int))
  rw [show f + ((i + 1 : Nat) : Int) = f + 1 + (i : Int) by omega]
theorem rangeD_zero (f : Int) : rangeD f 0 = [] := rfl
def stpD (n i j k v : Int) : PyData := .tuple [.str "chain", .int n, .int i, .int j, .int k, .int v]
def stpV (b m n i j : Int) : Nat → Int → Int → Int
  | 0, _, v => v
  | k + 1, f, v => stpV b m n i j k (f + 1) (dig b m (enc (stpD n i j f v)))
theorem stpD_fit (n i j k v : Int) : isV (stpD n i j k v) = true ∧ (stpD n i j k v).depth < 8 ∧ (enc (stpD n i j k v)).length ≤ 1000000 := ⟨rfl, show 1 < 8 by decide, show 19 ≤ 1000000 by decide⟩
def chL : List (Int × Int) := [(0, 0), (0, 1), (1, 0), (1, 1)]
def cardD (b m s n : Int) : PyData := .tuple (chL.map fun p => .int (stpV b m n p.1 p.2 15 0 (secV b m s n p.1 p.2)))
def sldD (n : Int) (d : PyData) : PyData := .tuple [.str "sealed", .int n, d]
def hgtL (x : Int) : List Int := [Int.fmod (Int.fmod x 256) 16, 15 - Int.fmod (Int.fmod x 256) 16, Int.fmod x 256 / 16, 15 - Int.fmod x 256 / 16]
def SldOk (n : Int) (d : PyData) : Prop := isV (sldD n d) = true ∧ (sldD n d).depth < 8 ∧ (enc (sldD n d)).length ≤ 1000000
def sldV (b m n : Int) (d : PyData) : Int := dig b m (enc (sldD n d))
def sealD (b m s n : Int) (d : PyData) : PyData := .tuple ((chL.zip (hgtL (sldV b m n d))).map fun p => .int (stpV b m n p.1.1 p.1.2 p.2.toNat 0 (secV b m s n p.1.1 p.1.2)))
theorem hgt_bnd (x : Int) : ∀ h ∈ hgtL x, 0 ≤ h ∧ h ≤ 15 := by
  have a1 : 0 ≤ Int.fmod x 256 := Int.fmod_nonneg_of_pos x (by decide)
  have a2 : Int.fmod x 256 < 256 := Int.fmod_lt_of_pos x (by decide)
  intro h hh
  unfold hgtL at hh
  rw [Int.fmod_eq_emod_of_nonneg (a := Int.fmod x 256) (b := 16) (by decide)] at hh
  simp only [List.mem_cons, List.not_mem_nil, or_false] at hh
  omega
def ledL (b m n x : Int) (gs : List Int) : List Int := ((chL.zip (hgtL x)).zip gs).map fun p => stpV b m n p.1.1.1 p.1.1.2 (15 - p.1.2).toNat p.1.2 p.2
def fitsB (b m : Int) (cs : List Int) (n : Int) (d : PyData) (gs : List Int) : Bool := decide (gs.length = 4) && decide (ledL b m n (sldV b m n d) gs = cs)
theorem len4 {α : Type} : ∀ {l : List α}, l.length = 4 → ∃ a b c d, l = [a, b, c, d]
  | [a, b, c, d], _ => ⟨a, b, c, d, rfl⟩
theorem all4 (A B C D a b c d : Int) : decide ([A, B, C, D] = [a, b, c, d]) = (decide (A = a) && (decide (B = b) && (decide (C = c) && decide (D = d)))) := by simp only [List.cons.injEq, and_true, Bool.decide_and]
theorem linkD_isV (l : Lnk) : isV (linkD l) = true ∧ (linkD l).depth < 3 ∧ (enc (linkD l)).length = 14 := ⟨rfl, show 2 < 3 by decide, rfl⟩
theorem sld_ver (n a : Int) (h : Lnk) (p : Int) : SldOk n (.tuple [.int a, linkD h, .int p]) := ⟨rfl, show 4 < 8 by decide, by show 32 ≤ 1000000; decide⟩
theorem sld_int (n a : Int) : SldOk n (.int a) := ⟨rfl, show 1 < 8 by decide, by show 14 ≤ 1000000; decide⟩
theorem of_two {d : Int} {A B : PyData} (h0 : 0 ≤ d) (h1 : d < 2) {P : PyData → Prop} (a : P A) (b : P B) : ∃ x, atI [A, B] d = some x ∧ P x := by
  have : d = 0 ∨ d = 1 := by omega
  rcases this with rfl | rfl
  · exact ⟨A, at0 _ _, a⟩
  · exact ⟨B, at1 _ _ _, b⟩
theorem of_five {d : Int} {A B C D E : PyData} (h0 : 0 ≤ d) (h1 : d < 5) {P : PyData → Prop} (a : P A) (b : P B) (c : P C) (e : P D) (f : P E) : ∃ x, atI [A, B, C, D, E] d = some x ∧ P x := by
  have : d = 0 ∨ d = 1 ∨ d = 2 ∨ d = 3 ∨ d = 4 := by omega
  rcases this with rfl | rfl | rfl | rfl | rfl
  · exact ⟨A, at0 _ _, a⟩
  · exact ⟨B, at1 _ _ _, b⟩
  · exact ⟨C, at2 _ _ _ _, c⟩
  · exact ⟨D, at3 _ _ _ _ _, e⟩
  · exact ⟨E, at4 _ _ _ _ _ _, f⟩
def cardL (b m s n : Int) : List Int := chL.map fun p => stpV b m n p.1 p.2 15 0 (secV b m s n p.1 p.2)
def sealL (b m s n : Int) (d : PyData) : List Int := (chL.zip (hgtL (sldV b m n d))).map fun p => stpV b m n p.1.1 p.1.2 p.2.toNat 0 (secV b m s n p.1.1 p.1.2)
theorem card_ints (b m s n : Int) : cardD b m s n = .tuple ((cardL b m s n).map .int) := by
  unfold cardD cardL
  rw [List.map_map]
  rfl
theorem seal_ints (b m s n : Int) (d : PyData) : sealD b m s n d = .tuple ((sealL b m s n d).map .int) := by
  unfold sealD sealL
  rw [List.map_map]
  rfl
theorem cardL_len (b m s n : Int) : (cardL b m s n).length = 4 := rfl
theorem stp_add (b m n i j : Int) : ∀ (k l : Nat) (f v : Int), stpV b m n i j (k + l) f v = stpV b m n i j l (f + k) (stpV b m n i j k f v)
  | 0, l, f, v => by
    rw [Nat.zero_add, show f + ((0 : Nat) : Int) = f by omega]
    rfl
  | k + 1, l, f, v => by
    rw [show k + 1 + l = (k + l) + 1 by omega]
    show stpV b m n i j (k + l) (f + 1) _ = _
    rw [stp_add b m n i j k l (f + 1), show f + 1 + (k : Int) = f + ((k + 1 : Nat) : Int) by omega]
    rfl
theorem stp_15 (b m n i j v h : Int) (h0 : 0 ≤ h) (h1 : h ≤ 15) : stpV b m n i j (15 - h).toNat h (stpV b m n i j h.toNat 0 v) = stpV b m n i j 15 0 v := by
  have := stp_add b m n i j h.toNat (15 - h).toNat 0 v
  rw [show h.toNat + (15 - h).toNat = 15 by omega, show (0 : Int) + (h.toNat : Int) = h by omega] at this
  exact this.symm
theorem seal_fits (b m s n : Int) (d : PyData) : fitsB b m (cardL b m s n) n d (sealL b m s n d) = true := by
  have hb := hgt_bnd (sldV b m n d)
  unfold fitsB ledL sealL cardL
  obtain ⟨a0, a1, a2, a3, e⟩ : ∃ a0 a1 a2 a3, hgtL (sldV b m n d) = [a0, a1, a2, a3] := ⟨_, _, _, _, rfl⟩
  rw [e] at hb ⊢
  have h0 := hb a0 (by simp)
  have h1 := hb a1 (by simp)
  have h2 := hb a2 (by simp)
  have h3 := hb a3 (by simp)
  simp only [chL, List.zip_cons_cons, List.zip_nil_left, List.map_cons, List.map_nil]
  rw [stp_15 _ _ _ _ _ _ _ h0.1 h0.2, stp_15 _ _ _ _ _ _ _ h1.1 h1.2, stp_15 _ _ _ _ _ _ _ h2.1 h2.2, stp_15 _ _ _ _ _ _ _ h3.1 h3.2, decide_eq_true rfl]
  rfl
theorem okD_intT (xs : List Int) : okD (.tuple (xs.map .int)) := by
  have h1 : (PyData.tuple (xs.map .int)).canLay0 = true := all_lay _ fun x hx => by
    obtain ⟨y, _, rfl⟩ := List.mem_map.mp hx
    rfl
  have h2 : (PyData.tuple (xs.map .int)).depth ≤ 1 := by
    show PyData.depthAll (xs.map .int) + 1 ≤ 1
    have : PyData.depthAll (xs.map .int) = 0 := by
      induction xs with
      | nil => rfl
      | cons x xs ih =>
        show max _ (PyData.depthAll (xs.map .int)) = 0
        rw [ih (all_lay _ fun x hx => by
          obtain ⟨y, _, rfl⟩ := List.mem_map.mp hx
          rfl)]
        rfl
    rw [this]
    omega
  unfold okD SeqAt.shaped
  rw [h1, decide_eq_true (Nat.le_trans h2 (by decide))]
  rfl
theorem eqv_intT (xs ys : List Int) : PyData.eqv (.tuple (xs.map .int)) (.tuple (ys.map .int)) = decide (xs = ys) := eqv_ints xs ys
theorem neq_same {d : PyData} {A B : Prop} (h : okD d) (b : B) : okD d ∧ okD d ∧ (if (!PyData.eqv d d) = true then A else B) := ⟨h, h, by rw [SeqAt.eqv_refl d h.lay]; exact b⟩

abbrev sLChain : Stmt := topS 16
theorem scLChain : FnScope ["rule", "where", "first", "last", "start", "found", "step"] ["rule", "where", "first", "last", "start"] (defScope sLChain) := ⟨rfl, rfl, rfl, by decide +kernel, rfl, by decide +kernel, by decide +kernel⟩
def pLChain : DSp := fun ws C Q _ => ∃ (b m n i j v f : Int) (k : Nat), ws = [.val (ruleD b m), .val (chnD n i j), .val (.int f), .val (.int (f + k)), .val (.int v)] ∧ RuleOk b m ∧ 0 ≤ f ∧ f + k ≤ 1000 ∧ Q (.val (.int (stpV b m n i j k f v))) C
section
variable {P : Program} {w : World} {K : PySem.W.Frag} {mg : Str → Option Value} {base : Heap} {ct : Ct}
theorem ok_LChain  (D : Def K mg "_law_chain" sLChain ["rule", "where", "first", "last", "start"]) (D_LDigest : Def K mg "_law_digest" sLDigest ["rule", "value"]) (m_range : mg "range" = none)
    (G_LDigest : FnOk P w K mg base CX0 10 D_LDigest.f D_LDigest.fd ["rule", "value"] (spD ct 0 2 pLDigest)) : FnOk P w K mg base CX0 11 D.f D.fd ["rule", "where", "first", "last", "start"] (spD ct 0 5 pLChain) := by
  refine D.F.ok scLChain (fun vs H Q E h => spD_len h) (fun cdv A outer s H vs Q E hr h => ⟨_, (pss_cons (ps_set (i := 5) scLChain.nd rfl (.inl rfl) (pv 4)) <|
    pss_cons (ps_for PassesOwn.never rfl (pi_range2 (by rfl) m_range (pa_cons (pv 2) (pa_cons (pv 3) pa_nil))) (pg_name (i := 6) scLChain.nd rfl (Or.inl rfl))
      (pss_one (ps_set (i := 5) scLChain.nd rfl (.inl rfl) (pe_call G_LDigest (hr.mono (by omega)) (by rfl) D_LDigest.m D_LDigest.F.kp D_LDigest.b .nil pass0 (pa_cons (pv 0) (pa_cons (pe_op op_addA (pe_op op_addA (pe_tup (pa_cons pe_str pa_nil)) (pv 1)) (pe_tup (pa_cons (pv 6) (pa_cons (pv 5) pa_nil)))) pa_nil)))))) <|
    pss_one (ps_ret (pv 5))), body_ok _ (fun R => inferInstance) (by decide) (fun ws C Q R hw hC hP => ?_) h⟩)
  obtain rfl := List.eq_nil_of_length_eq_zero hC
  obtain ⟨b, m, n, i, j, v, f, k, rfl, hr, h0, hk, q⟩ := hP
  simp only [chnD]
  walk_at "d"
  rw [show (f + (k : Int) - f).toNat = k by omega]
  refine ⟨by omega, dForGo_ind (fun rest E C => C = [] ∧ ∃ (k2 : Nat) (f2 v2 : Int) (y6 : Option W), rest = rangeD f2 k2 ∧ stpV b m n i j k2 f2 v2 = stpV b m n i j k f v ∧ E = [some (.val (ruleD b m)), some (.val (.tuple [.int n, .int i, .int j])), some (.val (.int f)), some (.val (.int (f + k))), some (.val (.int v)), some (.val (.int v2)), y6]) ?_ ?_ _ _ _ ⟨rfl, k, f, v, _, rfl, rfl, rfl⟩⟩
  · rintro E C ⟨rfl, k2, f2, v2, y6, h1, h2, rfl⟩
    cases k2 with
    | succ k2 =>
      rw [rangeD_cons] at h1
      cases h1
    | zero =>
      walk_at "d"
      rw [← h2] at q
      exact q
  · rintro x xs E C ⟨rfl, k2, f2, v2, y6, h1, h2, rfl⟩ N hN
    cases k2 with
    | zero =>
      rw [rangeD_zero] at h1
      cases h1
    | succ k2 =>
      rw [rangeD_cons] at h1
      cases h1
      walk_at "d"
      refine ⟨by decide, by decide, by decide, by decide, b, m, stpD n i j f2 v2, rfl, hr, (stpD_fit n i j f2 v2).1, (stpD_fit n i j f2 v2).2.1, (stpD_fit n i j f2 v2).2.2, ?_⟩
      exact hN _ _ ⟨rfl, k2, f2 + 1, _, _, rfl, h2, rfl⟩
end
abbrev sLPlaces : Stmt := topS 17
theorem scLPlaces : FnScope ["number"] ["number"] (defScope sLPlaces) := ⟨rfl, rfl, rfl, by decide +kernel, rfl, by decide +kernel, by decide +kernel⟩
def pLPlaces : DSp := fun ws C Q _ => ∃ n : Int, ws = [.val (.int n)] ∧ Q (.val (.list (chnsD n))) C
section
variable {P : Program} {w : World} {K : PySem.W.Frag} {mg : Str → Option Value} {base : Heap} {ct : Ct}
theorem ok_LPlaces  (D : Def K mg "_law_places" sLPlaces ["number"])
    : FnOk P w K mg base CX0 1 D.f D.fd ["number"] (spD ct 0 1 pLPlaces) := by
  refine D.F.ok scLPlaces (fun vs H Q E h => spD_len h) (fun cdv A outer s H vs Q E hr h => ⟨_, (pss_one (ps_ret (pe_lst (pa_cons (pe_tup (pa_cons (pv 0) (pa_cons pe_int (pa_cons pe_int pa_nil)))) (pa_cons (pe_tup (pa_cons (pv 0) (pa_cons pe_int (pa_cons pe_int pa_nil)))) (pa_cons (pe_tup (pa_cons (pv 0) (pa_cons pe_int (pa_cons pe_int pa_nil)))) (pa_cons (pe_tup (pa_cons (pv 0) (pa_cons pe_int (pa_cons pe_int pa_nil)))) pa_nil))))))), body_ok _ (fun R => inferInstance) (by decide) (fun ws C Q R hw hC hP => ?_) h⟩)
  obtain rfl := List.eq_nil_of_length_eq_zero hC
  obtain ⟨n, rfl, q⟩ := hP
  walk_at "d"
  exact ⟨by decide, by decide, by decide, by decide, by decide, q⟩
end
abbrev sLHeights : Stmt := topS 18
theorem scLHeights : FnScope ["rule", "number", "value", "h"] ["rule", "number", "value"] (defScope sLHeights) := ⟨rfl, rfl, rfl, by decide +kernel, rfl, by decide +kernel, by decide +kernel⟩
def pLHeights : DSp := fun ws C Q _ => ∃ b m n d, ws = [.val (ruleD b m), .val (.int n), .val d] ∧ RuleOk b m ∧ SldOk n d ∧ Q (.val (.list ((hgtL (sldV b m n d)).map .int))) C
section
variable {P : Program} {w : World} {K : PySem.W.Frag} {mg : Str → Option Value} {base : Heap} {ct : Ct}
theorem ok_LHeights  (D : Def K mg "_law_heights" sLHeights ["rule", "number", "value"]) (D_LDigest : Def K mg "_law_digest" sLDigest ["rule", "value"]) (m_int : mg "int" = none)
    (G_LDigest : FnOk P w K mg base CX0 10 D_LDigest.f D_LDigest.fd ["rule", "value"] (spD ct 0 2 pLDigest)) : FnOk P w K mg base CX0 11 D.f D.fd ["rule", "number", "value"] (spD ct 0 3 pLHeights) := by
  refine D.F.ok scLHeights (fun vs H Q E h => spD_len h) (fun cdv A outer s H vs Q E hr h => ⟨_, (pss_cons (ps_set (i := 3) scLHeights.nd rfl (.inl rfl) (pe_op op_modN (pe_callTy call_intA (by rfl) m_int (by decide +kernel) (pa_cons (pe_call G_LDigest (hr.mono (by omega)) (by rfl) D_LDigest.m D_LDigest.F.kp D_LDigest.b .nil pass0 (pa_cons (pv 0) (pa_cons (pe_tup (pa_cons pe_str (pa_cons (pv 1) (pa_cons (pv 2) pa_nil)))) pa_nil))) pa_nil)) pe_int)) <|
    pss_one (ps_ret (pe_lst (pa_cons (pe_op op_modN (pe_callTy call_intA (by rfl) m_int (by decide +kernel) (pa_cons (pv 3) pa_nil)) pe_int) (pa_cons (pe_op op_sub pe_int (pe_op op_modN (pe_callTy call_intA (by rfl) m_int (by decide +kernel) (pa_cons (pv 3) pa_nil)) pe_int)) (pa_cons (pe_op op_fdivW (pv 3) pe_int) (pa_cons (pe_op op_sub pe_int (pe_op op_fdivW (pv 3) pe_int)) pa_nil))))))), body_ok _ (fun R => inferInstance) (by decide) (fun ws C Q R hw hC hP => ?_) h⟩)
  obtain rfl := List.eq_nil_of_length_eq_zero hC
  obtain ⟨b, m, n, d, rfl, hr, hs, q⟩ := hP
  walk_at "d"
  refine ⟨by decide, b, m, sldD n d, rfl, hr, hs.1, hs.2.1, hs.2.2, ?_⟩
  walk_at "d"
  exact ⟨by decide, by decide, by decide, ⟨by decide, by decide +kernel⟩, ⟨by decide, by decide +kernel⟩, by decide, q⟩
end
abbrev sLSecret : Stmt := topS 19
theorem scLSecret : FnScope ["rule", "secret", "where"] ["rule", "secret", "where"] (defScope sLSecret) := ⟨rfl, rfl, rfl, by decide +kernel, rfl, by decide +kernel, by decide +kernel⟩
def pLSecret : DSp := fun ws C Q _ => ∃ b m s n i j, ws = [.val (ruleD b m), .val (.int s), .val (chnD n i j)] ∧ RuleOk b m ∧ Q (.val (.int (secV b m s n i j))) C
section
variable {P : Program} {w : World} {K : PySem.W.Frag} {mg : Str → Option Value} {base : Heap} {ct : Ct}
theorem ok_LSecret  (D : Def K mg "_law_secret" sLSecret ["rule", "secret", "where"]) (D_LDigest : Def K mg "_law_digest" sLDigest ["rule", "value"])
    (G_LDigest : FnOk P w K mg base CX0 10 D_LDigest.f D_LDigest.fd ["rule", "value"] (spD ct 0 2 pLDigest)) : FnOk P w K mg base CX0 11 D.f D.fd ["rule", "secret", "where"] (spD ct 0 3 pLSecret) := by
  refine D.F.ok scLSecret (fun vs H Q E h => spD_len h) (fun cdv A outer s H vs Q E hr h => ⟨_, (pss_one (ps_ret (pe_call G_LDigest (hr.mono (by omega)) (by rfl) D_LDigest.m D_LDigest.F.kp D_LDigest.b .nil pass0 (pa_cons (pv 0) (pa_cons (pe_op op_addA (pe_tup (pa_cons pe_str (pa_cons (pv 1) pa_nil))) (pv 2)) pa_nil))))), body_ok _ (fun R => inferInstance) (by decide) (fun ws C Q R hw hC hP => ?_) h⟩)
  obtain rfl := List.eq_nil_of_length_eq_zero hC
  obtain ⟨b, m, s, n, i, j, rfl, hr, q⟩ := hP
  simp only [chnD]
  walk_at "d"
  refine ⟨by decide, by decide, b, m, secD s n i j, rfl, hr, (secD_fit s n i j).1, (secD_fit s n i j).2.1, (secD_fit s n i j).2.2, ?_⟩
  walk_at "d"
  exact q
end

abbrev sLSeal : Stmt := topS 20
theorem scLSeal : FnScope ["rule", "secret", "number", "value", "places", "heights", "k"] ["rule", "secret", "number", "value"] (defScope sLSeal) := ⟨rfl, rfl, rfl, by decide +kernel, rfl, by decide +kernel, by decide +kernel⟩
def pLSeal : DSp := fun ws C Q _ => ∃ b m s n d, ws = [.val (ruleD b m), .val (.int s), .val (.int n), .val d] ∧ RuleOk b m ∧ SldOk n d ∧ Q (.val (sealD b m s n d)) C
theorem chain_go {b m n i j a v : Int} {K : DK} {C : List Cell} {X : XD} (hr : RuleOk b m) (ha : 0 ≤ a ∧ a ≤ 15) (h : K (.val (.int (stpV b m n i j a.toNat 0 v))) C) : pLChain [.val (ruleD b m), .val (.tuple [.int n, .int i, .int j]), .val (.int 0), .val (.int a), .val (.int v)] C K X := by
  refine ⟨b, m, n, i, j, v, 0, a.toNat, ?_, hr, by omega, by omega, h⟩
  rw [show (0 : Int) + (a.toNat : Int) = a by omega]
  rfl
section
variable {P : Program} {w : World} {K : PySem.W.Frag} {mg : Str → Option Value} {base : Heap} {ct : Ct}
theorem ok_LSeal  (D : Def K mg "_law_seal" sLSeal ["rule", "secret", "number", "value"]) (D_LPlaces : Def K mg "_law_places" sLPlaces ["number"]) (D_LHeights : Def K mg "_law_heights" sLHeights ["rule", "number", "value"]) (D_LChain : Def K mg "_law_chain" sLChain ["rule", "where", "first", "last", "start"]) (D_LSecret : Def K mg "_law_secret" sLSecret ["rule", "secret", "where"]) (m_range : mg "range" = none) (m_tuple : mg "tuple" = none)
    (G_LPlaces : FnOk P w K mg base CX0 1 D_LPlaces.f D_LPlaces.fd ["number"] (spD ct 0 1 pLPlaces)) (G_LHeights : FnOk P w K mg base CX0 11 D_LHeights.f D_LHeights.fd ["rule", "number", "value"] (spD ct 0 3 pLHeights)) (G_LChain : FnOk P w K mg base CX0 11 D_LChain.f D_LChain.fd ["rule", "where", "first", "last", "start"] (spD ct 0 5 pLChain)) (G_LSecret : FnOk P w K mg base CX0 11 D_LSecret.f D_LSecret.fd ["rule", "secret", "where"] (spD ct 0 3 pLSecret)) : FnOk P w K mg base CX0 12 D.f D.fd ["rule", "secret", "number", "value"] (spD ct 0 4 pLSeal) := by
  refine D.F.ok scLSeal (fun vs H Q E h => spD_len h) (fun cdv A outer s H vs Q E hr h => ⟨_, (pss_cons (ps_set (i := 4) scLSeal.nd rfl (.inr rfl) (pe_call G_LPlaces (hr.mono (by omega)) (by rfl) D_LPlaces.m D_LPlaces.F.kp D_LPlaces.b .nil pass0 (pa_cons (pv 2) pa_nil))) <|
    pss_cons (ps_set (i := 5) scLSeal.nd rfl (.inr rfl) (pe_call G_LHeights (hr.mono (by omega)) (by rfl) D_LHeights.m D_LHeights.F.kp D_LHeights.b .nil pass0 (pa_cons (pv 0) (pa_cons (pv 2) (pa_cons (pv 3) pa_nil))))) <|
    pss_one (ps_ret (pe_callTy call_tupA (by rfl) m_tuple (by decide +kernel) (pa_cons (pe_lc (own := [("k", 6)]) (g := (gName 6)) (by rfl) scLSeal.nd (pi_range1 (by rfl) m_range (pa_cons pe_int pa_nil))
        (blkOk_by (own := [("k", 6)]) (N := ["rule", "secret", "number", "value", "places", "heights", "k"]) (sc := defScope sLSeal) (by decide +kernel))
        (fun _ _ _ _ _ => (pg_name (i := 6) scLSeal.nd rfl (Or.inl rfl))) (fun _ _ _ _ _ => pts_nil)
        (fun _ _ _ _ _ => (pe_call G_LChain (hr.mono (by omega)) (by rfl) D_LChain.m D_LChain.F.kp D_LChain.b .nil pass0 (pa_cons (pv 0) (pa_cons (pe_ix (ix_seqC (K := K) rfl) (pv 4) (pv 6) (fun _ _ => rfl)) (pa_cons pe_int (pa_cons (pe_ix (ix_seqC (K := K) rfl) (pv 5) (pv 6) (fun _ _ => rfl)) (pa_cons (pe_call G_LSecret (hr.mono (by omega)) (by rfl) D_LSecret.m D_LSecret.F.kp D_LSecret.b .nil pass0 (pa_cons (pv 0) (pa_cons (pv 1) (pa_cons (pe_ix (ix_seqC (K := K) rfl) (pv 4) (pv 6) (fun _ _ => rfl)) pa_nil)))) pa_nil)))))))) pa_nil)))), body_ok _ (fun R => inferInstance) (by decide) (fun ws C Q R hw hC hP => ?_) h⟩)
  obtain rfl := List.eq_nil_of_length_eq_zero hC
  obtain ⟨b, m, s, n, d, rfl, hr, hs, q⟩ := hP
  walk_at "d"
  refine ⟨n, rfl, ?_⟩
  walk_at "d"
  refine ⟨b, m, n, d, rfl, hr, hs, ?_⟩
  walk_at "d"
  refine ⟨by decide, by decide, ?_⟩
  unfold sealD at q
  have hb := hgt_bnd (sldV b m n d)
  obtain ⟨a0, a1, a2, a3, e⟩ : ∃ a0 a1 a2 a3, hgtL (sldV b m n d) = [a0, a1, a2, a3] := ⟨_, _, _, _, rfl⟩
  rw [e] at hb q ⊢
  show dLcGo _ _ _ _ ([(((0, 0), a0), 0), (((0, 1), a1), 1), (((1, 0), a2), 2), (((1, 1), a3), 3)].map fun p : ((Int × Int) × Int) × Int => .int p.2) [] _ _
  refine dLcGo_each (fun p : ((Int × Int) × Int) × Int => .int p.2) (fun p => .int (stpV b m n p.1.1.1 p.1.1.2 p.1.2.toNat 0 (secV b m s n p.1.1.1 p.1.1.2))) _ (by show 4 ≤ _; decide) (fun p hp K h => ?_) ?_
  · simp only [List.mem_cons, List.not_mem_nil, or_false] at hp
    simp only [chnsD, chnD, List.map_cons, List.map_nil]
    rcases hp with rfl | rfl | rfl | rfl
    all_goals dsimp only at h ⊢
    all_goals walk_at "d"
    · exact ⟨b, m, s, n, 0, 0, rfl, hr, by walk_at "d"; exact chain_go hr (hb a0 (by simp)) h⟩
    · exact ⟨b, m, s, n, 0, 1, rfl, hr, by walk_at "d"; exact chain_go hr (hb a1 (by simp)) h⟩
    · exact ⟨b, m, s, n, 1, 0, rfl, hr, by walk_at "d"; exact chain_go hr (hb a2 (by simp)) h⟩
    · exact ⟨b, m, s, n, 1, 1, rfl, hr, by walk_at "d"; exact chain_go hr (hb a3 (by simp)) h⟩
  · (try walk_at "d")
    exact q
end

/-- sealed versions -/
abbrev SV := Ver × List Int
def svD (s : SV) : PyData := .tuple [verD s.1, .tuple (s.2.map .int)]
def intT (c : List Int) : PyData := .tuple (c.map .int)
def cardsD (cs : List (List Int)) : PyData := .list (cs.map intT)
def fitAt (b m : Int) (s : SV) : Option (List Int) → Bool
  | some c => fitsB b m c s.1.n (verD s.1) s.2
  | none => false
def fitV (b m : Int) (cs : List (List Int)) (s : SV) : Bool := decide (0 ≤ s.1.n) && fitAt b m s cs[s.1.n.toNat]?
def dblB (b m : Int) (cs : List (List Int)) (s t : SV) : Bool := decide (s.1.n = t.1.n) && !decide (s.1 = t.1) && fitV b m cs s && fitV b m cs t
theorem sld_verD (n : Int) (v : Ver) : SldOk n (verD v) := sld_ver n v.n v.h v.p
theorem ix_ver0 (v : Ver) (C : List Cell) (Q : DK) : fIx (.val (verD v)) (.val (.int 0)) C Q = Q (.val (.int v.n)) C := rfl
theorem ix_ver1 (v : Ver) (C : List Cell) (Q : DK) : fIx (.val (verD v)) (.val (.int 1)) C Q = Q (.val (linkD v.h)) C := rfl
theorem ix_sv0 (s : SV) (C : List Cell) (Q : DK) : fIx (.val (svD s)) (.val (.int 0)) C Q = Q (.val (verD s.1)) C := rfl
theorem ix_sv1 (s : SV) (C : List Cell) (Q : DK) : fIx (.val (svD s)) (.val (.int 1)) C Q = Q (.val (intT s.2)) C := rfl
theorem bK_b (Q : Bool → List Cell → Prop) (c : Bool) (C : List Cell) : bK Q (.val (.bool c)) C = Q c C := rfl
theorem svD_eq (s : SV) : svD s = .tuple [verD s.1, intT s.2] := rfl

abbrev sLSealed : Stmt := topS 21
theorem scLSealed : FnScope ["state", "rule", "secret", "table", "number", "version", "told"] ["state", "rule", "secret", "table", "number"] (defScope sLSealed) := ⟨rfl, rfl, rfl, by decide +kernel, rfl, by decide +kernel, by decide +kernel⟩
def pLSealed : DSp := fun ws C Q _ => ∃ b m s tb n l, ws = [.ref 0, .val (ruleD b m), .val (.int s), .val (tabD tb), .val (.int n)] ∧ C = [.lst l] ∧ StL l ∧ RuleOk b m ∧ TabFit tb ∧ tb.length < 100 ∧ ∀ (t : SV) l', t.1.n = n → t.2.length = 4 → StL l' → Q (.val (svD t)) [.lst l']
section
variable {P : Program} {w : World} {K : PySem.W.Frag} {mg : Str → Option Value} {base : Heap} {ct : Ct}
theorem ok_LSealed  (D : Def K mg "_law_sealed" sLSealed ["state", "rule", "secret", "table", "number"]) (D_LTree : Def K mg "_law_tree" sLTree ["rule", "table"]) (D_LDraw : Def K mg "_law_draw" sLDraw ["state", "limit"]) (D_LSeal : Def K mg "_law_seal" sLSeal ["rule", "secret", "number", "value"])
    (G_LTree : ∀ n, FnOk P w K mg base CX0 (n + 12) D_LTree.f D_LTree.fd ["rule", "table"] (spD ct 0 2 (pLTree n))) (G_LDraw : FnOk P w K mg base CX0 1 D_LDraw.f D_LDraw.fd ["state", "limit"] (spD ct 1 2 pLDraw)) (G_LSeal : FnOk P w K mg base CX0 12 D_LSeal.f D_LSeal.fd ["rule", "secret", "number", "value"] (spD ct 0 4 pLSeal)) : FnOk P w K mg base CX0 213 D.f D.fd ["state", "rule", "secret", "table", "number"] (spD ct 1 5 pLSealed) := by
  refine D.F.ok scLSealed (fun vs H Q E h => spD_len h) (fun cdv A outer s H vs Q E hr h => ⟨_, (pss_cons (ps_set (i := 5) scLSealed.nd rfl (.inl rfl) (pe_tup (pa_cons (pv 4) (pa_cons (pe_ix ix_seq (pe_call (G_LTree 200) (hr.mono (by omega)) (by rfl) D_LTree.m D_LTree.F.kp D_LTree.b .nil pass0 (pa_cons (pv 1) (pa_cons (pv 3) pa_nil))) pe_int (fun _ _ => rfl)) (pa_cons (pe_call G_LDraw (hr.mono (by omega)) (by rfl) D_LDraw.m D_LDraw.F.kp D_LDraw.b .nil pass0 (pa_cons (pv 0) (pa_cons pe_int pa_nil))) pa_nil))))) <|
    pss_cons (ps_set (i := 6) scLSealed.nd rfl (.inl rfl) (pe_call G_LSeal (hr.mono (by omega)) (by rfl) D_LSeal.m D_LSeal.F.kp D_LSeal.b .nil pass0 (pa_cons (pv 1) (pa_cons (pv 2) (pa_cons (pv 4) (pa_cons (pv 5) pa_nil)))))) <|
    pss_cons (ps_if (pt_cmpR (op_eqD hr.units) (pe_call G_LDraw (hr.mono (by omega)) (by rfl) D_LDraw.m D_LDraw.F.kp D_LDraw.b .nil pass0 (pa_cons (pv 0) (pa_cons pe_int pa_nil))) pe_int (nomark _))
      (pss_one (ps_set (i := 6) scLSealed.nd rfl (.inl rfl) (pe_op op_addA (pe_slice sl_any (pv 6) po_none (po_some pe_int)) (pe_tup (pa_cons (pe_op op_addA (pe_ix ix_seq (pv 6) pe_int (fun _ _ => rfl)) pe_int) pa_nil))))) pss_nil) <|
    pss_one (ps_ret (pe_tup (pa_cons (pv 5) (pa_cons (pv 6) pa_nil))))), body_ok _ (fun R => inferInstance) (by decide) (fun ws C Q R hw hC hP => ?_) h⟩)
  obtain ⟨b, m, s, tb, n, l, rfl, rfl, sl, hr, ht, hl, q⟩ := hP
  walk_at "d"
  refine ⟨b, m, tb, rfl, hr, ht, by omega, by omega, ?_⟩
  obtain ⟨r, et⟩ := treeD_head b m (treeOf tb)
  rw [et]
  walk_at "d"
  generalize (treeOf tb).lnk b m = L
  refine ⟨_, l, rfl, rfl, sl, by decide, by decide, fun d1 l1 _ _ s1 => ?_⟩
  walk_at "d"
  refine ⟨by decide, b, m, s, n, _, rfl, hr, sld_ver _ _ _ _, ?_⟩
  rw [seal_ints]
  have hgl : (sealL b m s n (.tuple [.int n, linkD L, .int d1])).length = 4 := rfl
  generalize sealL b m s n (.tuple [.int n, linkD L, .int d1]) = gs at hgl ⊢
  obtain ⟨g0, g1, g2, g3, rfl⟩ := len4 hgl
  walk_at "d"
  refine ⟨_, l1, rfl, rfl, s1, by decide, by decide, fun d2 l2 _ _ s2 => ?_⟩
  walk_at "d"
  refine ifd (fun h1 => ?_) fun h1 => ?_
  · refine ⟨by decide, show 3 + 1 ≤ sizeLine by decide, ?_⟩
    refine ⟨by decide, ?_⟩
    exact q ⟨⟨n, L, d1⟩, [g0, g1, g2, g3 + 1]⟩ l2 rfl rfl s2
  · refine ⟨by decide, ?_⟩
    exact q ⟨⟨n, L, d1⟩, [g0, g1, g2, g3]⟩ l2 rfl rfl s2
end

abbrev lamQ (x : Str) : Str := x ++ (".<locals>." : Str) ++ ("<lambda>" : Str)

set_option hygiene false in
local macro_rules | `(tactic| walk_at "d") => `(tactic| simp -implicitDefEqProofs only [dSeqS, dNext, dDrop, dRet, dRetN, dIfS, dAsg, dAsgC, dgName, dgTup.eq_1, dgTup.eq_2, dgCons.eq_1, dgCons.eq_2, dgNil, dgSub, subK.eq_1, subK.eq_2, dVar, dVarF, dC, dOp, fII.eq_1, fII.eq_2, fIIc.eq_1, fIIc.eq_2, fAdd.eq_1, fAdd.eq_2, fAdd.eq_3, fAdd.eq_4, fAdd.eq_5, fAdd.eq_6, fCmp.eq_1, fCmp.eq_2, fCmp.eq_3, fEqD, fIsN.eq_1, fIsN.eq_2, isNon.eq_1, isNon.eq_2, rdV.eq_1, rdV.eq_2, rdV.eq_3, rdL.eq_1, rdL.eq_2, rdL.eq_3, dB, dAnd, dOr, dNot, dTru, dIf, dAndV, dOrV, dNotV, dChain, dNil, dCons, vals.eq_1, vals.eq_2, vals.eq_3, dTup, dLst, fIx.eq_1, fIx.eq_2, fIx.eq_3, fIx.eq_4, fIx.eq_5, dSl, dPart, dNoPart, dCB, fLen.eq_1, fLen.eq_2, fLen.eq_3, fLen.eq_4, fLen.eq_5, fInt.eq_1, fInt.eq_2, fInt.eq_3, fList.eq_1, fList.eq_2, rdS.eq_1, rdS.eq_2, rdS.eq_3, rdS.eq_4, fTup.eq_1, fTup.eq_2, fOrd.eq_1, fOrd.eq_2, fIsi.eq_1, fIsi.eq_2, tyD.eq_1, tyD.eq_2, tyD.eq_3, tyD.eq_4, tyD.eq_5, tyD.eq_6, tyD.eq_7, kb1, kb2, kb3, kb4, kb5, kb6, kb7, kb8, kb9, kb10, kb11, kb12, kb13, kb14, kb15, kb16, kb17, kb18, kb19, kb20, kb21, kb22, kb23, kb24, dSeq, seqK.eq_1, seqK.eq_2, seqK.eq_3, seqK.eq_4, seqK.eq_5, dRng1, dRng2, dRev, lstK.eq_1, lstK.eq_2, lstK.eq_3, dEnum, dZip, dBM, dBM0, fAppend.eq_1, fAppend.eq_2, fExtend.eq_1, fExtend.eq_2, fExtA.eq_1, fExtA.eq_2, fPop.eq_1, fPop.eq_2, dRevT, dRevL, f2I.eq_1, f2I.eq_2, bK.eq_1, bK.eq_2, truK.eq_1, truK.eq_2, truK.eq_3, truK.eq_4, truK.eq_5, truK.eq_6, truK.eq_7, truL.eq_1, truL.eq_2, dispK.eq_1, dispK.eq_2, ixK.eq_1, ixK.eq_2, ixS.eq_1, ixS.eq_2, ixL.eq_1, ixL.eq_2, partK.eq_1, partK.eq_2, slK.eq_1, slK.eq_2, slK.eq_3, slK.eq_4, slK.eq_5, slL.eq_1, slL.eq_2, lenLK.eq_1, lenLK.eq_2, mkL.eq_1, mkL.eq_2, isiB.eq_1, isiB.eq_2, isiK.eq_1, isiK.eq_2, frzK.eq_1, frzK.eq_2, frzK.eq_3, rng1K.eq_1, rng1K.eq_2, rng2K.eq_1, rng2K.eq_2, lst1K.eq_1, lst1K.eq_2, zipK.eq_1, zipK.eq_2, sub1K.eq_1, sub1K.eq_2, sub2K.eq_1, sub2K.eq_2, appK.eq_1, appK.eq_2, extK.eq_1, extK.eq_2, pop2K.eq_1, pop2K.eq_2, popK.eq_1, popK.eq_2, lstFK.eq_1, lstFK.eq_2, lisFK.eq_1, lisFK.eq_2, lisF2K.eq_1, lisF2K.eq_2, accK.eq_1, accK.eq_2, dVal, revTK.eq_1, revTK.eq_2, callK.eq_1, callK.eq_2, eqK.eq_1, eqK.eq_2, catK.eq_1, catK.eq_2, cellL.eq_1, cellL.eq_2, cellL.eq_3, okDi, okDb, okDn, eqvi, eqvs, dLstF, dListF, dLc, dYes, wipeE.eq_1, wipeE.eq_2, dFor, fin, finD, wOk.eq_1, wOk.eq_2, cellOk.eq_1, cellOk.eq_2, E0D, dCallP, dCallW, putW, firstRef.eq_1, firstRef.eq_2, firstRef.eq_3, shW.eq_1, shW.eq_2, unW.eq_1, unW.eq_2, inW.eq_1, inW.eq_2, shC.eq_1, shC.eq_2, unC.eq_1, unC.eq_2, inC.eq_1, inC.eq_2, dBreak, at0, at1, at2, at3, atI_last, List.getElem?_cons_zero, List.getElem?_cons_succ, List.getElem?_nil, List.set_cons_zero, List.set_cons_succ, List.map_cons, List.map_nil, List.length_cons, List.length_nil, List.replicate_succ, List.replicate_zero, List.cons_append, List.nil_append, List.append_nil, Option.map_some, Option.map_none, Option.isSome_some, if_true, if_false, ite_true, ite_false, Bool.and_true, Bool.true_and, Bool.and_false, Bool.false_and, Bool.or_true, Bool.or_false, Bool.true_or, Bool.false_or, Bool.not_true, Bool.not_false, true_and, and_true, List.take_succ_cons, List.take_zero, List.take_nil, List.drop_zero, List.drop_succ_cons, List.drop_nil, List.all_cons, List.all_nil, List.any_cons, List.any_nil, List.contains_cons, List.elem_nil, Nat.zero_add, Nat.add_zero, Nat.le_refl, Nat.reduceAdd, Nat.reduceSub, Nat.reduceLT, Nat.reduceLeDiff, Nat.sub_self, Nat.sub_zero, Nat.zero_le, decide_true, decide_false, beq_self_eq_true, Bool.false_eq_true, reduceCtorEq, List.isEmpty_cons, List.isEmpty_nil, List.dropLast_concat, dUn, unK.eq_1, unK.eq_2, dFld, fldK.eq_1, fldK.eq_2, fldK.eq_3, fldC.eq_1, fldC.eq_2, fldW.eq_1, fldW.eq_2, dMake, makK.eq_1, makK.eq_2, fld00, fld01, fld02, lenF0, lenF1, lenF2, get_end, set_end, dMethP, dMethW, isOb.eq_1, isOb.eq_2, isOb.eq_3, isObC.eq_1, isObC.eq_2, dSetF, sfK.eq_1, sfK.eq_2, sfC.eq_1, sfC.eq_2, dFz, fzK.eq_1, fzK.eq_2, fzK.eq_3, fzC.eq_1, fzC.eq_2, fzC.eq_3, dMakeRec, recK.eq_1, recK.eq_2, fld10, fld11, dMatch, dMCase.eq_1, dMCase.eq_2, dMNil, fillE.eq_1, fillE.eq_2, dAug, aug0.eq_1, aug0.eq_2, augK.eq_1, augK.eq_2, fIsiO.eq_1, fIsiO.eq_2, dCallPX, dMethWX, dRaise, raiK.eq_1, raiK.eq_2, dPar, parK.eq_1, parK.eq_2, dPar3, parK3.eq_1, parK3.eq_2, shW0, unW0, unC0, shC0, kbl1, kbl2, kbl3, kbl4, kbl5, kbl6, fInS.eq_1, fInS.eq_2, dAugF, afK.eq_1, afK.eq_2, afC.eq_1, afC.eq_2, afW.eq_1, afW.eq_2, dTry, dAct, dMakeRd, rdrK.eq_1, rdrK.eq_2, dLam4, outK, fld20, fld21, fld22, catF.eq_1, catF.eq_2, dCatF, inK.eq_1, inK.eq_2, fInD, get_end1, set_end1, at4, at5, at6, at7, at8, dPutF, pfK.eq_1, pfK.eq_2, pfC.eq_1, pfC.eq_2, dCel, dCallE, dMethE, callKE.eq_1, callKE.eq_2, putWE, unWE.eq_1, unWE.eq_2, unCE.eq_1, unCE.eq_2, upR, dMakeE, mkE, fIsBl.eq_1, fIsBl.eq_2, dZip4, zip4K.eq_1, zip4K.eq_2, sqK.eq_1, sqK.eq_2, sqK.eq_3, sqK.eq_4, dDc, dDcGo.eq_1, dDcGo.eq_2, keyK.eq_1, putKD.eq_1, dSortK, sortK.eq_1, dGet1, getK.eq_1, id])
set_option hygiene false in
local macro_rules | `(tactic| walk_at "s") => `(tactic| simp -implicitDefEqProofs only [dNext, dDrop, dRet, dRetN, dIfS, dAsg, dAsgC, dgName, dgTup.eq_1, dgTup.eq_2, dgCons.eq_1, dgCons.eq_2, dgNil, dgSub, subK.eq_1, subK.eq_2, dVar, dVarF, dC, dOp, fII.eq_1, fII.eq_2, fIIc.eq_1, fIIc.eq_2, fAdd.eq_1, fAdd.eq_2, fAdd.eq_3, fAdd.eq_4, fAdd.eq_5, fAdd.eq_6, fCmp.eq_1, fCmp.eq_2, fCmp.eq_3, fEqD, fIsN.eq_1, fIsN.eq_2, isNon.eq_1, isNon.eq_2, rdV.eq_1, rdV.eq_2, rdV.eq_3, rdL.eq_1, rdL.eq_2, rdL.eq_3, dB, dAnd, dOr, dNot, dTru, dIf, dAndV, dOrV, dNotV, dChain, dNil, dCons, vals.eq_1, vals.eq_2, vals.eq_3, dTup, dLst, fIx.eq_1, fIx.eq_2, fIx.eq_3, fIx.eq_4, fIx.eq_5, dSl, dPart, dNoPart, dCB, fLen.eq_1, fLen.eq_2, fLen.eq_3, fLen.eq_4, fLen.eq_5, fInt.eq_1, fInt.eq_2, fInt.eq_3, fList.eq_1, fList.eq_2, rdS.eq_1, rdS.eq_2, rdS.eq_3, rdS.eq_4, fTup.eq_1, fTup.eq_2, fOrd.eq_1, fOrd.eq_2, fIsi.eq_1, fIsi.eq_2, tyD.eq_1, tyD.eq_2, tyD.eq_3, tyD.eq_4, tyD.eq_5, tyD.eq_6, tyD.eq_7, kb1, kb2, kb3, kb4, kb5, kb6, kb7, kb8, kb9, kb10, kb11, kb12, kb13, kb14, kb15, kb16, kb17, kb18, kb19, kb20, kb21, kb22, kb23, kb24, dSeq, seqK.eq_1, seqK.eq_2, seqK.eq_3, seqK.eq_4, seqK.eq_5, dRng1, dRng2, dRev, lstK.eq_1, lstK.eq_2, lstK.eq_3, dEnum, dZip, dBM, dBM0, fAppend.eq_1, fAppend.eq_2, fExtend.eq_1, fExtend.eq_2, fExtA.eq_1, fExtA.eq_2, fPop.eq_1, fPop.eq_2, dRevT, dRevL, f2I.eq_1, f2I.eq_2, bK.eq_1, bK.eq_2, truK.eq_1, truK.eq_2, truK.eq_3, truK.eq_4, truK.eq_5, truK.eq_6, truK.eq_7, truL.eq_1, truL.eq_2, dispK.eq_1, dispK.eq_2, ixK.eq_1, ixK.eq_2, ixS.eq_1, ixS.eq_2, ixL.eq_1, ixL.eq_2, partK.eq_1, partK.eq_2, slK.eq_1, slK.eq_2, slK.eq_3, slK.eq_4, slK.eq_5, slL.eq_1, slL.eq_2, lenLK.eq_1, lenLK.eq_2, mkL.eq_1, mkL.eq_2, isiB.eq_1, isiB.eq_2, isiK.eq_1, isiK.eq_2, frzK.eq_1, frzK.eq_2, frzK.eq_3, rng1K.eq_1, rng1K.eq_2, rng2K.eq_1, rng2K.eq_2, lst1K.eq_1, lst1K.eq_2, zipK.eq_1, zipK.eq_2, sub1K.eq_1, sub1K.eq_2, sub2K.eq_1, sub2K.eq_2, appK.eq_1, appK.eq_2, extK.eq_1, extK.eq_2, pop2K.eq_1, pop2K.eq_2, popK.eq_1, popK.eq_2, lstFK.eq_1, lstFK.eq_2, lisFK.eq_1, lisFK.eq_2, lisF2K.eq_1, lisF2K.eq_2, accK.eq_1, accK.eq_2, dVal, revTK.eq_1, revTK.eq_2, callK.eq_1, callK.eq_2, eqK.eq_1, eqK.eq_2, catK.eq_1, catK.eq_2, cellL.eq_1, cellL.eq_2, cellL.eq_3, okDi, okDb, okDn, eqvi, eqvs, dLstF, dListF, dLc, dYes, wipeE.eq_1, wipeE.eq_2, dFor, fin, finD, wOk.eq_1, wOk.eq_2, cellOk.eq_1, cellOk.eq_2, E0D, dCallP, dCallW, putW, firstRef.eq_1, firstRef.eq_2, firstRef.eq_3, shW.eq_1, shW.eq_2, unW.eq_1, unW.eq_2, inW.eq_1, inW.eq_2, shC.eq_1, shC.eq_2, unC.eq_1, unC.eq_2, inC.eq_1, inC.eq_2, dBreak, at0, at1, at2, at3, atI_last, List.getElem?_cons_zero, List.getElem?_cons_succ, List.getElem?_nil, List.set_cons_zero, List.set_cons_succ, List.map_cons, List.map_nil, List.length_cons, List.length_nil, List.replicate_succ, List.replicate_zero, List.cons_append, List.nil_append, List.append_nil, Option.map_some, Option.map_none, Option.isSome_some, if_true, if_false, ite_true, ite_false, Bool.and_true, Bool.true_and, Bool.and_false, Bool.false_and, Bool.or_true, Bool.or_false, Bool.true_or, Bool.false_or, Bool.not_true, Bool.not_false, true_and, and_true, List.take_succ_cons, List.take_zero, List.take_nil, List.drop_zero, List.drop_succ_cons, List.drop_nil, List.all_cons, List.all_nil, List.any_cons, List.any_nil, List.contains_cons, List.elem_nil, Nat.zero_add, Nat.add_zero, Nat.le_refl, Nat.reduceAdd, Nat.reduceSub, Nat.reduceLT, Nat.reduceLeDiff, Nat.sub_self, Nat.sub_zero, Nat.zero_le, decide_true, decide_false, beq_self_eq_true, Bool.false_eq_true, reduceCtorEq, List.isEmpty_cons, List.isEmpty_nil, List.dropLast_concat, dUn, unK.eq_1, unK.eq_2, dFld, fldK.eq_1, fldK.eq_2, fldK.eq_3, fldC.eq_1, fldC.eq_2, fldW.eq_1, fldW.eq_2, dMake, makK.eq_1, makK.eq_2, fld00, fld01, fld02, lenF0, lenF1, lenF2, get_end, set_end, dMethP, dMethW, isOb.eq_1, isOb.eq_2, isOb.eq_3, isObC.eq_1, isObC.eq_2, dSetF, sfK.eq_1, sfK.eq_2, sfC.eq_1, sfC.eq_2, dFz, fzK.eq_1, fzK.eq_2, fzK.eq_3, fzC.eq_1, fzC.eq_2, fzC.eq_3, dMakeRec, recK.eq_1, recK.eq_2, fld10, fld11, dMatch, dMCase.eq_1, dMCase.eq_2, dMNil, fillE.eq_1, fillE.eq_2, dAug, aug0.eq_1, aug0.eq_2, augK.eq_1, augK.eq_2, fIsiO.eq_1, fIsiO.eq_2, dCallPX, dMethWX, dRaise, raiK.eq_1, raiK.eq_2, dPar, parK.eq_1, parK.eq_2, dPar3, parK3.eq_1, parK3.eq_2, shW0, unW0, unC0, shC0, kbl1, kbl2, kbl3, kbl4, kbl5, kbl6, fInS.eq_1, fInS.eq_2, dAugF, afK.eq_1, afK.eq_2, afC.eq_1, afC.eq_2, afW.eq_1, afW.eq_2, dTry, dAct, dMakeRd, rdrK.eq_1, rdrK.eq_2, dLam4, outK, fld20, fld21, fld22, catF.eq_1, catF.eq_2, dCatF, inK.eq_1, inK.eq_2, fInD, get_end1, set_end1, at4, at5, at6, at7, at8, dPutF, pfK.eq_1, pfK.eq_2, pfC.eq_1, pfC.eq_2, dCel, dCallE, dMethE, callKE.eq_1, callKE.eq_2, putWE, unWE.eq_1, unWE.eq_2, unCE.eq_1, unCE.eq_2, upR, dMakeE, mkE, fIsBl.eq_1, fIsBl.eq_2, dZip4, zip4K.eq_1, zip4K.eq_2, sqK.eq_1, sqK.eq_2, sqK.eq_3, sqK.eq_4, dDc, dDcGo.eq_1, dDcGo.eq_2, keyK.eq_1, putKD.eq_1, dSortK, sortK.eq_1, dGet1, getK.eq_1, id])
set_option hygiene false in
local macro_rules | `(tactic| walk_at "o") => `(tactic| simp -implicitDefEqProofs only [dSeqS, dNext, dDrop, dRet, dRetN, dIfS, dAsg, dAsgC, dgName, dgTup.eq_1, dgTup.eq_2, dgCons.eq_1, dgCons.eq_2, dgNil, dgSub, subK.eq_1, subK.eq_2, dVar, dVarF, dC, dOp, fII.eq_1, fII.eq_2, fIIc.eq_1, fIIc.eq_2, fAdd.eq_1, fAdd.eq_2, fAdd.eq_3, fAdd.eq_4, fAdd.eq_5, fAdd.eq_6, fCmp.eq_1, fCmp.eq_2, fCmp.eq_3, fEqD, fIsN.eq_1, fIsN.eq_2, isNon.eq_1, isNon.eq_2, rdV.eq_1, rdV.eq_2, rdV.eq_3, rdL.eq_1, rdL.eq_2, rdL.eq_3, dB, dAnd, dOr, dNot, dTru, dIf, dAndV, dOrV, dNotV, dChain, dNil, dCons, vals.eq_1, vals.eq_2, vals.eq_3, dTup, dLst, fIx.eq_1, fIx.eq_2, fIx.eq_3, fIx.eq_4, fIx.eq_5, dSl, dPart, dNoPart, dCB, fLen.eq_1, fLen.eq_2, fLen.eq_3, fLen.eq_4, fLen.eq_5, fInt.eq_1, fInt.eq_2, fInt.eq_3, fList.eq_1, fList.eq_2, rdS.eq_1, rdS.eq_2, rdS.eq_3, rdS.eq_4, fTup.eq_1, fTup.eq_2, fOrd.eq_1, fOrd.eq_2, fIsi.eq_1, fIsi.eq_2, tyD.eq_1, tyD.eq_2, tyD.eq_3, tyD.eq_4, tyD.eq_5, tyD.eq_6, tyD.eq_7, kb1, kb2, kb3, kb4, kb5, kb6, kb7, kb8, kb9, kb10, kb11, kb12, kb13, kb14, kb15, kb16, kb17, kb18, kb19, kb20, kb21, kb22, kb23, kb24, dSeq, seqK.eq_1, seqK.eq_2, seqK.eq_3, seqK.eq_4, seqK.eq_5, dRng1, dRng2, dRev, lstK.eq_1, lstK.eq_2, lstK.eq_3, dEnum, dZip, dBM, dBM0, fAppend.eq_1, fAppend.eq_2, fExtend.eq_1, fExtend.eq_2, fExtA.eq_1, fExtA.eq_2, fPop.eq_1, fPop.eq_2, dRevT, dRevL, f2I.eq_1, f2I.eq_2, bK.eq_1, bK.eq_2, truK.eq_1, truK.eq_2, truK.eq_3, truK.eq_4, truK.eq_5, truK.eq_6, truK.eq_7, truL.eq_1, truL.eq_2, dispK.eq_1, dispK.eq_2, ixK.eq_1, ixK.eq_2, ixS.eq_1, ixS.eq_2, ixL.eq_1, ixL.eq_2, partK.eq_1, partK.eq_2, slK.eq_1, slK.eq_2, slK.eq_3, slK.eq_4, slK.eq_5, slL.eq_1, slL.eq_2, lenLK.eq_1, lenLK.eq_2, mkL.eq_1, mkL.eq_2, isiB.eq_1, isiB.eq_2, isiK.eq_1, isiK.eq_2, frzK.eq_1, frzK.eq_2, frzK.eq_3, rng1K.eq_1, rng1K.eq_2, rng2K.eq_1, rng2K.eq_2, lst1K.eq_1, lst1K.eq_2, zipK.eq_1, zipK.eq_2, sub1K.eq_1, sub1K.eq_2, sub2K.eq_1, sub2K.eq_2, appK.eq_1, appK.eq_2, extK.eq_1, extK.eq_2, pop2K.eq_1, pop2K.eq_2, popK.eq_1, popK.eq_2, lstFK.eq_1, lstFK.eq_2, lisFK.eq_1, lisFK.eq_2, lisF2K.eq_1, lisF2K.eq_2, accK.eq_1, accK.eq_2, dVal, revTK.eq_1, revTK.eq_2, callK.eq_1, callK.eq_2, eqK.eq_1, eqK.eq_2, catK.eq_1, catK.eq_2, cellL.eq_1, cellL.eq_2, cellL.eq_3, okDi, okDb, okDn, eqvi, eqvs, dLstF, dListF, dLc, dYes, wipeE.eq_1, wipeE.eq_2, dFor, fin, finD, wOk.eq_1, wOk.eq_2, cellOk.eq_1, cellOk.eq_2, E0D, dCallP, dCallW, putW, firstRef.eq_1, firstRef.eq_2, firstRef.eq_3, shW.eq_1, shW.eq_2, unW.eq_1, unW.eq_2, inW.eq_1, inW.eq_2, shC.eq_1, shC.eq_2, unC.eq_1, unC.eq_2, inC.eq_1, inC.eq_2, dBreak, at0, at1, at2, at3, atI_last, List.getElem?_cons_zero, List.getElem?_cons_succ, List.getElem?_nil, List.set_cons_zero, List.set_cons_succ, List.map_cons, List.map_nil, List.length_cons, List.length_nil, List.replicate_succ, List.replicate_zero, List.cons_append, List.nil_append, List.append_nil, Option.map_some, Option.map_none, Option.isSome_some, if_true, if_false, ite_true, ite_false, Bool.and_true, Bool.true_and, Bool.and_false, Bool.false_and, Bool.or_true, Bool.or_false, Bool.true_or, Bool.false_or, Bool.not_true, Bool.not_false, true_and, and_true, List.take_succ_cons, List.take_zero, List.take_nil, List.drop_zero, List.drop_succ_cons, List.drop_nil, List.all_cons, List.all_nil, List.any_cons, List.any_nil, List.contains_cons, List.elem_nil, Nat.zero_add, Nat.add_zero, Nat.le_refl, Nat.reduceAdd, Nat.reduceSub, Nat.reduceLT, Nat.reduceLeDiff, Nat.sub_self, Nat.sub_zero, Nat.zero_le, decide_true, decide_false, beq_self_eq_true, Bool.false_eq_true, reduceCtorEq, List.isEmpty_cons, List.isEmpty_nil, List.dropLast_concat, dUn, unK.eq_1, unK.eq_2, dFld, fldK.eq_1, fldK.eq_2, fldK.eq_3, fldC.eq_1, fldC.eq_2, fldW.eq_1, fldW.eq_2, dMake, makK.eq_1, makK.eq_2, fld00, fld01, fld02, lenF0, lenF1, lenF2, get_end, set_end, dMethP, dMethW, isOb.eq_1, isOb.eq_2, isOb.eq_3, isObC.eq_1, isObC.eq_2, dSetF, sfK.eq_1, sfK.eq_2, sfC.eq_1, sfC.eq_2, dFz, fzK.eq_1, fzK.eq_2, fzK.eq_3, fzC.eq_1, fzC.eq_2, fzC.eq_3, dMakeRec, recK.eq_1, recK.eq_2, fld10, fld11, dMatch, dMCase.eq_1, dMCase.eq_2, dMNil, fillE.eq_1, fillE.eq_2, dAug, aug0.eq_1, aug0.eq_2, augK.eq_1, augK.eq_2, fIsiO.eq_1, fIsiO.eq_2, dCallPX, dMethWX, dRaise, raiK.eq_1, raiK.eq_2, dPar, parK.eq_1, parK.eq_2, dPar3, parK3.eq_1, parK3.eq_2, shW0, unW0, unC0, shC0, kbl1, kbl2, kbl3, kbl4, kbl5, kbl6, fInS.eq_1, fInS.eq_2, dAugF, afK.eq_1, afK.eq_2, afC.eq_1, afC.eq_2, afW.eq_1, afW.eq_2, dTry, dAct, dMakeRd, rdrK.eq_1, rdrK.eq_2, dLam4, outK, fld20, fld21, fld22, catF.eq_1, catF.eq_2, dCatF, inK.eq_1, inK.eq_2, fInD, get_end1, set_end1, at4, at5, at6, at7, at8, dPutF, pfK.eq_1, pfK.eq_2, pfC.eq_1, pfC.eq_2, dCel, dCallE, dMethE, callKE.eq_1, callKE.eq_2, putWE, unWE.eq_1, unWE.eq_2, unCE.eq_1, unCE.eq_2, upR, dMakeE, mkE, fIsBl.eq_1, fIsBl.eq_2, dZip4, zip4K.eq_1, zip4K.eq_2, sqK.eq_1, sqK.eq_2, sqK.eq_3, sqK.eq_4, finX, opC, rfD_eq, Opn.win, Opn.ain, Opn.wok, Opn.aok, Opn.rule, isOb_part, no_isE, no_ent, Opn.noO, fld_link, fld_root, fld_open, ix_link0, ix_link1, ix_link2, isi_part, rootD, PT.op, not_false_eq_true, nonE_concat, last_get, dl_concat, shC0', unW0', unC0', dDc, dDcGo.eq_1, dDcGo.eq_2, keyK.eq_1, putKD.eq_1, dSortK, sortK.eq_1, dGet1, getK.eq_1, id])
set_option hygiene false in
local macro_rules | `(tactic| walk_at "t") => `(tactic| simp -implicitDefEqProofs only [dNext, dDrop, dRet, dRetN, dIfS, dAsg, dAsgC, dgName, dgTup.eq_1, dgTup.eq_2, dgCons.eq_1, dgCons.eq_2, dgNil, dgSub, subK.eq_1, subK.eq_2, dVar, dVarF, dC, dOp, fII.eq_1, fII.eq_2, fIIc.eq_1, fIIc.eq_2, fAdd.eq_1, fAdd.eq_2, fAdd.eq_3, fAdd.eq_4, fAdd.eq_5, fAdd.eq_6, fCmp.eq_1, fCmp.eq_2, fCmp.eq_3, fEqD, fIsN.eq_1, fIsN.eq_2, isNon.eq_1, isNon.eq_2, rdV.eq_1, rdV.eq_2, rdV.eq_3, rdL.eq_1, rdL.eq_2, rdL.eq_3, dB, dAnd, dOr, dNot, dTru, dIf, dAndV, dOrV, dNotV, dChain, dNil, dCons, vals.eq_1, vals.eq_2, vals.eq_3, dTup, dLst, fIx.eq_1, fIx.eq_2, fIx.eq_3, fIx.eq_4, fIx.eq_5, dSl, dPart, dNoPart, dCB, fLen.eq_1, fLen.eq_2, fLen.eq_3, fLen.eq_4, fLen.eq_5, fInt.eq_1, fInt.eq_2, fInt.eq_3, fList.eq_1, fList.eq_2, rdS.eq_1, rdS.eq_2, rdS.eq_3, rdS.eq_4, fTup.eq_1, fTup.eq_2, fOrd.eq_1, fOrd.eq_2, fIsi.eq_1, fIsi.eq_2, tyD.eq_1, tyD.eq_2, tyD.eq_3, tyD.eq_4, tyD.eq_5, tyD.eq_6, tyD.eq_7, kb1, kb2, kb3, kb4, kb5, kb6, kb7, kb8, kb9, kb10, kb11, kb12, kb13, kb14, kb15, kb16, kb17, kb18, kb19, kb20, kb21, kb22, kb23, kb24, dSeq, seqK.eq_1, seqK.eq_2, seqK.eq_3, seqK.eq_4, seqK.eq_5, dRng1, dRng2, dRev, lstK.eq_1, lstK.eq_2, lstK.eq_3, dEnum, dZip, dBM, dBM0, fAppend.eq_1, fAppend.eq_2, fExtend.eq_1, fExtend.eq_2, fExtA.eq_1, fExtA.eq_2, fPop.eq_1, fPop.eq_2, dRevT, dRevL, f2I.eq_1, f2I.eq_2, bK.eq_1, bK.eq_2, truK.eq_1, truK.eq_2, truK.eq_3, truK.eq_4, truK.eq_5, truK.eq_6, truK.eq_7, truL.eq_1, truL.eq_2, dispK.eq_1, dispK.eq_2, ixK.eq_1, ixK.eq_2, ixS.eq_1, ixS.eq_2, ixL.eq_1, ixL.eq_2, partK.eq_1, partK.eq_2, slK.eq_1, slK.eq_2, slK.eq_3, slK.eq_4, slK.eq_5, slL.eq_1, slL.eq_2, lenLK.eq_1, lenLK.eq_2, mkL.eq_1, mkL.eq_2, isiB.eq_1, isiB.eq_2, isiK.eq_1, isiK.eq_2, frzK.eq_1, frzK.eq_2, frzK.eq_3, rng1K.eq_1, rng1K.eq_2, rng2K.eq_1, rng2K.eq_2, lst1K.eq_1, lst1K.eq_2, zipK.eq_1, zipK.eq_2, sub1K.eq_1, sub1K.eq_2, sub2K.eq_1, sub2K.eq_2, appK.eq_1, appK.eq_2, extK.eq_1, extK.eq_2, pop2K.eq_1, pop2K.eq_2, popK.eq_1, popK.eq_2, lstFK.eq_1, lstFK.eq_2, lisFK.eq_1, lisFK.eq_2, lisF2K.eq_1, lisF2K.eq_2, accK.eq_1, accK.eq_2, dVal, revTK.eq_1, revTK.eq_2, callK.eq_1, callK.eq_2, eqK.eq_1, eqK.eq_2, catK.eq_1, catK.eq_2, cellL.eq_1, cellL.eq_2, cellL.eq_3, okDi, okDb, okDn, eqvi, eqvs, dLstF, dListF, dLc, dYes, wipeE.eq_1, wipeE.eq_2, dFor, fin, finD, wOk.eq_1, wOk.eq_2, cellOk.eq_1, cellOk.eq_2, E0D, dCallP, dCallW, putW, firstRef.eq_1, firstRef.eq_2, firstRef.eq_3, shW.eq_1, shW.eq_2, unW.eq_1, unW.eq_2, inW.eq_1, inW.eq_2, shC.eq_1, shC.eq_2, unC.eq_1, unC.eq_2, inC.eq_1, inC.eq_2, dBreak, at0, at1, at2, at3, atI_last, List.getElem?_cons_zero, List.getElem?_cons_succ, List.getElem?_nil, List.set_cons_zero, List.set_cons_succ, List.map_cons, List.map_nil, List.length_cons, List.length_nil, List.replicate_succ, List.replicate_zero, List.cons_append, List.nil_append, List.append_nil, Option.map_some, Option.map_none, Option.isSome_some, if_true, if_false, ite_true, ite_false, Bool.and_true, Bool.true_and, Bool.and_false, Bool.false_and, Bool.or_true, Bool.or_false, Bool.true_or, Bool.false_or, Bool.not_true, Bool.not_false, true_and, and_true, List.take_succ_cons, List.take_zero, List.take_nil, List.drop_zero, List.drop_succ_cons, List.drop_nil, List.all_cons, List.all_nil, List.any_cons, List.any_nil, List.contains_cons, List.elem_nil, Nat.zero_add, Nat.add_zero, Nat.le_refl, Nat.reduceAdd, Nat.reduceSub, Nat.reduceLT, Nat.reduceLeDiff, Nat.sub_self, Nat.sub_zero, Nat.zero_le, decide_true, decide_false, beq_self_eq_true, Bool.false_eq_true, reduceCtorEq, List.isEmpty_cons, List.isEmpty_nil, List.dropLast_concat, dUn, unK.eq_1, unK.eq_2, dFld, fldK.eq_1, fldK.eq_2, fldK.eq_3, fldC.eq_1, fldC.eq_2, fldW.eq_1, fldW.eq_2, dMake, makK.eq_1, makK.eq_2, fld00, fld01, fld02, lenF0, lenF1, lenF2, get_end, set_end, dMethP, dMethW, isOb.eq_1, isOb.eq_2, isOb.eq_3, isObC.eq_1, isObC.eq_2, dSetF, sfK.eq_1, sfK.eq_2, sfC.eq_1, sfC.eq_2, dFz, fzK.eq_1, fzK.eq_2, fzK.eq_3, fzC.eq_1, fzC.eq_2, fzC.eq_3, dMakeRec, recK.eq_1, recK.eq_2, fld10, fld11, dMatch, dMCase.eq_1, dMCase.eq_2, dMNil, fillE.eq_1, fillE.eq_2, dAug, aug0.eq_1, aug0.eq_2, augK.eq_1, augK.eq_2, fIsiO.eq_1, fIsiO.eq_2, dCallPX, dMethWX, dRaise, raiK.eq_1, raiK.eq_2, dPar, parK.eq_1, parK.eq_2, dPar3, parK3.eq_1, parK3.eq_2, shW0, unW0, unC0, shC0, kbl1, kbl2, kbl3, kbl4, kbl5, kbl6, fInS.eq_1, fInS.eq_2, dAugF, afK.eq_1, afK.eq_2, afC.eq_1, afC.eq_2, afW.eq_1, afW.eq_2, dTry, dAct, dMakeRd, rdrK.eq_1, rdrK.eq_2, dLam4, outK, fld20, fld21, fld22, catF.eq_1, catF.eq_2, dCatF, inK.eq_1, inK.eq_2, fInD, get_end1, set_end1, at4, at5, at6, at7, at8, dPutF, pfK.eq_1, pfK.eq_2, pfC.eq_1, pfC.eq_2, dCel, dCallE, dMethE, callKE.eq_1, callKE.eq_2, putWE, unWE.eq_1, unWE.eq_2, unCE.eq_1, unCE.eq_2, upR, dMakeE, mkE, fIsBl.eq_1, fIsBl.eq_2, dZip4, zip4K.eq_1, zip4K.eq_2, sqK.eq_1, sqK.eq_2, sqK.eq_3, sqK.eq_4, finX, opC, rfD_eq, Opn.win, Opn.ain, Opn.wok, Opn.aok, Opn.rule, isOb_part, no_isE, no_ent, Opn.noO, fld_link, fld_root, fld_open, ix_link0, ix_link1, ix_link2, isi_part, rootD, PT.op, not_false_eq_true, nonE_concat, last_get, dl_concat, shC0', unW0', unC0', dDc, dDcGo.eq_1, dDcGo.eq_2, keyK.eq_1, putKD.eq_1, dSortK, sortK.eq_1, dGet1, getK.eq_1, id])
set_option hygiene false in
local macro_rules | `(tactic| walk_at "z") => `(tactic| repeat (first | refine ⟨by decide, ?_⟩ | refine ⟨bigL (by ((try simp only [List.length_append, List.length_cons, List.length_nil, List.length_map, List.length_reverse]); omega)), ?_⟩ | refine ⟨big2 (by ((try simp only [List.length_append, List.length_cons, List.length_nil, List.length_map, List.length_reverse]); omega)), ?_⟩))
set_option hygiene false in
local macro_rules | `(tactic| walk_at "y") => `(tactic| repeat (first | refine ⟨by decide +kernel, by decide +kernel, ?_⟩ | refine ⟨by decide +kernel, ?_⟩ | rw [if_neg (by decide +kernel)] | rw [if_pos (by decide +kernel)] | walk_at "t" | refine dSeq_go ?_))
/-! ### parting -/
abbrev sPParting : Stmt := topS 1
theorem scPParting : FnScope ["first", "second", "sealed", "own", "found"] ["first", "second"] (defScope sPParting) := ⟨rfl, rfl, rfl, by decide +kernel, rfl, by decide +kernel, by decide +kernel⟩
/-- a sealed version: its number, its version -/
def SvOk (d : D) : Prop := ∃ (n : Int) (vs : List D) (s : D), d = .tuple [.tuple (.int n :: vs), s] ∧ okD (.tuple (.int n :: vs))
def verOf : D → D
  | .tuple (v :: _) => v
  | _ => .none
def isNonD : D → Bool
  | .none => true
  | _ => false
def partGo (own : List D) : List D → D
  | [] => .none
  | d :: ds => if (isNonD (getD2 own ((k00D d).getD 0)) || PyData.eqv (verOf (getD2 own ((k00D d).getD 0))) (verOf d)) = true then partGo own ds else .tuple [getD2 own ((k00D d).getD 0), d]
def ownOf (xs : List D) : List D := xs.foldl putD []
def pPParting : DSp := fun ws C Q _ => ∃ xs ys : List D, ws = [.val (.list xs), .val (.list ys)] ∧ (∀ d ∈ xs, SvOk d) ∧ (∀ d ∈ ys, SvOk d) ∧ xs.length ≤ 100000 ∧ ys.length ≤ 100000 ∧ Q (.val (partGo (ownOf xs) (sortD ys))) C
theorem putD_mem {acc : List D} {d : D} {P : D → Prop} (h : ∀ e ∈ acc, P e) (k : P d) : ∀ e ∈ putD acc d, P e := fun e he => by
  unfold putD at he
  split at he
  · obtain ⟨x, hx, rfl⟩ := List.mem_map.mp he
    split
    · exact k
    · exact h x hx
  · rcases List.mem_append.mp he with he | he
    · exact h e he
    · rw [List.mem_singleton.mp he]
      exact k
theorem putD_len (acc : List D) (d : D) : (putD acc d).length ≤ acc.length + 1 := by
  unfold putD
  split
  · rw [List.length_map]
    omega
  · rw [List.length_append]
    exact Nat.le_refl _
theorem own_mem : ∀ (xs acc : List D) {P : D → Prop}, (∀ e ∈ acc, P e) → (∀ e ∈ xs, P e) → ∀ e ∈ xs.foldl putD acc, P e
  | [], acc, P, h, k => h
  | x :: xs, acc, P, h, k => own_mem xs (putD acc x) (putD_mem h (k x List.mem_cons_self)) fun e he => k e (List.mem_cons_of_mem _ he)
theorem getD2_mem (own : List D) (n : Int) : getD2 own n = .none ∨ getD2 own n ∈ own := by
  unfold getD2
  cases h : own.find? fun e => decide (keyOf e = Sum.inl n) with
  | none => exact .inl rfl
  | some e => exact .inr (List.mem_of_find?_eq_some h)
theorem prt_dc {a b : W} {Q : List D → List Cell → Prop} : ∀ (xs acc : List D), (∀ x ∈ xs, SvOk x) → acc.length + xs.length ≤ 100000 → Q (xs.foldl putD acc) [] → dDcGo (dgName 2) dYes (dOp fIx (dOp fIx (dVar 2) (dC (PyData.int 0))) (dC (PyData.int 0))) (dVar 2) [some a, some b, none, none, none] xs acc [] Q
  | [], acc, _, _, q => q
  | x :: xs, acc, h, l, q => by
    obtain ⟨n, vs, s, rfl, k⟩ := h x List.mem_cons_self
    have l2 := putD_len acc (.tuple [.tuple (.int n :: vs), s])
    rw [List.length_cons] at l
    walk_at "d"
    refine ⟨Nat.lt_of_lt_of_le (show acc.length < 100001 by omega) (by decide), rfl, prt_dc xs _ (fun e he => h e (List.mem_cons_of_mem _ he)) (by omega) q⟩
theorem prt_for {a b : W} {own : List D} (ho : ∀ e ∈ own, SvOk e) {Q : DK} {D0 : DEnds} (hrt : D0.rt = fin 0 Q) (hnx : ∀ E, Q (.val .none) [] → D0.nx E []) : ∀ (ds : List D) (v2 v4 : Option W), (∀ d ∈ ds, SvOk d) → Q (.val (partGo own ds)) [] →
    dForGo (dgName 2) (dSeqS (dAsg (dGet1 (dVar 3) (dOp fIx (dOp fIx (dVar 2) (dC (PyData.int 0))) (dC (PyData.int 0)))) (dgName 4))
      (dIfS (dAnd (dB (dOp (fIsN not) (dVar 4) (dC PyData.none))) (dB (dOp (fEqD not) (dOp fIx (dVar 4) (dC (PyData.int 0))) (dOp fIx (dVar 2) (dC (PyData.int 0)))))) (dRet (dTup (dCons (dVar 4) (dCons (dVar 2) dNil)))) dNext)) D0 ds [some a, some b, v2, some (.dct own), v4] []
  | [], _, _, _, q => hnx _ q
  | d :: ds, v2, v4, h, q => by
    obtain ⟨n, vs, s, rfl, k⟩ := h d List.mem_cons_self
    have hd : (k00D (.tuple [.tuple (.int n :: vs), s])).getD 0 = n := rfl
    unfold partGo at q
    rw [hd] at q
    have ih := prt_for (a := a) (b := b) ho hrt hnx ds
    unfold dForGo
    walk_at "d"
    rcases getD2_mem own n with e | e
    · rw [e] at q ⊢
      walk_at "d"
      exact ih _ _ (fun e he => h e (List.mem_cons_of_mem _ he)) q
    · obtain ⟨n2, vs2, s2, e2, k2⟩ := ho _ e
      rw [e2] at q ⊢
      walk_at "d"
      refine ⟨k2, k, ?_⟩
      simp only [isNonD, verOf, Bool.false_or] at q
      by_cases hb : (PyData.tuple (PyData.int n2 :: vs2)).eqv (PyData.tuple (PyData.int n :: vs)) = true
      · rw [if_pos hb] at q
        rw [if_neg (by rw [hb]; exact fun z => nomatch z)]
        exact ih _ _ (fun e he => h e (List.mem_cons_of_mem _ he)) q
      · rw [if_neg hb] at q
        rw [if_pos (by rw [Bool.not_eq_true] at hb; rw [hb]; rfl), hrt]
        exact ⟨by decide, by walk_at "d"; exact q⟩
section
variable {P : Program} {w : World} {K : PySem.W.Frag} {mg : Str → Option Value} {base : Heap} {ct : Ct}
theorem ok_PParting [CtOk K ct] {c PT : Addr} [LamT ct PT (lamQ "parting")] (D : Def K mg "parting" sPParting ["first", "second"]) (hc : D.fd.code = .ref c) (TB : LamX.TabB base mg c PT) (m_sorted : mg "sorted" = none)
    : FnOk P w K mg base CX0 6 D.f D.fd ["first", "second"] (spD ct 0 2 pPParting) := by
  haveI : LamAny ct PT := ⟨_, LamT.mem (ct := ct) (P := PT) (q := lamQ "parting")⟩
  refine RR.Fun.okC D.F scPParting (fun vs H Q E h => spD_len h) (fun cdv A outer s H vs Q E hcd hr h => ⟨_, (pss_cons (ps_setDc (i := 3) (own := [("sealed", 2)]) (g := (gName 2)) (by rfl) scPParting.nd rfl rfl (sw_trueD rfl rfl rfl (by decide +kernel)) (pi_seqA (pv 0))
        (blkOk_by (own := [("sealed", 2)]) (N := ["first", "second", "sealed", "own", "found"]) (sc := defScope sPParting) (by decide +kernel))
        (fun _ _ _ _ _ => (pg_name (i := 2) scPParting.nd rfl (Or.inl rfl))) (fun _ _ _ _ _ => pts_nil) (fun _ _ _ _ _ => (pe_ix (ix_seqC (K := K) rfl) (pe_ix (ix_seqC (K := K) rfl) (pv 2) pe_int (fun _ _ => rfl)) pe_int (fun _ _ => rfl))) (fun _ _ _ _ _ => (pv 2))) <|
    pss_cons (ps_for PassesOwn.never rfl (pi_seqA (pe_sortK (T := ct.cl.T) (P := PT) (k := 1) (by rfl) m_sorted (pv 1) TB (hcd.symm.trans hc) (LamT.mem (ct := ct) (P := PT) (q := lamQ "parting")) (LamT.one (ct := ct) (P := PT) (q := lamQ "parting")) (hr.mono (by omega)) (lamS1_by (by rfl)) (show ("one" : Str) ∉ (["first", "second", "sealed", "own", "found"] : List Str) by decide) rfl (fun _ _ _ _ _ _ => rfl))) (pg_name (i := 2) scPParting.nd rfl (Or.inl rfl))
      (pss_cons (ps_set (i := 4) scPParting.nd rfl (.inl rfl) (pe_dget1 (hu1 hr) (pv 3) (pe_ix ix_seq (pe_ix ix_seq (pv 2) pe_int (fun _ _ => rfl)) pe_int (fun _ _ => rfl)) ⟨rfl, rfl, rfl, rfl⟩)) <|
        pss_one (ps_if (PW.pt (pw_and (pt_cmpR op_notNA (pv 4) pe_non (nomark _)) (pw_and1 (pt_cmpR (op_neD hr.units) (pe_ix ix_seq (pv 4) pe_int (fun _ _ => rfl)) (pe_ix ix_seq (pv 2) pe_int (fun _ _ => rfl)) (nomark _)))))
          (pss_one (ps_ret (pe_tup (pa_cons (pv 4) (pa_cons (pv 2) pa_nil))))) pss_nil))) <|
    pss_one (ps_ret pe_non)), body_ok _ (fun R => inferInstance) (by decide) (fun ws C Q R hw hC hP => ?_) h⟩)
  obtain rfl := List.eq_nil_of_length_eq_zero hC
  obtain ⟨xs, ys, rfl, hx, hy, lx, ly, q⟩ := hP
  refine ⟨rfl, ?_⟩
  walk_at "d"
  refine prt_dc xs [] hx (by rw [List.length_nil]; omega) ⟨rfl, fun d hd => ?_, ?_⟩
  · obtain ⟨n, vs, s, rfl, _⟩ := hy d hd
    exact ⟨n, rfl⟩
  · refine prt_for (own_mem xs [] (fun e he => (List.not_mem_nil he).elim) hx) rfl (fun E h => by walk_at "d"; exact h) (sortD ys) _ _ (fun d hd => hy d (List.mem_mergeSort.mp hd)) q
end

/-! ### what parting finds, over sealed versions -/
def dueF (xs ys : List SV) (n : Int) : Option (SV × SV) := match xs.find? (fun s => decide (s.1.n = n)), ys.find? (fun s => decide (s.1.n = n)) with
  | some a, some c => if a.1 = c.1 then none else some (a, c)
  | _, _ => none
def dueN (h : Int → Option (SV × SV)) : Nat → Option (SV × SV)
  | 0 => none
  | k + 1 => (dueN h k).or (h (k : Int))
def dueL (h : Int → Option (SV × SV)) (lo : Int) : Nat → Option (SV × SV)
  | 0 => none
  | k + 1 => (h lo).or (dueL h (lo + 1) k)
def dueD : Option (SV × SV) → PyData
  | some (a, c) => .tuple [svD a, svD c]
  | none => .none
theorem due_five (h : Int → Option (SV × SV)) : dueL h 0 5 = dueN h 5 := by
  show (h 0).or ((h (0 + 1)).or ((h (0 + 1 + 1)).or ((h (0 + 1 + 1 + 1)).or ((h (0 + 1 + 1 + 1 + 1)).or none)))) = (((((none : Option (SV × SV)).or (h ((0 : Nat) : Int))).or (h ((1 : Nat) : Int))).or (h ((2 : Nat) : Int))).or (h ((3 : Nat) : Int))).or (h ((4 : Nat) : Int))
  simp [Option.or_assoc]
/-- over a list that ascends, a place that is not in it adds nothing -/
theorem due_sorted (h : Int → Option (SV × SV)) : ∀ (k : Nat) (lo : Int) (L : List Int), L.Pairwise (· < ·) → (∀ x ∈ L, lo ≤ x ∧ x < lo + k) → (∀ x : Int, lo ≤ x → x ∉ L → h x = none) → L.findSome? h = dueL h lo k
  | 0, lo, L, hp, hb, hn => by
    cases L with
    | nil => rfl
    | cons x L =>
      have := hb x List.mem_cons_self
      omega
  | k + 1, lo, [], hp, hb, hn => by
    show none = (h lo).or (dueL h (lo + 1) k)
    rw [hn lo (Int.le_refl _) List.not_mem_nil, ← due_sorted h k (lo + 1) [] .nil (fun x hx => (List.not_mem_nil hx).elim) fun x hx _ => hn x (by omega) List.not_mem_nil]
    rfl
  | k + 1, lo, x :: L, hp, hb, hn => by
    obtain ⟨h1, h2⟩ := List.pairwise_cons.mp hp
    have hx := hb x List.mem_cons_self
    show _ = (h lo).or (dueL h (lo + 1) k)
    by_cases e : x = lo
    · subst e
      rw [List.findSome?_cons, ← due_sorted h k (x + 1) L h2 (fun y hy => by
        have a := h1 y hy
        have c := (hb y (List.mem_cons_of_mem _ hy)).2
        omega) fun y hy hm => hn y (by omega) fun z => by
          rcases List.mem_cons.mp z with z | z
          · omega
          · exact hm z]
      cases h x <;> rfl
    · have nl : lo ∉ x :: L := fun z => by
        rcases List.mem_cons.mp z with z | z
        · exact e z.symm
        · have := h1 lo z
          omega
      rw [hn lo (Int.le_refl _) nl, Option.none_or]
      exact due_sorted h k (lo + 1) (x :: L) hp (fun y hy => by
        have c := (hb y hy).2
        rcases List.mem_cons.mp hy with z | z
        · omega
        · have := h1 y z
          omega) fun y hy hm => hn y (by omega) hm
theorem key_sv (s : SV) : keyOf (svD s) = Sum.inl s.1.n := rfl
theorem k00_sv (s : SV) : (k00D (svD s)).getD 0 = s.1.n := rfl
theorem own_nd : ∀ (xs acc : List SV), ((acc ++ xs).map fun s => s.1.n).Nodup → (xs.map svD).foldl putD (acc.map svD) = (acc ++ xs).map svD
  | [], acc, _ => by rw [List.append_nil]; rfl
  | x :: xs, acc, h => by
    have h2 : ((acc ++ [x] ++ xs).map fun s => s.1.n).Nodup := by rw [List.append_assoc]; exact h
    rw [List.map_cons, List.foldl_cons]
    have e : putD (acc.map svD) (svD x) = (acc ++ [x]).map svD := by
      unfold putD
      rw [if_neg]
      · rw [List.map_append]
        rfl
      · intro z
        obtain ⟨d, hd, hk⟩ := List.any_eq_true.mp z
        obtain ⟨s, hs, rfl⟩ := List.mem_map.mp hd
        rw [decide_eq_true_eq, key_sv, key_sv] at hk
        rw [List.map_append, List.map_cons] at h
        exact (List.nodup_append.mp h).2.2 s.1.n (List.mem_map.mpr ⟨s, hs, rfl⟩) x.1.n List.mem_cons_self (Sum.inl.inj hk)
    rw [e, own_nd xs (acc ++ [x]) h2, List.append_assoc]
    rfl
theorem get_sv (n : Int) : ∀ xs : List SV, getD2 (xs.map svD) n = match xs.find? (fun s => decide (s.1.n = n)) with | some a => svD a | none => .none
  | [] => rfl
  | x :: xs => by
    have ih := get_sv n xs
    unfold getD2 at ih ⊢
    by_cases h : x.1.n = n
    · rw [List.map_cons, List.find?_cons_of_pos (by rw [key_sv, h]; exact decide_eq_true rfl), List.find?_cons_of_pos (by exact decide_eq_true h)]
      rfl
    · rw [List.map_cons, List.find?_cons_of_neg (by rw [key_sv, decide_eq_true_eq]; exact fun z => h (Sum.inl.inj z)), List.find?_cons_of_neg (by rw [decide_eq_true_eq]; exact h)]
      exact ih
theorem find_nd : ∀ {ys : List SV}, (ys.map fun s => s.1.n).Nodup → ∀ y ∈ ys, ys.find? (fun s => decide (s.1.n = y.1.n)) = some y
  | [], _, y, h => (List.not_mem_nil h).elim
  | x :: ys, hn, y, h => by
    rw [List.map_cons, List.nodup_cons] at hn
    rcases List.mem_cons.mp h with e | e
    · subst e
      exact List.find?_cons_of_pos (by exact decide_eq_true rfl)
    · rw [List.find?_cons_of_neg (by
        rw [decide_eq_true_eq]
        exact fun z => hn.1 (z ▸ List.mem_map.mpr ⟨y, e, rfl⟩))]
      exact find_nd hn.2 y e
theorem part_sv (xs ys : List SV) (hy : (ys.map fun s => s.1.n).Nodup) : ∀ zs : List SV, (∀ z ∈ zs, z ∈ ys) → partGo (xs.map svD) (zs.map svD) = dueD ((zs.map fun s => s.1.n).findSome? (dueF xs ys))
  | [], _ => rfl
  | z :: zs, h => by
    have ih := part_sv xs ys hy zs fun y hy => h y (List.mem_cons_of_mem _ hy)
    rw [List.map_cons, List.map_cons, List.findSome?_cons]
    have hd : ∀ o, xs.find? (fun s => decide (s.1.n = z.1.n)) = o → dueF xs ys z.1.n = match o with | some a => if a.1 = z.1 then none else some (a, z) | none => none := fun o ho => by
      unfold dueF
      rw [ho, find_nd hy z (h z List.mem_cons_self)]
      cases o <;> rfl
    unfold partGo
    rw [k00_sv, get_sv]
    cases hf : xs.find? (fun s => decide (s.1.n = z.1.n)) with
    | none =>
      rw [hd _ hf]
      dsimp only
      rw [if_pos (by rfl)]
      exact ih
    | some a =>
      have e : PyData.eqv (verOf (svD a)) (verOf (svD z)) = decide (a.1 = z.1) := eqv_ver a.1 z.1
      rw [hd _ hf]
      dsimp only
      rw [e]
      by_cases hq : a.1 = z.1
      · rw [if_pos (by rw [decide_eq_true hq, Bool.or_true]), if_pos hq]
        exact ih
      · rw [if_neg (by rw [decide_eq_false hq, Bool.or_false]; exact fun z => nomatch z), if_neg hq]
        rfl
theorem sort_sv (ys : List SV) : sortD (ys.map svD) = (ys.mergeSort fun a c => decide (a.1.n ≤ c.1.n)).map svD := by
  unfold sortD
  have e : PySem.W.dataLe false keyD = fun a c => decide ((k00D a).getD 0 ≤ (k00D c).getD 0) := PySem.W.dataLe_int fun d => (k00D d).getD 0
  rw [e]
  exact (List.map_mergeSort (f := svD) (r := fun a c : SV => decide (a.1.n ≤ c.1.n)) (s := fun a c => decide ((k00D a).getD 0 ≤ (k00D c).getD 0)) fun a _ c _ => rfl).symm
theorem part_due {xs ys : List SV} (hx : (xs.map fun s => s.1.n).Nodup) (hy : (ys.map fun s => s.1.n).Nodup) (by_ : ∀ s ∈ ys, 0 ≤ s.1.n ∧ s.1.n < 5) : partGo (ownOf (xs.map svD)) (sortD (ys.map svD)) = dueD (dueN (dueF xs ys) 5) := by
  have e1 : ownOf (xs.map svD) = xs.map svD := own_nd xs [] hx
  rw [e1, sort_sv]
  have hp : (ys.mergeSort fun a c => decide (a.1.n ≤ c.1.n)).Perm ys := List.mergeSort_perm _ _
  rw [part_sv xs ys hy _ fun z hz => hp.mem_iff.mp hz, ← due_five]
  congr 1
  have hs : (ys.mergeSort fun a c => decide (a.1.n ≤ c.1.n)).Pairwise fun a c => decide (a.1.n ≤ c.1.n) = true := List.pairwise_mergeSort (fun a c d h1 h2 => by
    rw [decide_eq_true_eq] at h1 h2 ⊢
    omega) (fun a c => by
    rw [Bool.or_eq_true, decide_eq_true_eq, decide_eq_true_eq]
    omega) ys
  have hn : ((ys.mergeSort fun a c => decide (a.1.n ≤ c.1.n)).map fun s => s.1.n).Nodup := (hp.map _).nodup_iff.mpr hy
  have hlt : ((ys.mergeSort fun a c => decide (a.1.n ≤ c.1.n)).map fun s => s.1.n).Pairwise (· < ·) := by
    have h1 : ((ys.mergeSort fun a c => decide (a.1.n ≤ c.1.n)).map fun s => s.1.n).Pairwise (· ≤ ·) := List.pairwise_map.mpr (hs.imp fun h => of_decide_eq_true h)
    have h2 : ((ys.mergeSort fun a c => decide (a.1.n ≤ c.1.n)).map fun s => s.1.n).Pairwise (· ≠ ·) := hn
    exact (h1.and h2).imp fun h => Int.lt_iff_le_and_ne.mpr h
  refine due_sorted _ 5 0 _ hlt (fun x hx => ?_) fun x _ hx => ?_
  · obtain ⟨s, hs, rfl⟩ := List.mem_map.mp hx
    have := by_ s (hp.mem_iff.mp hs)
    exact ⟨this.1, by show s.1.n < 0 + 5; omega⟩
  · unfold dueF
    have : ys.find? (fun s => decide (s.1.n = x)) = none := List.find?_eq_none.mpr fun s hs => by
      rw [decide_eq_true_eq]
      exact fun z => hx (List.mem_map.mpr ⟨s, hp.mem_iff.mpr hs, z⟩)
    rw [this]
    cases xs.find? fun s => decide (s.1.n = x) <;> rfl
theorem svOk_sv (s : SV) : SvOk (svD s) := ⟨s.1.n, _, _, rfl, okD_ver s.1⟩
theorem svOk_all (xs : List SV) : ∀ d ∈ xs.map svD, SvOk d := fun d hd => by
  obtain ⟨s, _, rfl⟩ := List.mem_map.mp hd
  exact svOk_sv s
theorem lay_sv (s : SV) : (svD s).canLay0 = true ∧ (svD s).depth ≤ 4 := by
  have h1 := (okD_intT s.2).lay
  have h2 : (PyData.tuple (s.2.map .int)).depth ≤ 1 := Nat.succ_le_succ (all_depth _ fun x hx => by
    obtain ⟨a, _, rfl⟩ := List.mem_map.mp hx
    exact Nat.le_refl 0)
  refine ⟨all_lay _ fun x hx => ?_, Nat.succ_le_succ (all_depth _ fun x hx => ?_)⟩
  · rcases List.mem_cons.mp hx with e | e
    · rw [e]
      rfl
    · rw [List.mem_singleton.mp e]
      exact h1
  · rcases List.mem_cons.mp hx with e | e
    · rw [e]
      exact show 3 ≤ 3 by decide
    · rw [List.mem_singleton.mp e]
      exact Nat.le_trans h2 (by decide)
theorem okD_svs (xs : List SV) : okD (.list (xs.map svD)) := okD_list svD (n := 4) (by decide) lay_sv xs
theorem okD_two27 (xs ys : List SV) : okD (.list [.list (xs.map svD), .list (ys.map svD)]) := by
  have h := okD_list (fun l : List SV => .list (l.map svD)) (n := 5) (by decide) (fun l => ?_) [xs, ys]
  · exact h
  · refine ⟨(okD_svs l).lay, ?_⟩
    exact Nat.succ_le_succ (all_depth _ fun x hx => by
      obtain ⟨a, _, rfl⟩ := List.mem_map.mp hx
      exact (lay_sv a).2)
theorem okD_due (o : Option (SV × SV)) : okD (dueD o) := by
  cases o with
  | none => rfl
  | some p =>
    obtain ⟨a, c⟩ := p
    have := okD_list svD (n := 4) (by decide) lay_sv [a, c]
    exact this

set_option hygiene false in
local macro_rules | `(tactic| walk_at "d") => `(tactic| simp -implicitDefEqProofs only [dSeqS, dNext, dDrop, dRet, dRetN, dIfS, dAsg, dAsgC, dgName, dgTup.eq_1, dgTup.eq_2, dgCons.eq_1, dgCons.eq_2, dgNil, dgSub, subK.eq_1, subK.eq_2, dVar, dVarF, dC, dOp, fII.eq_1, fII.eq_2, fIIc.eq_1, fIIc.eq_2, fAdd.eq_1, fAdd.eq_2, fAdd.eq_3, fAdd.eq_4, fAdd.eq_5, fAdd.eq_6, fCmp.eq_1, fCmp.eq_2, fCmp.eq_3, fEqD, fIsN.eq_1, fIsN.eq_2, isNon.eq_1, isNon.eq_2, rdV.eq_1, rdV.eq_2, rdV.eq_3, rdL.eq_1, rdL.eq_2, rdL.eq_3, dB, dAnd, dOr, dNot, dTru, dIf, dAndV, dOrV, dNotV, dChain, dNil, dCons, vals.eq_1, vals.eq_2, vals.eq_3, dTup, dLst, fIx.eq_1, fIx.eq_2, fIx.eq_3, fIx.eq_4, fIx.eq_5, dSl, dPart, dNoPart, dCB, fLen.eq_1, fLen.eq_2, fLen.eq_3, fLen.eq_4, fLen.eq_5, fInt.eq_1, fInt.eq_2, fInt.eq_3, fList.eq_1, fList.eq_2, rdS.eq_1, rdS.eq_2, rdS.eq_3, rdS.eq_4, fTup.eq_1, fTup.eq_2, fOrd.eq_1, fOrd.eq_2, fIsi.eq_1, fIsi.eq_2, tyD.eq_1, tyD.eq_2, tyD.eq_3, tyD.eq_4, tyD.eq_5, tyD.eq_6, tyD.eq_7, kb1, kb2, kb3, kb4, kb5, kb6, kb7, kb8, kb9, kb10, kb11, kb12, kb13, kb14, kb15, kb16, kb17, kb18, kb19, kb20, kb21, kb22, kb23, kb24, dSeq, seqK.eq_1, seqK.eq_2, seqK.eq_3, seqK.eq_4, seqK.eq_5, dRng1, dRng2, dRev, lstK.eq_1, lstK.eq_2, lstK.eq_3, dEnum, dZip, dBM, dBM0, fAppend.eq_1, fAppend.eq_2, fExtend.eq_1, fExtend.eq_2, fExtA.eq_1, fExtA.eq_2, fPop.eq_1, fPop.eq_2, dRevT, dRevL, f2I.eq_1, f2I.eq_2, bK.eq_1, bK.eq_2, truK.eq_1, truK.eq_2, truK.eq_3, truK.eq_4, truK.eq_5, truK.eq_6, truK.eq_7, truL.eq_1, truL.eq_2, dispK.eq_1, dispK.eq_2, ixK.eq_1, ixK.eq_2, ixS.eq_1, ixS.eq_2, ixL.eq_1, ixL.eq_2, partK.eq_1, partK.eq_2, slK.eq_1, slK.eq_2, slK.eq_3, slK.eq_4, slK.eq_5, slL.eq_1, slL.eq_2, lenLK.eq_1, lenLK.eq_2, mkL.eq_1, mkL.eq_2, isiB.eq_1, isiB.eq_2, isiK.eq_1, isiK.eq_2, frzK.eq_1, frzK.eq_2, frzK.eq_3, rng1K.eq_1, rng1K.eq_2, rng2K.eq_1, rng2K.eq_2, lst1K.eq_1, lst1K.eq_2, zipK.eq_1, zipK.eq_2, sub1K.eq_1, sub1K.eq_2, sub2K.eq_1, sub2K.eq_2, appK.eq_1, appK.eq_2, extK.eq_1, extK.eq_2, pop2K.eq_1, pop2K.eq_2, popK.eq_1, popK.eq_2, lstFK.eq_1, lstFK.eq_2, lisFK.eq_1, lisFK.eq_2, lisF2K.eq_1, lisF2K.eq_2, accK.eq_1, accK.eq_2, dVal, revTK.eq_1, revTK.eq_2, callK.eq_1, callK.eq_2, eqK.eq_1, eqK.eq_2, catK.eq_1, catK.eq_2, cellL.eq_1, cellL.eq_2, cellL.eq_3, okDi, okDb, okDn, eqvi, eqvs, dLstF, dListF, dLc, dYes, wipeE.eq_1, wipeE.eq_2, dFor, fin, finD, wOk.eq_1, wOk.eq_2, cellOk.eq_1, cellOk.eq_2, E0D, dCallP, dCallW, putW, firstRef.eq_1, firstRef.eq_2, firstRef.eq_3, shW.eq_1, shW.eq_2, unW.eq_1, unW.eq_2, inW.eq_1, inW.eq_2, shC.eq_1, shC.eq_2, unC.eq_1, unC.eq_2, inC.eq_1, inC.eq_2, dBreak, at0, at1, at2, at3, atI_last, List.getElem?_cons_zero, List.getElem?_cons_succ, List.getElem?_nil, List.set_cons_zero, List.set_cons_succ, List.map_cons, List.map_nil, List.length_cons, List.length_nil, List.replicate_succ, List.replicate_zero, List.cons_append, List.nil_append, List.append_nil, Option.map_some, Option.map_none, Option.isSome_some, if_true, if_false, ite_true, ite_false, Bool.and_true, Bool.true_and, Bool.and_false, Bool.false_and, Bool.or_true, Bool.or_false, Bool.true_or, Bool.false_or, Bool.not_true, Bool.not_false, true_and, and_true, List.take_succ_cons, List.take_zero, List.take_nil, List.drop_zero, List.drop_succ_cons, List.drop_nil, List.all_cons, List.all_nil, List.any_cons, List.any_nil, List.contains_cons, List.elem_nil, Nat.zero_add, Nat.add_zero, Nat.le_refl, Nat.reduceAdd, Nat.reduceSub, Nat.reduceLT, Nat.reduceLeDiff, Nat.sub_self, Nat.sub_zero, Nat.zero_le, decide_true, decide_false, beq_self_eq_true, Bool.false_eq_true, reduceCtorEq, List.isEmpty_cons, List.isEmpty_nil, List.dropLast_concat, dUn, unK.eq_1, unK.eq_2, dFld, fldK.eq_1, fldK.eq_2, fldK.eq_3, fldC.eq_1, fldC.eq_2, fldW.eq_1, fldW.eq_2, dMake, makK.eq_1, makK.eq_2, fld00, fld01, fld02, lenF0, lenF1, lenF2, get_end, set_end, dMethP, dMethW, isOb.eq_1, isOb.eq_2, isOb.eq_3, isObC.eq_1, isObC.eq_2, dSetF, sfK.eq_1, sfK.eq_2, sfC.eq_1, sfC.eq_2, dFz, fzK.eq_1, fzK.eq_2, fzK.eq_3, fzC.eq_1, fzC.eq_2, fzC.eq_3, dMakeRec, recK.eq_1, recK.eq_2, fld10, fld11, dMatch, dMCase.eq_1, dMCase.eq_2, dMNil, fillE.eq_1, fillE.eq_2, dAug, aug0.eq_1, aug0.eq_2, augK.eq_1, augK.eq_2, fIsiO.eq_1, fIsiO.eq_2, dCallPX, dMethWX, dRaise, raiK.eq_1, raiK.eq_2, dPar, parK.eq_1, parK.eq_2, dPar3, parK3.eq_1, parK3.eq_2, shW0, unW0, unC0, shC0, kbl1, kbl2, kbl3, kbl4, kbl5, kbl6, fInS.eq_1, fInS.eq_2, dAugF, afK.eq_1, afK.eq_2, afC.eq_1, afC.eq_2, afW.eq_1, afW.eq_2, dTry, dAct, dMakeRd, rdrK.eq_1, rdrK.eq_2, dLam4, outK, fld20, fld21, fld22, catF.eq_1, catF.eq_2, dCatF, inK.eq_1, inK.eq_2, fInD, get_end1, set_end1, at4, at5, at6, at7, at8, dPutF, pfK.eq_1, pfK.eq_2, pfC.eq_1, pfC.eq_2, dCel, dCallE, dMethE, callKE.eq_1, callKE.eq_2, putWE, unWE.eq_1, unWE.eq_2, unCE.eq_1, unCE.eq_2, upR, dMakeE, mkE, fIsBl.eq_1, fIsBl.eq_2, dZip4, zip4K.eq_1, zip4K.eq_2, sqK.eq_1, sqK.eq_2, sqK.eq_3, sqK.eq_4, id])
set_option hygiene false in
local macro_rules | `(tactic| walk_at "s") => `(tactic| simp -implicitDefEqProofs only [dNext, dDrop, dRet, dRetN, dIfS, dAsg, dAsgC, dgName, dgTup.eq_1, dgTup.eq_2, dgCons.eq_1, dgCons.eq_2, dgNil, dgSub, subK.eq_1, subK.eq_2, dVar, dVarF, dC, dOp, fII.eq_1, fII.eq_2, fIIc.eq_1, fIIc.eq_2, fAdd.eq_1, fAdd.eq_2, fAdd.eq_3, fAdd.eq_4, fAdd.eq_5, fAdd.eq_6, fCmp.eq_1, fCmp.eq_2, fCmp.eq_3, fEqD, fIsN.eq_1, fIsN.eq_2, isNon.eq_1, isNon.eq_2, rdV.eq_1, rdV.eq_2, rdV.eq_3, rdL.eq_1, rdL.eq_2, rdL.eq_3, dB, dAnd, dOr, dNot, dTru, dIf, dAndV, dOrV, dNotV, dChain, dNil, dCons, vals.eq_1, vals.eq_2, vals.eq_3, dTup, dLst, fIx.eq_1, fIx.eq_2, fIx.eq_3, fIx.eq_4, fIx.eq_5, dSl, dPart, dNoPart, dCB, fLen.eq_1, fLen.eq_2, fLen.eq_3, fLen.eq_4, fLen.eq_5, fInt.eq_1, fInt.eq_2, fInt.eq_3, fList.eq_1, fList.eq_2, rdS.eq_1, rdS.eq_2, rdS.eq_3, rdS.eq_4, fTup.eq_1, fTup.eq_2, fOrd.eq_1, fOrd.eq_2, fIsi.eq_1, fIsi.eq_2, tyD.eq_1, tyD.eq_2, tyD.eq_3, tyD.eq_4, tyD.eq_5, tyD.eq_6, tyD.eq_7, kb1, kb2, kb3, kb4, kb5, kb6, kb7, kb8, kb9, kb10, kb11, kb12, kb13, kb14, kb15, kb16, kb17, kb18, kb19, kb20, kb21, kb22, kb23, kb24, dSeq, seqK.eq_1, seqK.eq_2, seqK.eq_3, seqK.eq_4, seqK.eq_5, dRng1, dRng2, dRev, lstK.eq_1, lstK.eq_2, lstK.eq_3, dEnum, dZip, dBM, dBM0, fAppend.eq_1, fAppend.eq_2, fExtend.eq_1, fExtend.eq_2, fExtA.eq_1, fExtA.eq_2, fPop.eq_1, fPop.eq_2, dRevT, dRevL, f2I.eq_1, f2I.eq_2, bK.eq_1, bK.eq_2, truK.eq_1, truK.eq_2, truK.eq_3, truK.eq_4, truK.eq_5, truK.eq_6, truK.eq_7, truL.eq_1, truL.eq_2, dispK.eq_1, dispK.eq_2, ixK.eq_1, ixK.eq_2, ixS.eq_1, ixS.eq_2, ixL.eq_1, ixL.eq_2, partK.eq_1, partK.eq_2, slK.eq_1, slK.eq_2, slK.eq_3, slK.eq_4, slK.eq_5, slL.eq_1, slL.eq_2, lenLK.eq_1, lenLK.eq_2, mkL.eq_1, mkL.eq_2, isiB.eq_1, isiB.eq_2, isiK.eq_1, isiK.eq_2, frzK.eq_1, frzK.eq_2, frzK.eq_3, rng1K.eq_1, rng1K.eq_2, rng2K.eq_1, rng2K.eq_2, lst1K.eq_1, lst1K.eq_2, zipK.eq_1, zipK.eq_2, sub1K.eq_1, sub1K.eq_2, sub2K.eq_1, sub2K.eq_2, appK.eq_1, appK.eq_2, extK.eq_1, extK.eq_2, pop2K.eq_1, pop2K.eq_2, popK.eq_1, popK.eq_2, lstFK.eq_1, lstFK.eq_2, lisFK.eq_1, lisFK.eq_2, lisF2K.eq_1, lisF2K.eq_2, accK.eq_1, accK.eq_2, dVal, revTK.eq_1, revTK.eq_2, callK.eq_1, callK.eq_2, eqK.eq_1, eqK.eq_2, catK.eq_1, catK.eq_2, cellL.eq_1, cellL.eq_2, cellL.eq_3, okDi, okDb, okDn, eqvi, eqvs, dLstF, dListF, dLc, dYes, wipeE.eq_1, wipeE.eq_2, dFor, fin, finD, wOk.eq_1, wOk.eq_2, cellOk.eq_1, cellOk.eq_2, E0D, dCallP, dCallW, putW, firstRef.eq_1, firstRef.eq_2, firstRef.eq_3, shW.eq_1, shW.eq_2, unW.eq_1, unW.eq_2, inW.eq_1, inW.eq_2, shC.eq_1, shC.eq_2, unC.eq_1, unC.eq_2, inC.eq_1, inC.eq_2, dBreak, at0, at1, at2, at3, atI_last, List.getElem?_cons_zero, List.getElem?_cons_succ, List.getElem?_nil, List.set_cons_zero, List.set_cons_succ, List.map_cons, List.map_nil, List.length_cons, List.length_nil, List.replicate_succ, List.replicate_zero, List.cons_append, List.nil_append, List.append_nil, Option.map_some, Option.map_none, Option.isSome_some, if_true, if_false, ite_true, ite_false, Bool.and_true, Bool.true_and, Bool.and_false, Bool.false_and, Bool.or_true, Bool.or_false, Bool.true_or, Bool.false_or, Bool.not_true, Bool.not_false, true_and, and_true, List.take_succ_cons, List.take_zero, List.take_nil, List.drop_zero, List.drop_succ_cons, List.drop_nil, List.all_cons, List.all_nil, List.any_cons, List.any_nil, List.contains_cons, List.elem_nil, Nat.zero_add, Nat.add_zero, Nat.le_refl, Nat.reduceAdd, Nat.reduceSub, Nat.reduceLT, Nat.reduceLeDiff, Nat.sub_self, Nat.sub_zero, Nat.zero_le, decide_true, decide_false, beq_self_eq_true, Bool.false_eq_true, reduceCtorEq, List.isEmpty_cons, List.isEmpty_nil, List.dropLast_concat, dUn, unK.eq_1, unK.eq_2, dFld, fldK.eq_1, fldK.eq_2, fldK.eq_3, fldC.eq_1, fldC.eq_2, fldW.eq_1, fldW.eq_2, dMake, makK.eq_1, makK.eq_2, fld00, fld01, fld02, lenF0, lenF1, lenF2, get_end, set_end, dMethP, dMethW, isOb.eq_1, isOb.eq_2, isOb.eq_3, isObC.eq_1, isObC.eq_2, dSetF, sfK.eq_1, sfK.eq_2, sfC.eq_1, sfC.eq_2, dFz, fzK.eq_1, fzK.eq_2, fzK.eq_3, fzC.eq_1, fzC.eq_2, fzC.eq_3, dMakeRec, recK.eq_1, recK.eq_2, fld10, fld11, dMatch, dMCase.eq_1, dMCase.eq_2, dMNil, fillE.eq_1, fillE.eq_2, dAug, aug0.eq_1, aug0.eq_2, augK.eq_1, augK.eq_2, fIsiO.eq_1, fIsiO.eq_2, dCallPX, dMethWX, dRaise, raiK.eq_1, raiK.eq_2, dPar, parK.eq_1, parK.eq_2, dPar3, parK3.eq_1, parK3.eq_2, shW0, unW0, unC0, shC0, kbl1, kbl2, kbl3, kbl4, kbl5, kbl6, fInS.eq_1, fInS.eq_2, dAugF, afK.eq_1, afK.eq_2, afC.eq_1, afC.eq_2, afW.eq_1, afW.eq_2, dTry, dAct, dMakeRd, rdrK.eq_1, rdrK.eq_2, dLam4, outK, fld20, fld21, fld22, catF.eq_1, catF.eq_2, dCatF, inK.eq_1, inK.eq_2, fInD, get_end1, set_end1, at4, at5, at6, at7, at8, dPutF, pfK.eq_1, pfK.eq_2, pfC.eq_1, pfC.eq_2, dCel, dCallE, dMethE, callKE.eq_1, callKE.eq_2, putWE, unWE.eq_1, unWE.eq_2, unCE.eq_1, unCE.eq_2, upR, dMakeE, mkE, fIsBl.eq_1, fIsBl.eq_2, dZip4, zip4K.eq_1, zip4K.eq_2, sqK.eq_1, sqK.eq_2, sqK.eq_3, sqK.eq_4, id])
set_option hygiene false in
local macro_rules | `(tactic| walk_at "o") => `(tactic| simp -implicitDefEqProofs only [dSeqS, dNext, dDrop, dRet, dRetN, dIfS, dAsg, dAsgC, dgName, dgTup.eq_1, dgTup.eq_2, dgCons.eq_1, dgCons.eq_2, dgNil, dgSub, subK.eq_1, subK.eq_2, dVar, dVarF, dC, dOp, fII.eq_1, fII.eq_2, fIIc.eq_1, fIIc.eq_2, fAdd.eq_1, fAdd.eq_2, fAdd.eq_3, fAdd.eq_4, fAdd.eq_5, fAdd.eq_6, fCmp.eq_1, fCmp.eq_2, fCmp.eq_3, fEqD, fIsN.eq_1, fIsN.eq_2, isNon.eq_1, isNon.eq_2, rdV.eq_1, rdV.eq_2, rdV.eq_3, rdL.eq_1, rdL.eq_2, rdL.eq_3, dB, dAnd, dOr, dNot, dTru, dIf, dAndV, dOrV, dNotV, dChain, dNil, dCons, vals.eq_1, vals.eq_2, vals.eq_3, dTup, dLst, fIx.eq_1, fIx.eq_2, fIx.eq_3, fIx.eq_4, fIx.eq_5, dSl, dPart, dNoPart, dCB, fLen.eq_1, fLen.eq_2, fLen.eq_3, fLen.eq_4, fLen.eq_5, fInt.eq_1, fInt.eq_2, fInt.eq_3, fList.eq_1, fList.eq_2, rdS.eq_1, rdS.eq_2, rdS.eq_3, rdS.eq_4, fTup.eq_1, fTup.eq_2, fOrd.eq_1, fOrd.eq_2, fIsi.eq_1, fIsi.eq_2, tyD.eq_1, tyD.eq_2, tyD.eq_3, tyD.eq_4, tyD.eq_5, tyD.eq_6, tyD.eq_7, kb1, kb2, kb3, kb4, kb5, kb6, kb7, kb8, kb9, kb10, kb11, kb12, kb13, kb14, kb15, kb16, kb17, kb18, kb19, kb20, kb21, kb22, kb23, kb24, dSeq, seqK.eq_1, seqK.eq_2, seqK.eq_3, seqK.eq_4, seqK.eq_5, dRng1, dRng2, dRev, lstK.eq_1, lstK.eq_2, lstK.eq_3, dEnum, dZip, dBM, dBM0, fAppend.eq_1, fAppend.eq_2, fExtend.eq_1, fExtend.eq_2, fExtA.eq_1, fExtA.eq_2, fPop.eq_1, fPop.eq_2, dRevT, dRevL, f2I.eq_1, f2I.eq_2, bK.eq_1, bK.eq_2, truK.eq_1, truK.eq_2, truK.eq_3, truK.eq_4, truK.eq_5, truK.eq_6, truK.eq_7, truL.eq_1, truL.eq_2, dispK.eq_1, dispK.eq_2, ixK.eq_1, ixK.eq_2, ixS.eq_1, ixS.eq_2, ixL.eq_1, ixL.eq_2, partK.eq_1, partK.eq_2, slK.eq_1, slK.eq_2, slK.eq_3, slK.eq_4, slK.eq_5, slL.eq_1, slL.eq_2, lenLK.eq_1, lenLK.eq_2, mkL.eq_1, mkL.eq_2, isiB.eq_1, isiB.eq_2, isiK.eq_1, isiK.eq_2, frzK.eq_1, frzK.eq_2, frzK.eq_3, rng1K.eq_1, rng1K.eq_2, rng2K.eq_1, rng2K.eq_2, lst1K.eq_1, lst1K.eq_2, zipK.eq_1, zipK.eq_2, sub1K.eq_1, sub1K.eq_2, sub2K.eq_1, sub2K.eq_2, appK.eq_1, appK.eq_2, extK.eq_1, extK.eq_2, pop2K.eq_1, pop2K.eq_2, popK.eq_1, popK.eq_2, lstFK.eq_1, lstFK.eq_2, lisFK.eq_1, lisFK.eq_2, lisF2K.eq_1, lisF2K.eq_2, accK.eq_1, accK.eq_2, dVal, revTK.eq_1, revTK.eq_2, callK.eq_1, callK.eq_2, eqK.eq_1, eqK.eq_2, catK.eq_1, catK.eq_2, cellL.eq_1, cellL.eq_2, cellL.eq_3, okDi, okDb, okDn, eqvi, eqvs, dLstF, dListF, dLc, dYes, wipeE.eq_1, wipeE.eq_2, dFor, fin, finD, wOk.eq_1, wOk.eq_2, cellOk.eq_1, cellOk.eq_2, E0D, dCallP, dCallW, putW, firstRef.eq_1, firstRef.eq_2, firstRef.eq_3, shW.eq_1, shW.eq_2, unW.eq_1, unW.eq_2, inW.eq_1, inW.eq_2, shC.eq_1, shC.eq_2, unC.eq_1, unC.eq_2, inC.eq_1, inC.eq_2, dBreak, at0, at1, at2, at3, atI_last, List.getElem?_cons_zero, List.getElem?_cons_succ, List.getElem?_nil, List.set_cons_zero, List.set_cons_succ, List.map_cons, List.map_nil, List.length_cons, List.length_nil, List.replicate_succ, List.replicate_zero, List.cons_append, List.nil_append, List.append_nil, Option.map_some, Option.map_none, Option.isSome_some, if_true, if_false, ite_true, ite_false, Bool.and_true, Bool.true_and, Bool.and_false, Bool.false_and, Bool.or_true, Bool.or_false, Bool.true_or, Bool.false_or, Bool.not_true, Bool.not_false, true_and, and_true, List.take_succ_cons, List.take_zero, List.take_nil, List.drop_zero, List.drop_succ_cons, List.drop_nil, List.all_cons, List.all_nil, List.any_cons, List.any_nil, List.contains_cons, List.elem_nil, Nat.zero_add, Nat.add_zero, Nat.le_refl, Nat.reduceAdd, Nat.reduceSub, Nat.reduceLT, Nat.reduceLeDiff, Nat.sub_self, Nat.sub_zero, Nat.zero_le, decide_true, decide_false, beq_self_eq_true, Bool.false_eq_true, reduceCtorEq, List.isEmpty_cons, List.isEmpty_nil, List.dropLast_concat, dUn, unK.eq_1, unK.eq_2, dFld, fldK.eq_1, fldK.eq_2, fldK.eq_3, fldC.eq_1, fldC.eq_2, fldW.eq_1, fldW.eq_2, dMake, makK.eq_1, makK.eq_2, fld00, fld01, fld02, lenF0, lenF1, lenF2, get_end, set_end, dMethP, dMethW, isOb.eq_1, isOb.eq_2, isOb.eq_3, isObC.eq_1, isObC.eq_2, dSetF, sfK.eq_1, sfK.eq_2, sfC.eq_1, sfC.eq_2, dFz, fzK.eq_1, fzK.eq_2, fzK.eq_3, fzC.eq_1, fzC.eq_2, fzC.eq_3, dMakeRec, recK.eq_1, recK.eq_2, fld10, fld11, dMatch, dMCase.eq_1, dMCase.eq_2, dMNil, fillE.eq_1, fillE.eq_2, dAug, aug0.eq_1, aug0.eq_2, augK.eq_1, augK.eq_2, fIsiO.eq_1, fIsiO.eq_2, dCallPX, dMethWX, dRaise, raiK.eq_1, raiK.eq_2, dPar, parK.eq_1, parK.eq_2, dPar3, parK3.eq_1, parK3.eq_2, shW0, unW0, unC0, shC0, kbl1, kbl2, kbl3, kbl4, kbl5, kbl6, fInS.eq_1, fInS.eq_2, dAugF, afK.eq_1, afK.eq_2, afC.eq_1, afC.eq_2, afW.eq_1, afW.eq_2, dTry, dAct, dMakeRd, rdrK.eq_1, rdrK.eq_2, dLam4, outK, fld20, fld21, fld22, catF.eq_1, catF.eq_2, dCatF, inK.eq_1, inK.eq_2, fInD, get_end1, set_end1, at4, at5, at6, at7, at8, dPutF, pfK.eq_1, pfK.eq_2, pfC.eq_1, pfC.eq_2, dCel, dCallE, dMethE, callKE.eq_1, callKE.eq_2, putWE, unWE.eq_1, unWE.eq_2, unCE.eq_1, unCE.eq_2, upR, dMakeE, mkE, fIsBl.eq_1, fIsBl.eq_2, dZip4, zip4K.eq_1, zip4K.eq_2, sqK.eq_1, sqK.eq_2, sqK.eq_3, sqK.eq_4, finX, opC, rfD_eq, Opn.win, Opn.ain, Opn.wok, Opn.aok, Opn.rule, isOb_part, no_isE, no_ent, Opn.noO, fld_link, fld_root, fld_open, ix_link0, ix_link1, ix_link2, isi_part, rootD, PT.op, not_false_eq_true, nonE_concat, last_get, dl_concat, shC0', unW0', unC0', id])
set_option hygiene false in
local macro_rules | `(tactic| walk_at "t") => `(tactic| simp -implicitDefEqProofs only [dNext, dDrop, dRet, dRetN, dIfS, dAsg, dAsgC, dgName, dgTup.eq_1, dgTup.eq_2, dgCons.eq_1, dgCons.eq_2, dgNil, dgSub, subK.eq_1, subK.eq_2, dVar, dVarF, dC, dOp, fII.eq_1, fII.eq_2, fIIc.eq_1, fIIc.eq_2, fAdd.eq_1, fAdd.eq_2, fAdd.eq_3, fAdd.eq_4, fAdd.eq_5, fAdd.eq_6, fCmp.eq_1, fCmp.eq_2, fCmp.eq_3, fEqD, fIsN.eq_1, fIsN.eq_2, isNon.eq_1, isNon.eq_2, rdV.eq_1, rdV.eq_2, rdV.eq_3, rdL.eq_1, rdL.eq_2, rdL.eq_3, dB, dAnd, dOr, dNot, dTru, dIf, dAndV, dOrV, dNotV, dChain, dNil, dCons, vals.eq_1, vals.eq_2, vals.eq_3, dTup, dLst, fIx.eq_1, fIx.eq_2, fIx.eq_3, fIx.eq_4, fIx.eq_5, dSl, dPart, dNoPart, dCB, fLen.eq_1, fLen.eq_2, fLen.eq_3, fLen.eq_4, fLen.eq_5, fInt.eq_1, fInt.eq_2, fInt.eq_3, fList.eq_1, fList.eq_2, rdS.eq_1, rdS.eq_2, rdS.eq_3, rdS.eq_4, fTup.eq_1, fTup.eq_2, fOrd.eq_1, fOrd.eq_2, fIsi.eq_1, fIsi.eq_2, tyD.eq_1, tyD.eq_2, tyD.eq_3, tyD.eq_4, tyD.eq_5, tyD.eq_6, tyD.eq_7, kb1, kb2, kb3, kb4, kb5, kb6, kb7, kb8, kb9, kb10, kb11, kb12, kb13, kb14, kb15, kb16, kb17, kb18, kb19, kb20, kb21, kb22, kb23, kb24, dSeq, seqK.eq_1, seqK.eq_2, seqK.eq_3, seqK.eq_4, seqK.eq_5, dRng1, dRng2, dRev, lstK.eq_1, lstK.eq_2, lstK.eq_3, dEnum, dZip, dBM, dBM0, fAppend.eq_1, fAppend.eq_2, fExtend.eq_1, fExtend.eq_2, fExtA.eq_1, fExtA.eq_2, fPop.eq_1, fPop.eq_2, dRevT, dRevL, f2I.eq_1, f2I.eq_2, bK.eq_1, bK.eq_2, truK.eq_1, truK.eq_2, truK.eq_3, truK.eq_4, truK.eq_5, truK.eq_6, truK.eq_7, truL.eq_1, truL.eq_2, dispK.eq_1, dispK.eq_2, ixK.eq_1, ixK.eq_2, ixS.eq_1, ixS.eq_2, ixL.eq_1, ixL.eq_2, partK.eq_1, partK.eq_2, slK.eq_1, slK.eq_2, slK.eq_3, slK.eq_4, slK.eq_5, slL.eq_1, slL.eq_2, lenLK.eq_1, lenLK.eq_2, mkL.eq_1, mkL.eq_2, isiB.eq_1, isiB.eq_2, isiK.eq_1, isiK.eq_2, frzK.eq_1, frzK.eq_2, frzK.eq_3, rng1K.eq_1, rng1K.eq_2, rng2K.eq_1, rng2K.eq_2, lst1K.eq_1, lst1K.eq_2, zipK.eq_1, zipK.eq_2, sub1K.eq_1, sub1K.eq_2, sub2K.eq_1, sub2K.eq_2, appK.eq_1, appK.eq_2, extK.eq_1, extK.eq_2, pop2K.eq_1, pop2K.eq_2, popK.eq_1, popK.eq_2, lstFK.eq_1, lstFK.eq_2, lisFK.eq_1, lisFK.eq_2, lisF2K.eq_1, lisF2K.eq_2, accK.eq_1, accK.eq_2, dVal, revTK.eq_1, revTK.eq_2, callK.eq_1, callK.eq_2, eqK.eq_1, eqK.eq_2, catK.eq_1, catK.eq_2, cellL.eq_1, cellL.eq_2, cellL.eq_3, okDi, okDb, okDn, eqvi, eqvs, dLstF, dListF, dLc, dYes, wipeE.eq_1, wipeE.eq_2, dFor, fin, finD, wOk.eq_1, wOk.eq_2, cellOk.eq_1, cellOk.eq_2, E0D, dCallP, dCallW, putW, firstRef.eq_1, firstRef.eq_2, firstRef.eq_3, shW.eq_1, shW.eq_2, unW.eq_1, unW.eq_2, inW.eq_1, inW.eq_2, shC.eq_1, shC.eq_2, unC.eq_1, unC.eq_2, inC.eq_1, inC.eq_2, dBreak, at0, at1, at2, at3, atI_last, List.getElem?_cons_zero, List.getElem?_cons_succ, List.getElem?_nil, List.set_cons_zero, List.set_cons_succ, List.map_cons, List.map_nil, List.length_cons, List.length_nil, List.replicate_succ, List.replicate_zero, List.cons_append, List.nil_append, List.append_nil, Option.map_some, Option.map_none, Option.isSome_some, if_true, if_false, ite_true, ite_false, Bool.and_true, Bool.true_and, Bool.and_false, Bool.false_and, Bool.or_true, Bool.or_false, Bool.true_or, Bool.false_or, Bool.not_true, Bool.not_false, true_and, and_true, List.take_succ_cons, List.take_zero, List.take_nil, List.drop_zero, List.drop_succ_cons, List.drop_nil, List.all_cons, List.all_nil, List.any_cons, List.any_nil, List.contains_cons, List.elem_nil, Nat.zero_add, Nat.add_zero, Nat.le_refl, Nat.reduceAdd, Nat.reduceSub, Nat.reduceLT, Nat.reduceLeDiff, Nat.sub_self, Nat.sub_zero, Nat.zero_le, decide_true, decide_false, beq_self_eq_true, Bool.false_eq_true, reduceCtorEq, List.isEmpty_cons, List.isEmpty_nil, List.dropLast_concat, dUn, unK.eq_1, unK.eq_2, dFld, fldK.eq_1, fldK.eq_2, fldK.eq_3, fldC.eq_1, fldC.eq_2, fldW.eq_1, fldW.eq_2, dMake, makK.eq_1, makK.eq_2, fld00, fld01, fld02, lenF0, lenF1, lenF2, get_end, set_end, dMethP, dMethW, isOb.eq_1, isOb.eq_2, isOb.eq_3, isObC.eq_1, isObC.eq_2, dSetF, sfK.eq_1, sfK.eq_2, sfC.eq_1, sfC.eq_2, dFz, fzK.eq_1, fzK.eq_2, fzK.eq_3, fzC.eq_1, fzC.eq_2, fzC.eq_3, dMakeRec, recK.eq_1, recK.eq_2, fld10, fld11, dMatch, dMCase.eq_1, dMCase.eq_2, dMNil, fillE.eq_1, fillE.eq_2, dAug, aug0.eq_1, aug0.eq_2, augK.eq_1, augK.eq_2, fIsiO.eq_1, fIsiO.eq_2, dCallPX, dMethWX, dRaise, raiK.eq_1, raiK.eq_2, dPar, parK.eq_1, parK.eq_2, dPar3, parK3.eq_1, parK3.eq_2, shW0, unW0, unC0, shC0, kbl1, kbl2, kbl3, kbl4, kbl5, kbl6, fInS.eq_1, fInS.eq_2, dAugF, afK.eq_1, afK.eq_2, afC.eq_1, afC.eq_2, afW.eq_1, afW.eq_2, dTry, dAct, dMakeRd, rdrK.eq_1, rdrK.eq_2, dLam4, outK, fld20, fld21, fld22, catF.eq_1, catF.eq_2, dCatF, inK.eq_1, inK.eq_2, fInD, get_end1, set_end1, at4, at5, at6, at7, at8, dPutF, pfK.eq_1, pfK.eq_2, pfC.eq_1, pfC.eq_2, dCel, dCallE, dMethE, callKE.eq_1, callKE.eq_2, putWE, unWE.eq_1, unWE.eq_2, unCE.eq_1, unCE.eq_2, upR, dMakeE, mkE, fIsBl.eq_1, fIsBl.eq_2, dZip4, zip4K.eq_1, zip4K.eq_2, sqK.eq_1, sqK.eq_2, sqK.eq_3, sqK.eq_4, finX, opC, rfD_eq, Opn.win, Opn.ain, Opn.wok, Opn.aok, Opn.rule, isOb_part, no_isE, no_ent, Opn.noO, fld_link, fld_root, fld_open, ix_link0, ix_link1, ix_link2, isi_part, rootD, PT.op, not_false_eq_true, nonE_concat, last_get, dl_concat, shC0', unW0', unC0', id])
abbrev sLList : Stmt := topS 22
theorem scLList : FnScope ["state", "rule", "tables", "made", "number", "turn"] ["state", "rule", "tables"] (defScope sLList) := ⟨rfl, rfl, rfl, by decide +kernel, rfl, by decide +kernel, by decide +kernel⟩
def pLList : DSp := fun ws C Q _ => ∃ b m t1 t2 l, ws = [.ref 0, .val (ruleD b m), .val (.list [tabD t1, tabD t2])] ∧ C = [.lst l] ∧ StL l ∧ RuleOk b m ∧ (TabFit t1 ∧ t1.length < 100) ∧ (TabFit t2 ∧ t2.length < 100) ∧ ∀ (xs : List SV) l', xs.length ≤ 5 → (xs.map fun s => s.1.n).Nodup → (∀ s ∈ xs, 0 ≤ s.1.n ∧ s.1.n < 5) → StL l' → Q (.val (.list (xs.map svD))) [.lst l']
theorem two_tab27 {d : Int} {t1 t2 : Tab} (h0 : 0 ≤ d) (h1 : d < 2) (a : TabFit t1 ∧ t1.length < 100) (c : TabFit t2 ∧ t2.length < 100) : ∃ tb, atI [tabD t1, tabD t2] d = some (tabD tb) ∧ TabFit tb ∧ tb.length < 100 := by
  have : d = 0 ∨ d = 1 := by omega
  rcases this with rfl | rfl
  · exact ⟨t1, at0 _ _, a⟩
  · exact ⟨t2, at1 _ _ _, c⟩
section
variable {P : Program} {w : World} {K : PySem.W.Frag} {mg : Str → Option Value} {base : Heap} {ct : Ct}
theorem ok_LList  (D : Def K mg "_law_list" sLList ["state", "rule", "tables"]) (D_LDraw : Def K mg "_law_draw" sLDraw ["state", "limit"]) (D_LSealed : Def K mg "_law_sealed" sLSealed ["state", "rule", "secret", "table", "number"]) (m_len : mg "len" = none) (m_range : mg "range" = none)
    (G_LDraw : FnOk P w K mg base CX0 1 D_LDraw.f D_LDraw.fd ["state", "limit"] (spD ct 1 2 pLDraw)) (G_LSealed : FnOk P w K mg base CX0 213 D_LSealed.f D_LSealed.fd ["state", "rule", "secret", "table", "number"] (spD ct 1 5 pLSealed)) : FnOk P w K mg base CX0 214 D.f D.fd ["state", "rule", "tables"] (spD ct 1 3 pLList) := by
  refine D.F.ok scLList (fun vs H Q E h => spD_len h) (fun cdv A outer s H vs Q E hr h => ⟨_, (pss_cons (psC (ps_set (i := 3) scLList.nd rfl (.inl rfl) (pe_lst pa_nil))) <|
    pss_cons (ps_for PassesOwn.never rfl (pi_range1 (by rfl) m_range (pa_cons pe_int pa_nil)) (pg_name (i := 4) scLList.nd rfl (Or.inl rfl))
      (pss_one (ps_if (pt_cmpR op_gtA (pe_call G_LDraw (hr.mono (by omega)) (by rfl) D_LDraw.m D_LDraw.F.kp D_LDraw.b .nil pass0 (pa_cons (pv 0) (pa_cons pe_int pa_nil))) pe_int (nomark _))
          (pss_one (ps_expr (pe_bm PySem.F.plainAttrs_list PySem.F.slot_list_append PySem.F.type_list_append mt_append (pv 3) (pa_cons (pe_call G_LSealed (hr.mono (by omega)) (by rfl) D_LSealed.m D_LSealed.F.kp D_LSealed.b .nil pass0 (pa_cons (pv 0) (pa_cons (pv 1) (pa_cons pe_int (pa_cons (pe_ix ix_seq (pv 2) (pe_call G_LDraw (hr.mono (by omega)) (by rfl) D_LDraw.m D_LDraw.F.kp D_LDraw.b .nil pass0 (pa_cons (pv 0) (pa_cons pe_int pa_nil))) (fun _ _ => rfl)) (pa_cons (pv 4) pa_nil)))))) pa_nil)))) pss_nil))) <|
    pss_cons (ps_set (i := 5) scLList.nd rfl (.inl rfl) (pe_call G_LDraw (hr.mono (by omega)) (by rfl) D_LDraw.m D_LDraw.F.kp D_LDraw.b .nil pass0 (pa_cons (pv 0) (pa_cons (pe_op op_addA (pe_callB call_lenA (by rfl) m_len (by decide +kernel) (pa_cons (pv 3) pa_nil)) pe_int) pa_nil)))) <|
    pss_one (ps_ret (pe_op op_addA (pe_slice sl_any (pv 3) (po_some (pv 5)) po_none) (pe_slice sl_any (pv 3) po_none (po_some (pv 5)))))), body_ok _ (fun R => inferInstance) (by decide) (fun ws C Q R hw hC hP => ?_) h⟩)
  obtain ⟨b, m, t1, t2, l, rfl, rfl, sl, hr, T1, T2, q⟩ := hP
  walk_at "d"
  refine ⟨by decide, by decide, ?_⟩
  refine dForGo_range (Int.toNat 5) (fun k E C => ∃ (l : List PyData) (xs : List SV) (y4 y5 : Option W), StL l ∧ xs.length ≤ k ∧ (xs.map fun s => s.1.n).Nodup ∧ (∀ s ∈ xs, 0 ≤ s.1.n ∧ s.1.n < (k : Int)) ∧ C = [.lst l, .lst (xs.map svD)] ∧ E = [some (.ref 0), some (.val (ruleD b m)), some (.val (.list [tabD t1, tabD t2])), some (.ref 1), y4, y5]) ?_ ?_ ⟨l, [], _, _, sl, Nat.le_refl _, .nil, fun s h => (List.not_mem_nil h).elim, rfl, rfl⟩
  · rintro k E C hk ⟨l, xs, y4, y5, s, hlen, hnd, hb, rfl, rfl⟩ N hN
    walk_at "d"
    refine ⟨_, l, rfl, rfl, s, by decide, by decide, fun d1 l1 h1 h2 s1 => ?_⟩
    walk_at "d"
    refine ifd (fun hp => ?_) fun hp => ?_
    · refine ⟨_, l1, rfl, rfl, s1, by decide, by decide, fun d2 l2 h3 h4 s2 => ?_⟩
      walk_at "d"
      obtain ⟨tb, et, ht⟩ := two_tab27 h3 h4 T1 T2
      rw [et]
      walk_at "d"
      refine ⟨b, m, 7, tb, _, l2, rfl, rfl, s2, hr, ht.1, ht.2, fun tt l3 hn h4 s3 => ?_⟩
      have hnew : xs.length < 100 := by omega
      walk_at "d"
      refine ⟨by rw [List.length_map]; exact Nat.lt_of_lt_of_le hnew (by decide), ?_⟩
      refine hN _ _ ⟨l3, xs ++ [tt], _, _, s3, by rw [List.length_append]; exact Nat.succ_le_succ hlen, ?_, fun z hz => ?_, by rw [List.map_append]; rfl, rfl⟩
      · rw [List.map_append, List.nodup_append]
        refine ⟨hnd, List.nodup_cons.mpr ⟨List.not_mem_nil, .nil⟩, fun a ha c hc => ?_⟩
        obtain ⟨z, hz, rfl⟩ := List.mem_map.mp ha
        have h5 := (hb z hz).2
        have hc : c ∈ [tt.1.n] := hc
        rw [List.mem_singleton.mp hc, hn]
        omega
      · rcases List.mem_append.mp hz with h | h
        · have := hb z h
          omega
        · rw [List.mem_singleton.mp h, hn]
          omega
    · exact hN _ _ ⟨l1, xs, _, _, s1, by omega, hnd, fun z hz => by have := hb z hz; omega, rfl, rfl⟩
  · rintro E C ⟨l, xs, y4, y5, s, hlen, hnd, hb, rfl, rfl⟩
    walk_at "d"
    rw [List.length_map]
    have hlen : xs.length ≤ 5 := hlen
    refine ⟨_, l, rfl, rfl, s, by omega, by omega, fun d l1 h1 h2 s1 => ?_⟩
    walk_at "d"
    obtain ⟨j, rfl⟩ : ∃ j : Nat, d = (j : Int) := ⟨d.toNat, by omega⟩
    have hj : j ≤ xs.length := by omega
    rw [cutL_from (by rw [List.length_map]; exact hj), cutL_to (by rw [List.length_map]; exact hj), ← List.map_drop, ← List.map_take, ← List.map_append]
    have hp : (xs.drop j ++ xs.take j).Perm xs := by
      have := List.perm_append_comm (l₁ := xs.drop j) (l₂ := xs.take j)
      rwa [List.take_append_drop] at this
    refine ⟨?_, q _ l1 (by rw [hp.length_eq]; exact hlen) ((hp.map _).nodup_iff.mpr hnd) (fun z hz => hb z (hp.mem_iff.mp hz)) s1⟩
    rw [List.length_map, List.length_map, ← List.length_append, hp.length_eq]
    exact Nat.le_trans hlen (by decide)
end

abbrev sLaw : Stmt := topS 23
theorem scLaw : FnScope ["script", "state", "rule", "tables", "k", "first", "second", "due", "number", "one", "two", "copies", "sealed"] ["script"] (defScope sLaw) := ⟨rfl, rfl, rfl, by decide +kernel, rfl, by decide +kernel, by decide +kernel⟩

section
variable {P : Program} {w : World} {K : PySem.W.Frag} {mg : Str → Option Value} {base : Heap} {ct : Ct}
theorem ok_Law (D : Def K mg "law" sLaw ["script"]) (D_LRule : Def K mg "_law_rule" sLRule ["state"]) (D_LTable : Def K mg "_law_table" sLTable ["state", "most"]) (D_LList : Def K mg "_law_list" sLList ["state", "rule", "tables"]) (D_PParting : Def K mg "parting" sPParting ["first", "second"]) (m_len : mg "len" = none) (m_list : mg "list" = none) (m_range : mg "range" = none)
    (G_LRule : FnOk P w K mg base CX0 2 D_LRule.f D_LRule.fd ["state"] (spD ct 1 1 pLRule)) (G_LTable : FnOk P w K mg base CX0 3 D_LTable.f D_LTable.fd ["state", "most"] (spD ct 1 2 pLTable)) (G_LList : FnOk P w K mg base CX0 214 D_LList.f D_LList.fd ["state", "rule", "tables"] (spD ct 1 3 pLList)) (G_PParting : FnOk P w K mg base CX0 6 D_PParting.f D_PParting.fd ["first", "second"] (spD ct 0 2 pPParting)) : FnOk P w K mg base CX0 215 D.f D.fd ["script"] (spLaw K ct.cl.T) := by
  refine D.F.ok scLaw (fun vs H Q E h => by obtain ⟨a, ns, rfl, _⟩ := h; rfl) (fun cdv A outer s H vs Q E hr h => ⟨_, (pss_cons (psC (ps_set (i := 1) scLaw.nd rfl (.inl rfl) (pe_lst (pa_cons pe_int (pa_cons pe_int (pa_cons (pe_callTy call_listA (by rfl) m_list (by decide +kernel) (pa_cons (pv 0) pa_nil)) (pa_cons pe_int pa_nil))))))) <|
    pss_cons (ps_set (i := 2) scLaw.nd rfl (.inl rfl) (pe_call G_LRule (hr.mono (by omega)) (by rfl) D_LRule.m D_LRule.F.kp D_LRule.b .nil pass0 (pa_cons (pv 1) pa_nil))) <|
    pss_cons (ps_set (i := 3) scLaw.nd rfl (.inl rfl) (pe_lst (pa_cons (pe_call G_LTable (hr.mono (by omega)) (by rfl) D_LTable.m D_LTable.F.kp D_LTable.b .nil pass0 (pa_cons (pv 1) (pa_cons pe_int pa_nil))) (pa_cons (pe_call G_LTable (hr.mono (by omega)) (by rfl) D_LTable.m D_LTable.F.kp D_LTable.b .nil pass0 (pa_cons (pv 1) (pa_cons pe_int pa_nil))) pa_nil)))) <|
    pss_cons (ps_for PassesOwn.never rfl (pi_range1 (by rfl) m_range (pa_cons pe_int pa_nil)) (pg_name (i := 4) scLaw.nd rfl (Or.inl rfl))
      (pss_cons (ps_set (i := 5) scLaw.nd rfl (.inl rfl) (pe_call G_LList (hr.mono (by omega)) (by rfl) D_LList.m D_LList.F.kp D_LList.b .nil pass0 (pa_cons (pv 1) (pa_cons (pv 2) (pa_cons (pv 3) pa_nil))))) <|
        pss_cons (ps_set (i := 6) scLaw.nd rfl (.inl rfl) (pe_call G_LList (hr.mono (by omega)) (by rfl) D_LList.m D_LList.F.kp D_LList.b .nil pass0 (pa_cons (pv 1) (pa_cons (pv 2) (pa_cons (pv 3) pa_nil))))) <|
        pss_cons (ps_set (i := 7) scLaw.nd rfl (.inl rfl) pe_non) <|
        pss_cons (ps_for PassesOwn.never rfl (pi_range1 (by rfl) m_range (pa_cons pe_int pa_nil)) (pg_name (i := 8) scLaw.nd rfl (Or.inr rfl))
          (pss_cons (ps_setLc (i := 9) (own := [("sealed", 12)]) (g := (gName 12)) (by rfl) scLaw.nd rfl rfl (sw_true rfl rfl rfl (by decide +kernel)) (pi_seqA (pv 5))
        (blkOk_by (own := [("sealed", 12)]) (N := ["script", "state", "rule", "tables", "k", "first", "second", "due", "number", "one", "two", "copies", "sealed"]) (sc := defScope sLaw) (by decide +kernel))
        (fun _ _ _ _ _ => (pg_name (i := 12) scLaw.nd rfl (Or.inl rfl))) (fun _ _ _ _ _ => pts_one (pt_cmpR (op_eqC (K := K) rfl hr.units) (pe_ix (ix_seqC (K := K) rfl) (pe_ix (ix_seqC (K := K) rfl) (pv 12) pe_int (fun _ _ => rfl)) pe_int (fun _ _ => rfl)) (pv 8) (nomark _)))
        (fun _ _ _ _ _ => (pv 12))) <|
            pss_cons (ps_setLc (i := 10) (own := [("sealed", 12)]) (g := (gName 12)) (by rfl) scLaw.nd rfl rfl (sw_true rfl rfl rfl (by decide +kernel)) (pi_seqA (pv 6))
        (blkOk_by (own := [("sealed", 12)]) (N := ["script", "state", "rule", "tables", "k", "first", "second", "due", "number", "one", "two", "copies", "sealed"]) (sc := defScope sLaw) (by decide +kernel))
        (fun _ _ _ _ _ => (pg_name (i := 12) scLaw.nd rfl (Or.inl rfl))) (fun _ _ _ _ _ => pts_one (pt_cmpR (op_eqC (K := K) rfl hr.units) (pe_ix (ix_seqC (K := K) rfl) (pe_ix (ix_seqC (K := K) rfl) (pv 12) pe_int (fun _ _ => rfl)) pe_int (fun _ _ => rfl)) (pv 8) (nomark _)))
        (fun _ _ _ _ _ => (pv 12))) <|
            pss_one (ps_if (PW.pt (pw_and (pt_cmpR op_isNA (pv 7) pe_non (nomark _)) (pw_and (pt_cmpR op_gtA (pe_callB call_lenA (by rfl) m_len (by decide +kernel) (pa_cons (pv 9) pa_nil)) pe_int (nomark _)) (pw_and (pt_cmpR op_gtA (pe_callB call_lenA (by rfl) m_len (by decide +kernel) (pa_cons (pv 10) pa_nil)) pe_int (nomark _)) (pw_and1 (pt_cmpR (op_neD hr.units) (pe_ix ix_seq (pe_ix ix_seq (pv 9) pe_int (fun _ _ => rfl)) pe_int (fun _ _ => rfl)) (pe_ix ix_seq (pe_ix ix_seq (pv 10) pe_int (fun _ _ => rfl)) pe_int (fun _ _ => rfl)) (nomark _)))))))
              (pss_one (ps_set (i := 7) scLaw.nd rfl (.inl rfl) (pe_tup (pa_cons (pe_ix ix_seq (pv 9) pe_int (fun _ _ => rfl)) (pa_cons (pe_ix ix_seq (pv 10) pe_int (fun _ _ => rfl)) pa_nil))))) pss_nil))) <|
        pss_cons (ps_set (i := 11) scLaw.nd rfl (.inl rfl) (pe_lst (pa_cons (pe_callTy call_listA (by rfl) m_list (by decide +kernel) (pa_cons (pv 5) pa_nil)) (pa_cons (pe_callTy call_listA (by rfl) m_list (by decide +kernel) (pa_cons (pv 6) pa_nil)) pa_nil)))) <|
        pss_one (ps_if (PW.pt (pw_or (pt_cmpR (op_neD hr.units) (pe_call G_PParting (hr.mono (by omega)) (by rfl) D_PParting.m D_PParting.F.kp D_PParting.b .nil pass0 (pa_cons (pe_ix ix_seq (pv 11) pe_int (fun _ _ => rfl)) (pa_cons (pe_ix ix_seq (pv 11) pe_int (fun _ _ => rfl)) pa_nil))) (pv 7) (nomark _)) (pw_or1 (pt_cmpR (op_neD hr.units) (pv 11) (pe_lst (pa_cons (pv 5) (pa_cons (pv 6) pa_nil))) (nomark _)))))
          (pss_one (ps_ret pe_bl)) pss_nil))) <|
    pss_one (ps_ret pe_bl)), law_body (ct := ct) (N := ["script", "state", "rule", "tables", "k", "first", "second", "due", "number", "one", "two", "copies", "sealed"]) inferInstance (by decide) (fun ns hns => ?_) h⟩)
  walk_at "s"
  refine dSeq_go ?_
  walk_at "s"
  refine ⟨_, rfl, rfl, st0_ok ns, fun b m l1 hr s1 => ?_⟩
  walk_at "s"
  refine dSeq_go ?_
  walk_at "s"
  refine ⟨_, l1, rfl, rfl, s1, by decide, by decide, fun tb1 l4 ht1 hl1 s4 => ?_⟩
  walk_at "s"
  refine ⟨_, l4, rfl, rfl, s4, by decide, by decide, fun tb2 l5 ht2 hl2 s5 => ?_⟩
  walk_at "s"
  refine ⟨by decide, ?_⟩
  refine dSeq_go ?_
  walk_at "s"
  refine ⟨by decide, by decide, ?_⟩
  have T1 : TabFit tb1 ∧ tb1.length < 100 := ⟨ht1.fit, by omega⟩
  have T2 : TabFit tb2 ∧ tb2.length < 100 := ⟨ht2.fit, by omega⟩
  refine dForGo_range (Int.toNat 3) (fun _ E C => ∃ (l : List PyData) (y4 y5 y6 y7 y8 y9 y10 y11 y12 : Option W), StL l ∧ C = [.lst l] ∧ E = [none, some (.ref 0), some (.val (ruleD b m)), some (.val (.list [tabD tb1, tabD tb2])), y4, y5, y6, y7, y8, y9, y10, y11, y12]) ?_ ?_ ⟨_, _, _, _, _, _, _, _, _, _, s5, rfl, rfl⟩
  · rintro k E C hk ⟨l, y4, y5, y6, y7, y8, y9, y10, y11, y12, s, rfl, rfl⟩ N hN
    walk_at "s"
    refine dSeq_go ?_
    walk_at "s"
    refine ⟨b, m, tb1, tb2, l, rfl, rfl, s, hr, T1, T2, fun xs l6 hx hxn hxb s6 => ?_⟩
    walk_at "s"
    refine dSeq_go ?_
    walk_at "s"
    refine ⟨b, m, tb1, tb2, l6, rfl, rfl, s6, hr, T1, T2, fun ys l7 hy hyn hyb s7 => ?_⟩
    walk_at "s"
    refine dSeq_go ?_
    walk_at "s"
    refine dSeq_go ?_
    walk_at "s"
    refine ⟨by decide, by decide, ?_⟩
    refine dForGo_range (Int.toNat 5) (fun k2 E C => ∃ (z8 z9 z10 z12 : Option W), C = [.lst l7] ∧ E = [none, some (.ref 0), some (.val (ruleD b m)), some (.val (.list [tabD tb1, tabD tb2])), some (.val (.int (0 + (k : Int)))), some (.val (.list (xs.map svD))), some (.val (.list (ys.map svD))), some (.val (dueD (dueN (dueF xs ys) k2))), z8, z9, z10, y11, z12]) ?_ ?_ ⟨_, _, _, _, rfl, rfl⟩
    · rintro k2 E C hk2 ⟨z8, z9, z10, z12, rfl, rfl⟩ N2 hN2
      walk_at "s"
      refine dSeq_go ?_
      walk_at "s"
      refine dLcGo_over svD (fun s => decide (s.1.n = 0 + (k2 : Int))) svD xs [] (by show 0 + _ ≤ _; rw [Nat.zero_add]; exact Nat.le_trans hx (by decide)) (fun x hx K L h1 h2 => ?_) ?_
      · walk_at "s"
        rw [ix_sv0, ix_ver0]
        walk_at "s"
        refine ifd (fun e => h1 (decide_eq_true e)) fun e => h2 (decide_eq_false e)
      rw [List.nil_append]
      (try walk_at "s")
      refine dSeq_go ?_
      walk_at "s"
      refine dLcGo_over svD (fun s => decide (s.1.n = 0 + (k2 : Int))) svD ys [] (by show 0 + _ ≤ _; rw [Nat.zero_add]; exact Nat.le_trans hy (by decide)) (fun x hx K L h1 h2 => ?_) ?_
      · walk_at "s"
        rw [ix_sv0, ix_ver0]
        walk_at "s"
        refine ifd (fun e => h1 (decide_eq_true e)) fun e => h2 (decide_eq_false e)
      rw [List.nil_append]
      (try walk_at "s")
      have hA := List.head?_filter (p := fun s : SV => decide (s.1.n = 0 + (k2 : Int))) (l := xs)
      have hB := List.head?_filter (p := fun s : SV => decide (s.1.n = 0 + (k2 : Int))) (l := ys)
      have hd : dueN (dueF xs ys) (k2 + 1) = (dueN (dueF xs ys) k2).or (dueF xs ys (0 + (k2 : Int))) := by rw [Int.zero_add]; rfl
      have hf : dueF xs ys (0 + (k2 : Int)) = match xs.find? (fun s => decide (s.1.n = 0 + (k2 : Int))), ys.find? (fun s => decide (s.1.n = 0 + (k2 : Int))) with | some a, some c => if a.1 = c.1 then none else some (a, c) | _, _ => none := rfl
      rw [← hA, ← hB] at hf
      generalize xs.filter (fun s => decide (s.1.n = 0 + (k2 : Int))) = A at hf ⊢
      generalize ys.filter (fun s => decide (s.1.n = 0 + (k2 : Int))) = B at hf ⊢
      rw [hf] at hd
      have fin27 : ∀ {Z9 Z10 Z12 : Option W} {o : Option (SV × SV)}, dueN (dueF xs ys) (k2 + 1) = o → N2 [none, some (.ref 0), some (.val (ruleD b m)), some (.val (.list [tabD tb1, tabD tb2])), some (.val (.int (0 + (k : Int)))), some (.val (.list (xs.map svD))), some (.val (.list (ys.map svD))), some (.val (dueD o)), some (.val (.int (0 + (k2 : Int)))), Z9, Z10, y11, Z12] [.lst l7] := fun e => hN2 _ _ ⟨_, _, _, _, rfl, by rw [e]⟩
      cases ho : dueN (dueF xs ys) k2 with
      | some p =>
        rw [ho] at hd
        obtain ⟨pa, pc⟩ := p
        unfold dueD
        walk_at "s"
        exact fin27 hd
      | none =>
        rw [ho, Option.none_or] at hd
        unfold dueD
        cases A with
        | nil =>
          walk_at "s"
          exact fin27 hd
        | cons x A =>
          cases B with
          | nil =>
            walk_at "s"
            rw [if_pos (decide_eq_true (by omega))]
            exact fin27 hd
          | cons y B =>
            walk_at "s"
            rw [if_pos (decide_eq_true (by omega)), if_pos (decide_eq_true (by omega)), ix_sv0]
            walk_at "s"
            rw [ix_sv0]
            walk_at "s"
            refine ⟨okD_ver _, okD_ver _, ?_⟩
            rw [eqv_ver]
            have hd2 : dueN (dueF xs ys) (k2 + 1) = if x.1 = y.1 then none else some (x, y) := hd
            by_cases hq : x.1 = y.1
            · rw [if_pos hq] at hd2
              rw [decide_eq_true hq, if_neg (by decide)]
              exact fin27 hd2
            · rw [if_neg hq] at hd2
              rw [decide_eq_false hq, if_pos (by decide)]
              exact ⟨by decide, fin27 hd2⟩
    · rintro E C ⟨z8, z9, z10, z12, rfl, rfl⟩
      walk_at "s"
      refine dSeq_go ?_
      walk_at "s"
      refine ⟨by decide, xs.map svD, ys.map svD, rfl, svOk_all _, svOk_all _, by rw [List.length_map]; omega, by rw [List.length_map]; omega, ?_⟩
      rw [part_due hxn hyn hyb]
      have h5 : Int.toNat 5 = 5 := rfl
      rw [h5]
      have ho := okD_due (dueN (dueF xs ys) 5)
      generalize dueN (dueF xs ys) 5 = o at ho
      walk_at "s"
      refine ⟨ho, ho, ?_⟩
      rw [if_neg (by rw [SeqAt.eqv_refl _ ho.lay]; decide)]
      refine ⟨by decide, okD_two27 xs ys, okD_two27 xs ys, ?_⟩
      rw [if_neg (by rw [SeqAt.eqv_refl _ (okD_two27 xs ys).lay]; decide)]
      exact hN _ _ ⟨l7, _, _, _, _, _, _, _, _, _, s7, rfl, rfl⟩
  · rintro E C ⟨l, y4, y5, y6, y7, y8, y9, y10, y11, y12, s, rfl, rfl⟩
    rfl
end

set_option maxHeartbeats 0 in
theorem all_mk {l : PySem.W.OpenLaw} {w : World} {K : PySem.W.Frag} {h : Heap} {mg : Str → Option Value} {fa f1 f2 f3 f4 f5 f6 f7 f8 f9 f10 f11 f12 f13 f14 f15 f16 f17 f18 f19 f20 f21 f22 cT_parting PT_parting : Addr} {fd1 fd2 fd3 fd4 fd5 fd6 fd7 fd8 fd9 fd10 fd11 fd12 fd13 fd14 fd15 fd16 fd17 fd18 fd19 fd20 fd21 fd22 : FuncData} (X : K.In h) (G : h.Ns mainGlobals mg) (hfa : mg "law" = some (.ref fa))
    (a1 : PySem.W.nsIn K mainGlobals "parting" = some (some (.ref f1)))
    (F1 : Fun K "parting" "parting" sPParting f1 fd1)
    (hx_parting : fd1.code = .ref cT_parting)
    (a2 : PySem.W.nsIn K mainGlobals "_law_draw" = some (some (.ref f2)))
    (F2 : Fun K "_law_draw" "_law_draw" sDraw f2 fd2)
    (a3 : PySem.W.nsIn K mainGlobals "_law_rule" = some (some (.ref f3)))
    (F3 : Fun K "_law_rule" "_law_rule" sLRule f3 fd3)
    (a4 : PySem.W.nsIn K mainGlobals "_law_codes" = some (some (.ref f4)))
    (F4 : Fun K "_law_codes" "_law_codes" sLCodes f4 fd4)
    (a5 : PySem.W.nsIn K mainGlobals "_law_encode" = some (some (.ref f5)))
    (F5 : Fun K "_law_encode" "_law_encode" sLEncode f5 fd5)
    (a6 : PySem.W.nsIn K mainGlobals "_law_digest" = some (some (.ref f6)))
    (F6 : Fun K "_law_digest" "_law_digest" sLDigest f6 fd6)
    (a7 : PySem.W.nsIn K mainGlobals "_law_key" = some (some (.ref f7)))
    (F7 : Fun K "_law_key" "_law_key" sKey f7 fd7)
    (a8 : PySem.W.nsIn K mainGlobals "_law_row" = some (some (.ref f8)))
    (F8 : Fun K "_law_row" "_law_row" sRow f8 fd8)
    (a9 : PySem.W.nsIn K mainGlobals "_law_table" = some (some (.ref f9)))
    (F9 : Fun K "_law_table" "_law_table" sTable f9 fd9)
    (a10 : PySem.W.nsIn K mainGlobals "_law_cell" = some (some (.ref f10)))
    (F10 : Fun K "_law_cell" "_law_cell" sLCell f10 fd10)
    (a11 : PySem.W.nsIn K mainGlobals "_law_rank" = some (some (.ref f11)))
    (F11 : Fun K "_law_rank" "_law_rank" sLRank f11 fd11)
    (a12 : PySem.W.nsIn K mainGlobals "_law_top" = some (some (.ref f12)))
    (F12 : Fun K "_law_top" "_law_top" sLTop f12 fd12)
    (a13 : PySem.W.nsIn K mainGlobals "_law_tree" = some (some (.ref f13)))
    (F13 : Fun K "_law_tree" "_law_tree" sLTree f13 fd13)
    (a14 : PySem.W.nsIn K mainGlobals "_law_link" = some (some (.ref f14)))
    (F14 : Fun K "_law_link" "_law_link" sLLink f14 fd14)
    (a15 : PySem.W.nsIn K mainGlobals "_law_chain" = some (some (.ref f15)))
    (F15 : Fun K "_law_chain" "_law_chain" sLChain f15 fd15)
    (a16 : PySem.W.nsIn K mainGlobals "_law_places" = some (some (.ref f16)))
    (F16 : Fun K "_law_places" "_law_places" sLPlaces f16 fd16)
    (a17 : PySem.W.nsIn K mainGlobals "_law_heights" = some (some (.ref f17)))
    (F17 : Fun K "_law_heights" "_law_heights" sLHeights f17 fd17)
    (a18 : PySem.W.nsIn K mainGlobals "_law_secret" = some (some (.ref f18)))
    (F18 : Fun K "_law_secret" "_law_secret" sLSecret f18 fd18)
    (a19 : PySem.W.nsIn K mainGlobals "_law_seal" = some (some (.ref f19)))
    (F19 : Fun K "_law_seal" "_law_seal" sLSeal f19 fd19)
    (a20 : PySem.W.nsIn K mainGlobals "_law_sealed" = some (some (.ref f20)))
    (F20 : Fun K "_law_sealed" "_law_sealed" sLSealed f20 fd20)
    (a21 : PySem.W.nsIn K mainGlobals "_law_list" = some (some (.ref f21)))
    (F21 : Fun K "_law_list" "_law_list" sLList f21 fd21)
    (a22 : PySem.W.nsIn K mainGlobals "law" = some (some (.ref f22)))
    (F22 : Fun K "law" "law" sLaw f22 fd22)
    (tC_parting : PySem.W.codeHdIn K cT_parting PT_parting = true)
    (tN_parting : K.lookup PT_parting = none)
    (tT_parting : h.get? PT_parting = some { cls := .none, data := .fields #[] })
    (z1 : PySem.W.nsIn K mainGlobals "int" = some none)
    (z2 : PySem.W.nsIn K mainGlobals "isinstance" = some none)
    (z3 : PySem.W.nsIn K mainGlobals "len" = some none)
    (z4 : PySem.W.nsIn K mainGlobals "list" = some none)
    (z5 : PySem.W.nsIn K mainGlobals "ord" = some none)
    (z6 : PySem.W.nsIn K mainGlobals "range" = some none)
    (z7 : PySem.W.nsIn K mainGlobals "sorted" = some none)
    (z8 : PySem.W.nsIn K mainGlobals "str" = some none)
    (z9 : PySem.W.nsIn K mainGlobals "tuple" = some none) :
    LamX.LawAtS l w K CX0 215 63 "script" mg fa h := by
  have e := hfa.symm.trans (PySem.W.mg_of X G a22)
  cases e
  have b1 := F1.binds (ps := ["first", "second"]) fun _ _ _ _ _ _ us hl => match us, hl with | [_, _], _ => rfl
  let d_parting : Def K mg "parting" sPParting ["first", "second"] := ⟨_, _, F1, b1, PySem.W.mg_of X G a1⟩
  have b2 := F2.binds (ps := ["state", "limit"]) fun _ _ _ _ _ _ us hl => match us, hl with | [_, _], _ => rfl
  let d__law_draw : Def K mg "_law_draw" sDraw ["state", "limit"] := ⟨_, _, F2, b2, PySem.W.mg_of X G a2⟩
  have b3 := F3.binds (ps := ["state"]) fun _ _ _ _ _ _ us hl => match us, hl with | [_], _ => rfl
  let d__law_rule : Def K mg "_law_rule" sLRule ["state"] := ⟨_, _, F3, b3, PySem.W.mg_of X G a3⟩
  have b4 := F4.binds (ps := ["text"]) fun _ _ _ _ _ _ us hl => match us, hl with | [_], _ => rfl
  let d__law_codes : Def K mg "_law_codes" sLCodes ["text"] := ⟨_, _, F4, b4, PySem.W.mg_of X G a4⟩
  have b5 := F5.binds (ps := ["value"]) fun _ _ _ _ _ _ us hl => match us, hl with | [_], _ => rfl
  let d__law_encode : Def K mg "_law_encode" sLEncode ["value"] := ⟨_, _, F5, b5, PySem.W.mg_of X G a5⟩
  have b6 := F6.binds (ps := ["rule", "value"]) fun _ _ _ _ _ _ us hl => match us, hl with | [_, _], _ => rfl
  let d__law_digest : Def K mg "_law_digest" sLDigest ["rule", "value"] := ⟨_, _, F6, b6, PySem.W.mg_of X G a6⟩
  have b7 := F7.binds (ps := ["state"]) fun _ _ _ _ _ _ us hl => match us, hl with | [_], _ => rfl
  let d__law_key : Def K mg "_law_key" sKey ["state"] := ⟨_, _, F7, b7, PySem.W.mg_of X G a7⟩
  have b8 := F8.binds (ps := ["state"]) fun _ _ _ _ _ _ us hl => match us, hl with | [_], _ => rfl
  let d__law_row : Def K mg "_law_row" sRow ["state"] := ⟨_, _, F8, b8, PySem.W.mg_of X G a8⟩
  have b9 := F9.binds (ps := ["state", "most"]) fun _ _ _ _ _ _ us hl => match us, hl with | [_, _], _ => rfl
  let d__law_table : Def K mg "_law_table" sTable ["state", "most"] := ⟨_, _, F9, b9, PySem.W.mg_of X G a9⟩
  have b10 := F10.binds (ps := ["row", "column"]) fun _ _ _ _ _ _ us hl => match us, hl with | [_, _], _ => rfl
  let d__law_cell : Def K mg "_law_cell" sLCell ["row", "column"] := ⟨_, _, F10, b10, PySem.W.mg_of X G a10⟩
  have b11 := F11.binds (ps := ["key"]) fun _ _ _ _ _ _ us hl => match us, hl with | [_], _ => rfl
  let d__law_rank : Def K mg "_law_rank" sLRank ["key"] := ⟨_, _, F11, b11, PySem.W.mg_of X G a11⟩
  have b12 := F12.binds (ps := ["table"]) fun _ _ _ _ _ _ us hl => match us, hl with | [_], _ => rfl
  let d__law_top : Def K mg "_law_top" sLTop ["table"] := ⟨_, _, F12, b12, PySem.W.mg_of X G a12⟩
  have b13 := F13.binds (ps := ["rule", "table"]) fun _ _ _ _ _ _ us hl => match us, hl with | [_, _], _ => rfl
  let d__law_tree : Def K mg "_law_tree" sLTree ["rule", "table"] := ⟨_, _, F13, b13, PySem.W.mg_of X G a13⟩
  have b14 := F14.binds (ps := ["rule", "entry"]) fun _ _ _ _ _ _ us hl => match us, hl with | [_, _], _ => rfl
  let d__law_link : Def K mg "_law_link" sLLink ["rule", "entry"] := ⟨_, _, F14, b14, PySem.W.mg_of X G a14⟩
  have b15 := F15.binds (ps := ["rule", "where", "first", "last", "start"]) fun _ _ _ _ _ _ us hl => match us, hl with | [_, _, _, _, _], _ => rfl
  let d__law_chain : Def K mg "_law_chain" sLChain ["rule", "where", "first", "last", "start"] := ⟨_, _, F15, b15, PySem.W.mg_of X G a15⟩
  have b16 := F16.binds (ps := ["number"]) fun _ _ _ _ _ _ us hl => match us, hl with | [_], _ => rfl
  let d__law_places : Def K mg "_law_places" sLPlaces ["number"] := ⟨_, _, F16, b16, PySem.W.mg_of X G a16⟩
  have b17 := F17.binds (ps := ["rule", "number", "value"]) fun _ _ _ _ _ _ us hl => match us, hl with | [_, _, _], _ => rfl
  let d__law_heights : Def K mg "_law_heights" sLHeights ["rule", "number", "value"] := ⟨_, _, F17, b17, PySem.W.mg_of X G a17⟩
  have b18 := F18.binds (ps := ["rule", "secret", "where"]) fun _ _ _ _ _ _ us hl => match us, hl with | [_, _, _], _ => rfl
  let d__law_secret : Def K mg "_law_secret" sLSecret ["rule", "secret", "where"] := ⟨_, _, F18, b18, PySem.W.mg_of X G a18⟩
  have b19 := F19.binds (ps := ["rule", "secret", "number", "value"]) fun _ _ _ _ _ _ us hl => match us, hl with | [_, _, _, _], _ => rfl
  let d__law_seal : Def K mg "_law_seal" sLSeal ["rule", "secret", "number", "value"] := ⟨_, _, F19, b19, PySem.W.mg_of X G a19⟩
  have b20 := F20.binds (ps := ["state", "rule", "secret", "table", "number"]) fun _ _ _ _ _ _ us hl => match us, hl with | [_, _, _, _, _], _ => rfl
  let d__law_sealed : Def K mg "_law_sealed" sLSealed ["state", "rule", "secret", "table", "number"] := ⟨_, _, F20, b20, PySem.W.mg_of X G a20⟩
  have b21 := F21.binds (ps := ["state", "rule", "tables"]) fun _ _ _ _ _ _ us hl => match us, hl with | [_, _, _], _ => rfl
  let d__law_list : Def K mg "_law_list" sLList ["state", "rule", "tables"] := ⟨_, _, F21, b21, PySem.W.mg_of X G a21⟩
  have b22 := F22.binds (ps := ["script"]) fun _ _ _ _ _ _ us hl => match us, hl with | [_], _ => rfl
  let d_law : Def K mg "law" sLaw ["script"] := ⟨_, _, F22, b22, PySem.W.mg_of X G a22⟩
  have m_int := PySem.W.mg_none_of X G z1
  have m_isinstance := PySem.W.mg_none_of X G z2
  have m_len := PySem.W.mg_none_of X G z3
  have m_list := PySem.W.mg_none_of X G z4
  have m_ord := PySem.W.mg_none_of X G z5
  have m_range := PySem.W.mg_none_of X G z6
  have m_sorted := PySem.W.mg_none_of X G z7
  have m_str := PySem.W.mg_none_of X G z8
  have m_tuple := PySem.W.mg_none_of X G z9
  have hc_parting : d_parting.fd.code = .ref cT_parting := hx_parting
  let ct : Ct := ⟨clT [] [] [(PT_parting, lamQ "parting")], E0, X0⟩
  haveI : CtOk K ct := ctOk_of fun p hp => by cases hp
  haveI : LamT ct PT_parting (lamQ "parting") := ⟨List.mem_singleton.mpr rfl, fun p hp _ => by rw [List.mem_singleton.mp hp]⟩
  have hb : ∀ (s : Shared) (v : Value), BindsTo s fd22 ⟨[v], []⟩ [("script", v)] := fun s v => by
    obtain ⟨_, _, _, _, _, _, _, _, _, e, _, _⟩ := F22.ex
    rw [e]
    exact .of_eq rfl
  refine ⟨fd22, [(cT_parting, PT_parting)], spLaw K [(PT_parting, lamQ "parting")], (fun p hp => by
    simp only [List.mem_cons, List.not_mem_nil, or_false] at hp
    rcases hp with rfl
    · exact tT_parting), (fun p hp => by
    simp only [List.mem_cons, List.not_mem_nil, or_false] at hp
    rcases hp with rfl
    · exact tN_parting), (fun p hp => by
    simp only [List.mem_cons, List.not_mem_nil, or_false] at hp
    rcases hp with rfl
    · exact PySem.W.codeHd_of_K X tC_parting), hb, fun H a ns hl _ hH hS => ⟨a, ns, rfl, hS, hl, (fun p hp => by
    simp only [List.mem_cons, List.not_mem_nil, or_false] at hp
    rcases hp with rfl
    · exact LamX.TabS.nil (hH (cT_parting, PT_parting) (by simp))), fun _ => rfl⟩, fun base _ _ TBs => ?_⟩
  have TB_parting := TBs (cT_parting, PT_parting) (by simp)
  have GD := ok_draw (P := l.prog) (w := w) (mg := mg) (base := base) d__law_draw m_len m_int
  have GK := ok_key d__law_key d__law_draw m_range GD
  have GR := ok_row d__law_row d__law_draw m_range m_tuple GD
  have GT := ok_table d__law_table d__law_draw d__law_key d__law_row m_range m_sorted GD GK GR
  have G_LDraw := br_draw (ct := ct) GD
  have G_LTable := br_table (ct := ct) GT
  have G_LCodes := ok_LCodes (P := l.prog) (w := w) (mg := mg) (base := base) (ct := ct) d__law_codes m_ord
  have G_LEncode := ok_LEncode (P := l.prog) (w := w) (mg := mg) (base := base) (ct := ct) d__law_encode d__law_codes m_isinstance m_len m_str m_tuple G_LCodes
  have G_LDigest := ok_LDigest (P := l.prog) (w := w) (mg := mg) (base := base) (ct := ct) d__law_digest d__law_encode m_int m_len G_LEncode
  have G_LRule := ok_LRule (P := l.prog) (w := w) (mg := mg) (base := base) (ct := ct) d__law_rule d__law_draw G_LDraw
  have G_LCell := ok_LCell (P := l.prog) (w := w) (mg := mg) (base := base) (ct := ct) d__law_cell m_len
  have G_LRank := ok_LRank (P := l.prog) (w := w) (mg := mg) (base := base) (ct := ct) d__law_rank d__law_codes m_int G_LCodes
  have G_LTop := ok_LTop (P := l.prog) (w := w) (mg := mg) (base := base) (ct := ct) d__law_top d__law_rank m_len m_range G_LRank
  have G_LLink := ok_LLink (P := l.prog) (w := w) (mg := mg) (base := base) (ct := ct) d__law_link d__law_cell d__law_digest m_range m_tuple G_LCell G_LDigest
  have G_LTree := ok_LTree (P := l.prog) (w := w) (mg := mg) (base := base) (ct := ct) d__law_tree d__law_digest d__law_top d__law_link m_len G_LDigest G_LTop G_LLink
  have G_LChain := ok_LChain (P := l.prog) (w := w) (mg := mg) (base := base) (ct := ct) d__law_chain d__law_digest m_range G_LDigest
  have G_LPlaces := ok_LPlaces (P := l.prog) (w := w) (mg := mg) (base := base) (ct := ct) d__law_places
  have G_LHeights := ok_LHeights (P := l.prog) (w := w) (mg := mg) (base := base) (ct := ct) d__law_heights d__law_digest m_int G_LDigest
  have G_LSecret := ok_LSecret (P := l.prog) (w := w) (mg := mg) (base := base) (ct := ct) d__law_secret d__law_digest G_LDigest
  have G_LSeal := ok_LSeal (P := l.prog) (w := w) (mg := mg) (base := base) (ct := ct) d__law_seal d__law_places d__law_heights d__law_chain d__law_secret m_range m_tuple G_LPlaces G_LHeights G_LChain G_LSecret
  have G_LSealed := ok_LSealed (P := l.prog) (w := w) (mg := mg) (base := base) (ct := ct) d__law_sealed d__law_tree d__law_draw d__law_seal G_LTree G_LDraw G_LSeal
  have G_PParting := ok_PParting (P := l.prog) (w := w) (mg := mg) (base := base) (ct := ct) d_parting hc_parting TB_parting m_sorted
  have G_LList := ok_LList (P := l.prog) (w := w) (mg := mg) (base := base) (ct := ct) d__law_list d__law_draw d__law_sealed m_len m_range G_LDraw G_LSealed
  have W := ok_Law (P := l.prog) (w := w) (base := base) (ct := ct) d_law d__law_rule d__law_table d__law_list d_parting m_len m_list m_range G_LRule G_LTable G_LList G_PParting
  exact W
theorem hx_at {l : List Bool} (h : l.all id = true) (i : Nat) {b : Bool} (e : l[i]? = some b) : b = true := List.all_eq_true.mp h b (List.mem_of_getElem? e)
set_option maxHeartbeats 0 in
theorem hfacts {w : World} {K : PySem.W.Frag} {h : Heap} {mg : Str → Option Value} {fa : Addr} (X : K.In h) (G : h.Ns mainGlobals mg) (hfa_ : mg "law" = some (.ref fa)) (c : He.SaysX hfa hfn [] htf hex w h K) :
    LamX.LawAtS PySem.Challenge.rw_rightrows_k27_parting w K CX0 215 63 "script" mg fa h := by
  have m0 : hex K = true := c.more
  obtain ⟨y0, m1⟩ := Bool.and_eq_true_iff.mp m0
  obtain ⟨y1, m2⟩ := Bool.and_eq_true_iff.mp m1
  have a1 : PySem.W.nsIn K mainGlobals "parting" = some (some (.ref (He.ga K "parting"))) := of_decide_eq_true (hx_at y0 0 rfl)
  obtain ⟨fd1, E1⟩ := c.t.d.def_ 0 (d := hd1) (by rfl)
  have F1 : Fun K "parting" "parting" sPParting (He.ga K "parting") fd1 := funOfD (p := ("parting", none)) E1
  have hx_parting : fd1.code = .ref (He.cT K ("parting", none)).1 := codeOfF (p := ("parting", none)) F1
  have a2 : PySem.W.nsIn K mainGlobals "_law_draw" = some (some (.ref (He.ga K "_law_draw"))) := of_decide_eq_true (hx_at y0 1 rfl)
  obtain ⟨fd2, E2⟩ := c.t.d.def_ 1 (d := hd2) (by rfl)
  have F2 : Fun K "_law_draw" "_law_draw" sDraw (He.ga K "_law_draw") fd2 := funOfD (p := ("_law_draw", none)) E2
  have a3 : PySem.W.nsIn K mainGlobals "_law_rule" = some (some (.ref (He.ga K "_law_rule"))) := of_decide_eq_true (hx_at y0 2 rfl)
  obtain ⟨fd3, E3⟩ := c.t.d.def_ 2 (d := hd3) (by rfl)
  have F3 : Fun K "_law_rule" "_law_rule" sLRule (He.ga K "_law_rule") fd3 := funOfD (p := ("_law_rule", none)) E3
  have a4 : PySem.W.nsIn K mainGlobals "_law_codes" = some (some (.ref (He.ga K "_law_codes"))) := of_decide_eq_true (hx_at y0 3 rfl)
  obtain ⟨fd4, E4⟩ := c.t.d.def_ 3 (d := hd4) (by rfl)
  have F4 : Fun K "_law_codes" "_law_codes" sLCodes (He.ga K "_law_codes") fd4 := funOfD (p := ("_law_codes", none)) E4
  have a5 : PySem.W.nsIn K mainGlobals "_law_encode" = some (some (.ref (He.ga K "_law_encode"))) := of_decide_eq_true (hx_at y0 4 rfl)
  obtain ⟨fd5, E5⟩ := c.t.d.def_ 4 (d := hd5) (by rfl)
  have F5 : Fun K "_law_encode" "_law_encode" sLEncode (He.ga K "_law_encode") fd5 := funOfD (p := ("_law_encode", none)) E5
  have a6 : PySem.W.nsIn K mainGlobals "_law_digest" = some (some (.ref (He.ga K "_law_digest"))) := of_decide_eq_true (hx_at y0 5 rfl)
  obtain ⟨fd6, E6⟩ := c.t.d.def_ 5 (d := hd6) (by rfl)
  have F6 : Fun K "_law_digest" "_law_digest" sLDigest (He.ga K "_law_digest") fd6 := funOfD (p := ("_law_digest", none)) E6
  have a7 : PySem.W.nsIn K mainGlobals "_law_key" = some (some (.ref (He.ga K "_law_key"))) := of_decide_eq_true (hx_at y0 6 rfl)
  obtain ⟨fd7, E7⟩ := c.t.d.def_ 6 (d := hd7) (by rfl)
  have F7 : Fun K "_law_key" "_law_key" sKey (He.ga K "_law_key") fd7 := funOfD (p := ("_law_key", none)) E7
  have a8 : PySem.W.nsIn K mainGlobals "_law_row" = some (some (.ref (He.ga K "_law_row"))) := of_decide_eq_true (hx_at y0 7 rfl)
  obtain ⟨fd8, E8⟩ := c.t.d.def_ 7 (d := hd8) (by rfl)
  have F8 : Fun K "_law_row" "_law_row" sRow (He.ga K "_law_row") fd8 := funOfD (p := ("_law_row", none)) E8
  have a9 : PySem.W.nsIn K mainGlobals "_law_table" = some (some (.ref (He.ga K "_law_table"))) := of_decide_eq_true (hx_at y0 8 rfl)
  obtain ⟨fd9, E9⟩ := c.t.d.def_ 8 (d := hd9) (by rfl)
  have F9 : Fun K "_law_table" "_law_table" sTable (He.ga K "_law_table") fd9 := funOfD (p := ("_law_table", none)) E9
  have a10 : PySem.W.nsIn K mainGlobals "_law_cell" = some (some (.ref (He.ga K "_law_cell"))) := of_decide_eq_true (hx_at y0 9 rfl)
  obtain ⟨fd10, E10⟩ := c.t.d.def_ 9 (d := hd10) (by rfl)
  have F10 : Fun K "_law_cell" "_law_cell" sLCell (He.ga K "_law_cell") fd10 := funOfD (p := ("_law_cell", none)) E10
  have a11 : PySem.W.nsIn K mainGlobals "_law_rank" = some (some (.ref (He.ga K "_law_rank"))) := of_decide_eq_true (hx_at y0 10 rfl)
  obtain ⟨fd11, E11⟩ := c.t.d.def_ 10 (d := hd11) (by rfl)
  have F11 : Fun K "_law_rank" "_law_rank" sLRank (He.ga K "_law_rank") fd11 := funOfD (p := ("_law_rank", none)) E11
  have a12 : PySem.W.nsIn K mainGlobals "_law_top" = some (some (.ref (He.ga K "_law_top"))) := of_decide_eq_true (hx_at y0 11 rfl)
  obtain ⟨fd12, E12⟩ := c.t.d.def_ 11 (d := hd12) (by rfl)
  have F12 : Fun K "_law_top" "_law_top" sLTop (He.ga K "_law_top") fd12 := funOfD (p := ("_law_top", none)) E12
  have a13 : PySem.W.nsIn K mainGlobals "_law_tree" = some (some (.ref (He.ga K "_law_tree"))) := of_decide_eq_true (hx_at y0 12 rfl)
  obtain ⟨fd13, E13⟩ := c.t.d.def_ 12 (d := hd13) (by rfl)
  have F13 : Fun K "_law_tree" "_law_tree" sLTree (He.ga K "_law_tree") fd13 := funOfD (p := ("_law_tree", none)) E13
  have a14 : PySem.W.nsIn K mainGlobals "_law_link" = some (some (.ref (He.ga K "_law_link"))) := of_decide_eq_true (hx_at y0 13 rfl)
  obtain ⟨fd14, E14⟩ := c.t.d.def_ 13 (d := hd14) (by rfl)
  have F14 : Fun K "_law_link" "_law_link" sLLink (He.ga K "_law_link") fd14 := funOfD (p := ("_law_link", none)) E14
  have a15 : PySem.W.nsIn K mainGlobals "_law_chain" = some (some (.ref (He.ga K "_law_chain"))) := of_decide_eq_true (hx_at y0 14 rfl)
  obtain ⟨fd15, E15⟩ := c.t.d.def_ 14 (d := hd15) (by rfl)
  have F15 : Fun K "_law_chain" "_law_chain" sLChain (He.ga K "_law_chain") fd15 := funOfD (p := ("_law_chain", none)) E15
  have a16 : PySem.W.nsIn K mainGlobals "_law_places" = some (some (.ref (He.ga K "_law_places"))) := of_decide_eq_true (hx_at y0 15 rfl)
  obtain ⟨fd16, E16⟩ := c.t.d.def_ 15 (d := hd16) (by rfl)
  have F16 : Fun K "_law_places" "_law_places" sLPlaces (He.ga K "_law_places") fd16 := funOfD (p := ("_law_places", none)) E16
  have a17 : PySem.W.nsIn K mainGlobals "_law_heights" = some (some (.ref (He.ga K "_law_heights"))) := of_decide_eq_true (hx_at y0 16 rfl)
  obtain ⟨fd17, E17⟩ := c.t.d.def_ 16 (d := hd17) (by rfl)
  have F17 : Fun K "_law_heights" "_law_heights" sLHeights (He.ga K "_law_heights") fd17 := funOfD (p := ("_law_heights", none)) E17
  have a18 : PySem.W.nsIn K mainGlobals "_law_secret" = some (some (.ref (He.ga K "_law_secret"))) := of_decide_eq_true (hx_at y0 17 rfl)
  obtain ⟨fd18, E18⟩ := c.t.d.def_ 17 (d := hd18) (by rfl)
  have F18 : Fun K "_law_secret" "_law_secret" sLSecret (He.ga K "_law_secret") fd18 := funOfD (p := ("_law_secret", none)) E18
  have a19 : PySem.W.nsIn K mainGlobals "_law_seal" = some (some (.ref (He.ga K "_law_seal"))) := of_decide_eq_true (hx_at y0 18 rfl)
  obtain ⟨fd19, E19⟩ := c.t.d.def_ 18 (d := hd19) (by rfl)
  have F19 : Fun K "_law_seal" "_law_seal" sLSeal (He.ga K "_law_seal") fd19 := funOfD (p := ("_law_seal", none)) E19
  have a20 : PySem.W.nsIn K mainGlobals "_law_sealed" = some (some (.ref (He.ga K "_law_sealed"))) := of_decide_eq_true (hx_at y0 19 rfl)
  obtain ⟨fd20, E20⟩ := c.t.d.def_ 19 (d := hd20) (by rfl)
  have F20 : Fun K "_law_sealed" "_law_sealed" sLSealed (He.ga K "_law_sealed") fd20 := funOfD (p := ("_law_sealed", none)) E20
  have a21 : PySem.W.nsIn K mainGlobals "_law_list" = some (some (.ref (He.ga K "_law_list"))) := of_decide_eq_true (hx_at y1 0 rfl)
  obtain ⟨fd21, E21⟩ := c.t.d.def_ 20 (d := hd21) (by rfl)
  have F21 : Fun K "_law_list" "_law_list" sLList (He.ga K "_law_list") fd21 := funOfD (p := ("_law_list", none)) E21
  have a22 : PySem.W.nsIn K mainGlobals "law" = some (some (.ref (He.ga K "law"))) := of_decide_eq_true (hx_at y1 1 rfl)
  obtain ⟨fd22, E22⟩ := c.t.d.def_ 21 (d := hd22) (by rfl)
  have F22 : Fun K "law" "law" sLaw (He.ga K "law") fd22 := funOfD (p := ("law", none)) E22
  have tC_parting := c.hd ("parting", none) (by simp [htf])
  have tN_parting := c.out ("parting", none) (by simp [htf])
  have tT_parting := c.empty ("parting", none) (by simp [htf])
  have z1 : PySem.W.nsIn K mainGlobals "int" = some none := of_decide_eq_true (hx_at y1 2 rfl)
  have z2 : PySem.W.nsIn K mainGlobals "isinstance" = some none := of_decide_eq_true (hx_at y1 3 rfl)
  have z3 : PySem.W.nsIn K mainGlobals "len" = some none := of_decide_eq_true (hx_at y1 4 rfl)
  have z4 : PySem.W.nsIn K mainGlobals "list" = some none := of_decide_eq_true (hx_at y1 5 rfl)
  have z5 : PySem.W.nsIn K mainGlobals "ord" = some none := of_decide_eq_true (hx_at y1 6 rfl)
  have z6 : PySem.W.nsIn K mainGlobals "range" = some none := of_decide_eq_true (hx_at y1 7 rfl)
  have z7 : PySem.W.nsIn K mainGlobals "sorted" = some none := of_decide_eq_true (hx_at y1 8 rfl)
  have z8 : PySem.W.nsIn K mainGlobals "str" = some none := of_decide_eq_true (hx_at y1 9 rfl)
  have z9 : PySem.W.nsIn K mainGlobals "tuple" = some none := of_decide_eq_true (hx_at y1 10 rfl)
  exact all_mk X G hfa_ a1 F1 hx_parting a2 F2 a3 F3 a4 F4 a5 F5 a6 F6 a7 F7 a8 F8 a9 F9 a10 F10 a11 F11 a12 F12 a13 F13 a14 F14 a15 F15 a16 F16 a17 F17 a18 F18 a19 F19 a20 F20 a21 F21 a22 F22 tC_parting tN_parting tT_parting z1 z2 z3 z4 z5 z6 z7 z8 z9
end RR
open PySem PySem.W PyProof.Rows
set_option maxRecDepth 100000 in
set_option maxHeartbeats 0 in
theorem PySem.Challenge.cw_rightrows_k27_parting_holds : PySem.Challenge.rw_rightrows_k27_parting.Holds := by
  w_on; o_law
  refine HandSHeadRun.head_any (r := OpenLaw.row PySem.Challenge.rw_rightrows_k27_parting) (q := PySem.W.view (OpenLaw.row PySem.Challenge.rw_rightrows_k27_parting).prog [23]) (H := RR.hhk) (ob := RR.hob) (M := 20000) (loose := RR.hnames) (d := HandSHeadRun.topDef (OpenLaw.row PySem.Challenge.rw_rightrows_k27_parting).prog 23) (kwd := []) RR.hob_eq
    (by kernel_rfl) (fun s => by kernel_rfl) RR.hrun (by kernel_rfl) (by kernel_rfl) (by kernel_rfl) (by rfl) (by first | assumption | decide +kernel) (by decide +kernel) ⟨rfl, rfl, rfl, rfl, rfl, by decide +kernel⟩ ?hw ?hc
  case hw => w_witness2
  case hc =>
    refine LamX.walk_ofTsE (l := PySem.Challenge.rw_rightrows_k27_parting) (n := 63) (k := 215) (x := "script") (CX := fun _ => L2.CX0) rfl (by decide) (by kernel_rfl) ⟨rfl, by decide, by decide⟩ ?F (fun _ _ _ _ _ h => h)
    intro w mg fa h Y G hmg0
    obtain ⟨K, KX, c⟩ := Y
    have hmg : mg ("law" : PySem.Str) = some (.ref fa) := by
      have e : (HandSHeadRun.topDef (OpenLaw.row PySem.Challenge.rw_rightrows_k27_parting).prog 23).name = ("law" : PySem.Str) := by kernel_rfl
      rw [← e]
      exact hmg0
    exact ⟨K, KX, RR.hfacts KX G hmg c⟩
