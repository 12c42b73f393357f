import PyProof.Rows.All
import Wide.All
import OpenK.AllK
import Wide.FinOn
import HandS.ForMost
import HandS.Wide
import HandS.Codes
import HandS.More
import HandS.IsInst
import PySem.Challenge.RW_rightrows_k01_encodings
import HandS.Style
import HandS.TupAny
import HandS.Walk
import KE.KIntText
set_option Elab.async false
set_option linter.all false
set_option maxRecDepth 100000
namespace RR
open PySem PySem.Spec PyProof.Rows L2
def topS (i : Nat) : Stmt := PySem.Challenge.pw_rightrows_k01_encodings.main.body.getD i (.Pass ⟨0, 0, 0, 0⟩)
abbrev sDraw : Stmt := topS 3
/-! ### heaps -/
theorem same_new {H : Hp} {p : Addr} (h : H p = none) (o : HO) : Same H (upd H p o) := fun b u q => by
  rw [upd_ne (ne_of_none q h)]
  exact q
/-- all but the drawer's list stands as it was -/
def Le (st : Addr) (H H' : Hp) : Prop := ∀ b o, b ≠ st → H b = some o → H' b = some o
theorem Le.refl (st : Addr) (H : Hp) : Le st H H := fun _ _ _ h => h
theorem Le.trans {st : Addr} {H H1 H2 : Hp} (a : Le st H H1) (b : Le st H1 H2) : Le st H H2 := fun c o n h => b c o n (a c o n h)
theorem Le.of {st : Addr} {H H' : Hp} (a : Same H H') : Le st H H' := fun b o _ h => a b o h
theorem Le.st {st : Addr} {H : Hp} (o : HO) : Le st H (upd H st o) := fun b u n h => by
  rw [upd_ne n]
  exact h
/-- the drawer's list -/
def Good (st l : Addr) (H : Hp) : Prop := ∃ (a p c : Int) (ns : List Int), H st = some (.lst [.int a, .int p, .ref l, .int c]) ∧ 0 ≤ a ∧ 0 ≤ p ∧ 0 ≤ c ∧ c < 2147483647 ∧ l ≠ st ∧ H l = some (.lst (ns.map V.int))
theorem Good.same {st l : Addr} {H H' : Hp} (g : Good st l H) (s : Same H H') : Good st l H' := by
  obtain ⟨a, p, c, ns, h, h1, h2, h3, h4, h5, h6⟩ := g
  exact ⟨a, p, c, ns, s _ _ h, h1, h2, h3, h4, h5, s _ _ h6⟩
theorem Good.ne {st l D : Addr} {H : Hp} (g : Good st l H) (h : H D = none) : D ≠ st ∧ D ≠ l := by
  obtain ⟨a, p, c, ns, h1, _, _, _, _, _, h6⟩ := g
  refine ⟨fun e => ?_, fun e => ?_⟩
  · rw [e, h1] at h
    cases h
  · rw [e, h6] at h
    cases h
theorem Good.put {st l D : Addr} {H : Hp} {o : HO} (g : Good st l H) (h : D ≠ st ∧ D ≠ l) : Good st l (upd H D o) := by
  obtain ⟨a, p, c, ns, h1, h2, h3, h4, h5, h6, h7⟩ := g
  exact ⟨a, p, c, ns, by rw [upd_ne h.1.symm]; exact h1, h2, h3, h4, h5, h6, by rw [upd_ne h.2.symm]; exact h7⟩
theorem Le.mut {st D : Addr} {H H' : Hp} {o : HO} (le : Le st H H') (h : H D = none) : Le st H (upd H' D o) := fun b u n e => by
  rw [upd_ne (ne_of_none e h)]
  exact le b u n e
theorem small {n : Nat} (h : n ≤ 1000) : n ≤ sizeLine := Nat.le_of_lt (small1000 h)
/-- a def of the text as it stands behind the top -/
structure Def (K : PySem.W.Frag) (mg : Str → Option Value) (x : Str) (st : Stmt) (ps : List Str) where
  f : Addr
  fd : FuncData
  F : Fun K x x st f fd
  b : Binds K fd ps []
  m : mg x = some (.ref f)
def spDraw : Sp := fun vs H Q _ => ∃ (st l : Addr) (n : Int), vs = [.ref st, .int n] ∧ Good st l H ∧ 0 < n ∧ n.natAbs < 2 ^ 200 ∧ ∀ d H', 0 ≤ d → d < n → Le st H H' → Good st l H' → Q (.int d) H'
theorem scDraw : FnScope ["state", "limit", "position", "cell", "mixed", "digit"] ["state", "limit"] (defScope sDraw) := ⟨rfl, rfl, rfl, by decide +kernel, rfl, by decide +kernel, by decide +kernel⟩
section
variable {P : Program} {w : World} {K : PySem.W.Frag} {mg : Str → Option Value} {base : Heap}
theorem ok_draw (D : Def K mg "_law_draw" sDraw ["state", "limit"]) (ml : mg "len" = none) (mi : mg "int" = none) : FnOk P w K mg base CX0 1 D.f D.fd ["state", "limit"] spDraw := by
  refine D.F.ok scDraw (fun vs H Q E h => ?_) (fun cdv A outer s H vs Q E hr h => ?_)
  · obtain ⟨st, l, n, rfl, _⟩ := h
    rfl
  obtain ⟨st, l, n, rfl, g, hn0, hn, q⟩ := h
  refine ⟨_, C8.pss_cut (ps_if (pt_cmpR op_lt (pe_ix ix_list (pv 0) pe_int (fun _ _ => rfl)) (pv 1) (nomark _))
      (pss_cons (ps_set (i := 2) scDraw.nd rfl (.inl rfl) (pe_ix ix_list (pv 0) pe_int (fun _ _ => rfl)))
      (pss_cons (ps_asg (pe_op op_add (pv 2) pe_int) (pg_sub (pv 0) pe_int set_list))
      (pss_cons (ps_set (i := 3) scDraw.nd rfl (.inl rfl) pe_int)
      (C8.pss_cut (ps_if (pt_cmpR op_lt (pv 2) (pe_callB call_len_seq (by rfl) ml PySem.boot_len (pa_cons (pe_ix ix_list (pv 0) pe_int (fun _ _ => rfl)) pa_nil)) (nomark _))
        (pss_one (ps_set (i := 3) scDraw.nd rfl (.inl rfl) (pe_ix ix_list (pe_ix ix_list (pv 0) pe_int (fun _ _ => rfl)) (pv 2) (fun _ _ => rfl)))) pss_nil)
      (pss_one (ps_if (pt_cmpR op_ge (pv 3) (pe_op op_pow pe_int pe_int) (nomark _))
        (pss_one (ps_asg (pv 3) (pg_sub (pv 0) pe_int set_list)))
        (C8.pss_cut (ps_asg (pe_op op_modN (pe_callTy call_int1 (by rfl) mi (by decide +kernel) (pa_cons (pe_op op_mul (pe_op op_add (pe_op op_add (pe_op op_add (pe_ix ix_list (pv 0) pe_int (fun _ _ => rfl)) (pe_op op_modN (pe_callTy call_int1 (by rfl) mi (by decide +kernel) (pa_cons (pv 3) pa_nil)) pe_int)) (pv 2)) pe_int) pe_int) pa_nil)) pe_int) (pg_sub (pv 0) pe_int set_list))
        (C8.pss_cut (ps_set (i := 4) scDraw.nd rfl (.inl rfl) (pe_op op_modN (pe_callTy call_int1 (by rfl) mi (by decide +kernel) (pa_cons (pe_op op_add (pe_op op_mul (pe_ix ix_list (pv 0) pe_int (fun _ _ => rfl)) pe_int) pe_int) pa_nil)) pe_int))
        (pss_one (ps_asg (pe_op op_add (pe_op op_mul (pv 4) pe_int) (pe_op op_modN (pe_callTy call_int1 (by rfl) mi (by decide +kernel) (pa_cons (pe_op op_add (pe_op op_mul (pv 4) pe_int) (pe_ix ix_list (pv 0) pe_int (fun _ _ => rfl))) pa_nil)) pe_int)) (pg_sub (pv 0) pe_int set_list))))))))))) pss_nil)
    (pss_cons (ps_set (i := 5) scDraw.nd rfl (.inl rfl) (pe_op op_modN (pe_callTy call_int1 (by rfl) mi (by decide +kernel) (pa_cons (pe_ix ix_list (pv 0) pe_int (fun _ _ => rfl)) pa_nil)) (pv 1)))
    (pss_cons (ps_asg (pe_op op_fdivW (pe_ix ix_list (pv 0) pe_int (fun _ _ => rfl)) (pv 1)) (pg_sub (pv 0) pe_int set_list))
    (pss_one (ps_ret (pv 5))))), ?_⟩
  obtain ⟨a, p, c, ns, h, ha, hp, hc, hc2, hl, hns⟩ := g
  refine ⟨fun σ' H' => ∃ y2 y3 y4 y5, σ' = [some (.ref st), some (.int n), y2, y3, y4, y5] ∧ Le st H H' ∧ Good st l H', ?_, ?_⟩
  · refine ⟨_, rfl, st, _, 0, _, rfl, rfl, SqL.of h, atI_nat (j := 0) rfl, _, rfl, _, _, rfl, rfl, _, rfl, ite2 (fun _ => ?_) (fun _ => ?_)⟩
    · refine ⟨_, rfl, st, _, 1, _, rfl, rfl, SqL.of h, atI_nat (j := 1) rfl, ?_⟩
      refine ⟨_, rfl, _, _, rfl, rfl, _, rfl, st, _, 1, 1, rfl, rfl, h, rfl, ?_⟩
      have h1 : upd H st (.lst ([.int a, .int p, .ref l, .int c].set 1 (.int (p + 1)))) st = some (.lst [.int a, .int (p + 1), .ref l, .int c]) := upd_same
      have hns1 : upd H st (.lst ([.int a, .int p, .ref l, .int c].set 1 (.int (p + 1)))) l = some (.lst (ns.map V.int)) := by
        rw [upd_ne hl]
        exact hns
      refine ⟨fun σ' H' => ∃ cell : Int, σ' = [some (.ref st), some (.int n), some (.int p), some (.int cell), none, none] ∧ H' = upd H st (.lst ([.int a, .int p, .ref l, .int c].set 1 (.int (p + 1)))), ?_, ?_⟩
      · refine ⟨_, rfl, _, rfl, st, _, 2, _, rfl, rfl, SqL.of h1, atI_nat (j := 2) rfl, l, _, rfl, .inl (SqL.of hns1), _, _, rfl, rfl, _, rfl, ite2 (fun hlt => ?_) (fun _ => ?_)⟩
        · have hlt2 : p < (((ns.map V.int).length : Nat) : Int) := of_decide_eq_true hlt
          rw [List.length_map] at hlt2
          have hk : p.toNat < ns.length := by omega
          have hg : atI (ns.map V.int) p = some (.int ns[p.toNat]) := by
            have e : ((p.toNat : Nat) : Int) = p := by omega
            have z : atI (ns.map V.int) ((p.toNat : Nat) : Int) = some (.int ns[p.toNat]) := atI_nat (by rw [List.getElem?_map, List.getElem?_eq_getElem hk]; rfl)
            rw [e] at z
            exact z
          refine ⟨_, rfl, st, _, 2, _, rfl, rfl, SqL.of h1, atI_nat (j := 2) rfl, _, rfl, l, _, p, _, rfl, rfl, SqL.of hns1, hg, ?_⟩
          exact ⟨_, rfl, rfl⟩
        · exact ⟨_, rfl, rfl⟩
      · rintro σ' H' ⟨cell, rfl, rfl⟩
        refine ⟨_, rfl, 10, 18, rfl, rfl, ⟨by decide, by decide, by decide⟩, _, _, rfl, rfl, _, rfl, ite2 (fun hge => ?_) (fun _ => ?_)⟩
        · have hge2 : cell ≥ 10 ^ 18 := of_decide_eq_true hge
          refine ⟨_, rfl, _, rfl, st, _, 0, 0, rfl, rfl, h1, rfl, ?_⟩
          refine ⟨_, _, _, _, rfl, fun b o nb e => by rw [upd_ne nb, upd_ne nb]; exact e, cell, p + 1, c, ns, upd_same, by omega, by omega, hc, hc2, hl, ?_⟩
          rw [upd_ne hl]
          exact hns1
        · have le1 : Le st H (upd H st (.lst ([.int a, .int p, .ref l, .int c].set 1 (.int (p + 1))))) := Le.st _
          refine ⟨fun σ' H' => ∃ x : Int, σ' = [some (.ref st), some (.int n), some (.int p), some (.int cell), none, none] ∧ 0 ≤ x ∧ x < 2147483647 ∧ H' st = some (.lst [.int a, .int (p + 1), .ref l, .int x]) ∧ H' l = some (.lst (ns.map V.int)) ∧ Le st H H', ?_, ?_⟩
          · refine ⟨_, rfl, st, _, 3, _, rfl, rfl, SqL.of h1, atI_nat (j := 3) rfl, _, rfl, .inl ⟨_, rfl, _, _, rfl, rfl, (by show (2147483629 : Int) ≠ 0; decide), _, _, rfl, rfl, ?_⟩⟩
            refine ⟨_, rfl, _, _, rfl, rfl, _, _, rfl, rfl, _, _, rfl, rfl, .inr (by decide), .inl ⟨_, rfl, _, _, rfl, rfl, (by show (2147483647 : Int) ≠ 0; decide), ?_⟩⟩
            refine ⟨_, rfl, st, _, 3, 3, rfl, rfl, h1, rfl, ?_⟩
            exact ⟨_, rfl, Int.fmod_nonneg_of_pos _ (by decide), Int.fmod_lt_of_pos _ (by decide), upd_same, by rw [upd_ne hl]; exact hns1, le1.trans (Le.st _)⟩
          · rintro σ' H2 ⟨x, rfl, hx0, hx1, h2, hns2, le2⟩
            refine ⟨fun σ' H' => ∃ m : Int, σ' = [some (.ref st), some (.int n), some (.int p), some (.int cell), some (.int m), none] ∧ 0 ≤ m ∧ H' = H2, ?_, ?_⟩
            · refine ⟨_, rfl, st, _, 3, _, rfl, rfl, SqL.of h2, atI_nat (j := 3) rfl, _, _, rfl, rfl, .inr (by decide), _, _, rfl, rfl, .inl ⟨_, rfl, _, _, rfl, rfl, (by show (2147483629 : Int) ≠ 0; decide), ?_⟩⟩
              exact ⟨_, rfl, Int.fmod_nonneg_of_pos _ (by decide), rfl⟩
            · rintro σ' H3 ⟨m, rfl, hm0, rfl⟩
              refine ⟨_, rfl, _, _, rfl, rfl, .inr (by decide), _, rfl, _, _, rfl, rfl, .inr (by decide), _, rfl, st, _, 3, _, rfl, rfl, SqL.of h2, atI_nat (j := 3) rfl, _, _, rfl, rfl, .inl ⟨_, rfl, _, _, rfl, rfl, (by show (2147483587 : Int) ≠ 0; decide), _, _, rfl, rfl, ?_⟩⟩
              refine ⟨_, rfl, st, _, 0, 0, rfl, rfl, h2, rfl, ?_⟩
              have hk0 : 0 ≤ Int.fmod (m * 30011 + x) 2147483587 := Int.fmod_nonneg_of_pos _ (by decide)
              refine ⟨_, _, _, _, rfl, le2.trans (Le.st _), m * 2147483647 + Int.fmod (m * 30011 + x) 2147483587, p + 1, x, ns, upd_same, by omega, by omega, hx0, hx1, hl, ?_⟩
              rw [upd_ne hl]
              exact hns2
    · exact ⟨_, _, _, _, rfl, Le.refl _ _, a, p, c, ns, h, ha, hp, hc, hc2, hl, hns⟩
  · rintro σ' H' ⟨y2, y3, y4, y5, rfl, le, a, p, c, ns, h, ha, hp, hc, hc2, hl, hns⟩
    refine ⟨_, rfl, st, _, 0, _, rfl, rfl, SqL.of h, atI_nat (j := 0) rfl, .inl ⟨_, rfl, ?_⟩⟩
    refine ⟨_, rfl, _, _, rfl, rfl, (by omega), ?_⟩
    refine ⟨_, rfl, st, _, 0, _, rfl, rfl, SqL.of h, atI_nat (j := 0) rfl, _, rfl, _, _, rfl, rfl, wide_div hn0 hn (by decide) (by decide), ?_⟩
    refine ⟨_, rfl, st, _, 0, 0, rfl, rfl, h, rfl, ?_⟩
    refine ⟨_, rfl, ?_⟩
    refine q _ _ (Int.fmod_nonneg_of_pos _ hn0) (Int.fmod_lt_of_pos _ hn0) (fun b o nb e => by rw [upd_ne nb]; exact le _ _ nb e) ⟨a / n, p, c, ns, upd_same, Int.ediv_nonneg ha (by omega), hp, hc, hc2, hl, by rw [upd_ne hl]; exact hns⟩
end
end RR

namespace RR
open PySem PySem.Spec PyProof.Rows L2
/-! ### data that never changes -/
/-- tuples stand as they stood -/
def Tk (H H' : Hp) : Prop := ∀ a xs, H a = some (.tup xs) → H' a = some (.tup xs)
theorem Tk.refl (H : Hp) : Tk H H := fun _ _ h => h
theorem Tk.trans {H H1 H2 : Hp} (a : Tk H H1) (b : Tk H1 H2) : Tk H H2 := fun c o h => b c o (a c o h)
theorem Tk.same {H H' : Hp} (s : Same H H') : Tk H H' := fun _ _ h => s _ _ h
theorem Tk.le {st l : Addr} {H H' : Hp} (g : Good st l H) (s : Le st H H') : Tk H H' := fun a xs h => s a _ (fun e => by
  obtain ⟨i, p, c, ns, h2, _⟩ := g
  rw [e, h2] at h
  cases h) h
/-- a store to what is no tuple -/
theorem Tk.put {H : Hp} {p : Addr} (o : HO) (h : ∀ xs, H p ≠ some (.tup xs)) : Tk H (upd H p o) := fun a xs e => by
  rw [upd_ne (fun z => h xs (by rw [← z]; exact e))]
  exact e
theorem Tk.new {H : Hp} {p : Addr} (h : H p = none) (o : HO) : Tk H (upd H p o) := Tk.same (same_new h o)
mutual
inductive TD (H : Hp) : V → PyData → Prop
  | non : TD H .non .none
  | int (i : Int) : TD H (.int i) (.int i)
  | str (x : Str) : TD H (.str x) (.str x)
  | tup {a : Addr} {xs : List V} {ds : List PyData} : H a = some (.tup xs) → TDs H xs ds → TD H (.ref a) (.tuple ds)
inductive TDs (H : Hp) : List V → List PyData → Prop
  | nil : TDs H [] []
  | cons {v : V} {vs : List V} {d : PyData} {ds : List PyData} : TD H v d → TDs H vs ds → TDs H (v :: vs) (d :: ds)
end
mutual
theorem TD.mono {H H' : Hp} (k : Tk H H') : ∀ (d : PyData) (v : V), TD H v d → TD H' v d
  | _, _, .non => .non
  | _, _, .int i => .int i
  | _, _, .str x => .str x
  | .tuple ds, .ref a, .tup (xs := xs) h hs => .tup (k _ _ h) (TDs.mono k ds xs hs)
theorem TDs.mono {H H' : Hp} (k : Tk H H') : ∀ (ds : List PyData) (vs : List V), TDs H vs ds → TDs H' vs ds
  | _, _, .nil => .nil
  | d :: ds, v :: vs, .cons h hs => .cons (TD.mono k d v h) (TDs.mono k ds vs hs)
end
mutual
theorem TD.dp {K : PySem.W.Frag} {H : Hp} : ∀ (d : PyData) (v : V), TD H v d → Dp K H v d
  | _, _, .non => .non
  | _, _, .int i => .int i
  | _, _, .str x => .str x
  | .tuple ds, .ref a, .tup (xs := xs) h hs => .tup (SqT.of h) (TDs.dp ds xs hs)
theorem TDs.dp {K : PySem.W.Frag} {H : Hp} : ∀ (ds : List PyData) (vs : List V), TDs H vs ds → DpAll K H vs ds
  | _, _, .nil => .nil
  | d :: ds, v :: vs, .cons h hs => .cons (TD.dp d v h) (TDs.dp ds vs hs)
end
theorem TDs.length {H : Hp} : ∀ {vs : List V} {ds : List PyData}, TDs H vs ds → vs.length = ds.length
  | _, _, .nil => rfl
  | _, _, .cons _ h => congrArg Nat.succ (TDs.length h)
theorem TDs.get {H : Hp} : ∀ {vs : List V} {ds : List PyData}, TDs H vs ds → ∀ (i : Nat) (v : V), vs[i]? = some v → ∃ d, ds[i]? = some d ∧ TD H v d
  | _, _, .nil, i, v, h => by simp at h
  | _, _, .cons h1 h, 0, v, e => ⟨_, rfl, by
      have e2 := Option.some.inj e
      rw [← e2]
      exact h1⟩
  | _, _, .cons h1 h, i + 1, v, e => TDs.get h i v e
theorem TDs.app {H : Hp} : ∀ {vs ws : List V} {ds es : List PyData}, TDs H vs ds → TDs H ws es → TDs H (vs ++ ws) (ds ++ es)
  | _, _, _, _, .nil, h => h
  | _, _, _, _, .cons h1 h2, h => .cons h1 (TDs.app h2 h)
theorem TDs.ints {H : Hp} : ∀ ns : List Int, TDs H (ns.map V.int) (ns.map PyData.int)
  | [] => .nil
  | n :: r => .cons (.int n) (TDs.ints r)
theorem pick {z : Str} {d : Int} (h0 : 0 ≤ d) (h1 : d < (z.cps.toList.length : Int)) : ∃ c, atI z.cps.toList d = some c ∧ c ∈ z.cps.toList := by
  have hk : d.toNat < z.cps.toList.length := by omega
  have e : ((d.toNat : Nat) : Int) = d := by omega
  have q : atI z.cps.toList ((d.toNat : Nat) : Int) = some z.cps.toList[d.toNat] := atI_nat (List.getElem?_eq_getElem hk)
  rw [e] at q
  exact ⟨_, q, List.getElem_mem hk⟩
theorem app_list (a b : Str) : (a ++ b).cps.toList = a.cps.toList ++ b.cps.toList := Array.toList_append
theorem str_len (a : Str) : a.length = a.cps.toList.length := (Array.length_toList).symm
theorem app_len (a b : Str) : (a ++ b).length = a.length + b.length := by
  rw [str_len, str_len, str_len, app_list, List.length_append]
theorem pow7 {n : Nat} (h : n ≤ 100000) : n < 2 ^ 200 := Nat.lt_of_le_of_lt h (by decide)
end RR

namespace RX
open PySem PySem.Spec PyProof.Rows L2
/-! ### t[::-1] of a tuple -/
theorem back_pick (xs : List Value) : ((List.range xs.length).filterMap fun (k : Nat) => xs.toArray[((((xs.length : Nat) : Int) - 1) + (k : Int) * (-1)).toNat]?) = xs.reverse := by
  have key : ∀ n, n ≤ xs.length → ((List.range n).filterMap fun (k : Nat) => xs.toArray[((((xs.length : Nat) : Int) - 1) + (k : Int) * (-1)).toNat]?) = xs.reverse.take n := by
    intro n
    induction n with
    | zero => intro _; rfl
    | succ n ih =>
      intro h
      have e : ((((xs.length : Nat) : Int) - 1) + (n : Int) * (-1)).toNat = xs.length - 1 - n := by omega
      have hl : xs.length - 1 - n < xs.length := by omega
      have hr : xs.reverse[n]? = some xs[xs.length - 1 - n] := by
        rw [List.getElem?_reverse (by omega), List.getElem?_eq_getElem hl]
      have hx : xs.toArray[((((xs.length : Nat) : Int) - 1) + (n : Int) * (-1)).toNat]? = some xs[xs.length - 1 - n] := by
        rw [e, List.getElem?_toArray, List.getElem?_eq_getElem hl]
      rw [List.range_succ, List.filterMap_append, ih (by omega), List.take_add_one, hr, List.filterMap_cons, hx]
      rfl
  rw [key xs.length (Nat.le_refl _), List.take_of_length_le (by rw [List.length_reverse]; exact Nat.le_refl _)]
theorem back_adjust (n : Nat) : Builtin.Slice.sliceAdjust none none (-1) (n : Int) = ((n : Int) - 1, -1) := by
  unfold Builtin.Slice.sliceAdjust
  simp
theorem back_places (n : Nat) : Builtin.Slice.slicePlaces ((n : Int) - 1) (-1) (-1) = n := by
  unfold Builtin.Slice.slicePlaces
  simp
  omega
section
variable {prog : Program} {w : World} {A : Around} {E : Value → Shared → Prop} {s : Shared}
theorem applied_back {sl : Addr} {vs : Value} {n : Nat} {Q : Int × Int × Nat → Shared → Prop} (hs : s.heap.IsSliceOf sl .none .none vs) (ps : IsPart vs (some (-1))) (h : Q ((n : Int) - 1, -1, n) s) :
    wpAny (model prog w) A (Builtin.Slice.sliceApplied (.ref sl) (pure (n : Int))) Q E s := by
  obtain ⟨os, hos, hcs, hds⟩ := id hs
  unfold Builtin.Slice.sliceApplied Builtin.Slice.sliceFields
  refine wpAny_bind (wpAny_bind (wpAny_field hos hds (x := .none) rfl (wpAny_bind (wpAny_field hos hds (x := .none) rfl (wpAny_bind (wpAny_field hos hds (x := vs) rfl (wpAny_pure ?_)))))))
  refine wpAny_bind (HT.slicePart_ ps ?_)
  show wpAny _ _ (if ((-1 : Int) == 0) = true then _ else _) _ _ s
  rw [if_neg (by decide)]
  refine wpAny_bind (slicePart_none (wpAny_bind (slicePart_none (wpAny_bind (wpAny_pure ?_)))))
  show wpAny _ _ (match Builtin.Slice.sliceAdjust none none (-1) (n : Int) with | (lo, hi) => pure (lo, (-1 : Int), Builtin.Slice.slicePlaces lo hi (-1))) _ _ s
  rw [back_adjust n]
  show wpAny _ _ (pure ((n : Int) - 1, (-1 : Int), Builtin.Slice.slicePlaces ((n : Int) - 1) (-1) (-1))) _ _ s
  rw [back_places]
  exact wpAny_pure h
theorem getItem_tuple_back {t sl : Addr} {its : List Value} {vs : Value} {Q : Value → Shared → Prop} (ht : IsTup s.heap t its.toArray) (hs : s.heap.IsSliceOf sl .none .none vs) (ps : IsPart vs (some (-1)))
    (h : Q (.ref s.heap.objs.size) { s with heap := s.heap.push { cls := .type "tuple", data := .seq its.reverse.toArray } }) (hsz : its.length ≤ sizeLine) : wpAny (model prog w) A (getItem (.ref t) (.ref sl)) Q E s := by
  have htake : sizeOk (.seq its.reverse.toArray) := by
    show its.reverse.toArray.size ≤ sizeLine
    rw [List.size_toArray, List.length_reverse]
    exact hsz
  obtain ⟨os, hos, hcs, hds⟩ := id hs
  have hTs : s.TypeIs (.ref sl) "slice" := ⟨os, hos, hcs⟩
  unfold getItem
  try with_reducible refine wpAny_holding ?_
  first | refine wpAny_bind (wpAny_pure ?_) | skip
  refine wpAny_bind (wpAny_sequenceKey ht.typeIs (by decide) ?_)
  refine wpAny_bind (wpAny_callSpecial?_slot (name := Str.ofString "__getitem__") ht.typeIs PyProof.Rows.slot_tuple_getitem (wpAny_call_entry PyProof.Rows.slot_tuple_getitem ht.typeIs entry_tuple_getitem ?_ (args_tuple_getitem _ _)))
  show wpAny _ _ (Builtin.Tuple.tupleItemsOf (.ref t) >>= _) _ _ s
  refine wpAny_bind (tupleItemsOf_ ht ?_)
  refine wpAny_bind (wpAny_typeOf hTs ?_)
  rw [if_pos (by decide), List.size_toArray]
  refine wpAny_bind (applied_back hs ps ?_)
  have hno : ¬ ((((its.length : Int) - 1) == 0 && (-1 : Int) == 1 && its.length == its.length) = true) := by simp
  show wpAny _ _ (if (((its.length : Int) - 1) == 0 && (-1 : Int) == 1 && its.length == its.length) = true then _ else _) _ _ s
  rw [if_neg hno, back_pick]
  first
    | exact wpAny_bind (m := Builtin.Tuple.tupleExact _) (wpAny_newObj_type (wpAny_pure ⟨_, rfl, wpAny_pure h⟩) htake)
    | exact wpAny_bind (m := Builtin.Tuple.tupleExact _) (wpAny_newObj_type (wpAny_bind (wpAny_pure (wpAny_pure ⟨_, rfl, wpAny_pure h⟩))) htake)
    | exact wpAny_bind (wpAny_bind (m := Builtin.Tuple.tupleExact _) (wpAny_newObj_type (wpAny_pure (wpAny_pure ⟨_, rfl, wpAny_pure h⟩)) htake))
end
theorem ext_tup (l b : Addr) (items items2 : Array Value) (n n2 : Nat) (dd : Option Addr) (sl : Array (Option Value)) (hs0 : ¬(!items.isEmpty && Builtin.List.listTooLong (items.size + items2.size)) = true) (hs1 : items.size ≤ sizeLine) (hs2 : items.size + items2.size ≤ sizeLine + 1) :
    Meets (Builtin.«list.extend» ⟨[.ref l, .ref b], []⟩) (fun _ R s => s.heap.get? l = some { cls := .type "list", dict := none, data := .seq items n, slots := #[] } ∧ s.heap.get? b = some { cls := .type "tuple", dict := dd, data := .seq items2 n2, slots := sl } ∧
      R (.ok (.ret Value.none)) { s with heap := s.heap.update l (Obj.mapSeq fun x => x ++ items2), toks := s.toks }) := .of_wp fun prog w A R s h => by
  obtain ⟨hp, g, d, tk, os⟩ := s
  obtain ⟨hl, hb, h⟩ := h
  have f1 := AutoSeq1.idx_int
  have f2 := AutoSeq1.sub_tuple_tuple
  have f3 := AutoSeq1.sub_list_list
  have f4 := AutoSeq1.sub_tuple_list
  have f5 := AutoSeq1.sub_list_tuple
  have hz' : (items ++ items2).size ≤ sizeLine + 1 := by
    rw [Array.size_append]
    exact hs2
  wp_walk using (wpAny_updateSeq hl rfl (hz := hs1) (_hz' := hz')), AutoSeq1.wpAny_loadPart' hl, AutoSeq1.wpAny_loadPart' hb
  exact ⟨_, rfl, h⟩
section
variable {X : Cx}
def tRevT (K : PySem.W.Frag) (te : TE) : TE := fun σ H Q => te σ H fun x H1 => ∃ a xs, x = .ref a ∧ SqT K H1 a xs ∧ ∀ p, H1 p = none → Q (.ref p) (upd H1 p (.tup xs.reverse))
theorem pe_revT {e : Expr} {te : TE} {k : Nat} {p1 p2 p3 pos : Pos} (he : PE X e te) : PE X (.Subscript e (.Slice none none (some (.UnaryOp .USub (.Constant (.int 1) k p1) p2)) p3) pos) (tRevT X.K te) := by
  refine ⟨fun pins s σ H Q I h => Subscript_ (thn (he.run pins s σ H _ I h) fun v s1 ⟨x, H1, I1, r1, q1⟩ => ?_)⟩
  obtain ⟨a, xs, ex, hx, q⟩ := q1
  subst ex
  cases r1
  have hst : PO X (some (.UnaryOp .USub (.Constant (.int 1) k p1) p2)) (tPart (tUn (rU fun i => .int (-i)) (tC (.int 1)))) := po_some (pe_un un_neg pe_int)
  refine wpAny_Slice (thn (po_none.run pins s1 σ H1 (fun o H2 => o = none ∧ H2 = H1) I1 ⟨rfl, rfl⟩) fun vl s2 ⟨l, H2, I2, pl, el, e2⟩ => ?_)
  subst el e2
  refine thn (po_none.run pins s2 σ H2 (fun o H3 => o = none ∧ H3 = H2) I2 ⟨rfl, rfl⟩) fun vu s3 ⟨u, H3, I3, pu, eu, e3⟩ => ?_
  subst eu e3
  refine thn (hst.run pins s3 σ H3 (fun o H4 => o = some (-1) ∧ H4 = H3) I3 ⟨1, rfl, -1, rfl, rfl, rfl⟩) fun vs s4 ⟨o, H4, I4, ps, eo, e4⟩ => ?_
  subst eo e4
  cases pl
  cases pu
  have I5 : Inv X pins σ H4 { s4 with heap := s4.heap.push { cls := .type "slice", data := .fields #[.none, .none, vs] } } := I4.kept (t' := s4.toks) fun b ob q => Heap.get?_push_of_some _ q
  obtain ⟨its, r, ht, hz⟩ := I5.tuple hx
  have hlen := r.length
  show wpAny (model X.prog X.w) X.A (subscriptTail e (.Slice none none (some (.UnaryOp .USub (.Constant (.int 1) k p1) p2)) p3) (.ref a) (.ref s4.heap.objs.size)) (EP X pins σ Q) X.xe { s4 with heap := s4.heap.push { cls := .type "slice", data := .fields #[.none, .none, vs] } }
  refine tail_any (ops := [.ref a, .ref s4.heap.objs.size]) ht.typeIs PyProof.Rows.slot_tuple_getitem.lookup ?_ (by with_unfolding_all rfl)
  refine getItem_tuple_back ht (Heap.IsSliceOf.new _ .none .none vs) ps ?_ (by omega)
  exact ⟨.ref _, _, I5.laid (t' := s4.toks) (o := .tup xs.reverse) (fun b ob q => Heap.get?_push_of_some _ q) (Nat.le_refl _) ⟨by rw [List.length_reverse]; exact hz, _, r.reverse, IsTup.new _ _⟩, rfl, q _ (I5.hok.fresh (Nat.le_refl _))⟩
/-! ### xs.extend(t), t a tuple -/
def rExtT (K : PySem.W.Frag) : V → List V → Hp → VK → Prop := fun x vs H Q => ∃ l b xs zs, x = .ref l ∧ vs = [.ref b] ∧ H l = some (.lst xs) ∧ H b = some (.tup zs) ∧ xs.length + zs.length ≤ sizeLine ∧ Q .non (upd H l (.lst (xs ++ zs)))
theorem mt_extT : MtM X "list.extend" (rExtT X.K) := by
  intro pins s σ H x vs v us Q I rx rv h
  obtain ⟨l, b, xs, zs, rfl, rfl, hH, hB, hz, q⟩ := h
  cases rx
  obtain ⟨u, rfl, ru⟩ := rv.one
  cases ru
  obtain ⟨z, its, n, r, hl, e⟩ := I.lstM hH
  obtain ⟨z2, its2, r2, o, e2, hc, n2, hd⟩ := (show ObjOk X.prog X.w H s.heap b (.tup zs) from I.hok b _ hB)
  obtain ⟨oc, od, dt, osl⟩ := o
  simp only at hc hd
  subst hc hd
  have l2 := r2.length
  have hsz : its.toArray.size + its2.toArray.size ≤ sizeLine := by
    rw [List.size_toArray, List.size_toArray]
    omega
  have hlong : ¬ (!its.toArray.isEmpty && Builtin.List.listTooLong (its.toArray.size + its2.toArray.size)) = true := by
    rw [notLongL hsz, Bool.and_false]
    exact Bool.false_ne_true
  refine call_meets F.slot_list_extend ⟨_, e, rfl⟩ F.entry_list_extend (F.args_list_extend_2 _ _) (ext_tup l b its.toArray its2.toArray n n2 od osl hlong (by omega) (by omega)) ⟨e, e2, ?_⟩
  exact ⟨.non, _, I.lset (its' := its ++ its2) hH e (by simp) (r.append r2) (by rw [List.length_append]; omega), rfl, q⟩
end
end RX

namespace RR
open PySem PySem.Spec PyProof.Rows L2
abbrev sEncode : Stmt := topS 1
/-! ### encodings -/
mutual
def enc : PyData → List Int
  | .int i => [0, i]
  | .str s => 1 :: (s.length : Int) :: s.cps.toList.map (fun c => ((c : Nat) : Int))
  | .tuple ds => 2 :: (ds.length : Int) :: encs ds
  | _ => []
def encs : List PyData → List Int
  | [] => []
  | d :: ds => enc d ++ encs ds
end
mutual
def isV : PyData → Bool
  | .int _ => true
  | .str _ => true
  | .tuple ds => areV ds
  | _ => false
def areV : List PyData → Bool
  | [] => true
  | d :: ds => isV d && areV ds
end
theorem encs_app : ∀ xs ys : List PyData, encs (xs ++ ys) = encs xs ++ encs ys
  | [], ys => rfl
  | x :: xs, ys => by
    show enc x ++ encs (xs ++ ys) = (enc x ++ encs xs) ++ encs ys
    rw [encs_app xs ys, List.append_assoc]
theorem areV_app : ∀ xs ys : List PyData, areV (xs ++ ys) = (areV xs && areV ys)
  | [], ys => rfl
  | x :: xs, ys => by
    show (isV x && areV (xs ++ ys)) = ((isV x && areV xs) && areV ys)
    rw [areV_app xs ys, Bool.and_assoc]
theorem areV_rev (xs : List PyData) : areV xs.reverse = areV xs := by
  induction xs with
  | nil => rfl
  | cons x xs ih =>
    rw [List.reverse_cons, areV_app, ih]
    show (areV xs && (isV x && true)) = (isV x && areV xs)
    rw [Bool.and_true, Bool.and_comm]
theorem enc_two {d : PyData} (h : isV d = true) : 2 ≤ (enc d).length := by
  cases d with
  | int i => exact Nat.le_refl _
  | str s =>
    show 2 ≤ (s.cps.toList.map _).length + 1 + 1
    omega
  | tuple ds =>
    show 2 ≤ (encs ds).length + 1 + 1
    omega
  | none => cases h
  | bool b => cases h
  | list ds => cases h
  | dict kvs => cases h
theorem encs_len : ∀ {ds : List PyData}, areV ds = true → 2 * ds.length ≤ (encs ds).length
  | [], _ => Nat.zero_le _
  | d :: ds, h => by
    have h1 : (isV d && areV ds) = true := h
    rw [Bool.and_eq_true] at h1
    have h2 := enc_two h1.1
    have h3 := encs_len h1.2
    show 2 * (ds.length + 1) ≤ (enc d ++ encs ds).length
    rw [List.length_append]
    omega
theorem TDs.rev {H : Hp} : ∀ {vs : List V} {ds : List PyData}, TDs H vs ds → TDs H vs.reverse ds.reverse
  | _, _, .nil => .nil
  | _, _, .cons h1 h2 => by
    rw [List.reverse_cons, List.reverse_cons]
    exact TDs.app (TDs.rev h2) (.cons h1 .nil)
theorem TDs.last {H : Hp} {vs : List V} {ds : List PyData} (h : TDs H vs ds) (hn : vs ≠ []) : ∃ us v es d, vs = us ++ [v] ∧ ds = es ++ [d] ∧ TDs H us es ∧ TD H v d := by
  induction vs generalizing ds with
  | nil => exact absurd rfl hn
  | cons x r ih =>
    cases ds with
    | nil => cases h
    | cons d ds =>
      cases h with
      | cons h1 h2 =>
        cases r with
        | nil =>
          have e := h2.length
          have e2 : ds = [] := by
            cases ds with
            | nil => rfl
            | cons a b => cases e
          subst e2
          exact ⟨[], x, [], d, rfl, rfl, .nil, h1⟩
        | cons y r =>
          obtain ⟨us, v, es, d2, e1, e2, h3, h4⟩ := ih h2 (by intro z; cases z)
          exact ⟨x :: us, v, d :: es, d2, by rw [e1]; rfl, by rw [e2]; rfl, .cons h1 h3, h4⟩
end RR

namespace RR
open PySem PySem.Spec PyProof.Rows L2
/-- the encoding of data, a new list -/
def spEnc : Sp := fun vs H Q _ => ∃ (v : V) (d : PyData), vs = [v] ∧ TD H v d ∧ isV d = true ∧ (enc d).length ≤ 100000 ∧ ∀ p H', H p = none → Same H H' → H' p = some (.lst ((enc d).map V.int)) → Q (.ref p) H'
theorem scEncode : FnScope ["value", "numbers", "waiting", "part", "sign"] ["value"] (defScope sEncode) := ⟨rfl, rfl, rfl, by decide +kernel, rfl, by decide +kernel, by decide +kernel⟩
theorem big {n : Nat} (h : n ≤ 1000000) : n ≤ sizeLine := Nat.le_trans h (by decide)
theorem bigL {n : Nat} (h : n ≤ 1000000) : n < sizeLine := Nat.lt_of_le_of_lt h (by decide)
/-- what the encoder holds between two turns -/
structure EncAt (H0 : Hp) (total : List Int) (nm wt : Addr) (m : Nat) (H : Hp) : Prop where
  ex : ∃ (us : List V) (ds : List PyData) (out : List Int), H nm = some (.lst (out.map V.int)) ∧ H wt = some (.lst us) ∧ TDs H us ds ∧ areV ds = true ∧ out ++ encs ds.reverse = total ∧ m = (encs ds.reverse).length
  same : Same H0 H
section
variable {P : Program} {w : World} {K : PySem.W.Frag} {mg : Str → Option Value} {base : Heap}
theorem ok_encode (D : Def K mg "encode" sEncode ["value"]) (mii : mg "isinstance" = none) (mint : mg "int" = none) (mstr : mg "str" = none) (ml : mg "len" = none) (mord : mg "ord" = none) : FnOk P w K mg base CX0 1 D.f D.fd ["value"] spEnc := by
  refine D.F.ok scEncode (fun vs H Q E h => ?_) (fun cdv A outer s H vs Q E hr h => ?_)
  · obtain ⟨v, d, rfl, _⟩ := h
    rfl
  obtain ⟨v, d, rfl, hd, hv, hlen, q⟩ := h
  refine ⟨_, pss_cons (ps_set (i := 1) scEncode.nd rfl (.inl rfl) (pe_lst pa_nil))
    (pss_cons (ps_set (i := 2) scEncode.nd rfl (.inl rfl) (pe_lst (pa_cons (pv 0) pa_nil)))
    (pss_cons (ps_while PassesOwn.never (pt_truth (pv 2) (by intro _; rfl))
      (pss_cons (ps_set (i := 3) scEncode.nd rfl (.inl rfl) (pe_bm0 PySem.F.plainAttrs_list PySem.F.slot_list_pop PySem.F.type_list_pop mt_pop (pv 2)))
      (pss_one (ps_if (pt_val (pe_callB call_isi (by rfl) mii (by decide +kernel) (pa_cons (pv 3) (pa_cons (pe_bltn (v := .ty "int") (by rfl) mint (by decide +kernel) rfl) pa_nil))))
        (pss_one (ps_expr (pe_bm PySem.F.plainAttrs_list PySem.F.slot_list_extend PySem.F.type_list_extend mt_extend (pv 1) (pa_cons (pe_lst (pa_cons pe_int (pa_cons (pv 3) pa_nil))) pa_nil))))
        (pss_one (ps_if (pt_val (pe_callB call_isi (by rfl) mii (by decide +kernel) (pa_cons (pv 3) (pa_cons (pe_bltn (v := .ty "str") (by rfl) mstr (by decide +kernel) rfl) pa_nil))))
          (pss_cons (ps_expr (pe_bm PySem.F.plainAttrs_list PySem.F.slot_list_extend PySem.F.type_list_extend mt_extend (pv 1) (pa_cons (pe_lst (pa_cons pe_int (pa_cons (pe_callB call_len_str (by rfl) ml PySem.boot_len (pa_cons (pv 3) pa_nil)) pa_nil))) pa_nil)))
          (pss_one (ps_expr (pe_bm PySem.F.plainAttrs_list PySem.F.slot_list_extend PySem.F.type_list_extend mt_extend (pv 1) (pa_cons (pe_lc (own := [("sign", 4)]) (g := gName 4) (by rfl) scEncode.nd (pi_str (pv 3))
            (blkOk_by (own := [("sign", 4)]) (N := ["value", "numbers", "waiting", "part", "sign"]) (sc := defScope sEncode) (by decide +kernel))
            (fun _ _ _ _ _ => pg_name (i := 4) scEncode.nd rfl (Or.inl rfl)) (fun _ _ _ _ _ => pts_nil)
            (fun _ _ _ _ _ => pe_callB call_ord (by rfl) mord (by decide +kernel) (pa_cons (pv 4) pa_nil))) pa_nil)))))
          (pss_cons (ps_expr (pe_bm PySem.F.plainAttrs_list PySem.F.slot_list_extend PySem.F.type_list_extend mt_extend (pv 1) (pa_cons (pe_lst (pa_cons pe_int (pa_cons (pe_callB call_len_seq (by rfl) ml PySem.boot_len (pa_cons (pv 3) pa_nil)) pa_nil))) pa_nil)))
          (pss_one (ps_expr (pe_bm PySem.F.plainAttrs_list PySem.F.slot_list_extend PySem.F.type_list_extend RX.mt_extT (pv 2) (pa_cons (RX.pe_revT (pv 3)) pa_nil)))))))))))
    (pss_one (ps_ret (pv 1))))), ?_⟩
  refine ⟨Nat.zero_le _, fun nm hnm => ⟨_, rfl, by show 1 ≤ sizeLine; decide, fun wt hwt => ?_⟩⟩
  have nnw : nm ≠ wt := ne_of_none upd_same hwt
  have s0 : Same H (upd (upd H nm (.lst [])) wt (.lst [v])) := (same_new hnm _).trans (same_new hwt _)
  have hwt0 : H wt = none := (same_new hnm _).free hwt
  refine ⟨fun m σ' H' => ∃ y3, σ' = [some v, some (.ref nm), some (.ref wt), y3, none] ∧ EncAt H (enc d) nm wt m H', ⟨_, _, rfl, ⟨⟨[v], [d], [], ?_, upd_same, .cons (TD.mono (Tk.same s0) _ _ hd) .nil, ?_, ?_, rfl⟩, s0⟩⟩, ?_⟩
  · rw [upd_ne nnw]
    exact upd_same
  · show (isV d && true) = true
    rw [hv]
    rfl
  · show enc d ++ [] = enc d
    exact List.append_nil _
  rintro m σ' H1 ⟨y3, rfl, ⟨⟨us, ds, out, hn1, hw1, hT, hV, htot, hm⟩, s1⟩⟩
  have lus := hT.length
  have l2 := encs_len hV
  have lt := congrArg List.length htot
  rw [List.length_append] at lt
  have hVr : areV ds.reverse = true := by
    rw [areV_rev]
    exact hV
  have l2r := encs_len hVr
  rw [List.length_reverse] at l2r
  refine ⟨_, rfl, !us.isEmpty, .inl ⟨us, SqL.of hw1, rfl⟩, ?_⟩
  by_cases hus : us = []
  · subst hus
    refine iteF ?_
    refine ⟨_, rfl, ?_⟩
    have e0 : ds = [] := by
      cases ds with
      | nil => rfl
      | cons a b => cases lus
    rw [e0] at htot
    have e1 : out = enc d := by
      rw [← htot]
      exact (List.append_nil _).symm
    rw [e1] at hn1
    exact q nm H1 hnm s1 hn1
  · obtain ⟨ws, x, es, dx, rfl, rfl, hTw, hx⟩ := hT.last hus
    have hne : (!(ws ++ [x]).isEmpty) = true := by
      cases ws <;> rfl
    rw [hne]
    refine iteT ?_
    have eV : areV es = true ∧ isV dx = true := by
      rw [areV_app, Bool.and_eq_true] at hV
      refine ⟨hV.1, ?_⟩
      have h2 : (isV dx && true) = true := hV.2
      rw [Bool.and_true] at h2
      exact h2
    have erev : encs (es ++ [dx]).reverse = enc dx ++ encs es.reverse := by
      rw [List.reverse_append]
      rfl
    rw [erev] at htot hm lt l2r
    rw [List.length_append] at hm lt l2r
    rw [List.length_append, List.length_singleton] at lus l2r
    rw [List.length_append, List.length_singleton] at lus
    have two := enc_two eV.2
    refine ⟨fun σ' H' => ∃ m', m' < m ∧ ∃ y3, σ' = [some v, some (.ref nm), some (.ref wt), y3, none] ∧ EncAt H (enc d) nm wt m' H', fun σ' H' h => h, ?_⟩
    have elast : (ws ++ [x])[(ws ++ [x]).length - 1]? = some x := by
      rw [List.length_append, List.length_singleton, Nat.add_sub_cancel, List.getElem?_append_right (Nat.le_refl _), Nat.sub_self]
      rfl
    refine ⟨_, rfl, .inl ⟨rfl, _, SqL.of hw1⟩, wt, _, x, rfl, rfl, hw1, elast, ?_⟩
    have tk2 : Tk H1 (upd H1 wt (.lst (ws ++ [x]).dropLast)) := Tk.put _ fun xs e => by
      rw [hw1] at e
      cases e
    have hn2 : upd H1 wt (.lst (ws ++ [x]).dropLast) nm = some (.lst (out.map V.int)) := by
      rw [upd_ne nnw]
      exact hn1
    have hw2 : upd H1 wt (.lst (ws ++ [x]).dropLast) wt = some (.lst ws) := by
      rw [upd_same, List.dropLast_concat]
    have s2 : Same H (upd H1 wt (.lst (ws ++ [x]).dropLast)) := fun b o e => by
      rw [upd_ne (ne_of_none e hwt0)]
      exact s1 _ _ e
    generalize upd H1 wt (.lst (ws ++ [x]).dropLast) = H2 at tk2 hn2 hw2 s2
    have hTw2 := TDs.mono tk2 _ _ hTw
    have hx2 := TD.mono tk2 _ _ hx
    cases hx2 with
    | non => exact absurd eV.2 (by decide)
    | int i =>
      refine ⟨_, rfl, _, _, _, _, true, rfl, .ty "int", .base (.int i), kit_ty (by decide +kernel), ⟨_, rfl, ?_⟩⟩
      refine iteT ?_
      refine ⟨_, rfl, .inl ⟨rfl, _, SqL.of hn2⟩, _, rfl, by show 2 ≤ sizeLine; decide, fun p hp => ?_⟩
      have s3 := same_new hp (.lst [.int 0, .int i])
      have lo : (enc (PyData.int i)).length = 2 := rfl
      refine ⟨nm, p, _, _, rfl, rfl, s3 _ _ hn2, upd_same, ?_, ?_⟩
      · rw [List.length_map]
        show out.length + 2 ≤ sizeLine
        exact big (by omega)
      have nwn : wt ≠ nm := nnw.symm
      have tk4 : Tk H2 (upd (upd H2 p (.lst [.int 0, .int i])) nm (.lst (out.map V.int ++ [.int 0, .int i]))) := (Tk.same s3).trans (Tk.put _ fun xs e => by
        rw [s3 _ _ hn2] at e
        cases e)
      refine ⟨(encs es.reverse).length, by omega, _, rfl, ⟨⟨ws, es, out ++ [0, i], ?_, ?_, TDs.mono tk4 _ _ hTw2, eV.1, ?_, rfl⟩, fun b o e => ?_⟩⟩
      · rw [upd_same, List.map_append]
        rfl
      · rw [upd_ne nwn]
        exact s3 _ _ hw2
      · rw [← htot, List.append_assoc]
        rfl
      · rw [upd_ne (ne_of_none e hnm)]
        exact s3 _ _ (s2 _ _ e)
    | str z =>
      refine ⟨_, rfl, _, _, _, _, false, rfl, .ty "int", .base (.str z), kit_ty (by decide +kernel), ⟨_, rfl, ?_⟩⟩
      refine iteF ?_
      refine ⟨_, rfl, _, _, _, _, true, rfl, .ty "str", .base (.str z), kit_ty (by decide +kernel), ⟨_, rfl, ?_⟩⟩
      refine iteT ?_
      have lo : (enc (PyData.str z)).length = z.length + 2 := by
        show (z.cps.toList.map _).length + 1 + 1 = z.length + 2
        rw [List.length_map, str_len]
      refine ⟨_, rfl, .inl ⟨rfl, _, SqL.of hn2⟩, _, rfl, z, rfl, big (by omega), by show 2 ≤ sizeLine; decide, fun p hp => ?_⟩
      have s3 := same_new hp (.lst [.int 1, .int z.length])
      refine ⟨nm, p, _, _, rfl, rfl, s3 _ _ hn2, upd_same, ?_, ?_⟩
      · rw [List.length_map]
        show out.length + 2 ≤ sizeLine
        exact big (by omega)
      have nwn : wt ≠ nm := nnw.symm
      have tk4 : Tk H2 (upd (upd H2 p (.lst [.int 1, .int z.length])) nm (.lst (out.map V.int ++ [.int 1, .int z.length]))) := (Tk.same s3).trans (Tk.put _ fun xs e => by
        rw [s3 _ _ hn2] at e
        cases e)
      have hn4 : upd (upd H2 p (.lst [.int 1, .int z.length])) nm (.lst (out.map V.int ++ [.int 1, .int z.length])) nm = some (.lst ((out ++ [1, (z.length : Int)]).map V.int)) := by
        rw [upd_same, List.map_append]
        rfl
      have hw4 : upd (upd H2 p (.lst [.int 1, .int z.length])) nm (.lst (out.map V.int ++ [.int 1, .int z.length])) wt = some (.lst ws) := by
        rw [upd_ne nwn]
        exact s3 _ _ hw2
      have s4 : Same H (upd (upd H2 p (.lst [.int 1, .int z.length])) nm (.lst (out.map V.int ++ [.int 1, .int z.length]))) := fun b o e => by
        rw [upd_ne (ne_of_none e hnm)]
        exact s3 _ _ (s2 _ _ e)
      generalize upd (upd H2 p (.lst [.int 1, .int z.length])) nm (.lst (out.map V.int ++ [.int 1, .int z.length])) = H4 at tk4 hn4 hw4 s4
      refine ⟨_, rfl, .inl ⟨rfl, _, SqL.of hn4⟩, _, rfl, z, rfl, fun D2 hD => ?_⟩
      refine lc_it walk_str (fun i H' => Same H4 H' ∧ H' D2 = some (.lst ((z.cps.toList.take i).map fun c => V.int ((c : Nat) : Int)))) ⟨same_new hD _, by rw [upd_same]; rfl⟩ (fun _ _ _ _ => trivial) ?_ ?_
      · rintro i x H5 H6 hi ⟨s5, h5⟩ ⟨rfl, c, hc, rfl⟩
        refine ⟨rfl, ?_⟩
        refine ⟨_, rfl, _, rfl, rfl, _, h5, ?_, ?_⟩
        · rw [List.length_map, List.length_take]
          have := str_len z
          exact bigL (by omega)
        have hc2 : z.cps.toList[i]? = some c := by
          rw [Array.getElem?_toList]
          exact hc
        refine ⟨fun b o e => ?_, ?_⟩
        · rw [upd_ne (ne_of_none e hD)]
          exact s5 _ _ e
        · rw [upd_same, List.take_add_one, hc2, List.map_append]
          rfl
      · rintro H5 ⟨s5, h5⟩
        have hn5 := s5 _ _ hn4
        have htake : z.cps.toList.take z.cps.size = z.cps.toList := by
          rw [← Array.length_toList, List.take_length]
        rw [htake] at h5
        refine ⟨nm, D2, _, _, rfl, rfl, hn5, h5, ?_, ?_⟩
        · rw [List.length_map, List.length_map, List.length_append, ← str_len]
          show out.length + 2 + z.length ≤ sizeLine
          exact big (by omega)
        have tk6 : Tk H5 (upd H5 nm (.lst ((out ++ [1, (z.length : Int)]).map V.int ++ z.cps.toList.map fun c => V.int ((c : Nat) : Int)))) := Tk.put _ fun xs e => by
          rw [hn5] at e
          cases e
        refine ⟨(encs es.reverse).length, by omega, _, rfl, ⟨⟨ws, es, out ++ enc (.str z), ?_, ?_, TDs.mono ((tk4.trans (Tk.same s5)).trans tk6) _ _ hTw2, eV.1, ?_, rfl⟩, fun b o e => ?_⟩⟩
        · rw [upd_same]
          have e1 : (out ++ enc (.str z)).map V.int = (out ++ [1, (z.length : Int)]).map V.int ++ z.cps.toList.map (fun c => V.int ((c : Nat) : Int)) := by
            rw [show enc (.str z) = [1, (z.length : Int)] ++ z.cps.toList.map (fun c => ((c : Nat) : Int)) from rfl, ← List.append_assoc, List.map_append, List.map_map]
            rfl
          rw [e1]
        · rw [upd_ne nwn]
          exact s5 _ _ hw4
        · rw [← htot, List.append_assoc]
        · rw [upd_ne (ne_of_none e hnm)]
          exact s5 _ _ (s4 _ _ e)
    | @tup ta xs cs ha hTs =>
      refine ⟨_, rfl, _, _, _, _, false, rfl, .ty "int", .base (.tup ha), kit_ty (by decide +kernel), ⟨_, rfl, ?_⟩⟩
      refine iteF ?_
      refine ⟨_, rfl, _, _, _, _, false, rfl, .ty "str", .base (.tup ha), kit_ty (by decide +kernel), ⟨_, rfl, ?_⟩⟩
      refine iteF ?_
      have lo : (enc (PyData.tuple cs)).length = (encs cs).length + 2 := rfl
      have lcs := encs_len (show areV cs = true from eV.2)
      have lxs := hTs.length
      refine ⟨_, rfl, .inl ⟨rfl, _, SqL.of hn2⟩, _, rfl, ta, xs, rfl, .inr (SqT.of ha), by show 2 ≤ sizeLine; decide, fun p hp => ?_⟩
      have s3 := same_new hp (.lst [.int 2, .int xs.length])
      refine ⟨nm, p, _, _, rfl, rfl, s3 _ _ hn2, upd_same, ?_, ?_⟩
      · rw [List.length_map]
        show out.length + 2 ≤ sizeLine
        exact big (by omega)
      have nwn : wt ≠ nm := nnw.symm
      have tk4 : Tk H2 (upd (upd H2 p (.lst [.int 2, .int xs.length])) nm (.lst (out.map V.int ++ [.int 2, .int xs.length]))) := (Tk.same s3).trans (Tk.put _ fun xs e => by
        rw [s3 _ _ hn2] at e
        cases e)
      have hn4 : upd (upd H2 p (.lst [.int 2, .int xs.length])) nm (.lst (out.map V.int ++ [.int 2, .int xs.length])) nm = some (.lst ((out ++ [2, (xs.length : Int)]).map V.int)) := by
        rw [upd_same, List.map_append]
        rfl
      have hw4 : upd (upd H2 p (.lst [.int 2, .int xs.length])) nm (.lst (out.map V.int ++ [.int 2, .int xs.length])) wt = some (.lst ws) := by
        rw [upd_ne nwn]
        exact s3 _ _ hw2
      have s4 : Same H (upd (upd H2 p (.lst [.int 2, .int xs.length])) nm (.lst (out.map V.int ++ [.int 2, .int xs.length]))) := fun b o e => by
        rw [upd_ne (ne_of_none e hnm)]
        exact s3 _ _ (s2 _ _ e)
      generalize upd (upd H2 p (.lst [.int 2, .int xs.length])) nm (.lst (out.map V.int ++ [.int 2, .int xs.length])) = H4 at tk4 hn4 hw4 s4
      refine ⟨_, rfl, .inl ⟨rfl, _, SqL.of hw4⟩, _, rfl, ta, xs, rfl, SqT.of (tk4 _ _ ha), fun r hr2 => ?_⟩
      have s5 := same_new hr2 (.tup xs.reverse)
      refine ⟨wt, r, _, _, rfl, rfl, s5 _ _ hw4, upd_same, ?_, ?_⟩
      · rw [List.length_reverse]
        exact big (by omega)
      have tk6 : Tk H4 (upd (upd H4 r (.tup xs.reverse)) wt (.lst (ws ++ xs.reverse))) := (Tk.same s5).trans (Tk.put _ fun xs e => by
        rw [s5 _ _ hw4] at e
        cases e)
      refine ⟨(encs (es ++ cs.reverse).reverse).length, ?_, _, rfl, ⟨⟨ws ++ xs.reverse, es ++ cs.reverse, out ++ [2, (xs.length : Int)], ?_, upd_same, TDs.app (TDs.mono (tk4.trans tk6) _ _ hTw2) (TDs.rev (TDs.mono (tk4.trans tk6) _ _ hTs)), ?_, ?_, rfl⟩, fun b o e => ?_⟩⟩
      · rw [List.reverse_append, List.reverse_reverse, encs_app, List.length_append]
        omega
      · rw [upd_ne nnw]
        exact s5 _ _ hn4
      · rw [areV_app, areV_rev, eV.1]
        exact eV.2
      · rw [List.reverse_append, List.reverse_reverse, encs_app, ← htot, lxs, List.append_assoc]
        rfl
      · rw [upd_ne (ne_of_none e hwt0)]
        exact s5 _ _ (s4 _ _ e)
end
end RR

namespace RR
open PySem PySem.Spec PyProof.Rows L2
abbrev sCodes : Stmt := topS 4
abbrev sLEncode : Stmt := topS 5
/-- the law's own encoder, to a depth -/
def spLE (n : Nat) : Sp := fun vs H Q _ => ∃ (v : V) (d : PyData), vs = [v] ∧ TD H v d ∧ isV d = true ∧ d.depth < n ∧ (enc d).length ≤ 100000 ∧ ∀ p H', H p = none → Same H H' → H' p = some (.lst ((enc d).map V.int)) → Q (.ref p) H'
def spCodes : Sp := fun vs H Q _ => ∃ z : Str, vs = [.str z] ∧ z.length ≤ 100000 ∧ ∀ p H', H p = none → Same H H' → H' p = some (.lst (z.cps.toList.map fun c => V.int ((c : Nat) : Int))) → Q (.ref p) H'
theorem scCodes : FnScope ["text", "letter"] ["text"] (defScope sCodes) := ⟨rfl, rfl, rfl, by decide +kernel, rfl, by decide +kernel, by decide +kernel⟩
theorem scLEncode : FnScope ["value", "made", "one"] ["value"] (defScope sLEncode) := ⟨rfl, rfl, rfl, by decide +kernel, rfl, by decide +kernel, by decide +kernel⟩
theorem depth_mem {n : Nat} : ∀ {ds : List PyData}, PyData.depthAll ds ≤ n → ∀ d ∈ ds, d.depth ≤ n
  | [], _, d, h => by cases h
  | x :: xs, hn, d, h => by
    have h1 : max x.depth (PyData.depthAll xs) ≤ n := hn
    rcases List.mem_cons.mp h with e | e
    · rw [e]
      exact Nat.le_trans (Nat.le_max_left _ _) h1
    · exact depth_mem (Nat.le_trans (Nat.le_max_right _ _) h1) d e
theorem encs_take {ds : List PyData} {i : Nat} {d : PyData} (h : ds[i]? = some d) : encs (ds.take (i + 1)) = encs (ds.take i) ++ enc d := by
  rw [List.take_add_one, h, encs_app]
  show encs (ds.take i) ++ (enc d ++ []) = _
  rw [List.append_nil]
theorem encs_take_len (ds : List PyData) (i : Nat) : (encs (ds.take i)).length ≤ (encs ds).length := by
  have e := congrArg encs (List.take_append_drop i ds)
  rw [encs_app] at e
  rw [← e, List.length_append]
  omega
theorem areV_mem : ∀ {ds : List PyData}, areV ds = true → ∀ d ∈ ds, isV d = true
  | [], _, d, h => by cases h
  | x :: xs, hn, d, h => by
    have h1 : (isV x && areV xs) = true := hn
    rw [Bool.and_eq_true] at h1
    rcases List.mem_cons.mp h with e | e
    · rw [e]
      exact h1.1
    · exact areV_mem h1.2 d e
section
variable {P : Program} {w : World} {K : PySem.W.Frag} {mg : Str → Option Value} {base : Heap}
theorem ok_codes (D : Def K mg "_law_codes" sCodes ["text"]) (mord : mg "ord" = none) : FnOk P w K mg base CX0 1 D.f D.fd ["text"] spCodes := by
  refine D.F.ok scCodes (fun vs H Q E h => ?_) (fun cdv A outer s H vs Q E hr h => ?_)
  · obtain ⟨z, rfl, _⟩ := h
    rfl
  obtain ⟨z, rfl, hz, q⟩ := h
  refine ⟨_, pss_one (ps_ret (pe_lc (own := [("letter", 1)]) (g := gName 1) (by rfl) scCodes.nd (pi_str (pv 0))
            (blkOk_by (own := [("letter", 1)]) (N := ["text", "letter"]) (sc := defScope sCodes) (by decide +kernel))
            (fun _ _ _ _ _ => pg_name (i := 1) scCodes.nd rfl (Or.inl rfl)) (fun _ _ _ _ _ => pts_nil)
            (fun _ _ _ _ _ => pe_callB call_ord (by rfl) mord (by decide +kernel) (pa_cons (pv 1) pa_nil)))), ?_⟩
  refine ⟨_, rfl, z, rfl, fun D2 hD => ?_⟩
  refine lc_it walk_str (fun i H' => Same H H' ∧ H' D2 = some (.lst ((z.cps.toList.take i).map fun c => V.int ((c : Nat) : Int)))) ⟨same_new hD _, by rw [upd_same]; rfl⟩ (fun _ _ _ _ => trivial) ?_ ?_
  · rintro i x H5 H6 hi ⟨s5, h5⟩ ⟨rfl, c, hc, rfl⟩
    refine ⟨rfl, _, rfl, _, rfl, rfl, _, h5, ?_, ?_⟩
    · rw [List.length_map, List.length_take]
      have := str_len z
      exact bigL (by omega)
    have hc2 : z.cps.toList[i]? = some c := by
      rw [Array.getElem?_toList]
      exact hc
    refine ⟨fun b o e => ?_, ?_⟩
    · rw [upd_ne (ne_of_none e hD)]
      exact s5 _ _ e
    · rw [upd_same, List.take_add_one, hc2, List.map_append]
      rfl
  · rintro H5 ⟨s5, h5⟩
    have htake : z.cps.toList.take z.cps.size = z.cps.toList := by
      rw [← Array.length_toList, List.take_length]
    rw [htake] at h5
    exact q D2 H5 hD s5 h5
theorem le_none {f : Addr} {fd : FuncData} {k : Nat} : FnOk P w K mg base CX0 k f fd ["value"] (spLE 0) := by
  have no : ∀ vs H Q E, ¬ spLE 0 vs H Q E := fun vs H Q E h => by
    obtain ⟨v, d, _, _, _, h1, _⟩ := h
    omega
  exact ⟨fun vs H Q E h => absurd h (no vs H Q E), fun A outer s H args us vs Q E _ _ _ _ h => absurd h (no vs H Q E)⟩
theorem ok_lencode (D : Def K mg "_law_encode" sLEncode ["value"]) (DC : Def K mg "_law_codes" sCodes ["text"]) (mii : mg "isinstance" = none) (mstr : mg "str" = none) (mtup : mg "tuple" = none) (ml : mg "len" = none)
    (GC : FnOk P w K mg base CX0 1 DC.f DC.fd ["text"] spCodes) {n : Nat} (G : FnOk P w K mg base CX0 (n + 1) D.f D.fd ["value"] (spLE n)) : FnOk P w K mg base CX0 (n + 2) D.f D.fd ["value"] (spLE (n + 1)) := by
  refine D.F.ok scLEncode (fun vs H Q E h => ?_) (fun cdv A outer s H vs Q E hr h => ?_)
  · obtain ⟨v, d, rfl, _⟩ := h
    rfl
  obtain ⟨v, d, rfl, hd, hv, hdep, hlen, q⟩ := h
  refine ⟨_, pss_cons (ps_if (pt_val (pe_callB call_isi (by rfl) mii (by decide +kernel) (pa_cons (pv 0) (pa_cons (pe_bltn (v := .ty "str") (by rfl) mstr (by decide +kernel) rfl) pa_nil))))
      (pss_one (ps_ret (pe_op op_cat (pe_lst (pa_cons pe_int (pa_cons (pe_callB call_len_str (by rfl) ml PySem.boot_len (pa_cons (pv 0) pa_nil)) pa_nil))) (pe_call GC (hr.mono (by omega)) (by rfl) DC.m DC.F.kp DC.b .nil pass0 (pa_cons (pv 0) pa_nil))))) pss_nil) <|
    pss_cons (ps_if (pt_val (pe_callB call_isi (by rfl) mii (by decide +kernel) (pa_cons (pv 0) (pa_cons (pe_bltn (v := .ty "tuple") (by rfl) mtup (by decide +kernel) rfl) pa_nil))))
      (pss_cons (ps_set (i := 1) scLEncode.nd rfl (.inl rfl) (pe_lst (pa_cons pe_int (pa_cons (pe_callB call_len_seq (by rfl) ml PySem.boot_len (pa_cons (pv 0) pa_nil)) pa_nil)))) <|
      pss_cons (ps_for PassesOwn.never rfl (pi_tup (pv 0)) (pg_name (i := 2) scLEncode.nd rfl (.inl rfl))
        (pss_one (ps_set (i := 1) scLEncode.nd rfl (.inl rfl) (pe_op op_cat (pv 1) (pe_call G hr (by rfl) D.m D.F.kp D.b .nil pass0 (pa_cons (pv 2) pa_nil)))))) <|
      pss_one (ps_ret (pv 1))) pss_nil) <|
    pss_one (ps_ret (pe_lst (pa_cons pe_int (pa_cons (pv 0) pa_nil)))), ?_⟩
  cases hd with
  | non => exact absurd hv (by decide)
  | int i =>
    refine ⟨_, rfl, _, _, _, _, false, rfl, .ty "str", .base (.int i), kit_ty (by decide +kernel), ⟨_, rfl, ?_⟩⟩
    refine iteF ?_
    refine ⟨_, rfl, _, _, _, _, false, rfl, .ty "tuple", .base (.int i), kit_ty (by decide +kernel), ⟨_, rfl, ?_⟩⟩
    refine iteF ?_
    refine ⟨_, rfl, by show 2 ≤ sizeLine; decide, fun p hp => ?_⟩
    exact q p _ hp (same_new hp _) upd_same
  | str z =>
    have lo : (enc (PyData.str z)).length = z.length + 2 := by
      show (z.cps.toList.map _).length + 1 + 1 = z.length + 2
      rw [List.length_map, str_len]
    refine ⟨_, rfl, _, _, _, _, true, rfl, .ty "str", .base (.str z), kit_ty (by decide +kernel), ⟨_, rfl, ?_⟩⟩
    refine iteT ?_
    refine ⟨_, rfl, z, rfl, big (by omega), by show 2 ≤ sizeLine; decide, fun p hp => ?_⟩
    have s1 := same_new hp (.lst [.int 1, .int z.length])
    refine ⟨_, rfl, z, rfl, by omega, fun p2 H2 hp2 s2 h2 => ?_⟩
    refine ⟨p, p2, _, _, rfl, rfl, s2 _ _ upd_same, h2, ?_, fun p3 hp3 => ?_⟩
    · rw [List.length_map, ← str_len]
      show 2 + z.length ≤ sizeLine
      exact big (by omega)
    refine q p3 _ (s1.free (s2.free hp3)) (s1.trans (s2.trans (same_new hp3 _))) ?_
    rw [upd_same, show enc (.str z) = [1, (z.length : Int)] ++ z.cps.toList.map (fun c => ((c : Nat) : Int)) from rfl, List.map_append, List.map_map]
    rfl
  | @tup ta xs cs ha hTs =>
    have hV : areV cs = true := hv
    have lo : (enc (PyData.tuple cs)).length = (encs cs).length + 2 := rfl
    have lcs := encs_len hV
    have lxs := hTs.length
    have hdc : PyData.depthAll cs < n := by
      have h1 : PyData.depthAll cs + 1 < n + 1 := hdep
      omega
    refine ⟨_, rfl, _, _, _, _, false, rfl, .ty "str", .base (.tup ha), kit_ty (by decide +kernel), ⟨_, rfl, ?_⟩⟩
    refine iteF ?_
    refine ⟨_, rfl, _, _, _, _, true, rfl, .ty "tuple", .base (.tup ha), kit_ty (by decide +kernel), ⟨_, rfl, ?_⟩⟩
    refine iteT ?_
    refine ⟨_, rfl, ta, xs, rfl, .inr (SqT.of ha), by show 2 ≤ sizeLine; decide, fun p hp => ?_⟩
    have s1 := same_new hp (.lst [.int 2, .int xs.length])
    refine ⟨_, rfl, ta, rfl, ⟨xs, SqT.of (s1 _ _ ha)⟩, for_tup (K := K) (a := ta) (xs := xs) (fun i σ H' => ∃ m y2, σ = [some (.ref ta), some (.ref m), y2] ∧ Same H H' ∧ H m = none ∧ H' m = some (.lst ((2 :: (cs.length : Int) :: encs (cs.take i)).map V.int))) ?_ ?_ ?_ ?_⟩
    · refine ⟨p, _, rfl, s1, hp, ?_⟩
      rw [upd_same, lxs]
      rfl
    · rintro i σ H' _ ⟨m, y2, rfl, s2, hm, hm2⟩
      exact SqT.of (s2 _ _ ha)
    · rintro i x σ H2 hx ⟨m, y2, rfl, s2, hm, hm2⟩
      obtain ⟨d2, hd2, ht2⟩ := TDs.get hTs i x hx
      have hm3 : d2 ∈ cs := List.mem_of_getElem? hd2
      have l3 := encs_take_len cs (i + 1)
      have e3 := encs_take hd2
      have e4 := congrArg List.length e3
      rw [List.length_append] at e4
      refine ⟨_, rfl, _, rfl, x, d2, rfl, TD.mono (Tk.same s2) _ _ ht2, areV_mem hV d2 hm3, Nat.lt_of_le_of_lt (depth_mem (Nat.le_refl _) d2 hm3) hdc, by omega, fun p3 H3 hp3 s3 h3 => ?_⟩
      refine ⟨m, p3, _, _, rfl, rfl, s3 _ _ hm2, h3, ?_, fun p4 hp4 => ?_⟩
      · rw [List.length_map, List.length_map]
        show (encs (cs.take i)).length + 1 + 1 + (enc d2).length ≤ sizeLine
        exact big (by omega)
      refine ⟨p4, _, rfl, s2.trans (s3.trans (same_new hp4 _)), s2.free (s3.free hp4), ?_⟩
      rw [upd_same, ← List.map_append, e3]
      rfl
    · rintro σ H2 ⟨m, y2, rfl, s2, hm, hm2⟩
      refine ⟨_, rfl, q m H2 hm s2 ?_⟩
      rw [hm2, lxs, List.take_length]
      rfl
end
end RR

namespace RX
open PySem PySem.Spec PyProof.Rows L2
/-! ### a def's promise where what runs around is known -/
def FnAt (P : Program) (w : World) (K : PySem.W.Frag) (mg : Str → Option Value) (base : Heap) (CX : CXT) (A : Around) (f : Addr) (fd : FuncData) (ps : List Str) (sp : Sp) : Prop :=
  ∀ (out : List Env) (s : Shared) (H : Hp) (ag : Args) (us : List Value) (vs : List V) (Q : VK) (E : XK), Env0 P w K mg base A out s H → BindsTo s fd ag (ps.zip us) → Vals vs us → sp vs H Q E → codeAny (model P w) A (.call (.ref f) ag) (CR CX out P w H s Q E) s
theorem fn_at {CX : CXT} {P : Program} {w : World} {K : PySem.W.Frag} {mg : Str → Option Value} {base : Heap} {A : Around} {k : Nat} {x qual : Str} {st : Stmt} {f : Addr} {fd : FuncData} {N ps : List Str} {sp : Sp} (F : Fun K x qual st f fd) (S : FnScope N ps (defScope st)) (hroom : Room (k + 1) A)
    (len : ∀ vs H Q E, sp vs H Q E → vs.length = ps.length)
    (hbody : ∀ (cdv : Value) (out : List Env) (s : Shared) (H : Hp) (vs : List V) (Q : VK) (E : XK), Room k (A.deeper (envOfC qual (defScope st) s.heap.objs.size f cdv)) → sp vs H Q E →
      ∃ t, PSs (cxOf CX P w K mg base N qual (defScope st) f cdv A out s H E) (defBody st) t ∧ t { nx := fun _ H' => Q .non H', rt := Q } (start N vs) H) : FnAt P w K mg base CX A f fd ps sp := by
  obtain ⟨oc, od, kV, doc, pm, an, cdv, ct, osl, rfl, lk, hcd⟩ := F.ex
  intro out s H ag us vs Q E z0 hb r hsp
  have hl := len _ _ _ _ hsp
  have KX : K.In s.heap := (z0.mod.kin).keeps (fun b o e => (z0.bs b o e).1)
  have lim : s.heap.NoLimit := (z0.mod.nolimit).keeps (fun b o e => (z0.bs b o e).1)
  have hkd : ∀ y ∈ ps.zip us, (defScope st).names.lookup y.1 = some .local ∨ ((defScope st).names.lookup y.1 = some .cell ∧ ((cellsFrom (s.heap.objs.size + 1) (defScope st).names []).lookup y.1).isSome = true) := fun ⟨n, v⟩ hy => (S.par n (List.of_mem_zip hy).1).elim .inl fun q => .inr ⟨q, PySem.W.cellsFrom_some _ _ _ (.inl q)⟩
  refine codeAny_call_function hroom.depth (KX _ _ lk) rfl S.co S.gen rfl (PySem.W.codeRec_of KX hcd) (hb _ _ _ _ (wpAny_newFunctionEnv_cells S.kind hkd fun env he s1 x => ?_))
  subst he
  refine ⟨lim.keeps x.toInCall.keep, codeAny_func ?_⟩
  obtain ⟨t, ht, hq⟩ := hbody cdv out s H vs Q E (hroom.deeper _) hsp
  have I : Inv (cxOf CX P w K mg base N qual (defScope st) f cdv A out s H E) [] (start N vs) H s1 := inv_start S hroom.hd z0 hl r x
  refine wpAny_mono (ht.run [] s1 (start N vs) H _ I hq) (fun fl s2 hs => ?_) (fun _ _ hs => hs)
  have fin : ∀ {σ' : L2.St} {H' : Hp} {v : V} {u : Value}, Inv (cxOf CX P w K mg base N qual (defScope st) f cdv A out s H E) [] σ' H' s2 → RelV v u → Q v H' → CE out P w H s Q u s2 := fun {σ' H' v u} J rv q => ⟨v, H', J.os, J.bare, J.base, J.hok, rv, q⟩
  cases fl with
  | ret u => obtain ⟨v, σ', H', J, rv, q⟩ := hs; exact fin J rv q
  | next => obtain ⟨σ', H', J, q⟩ := hs; exact fin (v := V.non) (u := Value.none) J rfl q
  | brk => obtain ⟨_, _, _, q⟩ := hs; exact q.elim
  | cont => obtain ⟨_, _, _, q⟩ := hs; exact q.elim
/-- the law's end, its def known at the caller alone -/
theorem end_at {P : Program} {w : World} {K : PySem.W.Frag} {mg mb : Str → Option Value} {fa a : Addr} {fd : FuncData} {x : Str} {sp : Sp} {s₁ : Shared} {vs : List Value} {ns : List Int} (KX : K.In s₁.heap) (hns : s₁.heap.Ns mainGlobals mg) (hb : s₁.heap.Ns builtinsNs mb)
    (hbb : ∀ x : Str, x ≠ "__name__" → mb x = bootBuiltins x) (hlim : s₁.heap.NoLimit) (hg : s₁.gens = #[]) (ha : s₁.heap.get? a = some { cls := .type "list", data := .seq vs.toArray }) (hi : IntsAre vs ns) (hl : ns.length ≤ sizeLine)
    (F : ∀ base : Heap, K.In base → base.Ns mainGlobals mg → FnAt P w K mg base CX0 callerA fa fd [x] sp) (hbind : ∀ (s : Shared) (u : Value), BindsTo s fd ⟨[u], []⟩ [(x, u)])
    (hsp : ∀ H : Hp, Only H → SqL K H a (ns.map V.int) → sp [.ref a] H (fun v _ => v = .bl true) fun _ _ _ => False) :
    codeAny (model P w) callerA (.call (.ref fa) ⟨[.ref a], []⟩) (fun r s' => r = .ok (.ret (.bool true)) ∧ OldK s₁.heap s'.heap ∧ s'.os = s₁.os ∧ AllBare s'.gens) s₁ := by
  have rv := vals_ints hi
  have lenV := hi.length
  have core : ∀ H : Hp, Only H → SqL K H a (ns.map V.int) → HOk P w H s₁.heap → (∀ b, H b ≠ none → b = a) → (H a ≠ none → K.lookup a = none) → codeAny (model P w) callerA (.call (.ref fa) ⟨[.ref a], []⟩) (fun r s' => r = .ok (.ret (.bool true)) ∧ OldK s₁.heap s'.heap ∧ s'.os = s₁.os ∧ AllBare s'.gens) s₁ := by
    intro H hO hS hok hA hK
    have from_base : ∀ {b : Addr} {o : Obj}, s₁.heap.get? b = some o → H b = none → (hidT s₁.heap H).get? b = some o := fun e n => hidT_get e n
    have off : ∀ {b : Addr} {o : Obj} {es : Array DictEntry} {ep : Nat}, s₁.heap.get? b = some o → o.data = .dict es ep → H b = none := by
      intro b o es ep e d
      cases q : H b with
      | none => rfl
      | some u =>
        have e3 : b = a := hA b (by rw [q]; simp)
        subst e3
        rw [ha] at e
        cases e
        cases (show Data.seq vs.toArray _ = Data.dict es ep from d)
    have nsK : ∀ {b : Addr} {m : Str → Option Value}, s₁.heap.Ns b m → (hidT s₁.heap H).Ns b m := fun {b m} ⟨o, es, ep, e, d, r⟩ => ⟨o, es, ep, from_base e (off e d), d, r⟩
    have hKb : K.In (hidT s₁.heap H) := by
      intro b o e
      refine from_base (KX b o e) ?_
      cases q : H b with
      | none => rfl
      | some u =>
        have e3 : b = a := hA b (by rw [q]; simp)
        subst e3
        rw [hK (by rw [q]; simp)] at e
        cases e
    have hM : Mod K mg (hidT s₁.heap H) := ⟨hKb, nsK hns, ⟨mb, nsK hb, hbb⟩, (let ⟨mc, h1, h2⟩ := hlim; ⟨mc, nsK h1, h2⟩)⟩
    have z0 : Env0 P w K mg (hidT s₁.heap H) callerA [] s₁ H := ⟨rfl, hM, (fun b o e => of_hidT e), Nat.le_of_eq (hidT_size _ _), trivial, (fun b hb => absurd (show b ∈ ([] : List Addr) from hb) (by simp)), hok, .of_eq hg⟩
    refine codeAny_mono (F _ hKb (nsK hns) [] s₁ H ⟨[.ref a], []⟩ [.ref a] [.ref a] _ _ z0 (hbind s₁ (.ref a)) (.cons rfl .nil) (hsp H hO hS)) fun r s2 h => ?_
    cases r with
    | error e => exact (show False from h).elim
    | ok fl =>
      cases fl with
      | next => exact (show False from h).elim
      | brk => exact (show False from h).elim
      | cont => exact (show False from h).elim
      | ret u =>
        obtain ⟨v, H', os, bare, un, hok2, r2, q⟩ := h
        have q2 : v = .bl true := q
        subst q2
        obtain rfl : u = Value.bool true := r2
        refine ⟨rfl, OldK.of_keep (fun b o e => ?_), os, bare⟩
        cases q : H b with
        | none => exact un.keep b o e q (by intro z; exact absurd (show b ∈ ([] : List Addr) from z) (by simp)) (by simp)
        | some u =>
          rcases hO b with z | ⟨ob, xs, z⟩
          · rw [q] at z
            cases z
          · obtain ⟨e1, _⟩ := hok b _ z
            obtain ⟨e2, _⟩ := hok2 b _ (un.frzs b ob _ z)
            rw [e] at e1
            cases e1
            exact e2
  cases hk : K.lookup a with
  | some o =>
    have e := KX a o hk
    rw [ha] at e
    cases e
    exact core (fun _ => none) (fun _ => .inl rfl) (.inr ⟨_, vs.toArray, _, hk, rfl, rfl, rfl, by rw [List.size_toArray, lenV]; exact hl, by simpa using rv⟩) (fun b u z => by cases (show (none : Option HO) = some u from z)) (fun b z => absurd rfl z) (fun z => absurd rfl z)
  | none =>
    refine core (fun b => if b = a then some (.frz { cls := .type "list", data := .seq vs.toArray } (.lst (ns.map V.int))) else none) (fun b => ?_) (.inl (.inr ⟨{ cls := .type "list", data := .seq vs.toArray }, if_pos rfl⟩)) (fun b u z => ?_) (fun b z => ?_) (fun _ => hk)
    · by_cases hb : b = a
      · exact .inr ⟨_, _, if_pos hb⟩
      · exact .inl (if_neg hb)
    · by_cases hb : b = a
      · cases ((if_pos hb).symm.trans z)
        subst hb
        exact ⟨ha, by rw [List.length_map]; exact hl, vs, _, rv, ha⟩
      · cases ((if_neg hb).symm.trans z)
    · by_cases hb : b = a
      · exact hb
      · exact absurd (if_neg hb) z
theorem walk_at {l : PySem.W.OpenLaw} {n : Nat} {q : Program} {loose : List Str} {XP : (Str → Option Value) → Heap → Prop} {YP : World → Heap → Prop} {d : DefRec} {K : Params → PySem.W.Frag} {sp : World → Sp} {x : Str} (hn : l.most = some n) (hn2 : n ≤ sizeLine) (hdf : d.params.defaults = [])
    (hY : ∀ (w : World) (h : Heap), YP w h → (K w.params).In h)
    (F : ∀ (w : World) (mg : Str → Option Value) (fa : Addr) (h : Heap), (K w.params).In h → h.Ns mainGlobals mg → mg d.name = some (.ref fa) → ∃ fd : FuncData, (∀ (s : Shared) (u : Value), BindsTo s fd ⟨[u], []⟩ [(x, u)]) ∧
      ∀ base : Heap, (K w.params).In base → base.Ns mainGlobals mg → FnAt l.prog w (K w.params) mg base CX0 callerA fa fd [x] (sp w))
    (hsp : ∀ (w : World) (H : Hp) (a : Addr) (ns : List Int), ns.length ≤ n → Only H → SqL (K w.params) H a (ns.map V.int) → sp w [.ref a] H (fun v _ => v = .bl true) fun _ _ _ => False) :
    PySem.W.WalkO q loose XP YP l.row.toRowW d [] (fun f vs => PySem.call f vs) := by
  refine Att.attach_call hn hdf (fun w s₀ s₁ mg mb fa o pm cd doc a vs ns G Y ho hd hcd hmg hobj hints hlen hg => ?_)
  obtain ⟨fd, hb, hF⟩ := F w mg fa _ (hY w _ Y) G.T.g hmg
  exact end_at (hY w _ Y) G.T.g G.T.b G.T.builtins G.T.nolimit hg hobj hints (Nat.le_trans hlen hn2) hF hb (fun H hO hS => hsp w H a ns hlen hO hS)
/-! ### repr(x) of data -/
section
variable {X : Cx}
def rRepr (K : PySem.W.Frag) : List V → Hp → VK → Prop := fun xs H Q => ∃ v d, xs = [v] ∧ Dp K H v d ∧ d.showable = true ∧ d.hasDict = false ∧ d.depth ≤ 60 ∧ d.shown.length ≤ sizeLine ∧ (∀ b, d ≠ .bool b) ∧ d ≠ .none ∧ Q (.str d.shown) H
theorem call_reprD (hg : X.A.guards = some []) (hu : X.A.units + 64 < cLine) : CallR X (.builtin "repr") (rRepr X.K) := by
  intro pins s σ H xs us Q I r h
  obtain ⟨v, d, rfl, hd, hs, hn, hdep, hsz, hnb, hnn, q⟩ := h
  obtain ⟨u, rfl, r1⟩ := vals1 r
  cases hd with
  | non => exact absurd rfl hnn
  | bl b => exact absurd rfl (hnb b)
  | int i =>
    obtain ⟨t, rfl⟩ := r1
    have h1 : i.natAbs.log2 < 1920 := by simpa [PyData.showable] using hs
    refine PySem.P.repr_of_int h1 ⟨.str _, H, I.tok _, ⟨_, rfl⟩, ?_⟩
    simpa only [PyData.shown] using q
  | str x =>
    obtain ⟨t, rfl⟩ := r1
    refine PySem.P.repr_of_str ⟨.str _, H, I.tok _, ⟨_, rfl⟩, ?_⟩ (by simpa only [PyData.shown] using hsz)
    simpa only [PyData.shown] using q
  | lst h1 h2 =>
    obtain ⟨as, r2⟩ := Dp.reads I _ _ u (.lst h1 h2) r1
    cases r1
    exact repr_of_reads' r2 hs (PyData.noDict_hsm hn) hg (by omega) (fun _ _ e => e) (fun h' u tk hk => ⟨.str _, H, I.kept (t' := tk) hk, ⟨_, rfl⟩, q⟩) hsz
  | tup h1 h2 =>
    obtain ⟨as, r2⟩ := Dp.reads I _ _ u (.tup h1 h2) r1
    cases r1
    exact repr_of_reads' r2 hs (PyData.noDict_hsm hn) hg (by omega) (fun _ _ e => e) (fun h' u tk hk => ⟨.str _, H, I.kept (t' := tk) hk, ⟨_, rfl⟩, q⟩) hsz
end
end RX

namespace RR
open PySem PySem.Spec PyProof.Rows L2
/-! ### values: signs and sizes -/
def sgn62 : Str := "abcdefghijklmnopqrstuvwxyzABCDEFGHIJKLMNOPQRSTUVWXYZ0123456789"
mutual
def okV : PyData → Bool
  | .int i => decide (0 ≤ i) && decide (i < 10 ^ 21)
  | .str s => s.cps.toList.all fun c => decide (c ∈ sgn62.cps.toList)
  | .tuple ds => okVs ds
  | _ => false
def okVs : List PyData → Bool
  | [] => true
  | d :: ds => okV d && okVs ds
end
theorem okVs_cons {d : PyData} {ds : List PyData} (h : okVs (d :: ds) = true) : okV d = true ∧ okVs ds = true := by
  have h1 : (okV d && okVs ds) = true := h
  rw [Bool.and_eq_true] at h1
  exact h1
/-! ### encodings tell values apart -/
theorem app_same {α : Type} {a b c d : List α} (h : a ++ b = c ++ d) (hl : a.length = c.length) : a = c ∧ b = d := List.append_inj h hl
theorem codes_inj : ∀ {a b : List Nat}, a.map (fun c => ((c : Nat) : Int)) = b.map (fun c => ((c : Nat) : Int)) → a = b
  | [], [], _ => rfl
  | [], _ :: _, h => by cases h
  | _ :: _, [], h => by cases h
  | x :: a, y :: b, h => by
    rw [List.map_cons, List.map_cons] at h
    have h1 := (List.cons.inj h).1
    have h2 := codes_inj (List.cons.inj h).2
    have h3 : x = y := by omega
    rw [h3, h2]
theorem cps_eq {a b : Str} (h : a.cps.toList = b.cps.toList) : a = b := by
  cases a
  cases b
  exact congrArg Str.mk (Array.toList_inj.mp h)
mutual
theorem enc_un : ∀ (d e : PyData) (r r' : List Int), isV d = true → isV e = true → enc d ++ r = enc e ++ r' → d = e ∧ r = r'
  | .int i, .int j, r, r', _, _, h => by
    have h1 : (0 : Int) :: i :: r = 0 :: j :: r' := h
    have h2 := (List.cons.inj h1).2
    rw [(List.cons.inj h2).1]
    exact ⟨rfl, (List.cons.inj h2).2⟩
  | .int i, .str s, r, r', _, _, h => by
    have h1 : (0 : Int) = 1 := (List.cons.inj h).1
    exact absurd h1 (by decide)
  | .int i, .tuple ds, r, r', _, _, h => by
    have h1 : (0 : Int) = 2 := (List.cons.inj h).1
    exact absurd h1 (by decide)
  | .str s, .int j, r, r', _, _, h => by
    have h1 : (1 : Int) = 0 := (List.cons.inj h).1
    exact absurd h1 (by decide)
  | .str s, .str z, r, r', _, _, h => by
    have h1 : (1 : Int) :: (s.length : Int) :: (s.cps.toList.map (fun c => ((c : Nat) : Int)) ++ r) = 1 :: (z.length : Int) :: (z.cps.toList.map (fun c => ((c : Nat) : Int)) ++ r') := h
    have h2 := (List.cons.inj h1).2
    have h3 := (List.cons.inj h2).1
    have h4 := app_same (List.cons.inj h2).2 (by rw [List.length_map, List.length_map, ← str_len, ← str_len]; omega)
    rw [cps_eq (codes_inj h4.1)]
    exact ⟨rfl, h4.2⟩
  | .str s, .tuple ds, r, r', _, _, h => by
    have h1 : (1 : Int) = 2 := (List.cons.inj h).1
    exact absurd h1 (by decide)
  | .tuple ds, .int j, r, r', _, _, h => by
    have h1 : (2 : Int) = 0 := (List.cons.inj h).1
    exact absurd h1 (by decide)
  | .tuple ds, .str z, r, r', _, _, h => by
    have h1 : (2 : Int) = 1 := (List.cons.inj h).1
    exact absurd h1 (by decide)
  | .tuple ds, .tuple es, r, r', hd, he, h => by
    have h1 : (2 : Int) :: (ds.length : Int) :: (encs ds ++ r) = 2 :: (es.length : Int) :: (encs es ++ r') := h
    have h2 := (List.cons.inj h1).2
    have h3 := (List.cons.inj h2).1
    have h4 := encs_un ds es r r' hd he (by omega) (List.cons.inj h2).2
    rw [h4.1]
    exact ⟨rfl, h4.2⟩
  | .none, _, _, _, h, _, _ => by cases h
  | .bool _, _, _, _, h, _, _ => by cases h
  | .list _, _, _, _, h, _, _ => by cases h
  | .dict _, _, _, _, h, _, _ => by cases h
  | .int _, .none, _, _, _, h, _ => by cases h
  | .int _, .bool _, _, _, _, h, _ => by cases h
  | .int _, .list _, _, _, _, h, _ => by cases h
  | .int _, .dict _, _, _, _, h, _ => by cases h
  | .str _, .none, _, _, _, h, _ => by cases h
  | .str _, .bool _, _, _, _, h, _ => by cases h
  | .str _, .list _, _, _, _, h, _ => by cases h
  | .str _, .dict _, _, _, _, h, _ => by cases h
  | .tuple _, .none, _, _, _, h, _ => by cases h
  | .tuple _, .bool _, _, _, _, h, _ => by cases h
  | .tuple _, .list _, _, _, _, h, _ => by cases h
  | .tuple _, .dict _, _, _, _, h, _ => by cases h
theorem encs_un : ∀ (ds es : List PyData) (r r' : List Int), areV ds = true → areV es = true → ds.length = es.length → encs ds ++ r = encs es ++ r' → ds = es ∧ r = r'
  | [], [], r, r', _, _, _, h => ⟨rfl, h⟩
  | [], _ :: _, _, _, _, _, hl, _ => by cases hl
  | _ :: _, [], _, _, _, _, hl, _ => by cases hl
  | d :: ds, e :: es, r, r', hd, he, hl, h => by
    have hd2 : (isV d && areV ds) = true := hd
    have he2 : (isV e && areV es) = true := he
    rw [Bool.and_eq_true] at hd2 he2
    have h1 : enc d ++ (encs ds ++ r) = enc e ++ (encs es ++ r') := by
      have h2 : (enc d ++ encs ds) ++ r = (enc e ++ encs es) ++ r' := h
      rw [List.append_assoc, List.append_assoc] at h2
      exact h2
    have h3 := enc_un d e _ _ hd2.1 he2.1 h1
    have h4 := encs_un ds es r r' hd2.2 he2.2 (by simpa using hl) h3.2
    rw [h3.1, h4.1]
    exact ⟨rfl, h4.2⟩
end
theorem enc_inj {d e : PyData} (hd : isV d = true) (he : isV e = true) : enc d = enc e ↔ d = e :=
  ⟨fun h => (enc_un d e [] [] hd he (by rw [h])).1, fun h => by rw [h]⟩
/-! ### texts tell values apart -/
def decL (i : Int) : List Nat := (PySem.Str.ofString (toString i)).cps.toList
mutual
def shL : PyData → List Nat
  | .int i => decL i
  | .str s => 39 :: (s.cps.toList ++ [39])
  | .tuple ds => 40 :: bodL ds
  | _ => []
def bodL : List PyData → List Nat
  | [] => [41]
  | d :: ds => shL d ++ (match ds with | [] => [44, 41] | _ :: _ => taiL ds)
def taiL : List PyData → List Nat
  | [] => [41]
  | d :: ds => 44 :: 32 :: (shL d ++ taiL ds)
end
def Dl (r : List Nat) : Prop := r = [] ∨ ∃ c t, r = c :: t ∧ (c = 41 ∨ c = 44)
theorem tail_dl (ds : List PyData) (r : List Nat) : Dl (taiL ds ++ r) := by
  cases ds with
  | nil => exact .inr ⟨41, r, rfl, .inl rfl⟩
  | cons d ds => exact .inr ⟨44, 32 :: (shL d ++ taiL ds ++ r), rfl, .inr rfl⟩
theorem dec_digits {i : Int} (h : 0 ≤ i) : ∀ c ∈ decL i, 48 ≤ c ∧ c ≤ 57 := by
  obtain ⟨m, rfl⟩ := Int.eq_ofNat_of_zero_le h
  intro c hc
  unfold decL at hc
  rw [PySem.W.KIN.signs_num] at hc
  obtain ⟨ch, hch, e⟩ := List.mem_map.mp hc
  have r := PyProof.Rows.digit_range (Nat.isDigit_of_mem_toDigits (by decide) (by decide) hch)
  rw [← e]
  exact r
theorem dec_ne {i : Int} (h : 0 ≤ i) : decL i ≠ [] := by
  obtain ⟨m, rfl⟩ := Int.eq_ofNat_of_zero_le h
  unfold decL
  rw [PySem.W.KIN.signs_num]
  intro e
  have h := PySem.toDigits_len_ge 10 m
  rw [List.map_eq_nil_iff.mp e] at h
  exact absurd h (by decide)
theorem dec_inj {i j : Int} (h : 0 ≤ i) (h2 : 0 ≤ j) (e : decL i = decL j) : i = j := by
  obtain ⟨m, rfl⟩ := Int.eq_ofNat_of_zero_le h
  obtain ⟨n, rfl⟩ := Int.eq_ofNat_of_zero_le h2
  unfold decL at e
  rw [PySem.W.KIN.signs_num, PySem.W.KIN.signs_num] at e
  have e2 := congrArg PySem.NumText.digitsVal e
  rw [PySem.W.KIN.val_back, PySem.W.KIN.val_back] at e2
  rw [e2]
/-- two lists of signs of one kind, ended by others -/
theorem span_un {p : Nat → Prop} : ∀ {a b r r' : List Nat}, (∀ c ∈ a, p c) → (∀ c ∈ b, p c) → (r = [] ∨ ∃ c t, r = c :: t ∧ ¬ p c) → (r' = [] ∨ ∃ c t, r' = c :: t ∧ ¬ p c) → a ++ r = b ++ r' → a = b ∧ r = r'
  | [], [], r, r', _, _, _, _, h => ⟨rfl, h⟩
  | [], y :: b, r, r', _, hb, hr, _, h => by
    rcases hr with e | ⟨c, t, e, hc⟩
    · rw [e] at h
      cases h
    · rw [e] at h
      have h1 : c = y := (List.cons.inj h).1
      exact absurd (h1 ▸ hb y List.mem_cons_self) hc
  | x :: a, [], r, r', ha, _, _, hr', h => by
    rcases hr' with e | ⟨c, t, e, hc⟩
    · rw [e] at h
      cases h
    · rw [e] at h
      have h1 : x = c := (List.cons.inj h).1
      exact absurd (h1 ▸ ha x List.mem_cons_self) hc
  | x :: a, y :: b, r, r', ha, hb, hr, hr', h => by
    have h1 := List.cons.inj h
    have h2 := span_un (fun c hc => ha c (List.mem_cons_of_mem _ hc)) (fun c hc => hb c (List.mem_cons_of_mem _ hc)) hr hr' h1.2
    rw [h1.1, h2.1]
    exact ⟨rfl, h2.2⟩
theorem no39 : ∀ c ∈ sgn62.cps.toList, c ≠ 39 := by decide +kernel
theorem str_no39 {s : Str} (h : okV (.str s) = true) : ∀ c ∈ s.cps.toList, c ≠ 39 := fun c hc => no39 c (of_decide_eq_true (List.all_eq_true.mp (show (s.cps.toList.all fun c => decide (c ∈ sgn62.cps.toList)) = true from h) c hc))
theorem int_ok {i : Int} (h : okV (.int i) = true) : 0 ≤ i ∧ i < 10 ^ 21 := by
  have h1 : (decide (0 ≤ i) && decide (i < 10 ^ 21)) = true := h
  rw [Bool.and_eq_true] at h1
  exact ⟨of_decide_eq_true h1.1, of_decide_eq_true h1.2⟩
/-- how a value's text begins -/
theorem sh_head {d : PyData} (h : okV d = true) : ∃ c t, shL d = c :: t ∧ ((48 ≤ c ∧ c ≤ 57) ∨ c = 39 ∨ c = 40) := by
  cases d with
  | int i =>
    have h0 := (int_ok h).1
    cases e : decL i with
    | nil => exact absurd e (dec_ne h0)
    | cons c t => exact ⟨c, t, e, .inl (dec_digits h0 c (by rw [e]; exact List.mem_cons_self))⟩
  | str s => exact ⟨39, _, rfl, .inr (.inl rfl)⟩
  | tuple ds => exact ⟨40, _, rfl, .inr (.inr rfl)⟩
  | none => cases h
  | bool b => cases h
  | list ds => cases h
  | dict kvs => cases h
theorem dec_first {i : Int} (h : 0 ≤ i) {c : Nat} {t r : List Nat} (e : decL i ++ r = c :: t) : 48 ≤ c ∧ c ≤ 57 := by
  cases e2 : decL i with
  | nil => exact absurd e2 (dec_ne h)
  | cons x y =>
    rw [e2] at e
    have h1 : x = c := (List.cons.inj e).1
    rw [← h1]
    exact dec_digits h x (by rw [e2]; exact List.mem_cons_self)
theorem dl_dig {r : List Nat} (h : Dl r) : r = [] ∨ ∃ c t, r = c :: t ∧ ¬ (48 ≤ c ∧ c ≤ 57) := by
  rcases h with h | ⟨c, t, e, h⟩
  · exact .inl h
  · exact .inr ⟨c, t, e, by omega⟩
mutual
theorem sh_un : ∀ (d e : PyData) (r r' : List Nat), okV d = true → okV e = true → Dl r → Dl r' → shL d ++ r = shL e ++ r' → d = e ∧ r = r'
  | .int i, .int j, r, r', hd, he, hr, hr', h => by
    have h1 := span_un (p := fun c => 48 ≤ c ∧ c ≤ 57) (dec_digits (int_ok hd).1) (dec_digits (int_ok he).1) (dl_dig hr) (dl_dig hr') h
    rw [dec_inj (int_ok hd).1 (int_ok he).1 h1.1]
    exact ⟨rfl, h1.2⟩
  | .int i, .str s, r, r', hd, he, _, _, h => by
    have h1 := dec_first (c := 39) (t := (s.cps.toList ++ [39]) ++ r') (int_ok hd).1 h
    exact absurd h1 (by omega)
  | .int i, .tuple ds, r, r', hd, he, _, _, h => by
    have h1 := dec_first (c := 40) (t := bodL ds ++ r') (int_ok hd).1 h
    exact absurd h1 (by omega)
  | .str s, .int j, r, r', hd, he, _, _, h => by
    have h1 := dec_first (c := 39) (t := (s.cps.toList ++ [39]) ++ r) (int_ok he).1 h.symm
    exact absurd h1 (by omega)
  | .str s, .str z, r, r', hd, he, _, _, h => by
    have h1 : (s.cps.toList ++ [39]) ++ r = (z.cps.toList ++ [39]) ++ r' := (List.cons.inj h).2
    rw [List.append_assoc, List.append_assoc] at h1
    have h2 := span_un (p := fun c => c ≠ 39) (str_no39 hd) (str_no39 he) (.inr ⟨39, r, rfl, fun n => n rfl⟩) (.inr ⟨39, r', rfl, fun n => n rfl⟩) h1
    rw [cps_eq h2.1]
    exact ⟨rfl, (List.cons.inj h2.2).2⟩
  | .str s, .tuple ds, r, r', _, _, _, _, h => by
    have h1 : (39 : Nat) = 40 := (List.cons.inj h).1
    exact absurd h1 (by decide)
  | .tuple ds, .int j, r, r', hd, he, _, _, h => by
    have h1 := dec_first (c := 40) (t := bodL ds ++ r) (int_ok he).1 h.symm
    exact absurd h1 (by omega)
  | .tuple ds, .str z, r, r', _, _, _, _, h => by
    have h1 : (40 : Nat) = 39 := (List.cons.inj h).1
    exact absurd h1 (by decide)
  | .tuple ds, .tuple es, r, r', hd, he, _, _, h => by
    have h1 : bodL ds ++ r = bodL es ++ r' := (List.cons.inj h).2
    have h2 := bod_un ds es r r' hd he h1
    rw [h2.1]
    exact ⟨rfl, h2.2⟩
  | .none, _, _, _, h, _, _, _, _ => by cases h
  | .bool _, _, _, _, h, _, _, _, _ => by cases h
  | .list _, _, _, _, h, _, _, _, _ => by cases h
  | .dict _, _, _, _, h, _, _, _, _ => by cases h
  | .int _, .none, _, _, _, h, _, _, _ => by cases h
  | .int _, .bool _, _, _, _, h, _, _, _ => by cases h
  | .int _, .list _, _, _, _, h, _, _, _ => by cases h
  | .int _, .dict _, _, _, _, h, _, _, _ => by cases h
  | .str _, .none, _, _, _, h, _, _, _ => by cases h
  | .str _, .bool _, _, _, _, h, _, _, _ => by cases h
  | .str _, .list _, _, _, _, h, _, _, _ => by cases h
  | .str _, .dict _, _, _, _, h, _, _, _ => by cases h
  | .tuple _, .none, _, _, _, h, _, _, _ => by cases h
  | .tuple _, .bool _, _, _, _, h, _, _, _ => by cases h
  | .tuple _, .list _, _, _, _, h, _, _, _ => by cases h
  | .tuple _, .dict _, _, _, _, h, _, _, _ => by cases h
theorem bod_un : ∀ (ds es : List PyData) (r r' : List Nat), okVs ds = true → okVs es = true → bodL ds ++ r = bodL es ++ r' → ds = es ∧ r = r'
  | [], [], r, r', _, _, h => ⟨rfl, (List.cons.inj h).2⟩
  | [], e :: es, r, r', _, he, h => by
    obtain ⟨c, t, e1, e2⟩ := sh_head (okVs_cons he).1
    have h1 : 41 :: r = (shL e ++ _) ++ r' := h
    rw [e1] at h1
    have h2 : (41 : Nat) = c := (List.cons.inj h1).1
    exact absurd e2 (by omega)
  | d :: ds, [], r, r', hd, _, h => by
    obtain ⟨c, t, e1, e2⟩ := sh_head (okVs_cons hd).1
    have h1 : (shL d ++ _) ++ r = 41 :: r' := h
    rw [e1] at h1
    have h2 : c = 41 := (List.cons.inj h1).1
    exact absurd e2 (by omega)
  | [d], [e], r, r', hd, he, h => by
    have h1 : (shL d ++ [44, 41]) ++ r = (shL e ++ [44, 41]) ++ r' := h
    rw [List.append_assoc, List.append_assoc] at h1
    have h2 := sh_un d e _ _ (okVs_cons hd).1 (okVs_cons he).1 (.inr ⟨44, 41 :: r, rfl, .inr rfl⟩) (.inr ⟨44, 41 :: r', rfl, .inr rfl⟩) h1
    rw [h2.1]
    exact ⟨rfl, (List.cons.inj (List.cons.inj h2.2).2).2⟩
  | [d], e :: e2 :: es, r, r', hd, he, h => by
    have h1 : (shL d ++ [44, 41]) ++ r = (shL e ++ taiL (e2 :: es)) ++ r' := h
    rw [List.append_assoc, List.append_assoc] at h1
    have h2 := sh_un d e _ _ (okVs_cons hd).1 (okVs_cons he).1 (.inr ⟨44, 41 :: r, rfl, .inr rfl⟩) (tail_dl _ _) h1
    have h3 : (41 : Nat) = 32 := (List.cons.inj (List.cons.inj h2.2).2).1
    exact absurd h3 (by decide)
  | d :: d2 :: ds, [e], r, r', hd, he, h => by
    have h1 : (shL d ++ taiL (d2 :: ds)) ++ r = (shL e ++ [44, 41]) ++ r' := h
    rw [List.append_assoc, List.append_assoc] at h1
    have h2 := sh_un d e _ _ (okVs_cons hd).1 (okVs_cons he).1 (tail_dl _ _) (.inr ⟨44, 41 :: r', rfl, .inr rfl⟩) h1
    have h3 : (32 : Nat) = 41 := (List.cons.inj (List.cons.inj h2.2).2).1
    exact absurd h3 (by decide)
  | d :: d2 :: ds, e :: e2 :: es, r, r', hd, he, h => by
    have h1 : (shL d ++ taiL (d2 :: ds)) ++ r = (shL e ++ taiL (e2 :: es)) ++ r' := h
    rw [List.append_assoc, List.append_assoc] at h1
    have h2 := sh_un d e _ _ (okVs_cons hd).1 (okVs_cons he).1 (tail_dl _ _) (tail_dl _ _) h1
    have h3 := tai_un (d2 :: ds) (e2 :: es) r r' (okVs_cons hd).2 (okVs_cons he).2 h2.2
    rw [h2.1, h3.1]
    exact ⟨rfl, h3.2⟩
theorem tai_un : ∀ (ds es : List PyData) (r r' : List Nat), okVs ds = true → okVs es = true → taiL ds ++ r = taiL es ++ r' → ds = es ∧ r = r'
  | [], [], r, r', _, _, h => ⟨rfl, (List.cons.inj h).2⟩
  | [], e :: es, r, r', _, _, h => by
    have h1 : (41 : Nat) = 44 := (List.cons.inj h).1
    exact absurd h1 (by decide)
  | d :: ds, [], r, r', _, _, h => by
    have h1 : (44 : Nat) = 41 := (List.cons.inj h).1
    exact absurd h1 (by decide)
  | d :: ds, e :: es, r, r', hd, he, h => by
    have h1 : (shL d ++ taiL ds) ++ r = (shL e ++ taiL es) ++ r' := (List.cons.inj (List.cons.inj h).2).2
    rw [List.append_assoc, List.append_assoc] at h1
    have h2 := sh_un d e _ _ (okVs_cons hd).1 (okVs_cons he).1 (tail_dl _ _) (tail_dl _ _) h1
    have h3 := tai_un ds es r r' (okVs_cons hd).2 (okVs_cons he).2 h2.2
    rw [h2.1, h3.1]
    exact ⟨rfl, h3.2⟩
end
theorem sh_inj {d e : PyData} (hd : okV d = true) (he : okV e = true) (h : shL d = shL e) : d = e := (sh_un d e [] [] hd he (.inl rfl) (.inl rfl) (by rw [h])).1
end RR

namespace RR
open PySem PySem.Spec PyProof.Rows L2
theorem quote_plain : ∀ c ∈ sgn62.cps.toList, Builtin.Str.reprChar 39 c = [c] := by decide +kernel
theorem fold_plain : ∀ (l : List Nat) (acc : Array Nat), (∀ c ∈ l, c ∈ sgn62.cps.toList) → (l.foldl (fun out c => out ++ (Builtin.Str.reprChar 39 c).toArray) acc).toList = acc.toList ++ l
  | [], acc, _ => by rw [List.foldl_nil, List.append_nil]
  | c :: l, acc, h => by
    rw [List.foldl_cons, fold_plain l _ fun d hd => h d (List.mem_cons_of_mem _ hd), quote_plain c (h c List.mem_cons_self)]
    simp
theorem repr_plain {s : Str} (h : okV (.str s) = true) : (reprText s).cps.toList = 39 :: (s.cps.toList ++ [39]) := by
  have hm : ∀ c ∈ s.cps.toList, c ∈ sgn62.cps.toList := fun c hc => of_decide_eq_true (List.all_eq_true.mp (show (s.cps.toList.all fun c => decide (c ∈ sgn62.cps.toList)) = true from h) c hc)
  have hq : reprQuote s = 39 := by
    unfold reprQuote
    have h1 : s.cps.contains 39 = false := by
      rw [← Array.contains_toList, Bool.eq_false_iff]
      intro q
      have h2 : 39 ∈ s.cps.toList := by simpa using q
      exact str_no39 h 39 h2 rfl
    rw [h1]
    rfl
  unfold reprText
  rw [hq, Array.toList_push, ← Array.foldl_toList, fold_plain _ _ hm]
  rfl
theorem join_L : ∀ (y : Str) (ys : List Str) (d : PyData) (ds : List PyData), y.cps.toList = shL d → ys.map (fun y => y.cps.toList) = ds.map shL → (Str.join ", " (y :: ys)).cps.toList ++ [41] = shL d ++ taiL ds
  | y, [], d, [], h, _ => by
    show y.cps.toList ++ [41] = shL d ++ [41]
    rw [h]
  | y, [], d, _ :: _, _, h => by cases h
  | y, _ :: _, d, [], _, h => by cases h
  | y, z :: ys, d, e :: ds, h, h2 => by
    rw [List.map_cons, List.map_cons] at h2
    have ih := join_L z ys e ds (List.cons.inj h2).1 (List.cons.inj h2).2
    show (y ++ ", " ++ Str.join ", " (z :: ys)).cps.toList ++ [41] = shL d ++ (44 :: 32 :: (shL e ++ taiL ds))
    rw [app_list, app_list, h, List.append_assoc, List.append_assoc, ih, ← List.append_assoc]
    have e2 : (", " : Str).cps.toList = [44, 32] := by decide +kernel
    rw [show ((", " : String) : Str).cps.toList = [44, 32] from e2]
    simp
mutual
theorem shown_L : ∀ d : PyData, okV d = true → d.shown.cps.toList = shL d
  | .int i, _ => by
    simp only [PyData.shown]
    rfl
  | .str s, h => by
    simp only [PyData.shown]
    exact repr_plain h
  | .tuple ds, h => by
    simp only [PyData.shown]
    have hs := shown_Ls ds h
    cases ds with
    | nil => decide +kernel
    | cons d ds =>
      rw [List.map_cons] at hs
      have e1 : PyData.shownAll (d :: ds) = d.shown :: PyData.shownAll ds := by simp only [PyData.shownAll]
      rw [e1] at hs ⊢
      rw [List.map_cons] at hs
      have h1 := (List.cons.inj hs).1
      have h2 := (List.cons.inj hs).2
      cases ds with
      | nil =>
        have e3 : PyData.shownAll [] = [] := by simp only [PyData.shownAll]
        rw [e3]
        show (("(" : Str) ++ d.shown ++ (",)" : String)).cps.toList = 40 :: (shL d ++ [44, 41])
        rw [app_list, app_list, h1]
        have e4 : ("(" : Str).cps.toList = [40] := by decide +kernel
        have e5 : ((",)" : String) : Str).cps.toList = [44, 41] := by decide +kernel
        rw [e4, e5]
        simp
      | cons d2 ds =>
        have e3 : PyData.shownAll (d2 :: ds) = d2.shown :: PyData.shownAll ds := by simp only [PyData.shownAll]
        have hj := join_L d.shown (PyData.shownAll (d2 :: ds)) d (d2 :: ds) h1 h2
        rw [e3] at hj ⊢
        show (("(" : Str) ++ Str.join ", " (d.shown :: d2.shown :: PyData.shownAll ds) ++ (if (d.shown :: d2.shown :: PyData.shownAll ds).length == 1 then ",)" else ")" : String)).cps.toList = 40 :: (shL d ++ taiL (d2 :: ds))
        have e6 : ((d.shown :: d2.shown :: PyData.shownAll ds).length == 1) = false := by simp
        rw [e6, app_list, app_list]
        have e4 : ("(" : Str).cps.toList = [40] := by decide +kernel
        have e5 : ((if false = true then ",)" else ")" : String) : Str).cps.toList = [41] := by decide +kernel
        rw [e4, e5, List.append_assoc, hj]
        rfl
  | .none, h => by cases h
  | .bool _, h => by cases h
  | .list _, h => by cases h
  | .dict _, h => by cases h
theorem shown_Ls : ∀ ds : List PyData, okVs ds = true → (PyData.shownAll ds).map (fun y => y.cps.toList) = ds.map shL
  | [], _ => by
    simp only [PyData.shownAll]
    rfl
  | d :: ds, h => by
    simp only [PyData.shownAll, List.map_cons]
    rw [shown_L d (okVs_cons h).1, shown_Ls ds (okVs_cons h).2]
end
theorem shown_inj {d e : PyData} (hd : okV d = true) (he : okV e = true) : d.shown = e.shown ↔ d = e :=
  ⟨fun h => sh_inj hd he (by rw [← shown_L d hd, ← shown_L e he, h]), fun h => by rw [h]⟩
/-! ### sizes, kinds -/
theorem dig_len : ∀ (k m : Nat), m < 10 ^ (k + 1) → (Nat.toDigits 10 m).length ≤ k + 1
  | 0, m, h => by
    rw [Nat.toDigits_of_lt_base (by simpa using h)]
    exact Nat.le_refl _
  | k + 1, m, h => by
    by_cases hm : m < 10
    · rw [Nat.toDigits_of_lt_base hm]
      show 1 ≤ _
      omega
    · have hr : m % 10 < 10 := Nat.mod_lt m (by decide)
      have t : Nat.toDigits 10 (m / 10) ++ Nat.toDigits 10 (m % 10) = Nat.toDigits 10 (10 * (m / 10) + m % 10) := Nat.toDigits_append_toDigits (by decide) (by omega) hr
      rw [Nat.div_add_mod] at t
      have hq : m / 10 < 10 ^ (k + 1) := by
        rw [Nat.pow_succ] at h
        omega
      have ih := dig_len k (m / 10) hq
      rw [← t, List.length_append, Nat.toDigits_of_lt_base hr]
      show _ + 1 ≤ k + 1 + 1
      omega
theorem dec_len {i : Int} (h : 0 ≤ i) (h2 : i < 10 ^ 21) : (decL i).length ≤ 21 := by
  obtain ⟨m, rfl⟩ := Int.eq_ofNat_of_zero_le h
  unfold decL
  rw [PySem.W.KIN.signs_num, List.length_map]
  exact dig_len 20 m (by omega)
mutual
theorem sh_len : ∀ d : PyData, okV d = true → (shL d).length + 2 ≤ 20 * (enc d).length
  | .int i, h => by
    have h1 := dec_len (int_ok h).1 (int_ok h).2
    show (decL i).length + 2 ≤ 20 * 2
    omega
  | .str s, h => by
    show (s.cps.toList ++ [39]).length + 1 + 2 ≤ 20 * ((s.cps.toList.map _).length + 1 + 1)
    rw [List.length_append, List.length_map, List.length_singleton]
    omega
  | .tuple ds, h => by
    have h1 := bod_len ds h
    show (bodL ds).length + 1 + 2 ≤ 20 * ((encs ds).length + 1 + 1)
    omega
  | .none, h => by cases h
  | .bool _, h => by cases h
  | .list _, h => by cases h
  | .dict _, h => by cases h
theorem bod_len : ∀ ds : List PyData, okVs ds = true → (bodL ds).length ≤ 20 * (encs ds).length + 2
  | [], _ => by
    show 1 ≤ _
    omega
  | [d], h => by
    have h1 := sh_len d (okVs_cons h).1
    show (shL d ++ [44, 41]).length ≤ 20 * (enc d ++ encs []).length + 2
    rw [List.length_append, List.length_append]
    show (shL d).length + 2 ≤ _
    omega
  | d :: d2 :: ds, h => by
    have h1 := sh_len d (okVs_cons h).1
    have h2 := tai_len (d2 :: ds) (okVs_cons h).2
    show (shL d ++ taiL (d2 :: ds)).length ≤ 20 * (enc d ++ encs (d2 :: ds)).length + 2
    rw [List.length_append, List.length_append]
    omega
theorem tai_len : ∀ ds : List PyData, okVs ds = true → (taiL ds).length ≤ 20 * (encs ds).length + 2
  | [], _ => by
    show 1 ≤ _
    omega
  | d :: ds, h => by
    have h1 := sh_len d (okVs_cons h).1
    have h2 := tai_len ds (okVs_cons h).2
    show (shL d ++ taiL ds).length + 1 + 1 ≤ 20 * (enc d ++ encs ds).length + 2
    rw [List.length_append, List.length_append]
    omega
end
mutual
theorem ok_isV : ∀ d : PyData, okV d = true → isV d = true ∧ d.canLay0 = true ∧ d.showable = true
  | .int i, h => by
    refine ⟨rfl, rfl, ?_⟩
    have h1 := int_ok h
    have h2 : i.natAbs < 2 ^ 70 := by omega
    have h3 := PySem.Flt.log2_lt_of (k := 70) (by decide) h2
    simp only [PyData.showable]
    exact decide_eq_true (by omega)
  | .str s, h => by
    refine ⟨rfl, ?_, by simp only [PyData.showable]⟩
    show s.cps.all (· < 0x110000) = true
    rw [← Array.all_toList, List.all_eq_true]
    intro c hc
    have hm := List.all_eq_true.mp (show (s.cps.toList.all fun c => decide (c ∈ sgn62.cps.toList)) = true from h) c hc
    have h62 : ∀ c ∈ sgn62.cps.toList, c < 0x110000 := by decide +kernel
    exact decide_eq_true (h62 c (of_decide_eq_true hm))
  | .tuple ds, h => by
    have h1 := ok_areV ds h
    refine ⟨h1.1, h1.2.1, ?_⟩
    simp only [PyData.showable]
    exact h1.2.2
  | .none, h => by cases h
  | .bool _, h => by cases h
  | .list _, h => by cases h
  | .dict _, h => by cases h
theorem ok_areV : ∀ ds : List PyData, okVs ds = true → areV ds = true ∧ PyData.canLayAll0 ds = true ∧ PyData.showableAll ds = true
  | [], _ => ⟨rfl, rfl, by simp only [PyData.showableAll]⟩
  | d :: ds, h => by
    have h1 := ok_isV d (okVs_cons h).1
    have h2 := ok_areV ds (okVs_cons h).2
    refine ⟨?_, ?_, ?_⟩
    · show (isV d && areV ds) = true
      rw [h1.1, h2.1]
      rfl
    · show (d.canLay0 && PyData.canLayAll0 ds) = true
      rw [h1.2.1, h2.2.1]
      rfl
    · simp only [PyData.showableAll]
      rw [h1.2.2, h2.2.2]
      rfl
end
theorem shown_size {d : PyData} (h : okV d = true) (hl : (enc d).length ≤ 10000) : d.shown.length ≤ sizeLine := by
  have h1 := sh_len d h
  rw [str_len, shown_L d h]
  exact big (by omega)
end RR

namespace RR
open PySem PySem.Spec PyProof.Rows L2
abbrev sValue : Stmt := topS 6
/-! ### the law's values -/
def bnd : Nat → Nat
  | 0 => 12
  | n + 1 => 2 + 3 * bnd n
theorem bnd_ge : ∀ n, 12 ≤ bnd n
  | 0 => Nat.le_refl _
  | n + 1 => by
    have h := bnd_ge n
    show 12 ≤ 2 + 3 * bnd n
    omega
/-- a value to a depth below n -/
def spVal (n : Nat) : Sp := fun vs H Q _ => ∃ (st l : Addr) (m : Nat), n = m + 1 ∧ vs = [.ref st, .int m] ∧ Good st l H ∧ ∀ v d H', TD H' v d → okV d = true → d.depth ≤ m → (enc d).length ≤ bnd m → Le st H H' → Good st l H' → Q v H'
theorem scValue : FnScope ["state", "deep", "choice", "k", "text", "letters"] ["state", "deep"] (defScope sValue) := ⟨rfl, rfl, rfl, by decide +kernel, rfl, by decide +kernel, by decide +kernel⟩
theorem okVs_app : ∀ {xs ys : List PyData}, okVs xs = true → okVs ys = true → okVs (xs ++ ys) = true
  | [], _, _, h => h
  | x :: xs, ys, h, h2 => by
    have h1 := okVs_cons h
    show (okV x && okVs (xs ++ ys)) = true
    rw [h1.1, okVs_app h1.2 h2]
    rfl
theorem depth_app {n : Nat} : ∀ {xs : List PyData} {y : PyData}, PyData.depthAll xs ≤ n → y.depth ≤ n → PyData.depthAll (xs ++ [y]) ≤ n
  | [], y, _, h => by
    show max y.depth 0 ≤ n
    exact Nat.max_le.mpr ⟨h, Nat.zero_le _⟩
  | x :: xs, y, h, h2 => by
    have h1 : max x.depth (PyData.depthAll xs) ≤ n := h
    show max x.depth (PyData.depthAll (xs ++ [y])) ≤ n
    exact Nat.max_le.mpr ⟨Nat.le_trans (Nat.le_max_left _ _) h1, depth_app (Nat.le_trans (Nat.le_max_right _ _) h1) h2⟩
theorem len62 : (sgn62.cps.toList.length : Int) = 62 := by decide +kernel
section
variable {P : Program} {w : World} {K : PySem.W.Frag} {mg : Str → Option Value} {base : Heap}
theorem val_none {f : Addr} {fd : FuncData} {k : Nat} : FnOk P w K mg base CX0 k f fd ["state", "deep"] (spVal 0) := by
  have no : ∀ vs H Q E, ¬ spVal 0 vs H Q E := fun vs H Q E h => by
    obtain ⟨st, l, m, h1, _⟩ := h
    omega
  exact ⟨fun vs H Q E h => absurd h (no vs H Q E), fun A outer s H args us vs Q E _ _ _ _ h => absurd h (no vs H Q E)⟩
theorem ok_value (D : Def K mg "_law_value" sValue ["state", "deep"]) (DD : Def K mg "_law_draw" sDraw ["state", "limit"]) (mr : mg "range" = none) (mt : mg "tuple" = none)
    (GD : FnOk P w K mg base CX0 1 DD.f DD.fd ["state", "limit"] spDraw) {n : Nat} (G : FnOk P w K mg base CX0 (n + 1) D.f D.fd ["state", "deep"] (spVal n)) : FnOk P w K mg base CX0 (n + 2) D.f D.fd ["state", "deep"] (spVal (n + 1)) := by
  refine D.F.ok scValue (fun vs H Q E h => ?_) (fun cdv A outer s H vs Q E hr h => ?_)
  · obtain ⟨st, l, m, _, rfl, _⟩ := h
    rfl
  obtain ⟨st, l, m, hm, rfl, g, q⟩ := h
  have hr1 := hr.mono (show 1 ≤ n + 1 by omega)
  refine ⟨_, pss_cons (ps_set (i := 2) scValue.nd rfl (.inl rfl) (pe_call GD hr1 (by rfl) DD.m DD.F.kp DD.b .nil pass0 (pa_cons (pv 0) (pa_cons pe_int pa_nil)))) <|
    C8.pss_cut (ps_if (PW.pt (pw_and (pt_cmpR op_gt (pv 1) pe_int (nomark _)) (pw_and1 (pt_cmpR op_gt (pv 2) pe_int (nomark _)))))
      (pss_one (ps_ret (pe_callTy call_tuple_of (by rfl) mt (by decide +kernel) (pa_cons (pe_lc (own := [("k", 3)]) (g := gName 3) (by rfl) scValue.nd
        (pi_range1 (by rfl) mr (pa_cons (pe_call GD hr1 (by rfl) DD.m DD.F.kp DD.b .nil pass0 (pa_cons (pv 0) (pa_cons pe_int pa_nil))) pa_nil))
        (blkOk_by (own := [("k", 3)]) (N := ["state", "deep", "choice", "k", "text", "letters"]) (sc := defScope sValue) (by decide +kernel))
        (fun _ _ _ _ _ => pg_name (i := 3) scValue.nd rfl (Or.inl rfl)) (fun _ _ _ _ _ => pts_nil)
        (fun _ _ _ _ _ => pe_call G hr (by rfl) D.m D.F.kp D.b .nil pass0 (pa_cons (pv 0) (pa_cons (pe_op op_sub (pv 1) pe_int) pa_nil)))) pa_nil)))) pss_nil) <|
    pss_cons (ps_if (pt_cmpR op_eq (pv 2) pe_int (nomark _))
      (pss_cons (ps_set (i := 4) scValue.nd rfl (.inl rfl) pe_str) <|
      pss_cons (ps_for PassesOwn.never rfl (pi_range1 (by rfl) mr (pa_cons (pe_call GD hr1 (by rfl) DD.m DD.F.kp DD.b .nil pass0 (pa_cons (pv 0) (pa_cons pe_int pa_nil))) pa_nil)) (pg_name (i := 3) scValue.nd rfl (.inl rfl))
        (pss_cons (ps_set (i := 5) scValue.nd rfl (.inl rfl) pe_str) <|
        pss_one (ps_set (i := 4) scValue.nd rfl (.inl rfl) (pe_op op_add_str (pv 4) (pe_ix ix_str (pv 5) (pe_call GD hr1 (by rfl) DD.m DD.F.kp DD.b .nil pass0 (pa_cons (pv 0) (pa_cons pe_int pa_nil))) (fun _ _ => rfl)))))) <|
      pss_one (ps_ret (pv 4))) pss_nil) <|
    pss_one (ps_ret (pe_call GD hr1 (by rfl) DD.m DD.F.kp DD.b .nil pass0 (pa_cons (pv 0) (pa_cons (pe_ix (r := rIxL K) ix_list (pe_lst (pa_cons pe_int (pa_cons (pe_op op_pow pe_int pe_int) pa_nil))) (pe_call GD hr1 (by rfl) DD.m DD.F.kp DD.b .nil pass0 (pa_cons (pv 0) (pa_cons pe_int pa_nil))) (fun _ _ => rfl)) pa_nil)))), ?_⟩
  refine ⟨_, rfl, st, l, 5, rfl, g, by decide, by decide, fun c H1 c0 c1 le1 g1 => ?_⟩
  refine ⟨fun σ' H' => σ' = [some (.ref st), some (.int (m : Int)), some (.int c), none, none, none] ∧ H' = H1, ?_, ?_⟩
  · refine ⟨_, rfl, _, _, rfl, rfl, _, rfl, ite2 (fun hm0 => ?_) (fun _ => iteF ⟨rfl, rfl⟩)⟩
    have hm1 : (0 : Int) < m := of_decide_eq_true hm0
    refine ⟨_, rfl, _, _, rfl, rfl, _, rfl, ite2 (fun _ => ?_) (fun _ => ⟨rfl, rfl⟩)⟩
    refine ⟨_, rfl, st, l, 4, rfl, g1, by decide, by decide, fun d H2 d0 d1 le2 g2 => ?_⟩
    refine ⟨_, rfl, by omega, by omega, fun D hD => ?_⟩
    obtain ⟨m2, rfl⟩ : ∃ m2, m = m2 + 1 := ⟨m - 1, by omega⟩
    have hn : n = m2 + 1 := by omega
    have nD := g2.ne hD
    refine lc_range (lo := 0) (n := d.toNat) (fun i H' => ∃ vs ds, H' D = some (.lst vs) ∧ TDs H' vs ds ∧ okVs ds = true ∧ PyData.depthAll ds ≤ m2 ∧ ds.length = i ∧ (encs ds).length ≤ i * bnd m2 ∧ Le st H2 H' ∧ Good st l H') ?_ ?_ ?_
    · exact ⟨[], [], upd_same, .nil, rfl, Nat.zero_le _, rfl, Nat.zero_le _, Le.of (same_new hD _), g2.same (same_new hD _)⟩
    · rintro i H3 hi ⟨vs, ds, hvs, hT, hok, hdp, hl, hb, le3, g3⟩
      refine ⟨rfl, _, rfl, _, rfl, _, _, rfl, rfl, ?_⟩
      refine ⟨st, l, m2, hn, by show [V.ref st, V.int (((m2 + 1 : Nat) : Int) - 1)] = _; rw [show ((m2 + 1 : Nat) : Int) - 1 = (m2 : Int) by omega], g3, fun v d4 H4 hv ho hd hbd le4 g4 => ?_⟩
      have hD4 : H4 D = some (.lst vs) := le4 D _ nD.1 hvs
      refine ⟨_, hD4, ?_, ?_⟩
      · rw [hT.length, hl]
        exact small1000 (by omega)
      have tk : Tk H4 (upd H4 D (.lst (vs ++ [v]))) := Tk.put _ fun xs e => by
        rw [hD4] at e
        cases e
      refine ⟨vs ++ [v], ds ++ [d4], upd_same, TDs.app (TDs.mono ((Tk.le g3 le4).trans tk) _ _ hT) (.cons (TD.mono tk _ _ hv) .nil), okVs_app hok (by show (okV d4 && true) = true; rw [ho]; rfl), depth_app hdp hd, ?_, ?_, (le3.trans le4).mut hD, g4.put nD⟩
      · rw [List.length_append, hl]
        rfl
      · rw [encs_app, List.length_append]
        show (encs ds).length + (enc d4 ++ []).length ≤ _
        rw [List.append_nil, Nat.succ_mul]
        omega
    · rintro H3 ⟨vs, ds, hvs, hT, hok, hdp, hl, hb, le3, g3⟩
      refine ⟨D, vs, rfl, .inl ⟨SqL.of hvs, fun r hr2 => ?_⟩⟩
      have s4 := same_new hr2 (.tup vs)
      have h3 : d.toNat ≤ 3 := by omega
      have hb2 : (encs ds).length ≤ 3 * bnd m2 := Nat.le_trans hb (Nat.mul_le_mul_right _ h3)
      refine q (.ref r) (.tuple ds) _ (.tup upd_same (TDs.mono (Tk.same s4) _ _ hT)) hok ?_ ?_ (((le1.trans le2).trans le3).trans (Le.of s4)) (g3.same s4)
      · show PyData.depthAll ds + 1 ≤ m2 + 1
        omega
      · show (encs ds).length + 1 + 1 ≤ 2 + 3 * bnd m2
        omega
  · rintro σ' H5 ⟨rfl, e5⟩
    subst e5
    have hb := bnd_ge m
    refine ⟨_, rfl, rfl, _, rfl, ite2 (fun _ => ?_) (fun _ => ?_)⟩
    · refine ⟨_, rfl, st, l, 10, rfl, g1, by decide, by decide, fun d H2 d0 d1 le2 g2 => ?_⟩
      refine ⟨_, rfl, by omega, by omega, for_range (lo := 0) (n := d.toNat) (fun i σ H' => ∃ s y3 y5, σ = [some (.ref st), some (.int (m : Int)), some (.int c), y3, some (.str s), y5] ∧ s.length = i ∧ okV (.str s) = true ∧ Le st H5 H' ∧ Good st l H') ?_ ?_ ?_⟩
      · exact ⟨_, _, _, rfl, rfl, rfl, le2, g2⟩
      · rintro i σ H3 hi ⟨s, y3, y5, rfl, hl, hs, le3, g3⟩
        refine ⟨_, rfl, _, rfl, _, rfl, st, l, 62, rfl, g3, by decide, by decide, fun d3 H4 d30 d31 le4 g4 => ?_⟩
        obtain ⟨x, hx, hm⟩ := pick (z := sgn62) d30 (by rw [len62]; exact d31)
        refine ⟨_, _, x, rfl, rfl, by decide +kernel, hx, ?_⟩
        refine ⟨_, _, rfl, rfl, by show s.length + 1 ≤ sizeLine; exact small (by omega), ?_⟩
        refine ⟨_, _, _, rfl, ?_, ?_, le3.trans le4, g4⟩
        · rw [app_len, hl]
          rfl
        · show ((s ++ (⟨#[x]⟩ : Str)).cps.toList.all fun c => decide (c ∈ sgn62.cps.toList)) = true
          rw [app_list, List.all_append, Bool.and_eq_true]
          refine ⟨hs, ?_⟩
          show (decide (x ∈ sgn62.cps.toList) && true) = true
          rw [decide_eq_true hm]
          rfl
      · rintro σ H3 ⟨s, y3, y5, rfl, hl, hs, le3, g3⟩
        refine ⟨_, rfl, q _ (.str s) _ (.str s) hs (Nat.zero_le _) ?_ (le1.trans le3) g3⟩
        show (s.cps.toList.map _).length + 1 + 1 ≤ bnd m
        rw [List.length_map, ← str_len]
        omega
    · refine ⟨_, rfl, 10, 20, rfl, rfl, ⟨by decide, by decide, by decide⟩, by show 2 ≤ sizeLine; decide, fun z hz => ?_⟩
      have nz := g1.ne hz
      have g2 := g1.same (same_new hz (.lst [.int 3, .int (10 ^ (20 : Int).toNat)]))
      refine ⟨_, rfl, st, l, 2, rfl, g2, by decide, by decide, fun d3 H3 d30 d31 le3 g3 => ?_⟩
      have hz3 : H3 z = some (.lst [.int 3, .int (10 ^ (20 : Int).toNat)]) := le3 z _ nz.1 upd_same
      obtain ⟨k, hk, k0, k1⟩ : ∃ k : Int, atI [V.int 3, .int (10 ^ (20 : Int).toNat)] d3 = some (.int k) ∧ 0 < k ∧ k ≤ 10 ^ 20 := by
        rcases (by omega : d3 = 0 ∨ d3 = 1) with e | e
        · exact ⟨3, by rw [e]; rfl, by decide, by decide⟩
        · exact ⟨10 ^ (20 : Int).toNat, by rw [e]; rfl, by decide, by decide⟩
      refine ⟨z, _, d3, _, rfl, rfl, SqL.of hz3, hk, ?_⟩
      refine ⟨st, l, k, rfl, g3, k0, Nat.lt_of_le_of_lt (by omega : k.natAbs ≤ 10 ^ 20) (by decide), fun d4 H4 d40 d41 le4 g4 => ?_⟩
      refine q _ (.int d4) _ (.int d4) ?_ (Nat.zero_le _) (by show 2 ≤ bnd m; omega) (((le1.trans (Le.of (same_new hz _))).trans le3).trans le4) g4
      show (decide (0 ≤ d4) && decide (d4 < 10 ^ 21)) = true
      rw [decide_eq_true d40, decide_eq_true (by omega)]
      rfl
end
end RR

namespace RR
open PySem PySem.Spec PyProof.Rows L2
abbrev sLaw : Stmt := topS 7
def spLaw (K : PySem.W.Frag) : Sp := fun vs H Q _ => ∃ (a : Addr) (ns : List Int), vs = [.ref a] ∧ SqL K H a (ns.map V.int) ∧ ns.length ≤ 63 ∧ ∀ H', Q (.bl true) H'
theorem scLaw : FnScope ["script", "state", "values", "one", "actual", "two", "k"] ["script"] (defScope sLaw) := ⟨rfl, rfl, rfl, by decide +kernel, rfl, by decide +kernel, by decide +kernel⟩
/-! ### lists of integers against each other -/
theorem ints_lay : ∀ ns : List Int, PyData.canLayAll0 (ns.map PyData.int) = true ∧ PyData.depthAll (ns.map PyData.int) = 0
  | [] => ⟨rfl, rfl⟩
  | n :: r => by
    have h := ints_lay r
    refine ⟨?_, ?_⟩
    · show (true && PyData.canLayAll0 (r.map PyData.int)) = true
      rw [h.1]
      rfl
    · show max 0 (PyData.depthAll (r.map PyData.int)) = 0
      rw [h.2]
      rfl
theorem ints_shaped (ns : List Int) : SeqAt.shaped (.list (ns.map PyData.int)) = true := by
  have h := ints_lay ns
  have h1 : (PyData.list (ns.map PyData.int)).canLay0 = true := h.1
  have h2 : (PyData.list (ns.map PyData.int)).depth ≤ 64 := by
    show PyData.depthAll (ns.map PyData.int) + 1 ≤ 64
    omega
  unfold SeqAt.shaped
  rw [h1, decide_eq_true h2]
  rfl
theorem ints_eqv : ∀ ms ns : List Int, PyData.eqvAll (ms.map PyData.int) (ns.map PyData.int) = decide (ms = ns)
  | [], [] => rfl
  | [], _ :: _ => rfl
  | _ :: _, [] => rfl
  | m :: ms, n :: ns => by
    show ((m == n) && PyData.eqvAll (ms.map PyData.int) (ns.map PyData.int)) = decide (m :: ms = n :: ns)
    rw [ints_eqv ms ns, Bool.eq_iff_iff]
    simp
theorem list_ne {K : PySem.W.Frag} {H : Hp} {a b : Addr} {ms ns : List Int} (ha : H a = some (.lst (ms.map V.int))) (hb : H b = some (.lst (ns.map V.int))) {Q : VK} (q : Q (.bl (!decide (ms = ns))) H) : rNeD K (.ref a) (.ref b) H Q := by
  refine ⟨_, _, .lst (SqL.of ha) (TDs.dp _ _ (TDs.ints ms)), .lst (SqL.of hb) (TDs.dp _ _ (TDs.ints ns)), ints_shaped _, ints_shaped _, ?_⟩
  show Q (.bl (!PyData.eqvAll (ms.map PyData.int) (ns.map PyData.int))) H
  rw [ints_eqv]
  exact q
theorem list_eq {K : PySem.W.Frag} {H : Hp} {a b : Addr} {ms ns : List Int} (ha : H a = some (.lst (ms.map V.int))) (hb : H b = some (.lst (ns.map V.int))) {Q : VK} (q : Q (.bl (decide (ms = ns))) H) : rEqD K (.ref a) (.ref b) H Q := by
  refine ⟨_, _, .lst (SqL.of ha) (TDs.dp _ _ (TDs.ints ms)), .lst (SqL.of hb) (TDs.dp _ _ (TDs.ints ns)), ints_shaped _, ints_shaped _, ?_⟩
  show Q (.bl (PyData.eqvAll (ms.map PyData.int) (ns.map PyData.int))) H
  rw [ints_eqv]
  exact q
/-! ### the values in hand -/
def VOk (d : PyData) : Prop := okV d = true ∧ d.depth ≤ 3 ∧ (enc d).length ≤ 350
theorem repr_ok {d : PyData} (h : VOk d) : d.showable = true ∧ d.hasDict = false ∧ d.depth ≤ 60 ∧ d.shown.length ≤ sizeLine ∧ (∀ b, d ≠ .bool b) ∧ d ≠ .none := by
  have h1 := ok_isV d h.1
  refine ⟨h1.2.2, PyData.hasDict_of_canLay d h1.2.1, Nat.le_trans h.2.1 (by decide), shown_size h.1 (Nat.le_trans h.2.2 (by decide)), fun b e => ?_, fun e => ?_⟩
  · rw [e] at h1
    cases h1.1
  · rw [e] at h1
    cases h1.1
def ds6 : List PyData := [.tuple [], .str "", .int 0, .tuple [.int 0], .tuple [.str ""], .tuple [.tuple []]]
theorem ok6 : ∀ d ∈ ds6, VOk d := by
  intro d hd
  have h : d = .tuple [] ∨ d = .str "" ∨ d = .int 0 ∨ d = .tuple [.int 0] ∨ d = .tuple [.str ""] ∨ d = .tuple [.tuple []] := by
    simpa [ds6] using hd
  rcases h with e | e | e | e | e | e
  all_goals
    rw [e]
    exact ⟨by decide, by decide, by decide⟩
section
variable {P : Program} {w : World} {K : PySem.W.Frag} {mg : Str → Option Value} {base : Heap}
theorem ok_law (D : Def K mg "law" sLaw ["script"]) (DV : Def K mg "_law_value" sValue ["state", "deep"]) (DE : Def K mg "encode" sEncode ["value"]) (DL : Def K mg "_law_encode" sLEncode ["value"])
    (mlist : mg "list" = none) (mr : mg "range" = none) (mii : mg "isinstance" = none) (mrepr : mg "repr" = none)
    (GV : FnOk P w K mg base CX0 5 DV.f DV.fd ["state", "deep"] (spVal 4)) (GE : FnOk P w K mg base CX0 1 DE.f DE.fd ["value"] spEnc) (GL : FnOk P w K mg base CX0 5 DL.f DL.fd ["value"] (spLE 4)) :
    RX.FnAt P w K mg base CX0 callerA D.f D.fd ["script"] (spLaw K) := by
  have hroom : Room 6 callerA := ⟨by decide, by decide, by decide⟩
  have hgd : ∀ e : Env, (callerA.deeper e).guards = some [] := fun _ => rfl
  generalize callerA = A at hroom hgd
  refine RX.fn_at D.F scLaw (k := 5) hroom (fun vs H Q E h => ?_) (fun cdv out s H vs Q E hr h => ?_)
  · obtain ⟨a, ns, rfl, _⟩ := h
    rfl
  obtain ⟨a, ns, rfl, hS, hlen, q⟩ := h
  have hr1 := hr.mono (show 1 ≤ 5 by decide)
  suffices z : ∃ t, PSs (cxOf CX0 P w K mg base ["script", "state", "values", "one", "actual", "two", "k"] "law" (defScope sLaw) D.f cdv A out s H E).nox (defBody sLaw) t ∧ t { nx := fun _ H' => Q .non H', rt := Q } (start ["script", "state", "values", "one", "actual", "two", "k"] [.ref a]) H from
    let ⟨t, h1, h2⟩ := z
    ⟨t, h1.nox, h2⟩
  refine ⟨_, pss_cons (ps_set (i := 1) scLaw.nd rfl (.inr rfl) (pe_lst (pa_cons pe_int (pa_cons pe_int (pa_cons (pe_callTy call_list_of (by rfl) mlist (by decide +kernel) (pa_cons (pv 0) pa_nil)) (pa_cons pe_int pa_nil)))))) <|
    pss_cons (ps_set (i := 2) scLaw.nd rfl (.inl rfl) (pe_op op_cat (pe_lc (own := [("k", 6)]) (g := gName 6) (by rfl) scLaw.nd
        (pi_range1 (by rfl) mr (pa_cons pe_int pa_nil))
        (blkOk_by (own := [("k", 6)]) (N := ["script", "state", "values", "one", "actual", "two", "k"]) (sc := defScope sLaw) (by decide +kernel))
        (fun _ _ _ _ _ => pg_name (i := 6) scLaw.nd rfl (Or.inl rfl)) (fun _ _ _ _ _ => pts_nil)
        (fun _ _ _ _ _ => pe_call GV hr (by rfl) DV.m DV.F.kp DV.b .nil pass0 (pa_cons (pv 1) (pa_cons pe_int pa_nil))))
      (pe_lst (pa_cons (pe_tup pa_nil) (pa_cons pe_str (pa_cons pe_int (pa_cons (pe_tup (pa_cons pe_int pa_nil)) (pa_cons (pe_tup (pa_cons pe_str pa_nil)) (pa_cons (pe_tup (pa_cons (pe_tup pa_nil) pa_nil)) pa_nil))))))))) <|
    pss_cons (ps_for PassesOwn.never rfl (pi_list (pv 2)) (pg_name (i := 3) scLaw.nd rfl (.inl rfl))
      (pss_cons (ps_set (i := 4) scLaw.nd rfl (.inl rfl) (pe_call GE hr1 (by rfl) DE.m DE.F.kp DE.b .nil pass0 (pa_cons (pv 3) pa_nil))) <|
      pss_cons (ps_if (PW.pt (pw_or (pt_not (pt_val (pe_callB call_isi (by rfl) mii (by decide +kernel) (pa_cons (pv 4) (pa_cons (pe_bltn (v := .ty "list") (by rfl) mlist (by decide +kernel) rfl) pa_nil)))))
          (pw_or1 (pt_cmpR (op_neD hr.units) (pv 4) (pe_call GL hr (by rfl) DL.m DL.F.kp DL.b .nil pass0 (pa_cons (pv 3) pa_nil)) (nomark _))))) (pss_one (ps_ret pe_bl)) pss_nil) <|
      pss_one (ps_for PassesOwn.never rfl (pi_list (pv 2)) (pg_name (i := 5) scLaw.nd rfl (.inl rfl))
        (pss_one (ps_if (pt_cmpR op_ne (pe_cmpR op_eq (pe_callB (RX.call_reprD (hgd _) hr.units) (by rfl) mrepr (by decide +kernel) (pa_cons (pv 3) pa_nil)) (pe_callB (RX.call_reprD (hgd _) hr.units) (by rfl) mrepr (by decide +kernel) (pa_cons (pv 5) pa_nil)) (nomark _))
            (pe_cmpR (op_eqD hr.units) (pv 4) (pe_call GE hr1 (by rfl) DE.m DE.F.kp DE.b .nil pass0 (pa_cons (pv 5) pa_nil)) (nomark _)) (nomark _)) (pss_one (ps_ret pe_bl)) pss_nil))))) <|
    pss_one (ps_ret pe_bl), ?_⟩
  refine ⟨_, rfl, a, _, rfl, .inl hS, fun l hl => ?_⟩
  refine ⟨by show 4 ≤ sizeLine; decide, fun st hst => ?_⟩
  have nls : l ≠ st := ne_of_none upd_same hst
  have g0 : Good st l (upd (upd H l (.lst (ns.map V.int))) st (.lst [.int 0, .int 0, .ref l, .int 1])) := ⟨0, 0, 1, ns, upd_same, by decide, by decide, by decide, by decide, nls, by rw [upd_ne nls]; exact upd_same⟩
  generalize upd (upd H l (.lst (ns.map V.int))) st (.lst [.int 0, .int 0, .ref l, .int 1]) = H0 at g0
  refine ⟨5, rfl, by decide, by decide, fun D hD => ?_⟩
  have nD := g0.ne hD
  refine lc_range (lo := 0) (n := 5) (fun i H' => ∃ vs ds, H' D = some (.lst vs) ∧ TDs H' vs ds ∧ (∀ d ∈ ds, VOk d) ∧ ds.length = i ∧ Good st l H') ?_ ?_ ?_
  · exact ⟨[], [], upd_same, .nil, fun d hd => (by cases hd), rfl, g0.same (same_new hD _)⟩
  · rintro i H3 hi ⟨vs, ds, hvs, hT, hok, hl, g3⟩
    refine ⟨rfl, _, rfl, st, l, 3, rfl, rfl, g3, fun v d4 H4 hv ho hd hbd le4 g4 => ?_⟩
    have hD4 : H4 D = some (.lst vs) := le4 D _ nD.1 hvs
    refine ⟨_, hD4, ?_, ?_⟩
    · rw [hT.length, hl]
      exact small1000 (by omega)
    have tk : Tk H4 (upd H4 D (.lst (vs ++ [v]))) := Tk.put _ fun xs e => by
      rw [hD4] at e
      cases e
    refine ⟨vs ++ [v], ds ++ [d4], upd_same, TDs.app (TDs.mono ((Tk.le g3 le4).trans tk) _ _ hT) (.cons (TD.mono tk _ _ hv) .nil), fun d hd2 => ?_, ?_, g4.put nD⟩
    · rcases List.mem_append.mp hd2 with e | e
      · exact hok d e
      · have e2 : d = d4 := by simpa using e
        rw [e2]
        exact ⟨ho, hd, hbd⟩
    · rw [List.length_append, hl]
      rfl
  rintro H1 ⟨us, es, hus, hTu, hoku, hlu, g1⟩
  clear g0 hD nD
  -- the six
  refine ⟨by show 0 ≤ sizeLine; decide, fun t0 h0 => ?_⟩
  have s0 := same_new h0 (.tup [])
  have e0 : upd H1 t0 (.tup []) t0 = some (.tup []) := upd_same
  generalize upd H1 t0 (.tup []) = Ha at s0 e0
  refine ⟨by show 1 ≤ sizeLine; decide, fun t1 h1 => ?_⟩
  have s1 := same_new h1 (.tup [.int 0])
  have e1 : upd Ha t1 (.tup [.int 0]) t1 = some (.tup [.int 0]) := upd_same
  generalize upd Ha t1 (.tup [.int 0]) = Hb at s1 e1
  refine ⟨by show 1 ≤ sizeLine; decide, fun t2 h2 => ?_⟩
  have s2 := same_new h2 (.tup [.str ""])
  have e2 : upd Hb t2 (.tup [.str ""]) t2 = some (.tup [.str ""]) := upd_same
  generalize upd Hb t2 (.tup [.str ""]) = Hc at s2 e2
  refine ⟨by show 0 ≤ sizeLine; decide, fun t3 h3 => ?_⟩
  have s3 := same_new h3 (.tup [])
  have e3 : upd Hc t3 (.tup []) t3 = some (.tup []) := upd_same
  generalize upd Hc t3 (.tup []) = Hd at s3 e3
  refine ⟨by show 1 ≤ sizeLine; decide, fun t4 h4 => ?_⟩
  have s4 := same_new h4 (.tup [.ref t3])
  have e4 : upd Hd t4 (.tup [.ref t3]) t4 = some (.tup [.ref t3]) := upd_same
  generalize upd Hd t4 (.tup [.ref t3]) = He at s4 e4
  refine ⟨by show 6 ≤ sizeLine; decide, fun p hp => ?_⟩
  have s5 := same_new hp (.lst [.ref t0, .str "", .int 0, .ref t1, .ref t2, .ref t4])
  have e5 : upd He p (.lst [.ref t0, .str "", .int 0, .ref t1, .ref t2, .ref t4]) p = some (.lst [.ref t0, .str "", .int 0, .ref t1, .ref t2, .ref t4]) := upd_same
  generalize upd He p (.lst [.ref t0, .str "", .int 0, .ref t1, .ref t2, .ref t4]) = Hf at s5 e5
  have s15 := s0.trans (s1.trans (s2.trans (s3.trans (s4.trans s5))))
  refine ⟨D, p, us, _, rfl, rfl, s15 _ _ hus, e5, ?_, fun v hv => ?_⟩
  · rw [hTu.length, hlu]
    show 5 + 6 ≤ sizeLine
    decide
  have s6 := same_new hv (.lst (us ++ [.ref t0, .str "", .int 0, .ref t1, .ref t2, .ref t4]))
  have hval : upd Hf v (.lst (us ++ [.ref t0, .str "", .int 0, .ref t1, .ref t2, .ref t4])) v = some (.lst (us ++ [.ref t0, .str "", .int 0, .ref t1, .ref t2, .ref t4])) := upd_same
  generalize upd Hf v (.lst (us ++ [.ref t0, .str "", .int 0, .ref t1, .ref t2, .ref t4])) = Hv at s6 hval
  have hT : TDs Hv (us ++ [.ref t0, .str "", .int 0, .ref t1, .ref t2, .ref t4]) (es ++ ds6) := by
    have f0 := s6 _ _ (s5 _ _ (s4 _ _ (s3 _ _ (s2 _ _ (s1 _ _ e0)))))
    have f1 := s6 _ _ (s5 _ _ (s4 _ _ (s3 _ _ (s2 _ _ e1))))
    have f2 := s6 _ _ (s5 _ _ (s4 _ _ (s3 _ _ e2)))
    have f4 := s6 _ _ (s5 _ _ e4)
    have f3 := s6 _ _ (s5 _ _ (s4 _ _ e3))
    exact TDs.app (TDs.mono (Tk.same (s15.trans s6)) _ _ hTu) (.cons (.tup f0 .nil) (.cons (.str _) (.cons (.int _) (.cons (.tup f1 (.cons (.int _) .nil)) (.cons (.tup f2 (.cons (.str _) .nil)) (.cons (.tup f4 (.cons (.tup f3 .nil) .nil)) .nil))))))
  have hok : ∀ d ∈ es ++ ds6, VOk d := fun d hd => (List.mem_append.mp hd).elim (hoku d) (ok6 d)
  generalize us ++ [V.ref t0, .str "", .int 0, .ref t1, .ref t2, .ref t4] = vs at hval hT
  generalize es ++ ds6 = ds at hT hok
  clear s0 s1 s2 s3 s4 s5 s6 s15 e0 e1 e2 e3 e4 e5 hTu hoku hus g1
  refine ⟨_, rfl, v, rfl, ⟨vs, SqL.of hval⟩, for_list (K := K) (a := v) (xs := vs) (fun i σ H' => ∃ y3 y4 y5 y6, σ = [some (.ref a), some (.ref st), some (.ref v), y3, y4, y5, y6] ∧ Same Hv H') ?_ ?_ ?_ ?_⟩
  · exact ⟨_, _, _, _, rfl, fun _ _ h => h⟩
  · rintro i σ H' _ ⟨y3, y4, y5, y6, rfl, sv⟩
    exact SqL.of (sv _ _ hval)
  · rintro i x σ H2 hx ⟨y3, y4, y5, y6, rfl, sv⟩
    obtain ⟨d, hd, ht⟩ := TDs.get hT i x hx
    have vd := hok d (List.mem_of_getElem? hd)
    have iv := (ok_isV d vd.1).1
    have ht2 := TD.mono (Tk.same sv) _ _ ht
    refine ⟨_, rfl, x, d, rfl, ht2, iv, Nat.le_trans vd.2.2 (by decide), fun e H3 he s3 hw => ?_⟩
    refine ⟨_, rfl, _, _, _, _, true, rfl, .ty "list", .base (.lst hw), kit_ty (by decide +kernel), ⟨_, rfl, ?_⟩⟩
    refine iteF ?_
    refine ⟨_, rfl, _, rfl, x, d, rfl, TD.mono (Tk.same s3) _ _ ht2, iv, Nat.lt_succ_of_le vd.2.1, Nat.le_trans vd.2.2 (by decide), fun e2 H4 he2 s4 hw2 => ?_⟩
    refine list_ne (s4 _ _ hw) hw2 ⟨_, rfl, ?_⟩
    refine iteNS rfl ?_
    have sv4 := sv.trans (s3.trans s4)
    have hw4 := s4 _ _ hw
    refine ⟨_, rfl, v, rfl, ⟨vs, SqL.of (sv4 _ _ hval)⟩, for_list (K := K) (a := v) (xs := vs) (fun j σ H' => ∃ y5, σ = [some (.ref a), some (.ref st), some (.ref v), some x, some (.ref e), y5, y6] ∧ Same H4 H') ?_ ?_ ?_ ?_⟩
    · exact ⟨_, rfl, fun _ _ h => h⟩
    · rintro j σ H' _ ⟨y5, rfl, s5⟩
      exact SqL.of (s5 _ _ (sv4 _ _ hval))
    · rintro j y σ H5 hy ⟨y5, rfl, s5⟩
      obtain ⟨d2, hd2, hu⟩ := TDs.get hT j y hy
      have vd2 := hok d2 (List.mem_of_getElem? hd2)
      have iv2 := (ok_isV d2 vd2.1).1
      have sv5 := sv4.trans s5
      have hx5 := TD.mono (Tk.same sv5) _ _ ht
      have hy5 := TD.mono (Tk.same sv5) _ _ hu
      have r1 := repr_ok vd
      have r2 := repr_ok vd2
      refine ⟨_, rfl, x, d, rfl, TD.dp _ _ hx5, r1.1, r1.2.1, r1.2.2.1, r1.2.2.2.1, r1.2.2.2.2.1, r1.2.2.2.2.2, ?_⟩
      refine ⟨_, rfl, y, d2, rfl, TD.dp _ _ hy5, r2.1, r2.2.1, r2.2.2.1, r2.2.2.2.1, r2.2.2.2.2.1, r2.2.2.2.2.2, ?_⟩
      refine ⟨rfl, _, rfl, _, rfl, y, d2, rfl, hy5, iv2, Nat.le_trans vd2.2.2 (by decide), fun e6 H6 he6 s6 hw6 => ?_⟩
      refine list_eq (s6 _ _ (s5 _ _ hw4)) hw6 ?_
      refine ⟨rfl, _, rfl, ?_⟩
      have heq : decide (V.str d.shown = V.str d2.shown) = decide (enc d = enc d2) := by
        rw [Bool.eq_iff_iff, decide_eq_true_iff, decide_eq_true_iff, enc_inj iv iv2, ← shown_inj vd.1 vd2.1]
        exact ⟨fun h => V.str.inj h, fun h => by rw [h]⟩
      refine iteNS (congrArg V.bl heq) ?_
      exact ⟨_, rfl, s5.trans s6⟩
    · rintro σ H5 ⟨y5, rfl, s5⟩
      exact ⟨_, _, _, _, rfl, sv4.trans s5⟩
  · rintro σ H2 _
    exact q _
end
end RR

namespace RR
open PySem PySem.Spec PyProof.Rows L2
theorem all_mk {l : PySem.W.OpenLaw} {w : World} {K : PySem.W.Frag} {h : Heap} {mg : Str → Option Value} {fa f1 f2 f3 f4 f5 f6 : Addr} (X : K.In h) (G : h.Ns mainGlobals mg) (hfa : mg "law" = some (.ref fa))
    {od1 an1 od2 an2 od3 an3 od4 an4 od5 an5 od6 an6 : Option Addr} {sl1 sl2 sl3 sl4 sl5 sl6 : Array (Option Value)} {oc1 kV1 dc1 pm1 cd1 ct1 oc2 kV2 dc2 pm2 cd2 ct2 oc3 kV3 dc3 pm3 cd3 ct3 oc4 kV4 dc4 pm4 cd4 ct4 oc5 kV5 dc5 pm5 cd5 ct5 oc6 kV6 dc6 pm6 cd6 ct6 : Value}
    (a1 : PySem.W.nsIn K mainGlobals "encode" = some (some (.ref f1))) (l1 : K.lookup f1 = some ⟨oc1, od1, .func (PySem.W.fnOf "encode" "encode" (defArgs sEncode) (defBody sEncode) (defScope sEncode) .none kV1 dc1 pm1 an1 cd1 ct1), sl1⟩) (c1 : PySem.W.codeIn K cd1 "encode" = true) (k1 : PySem.W.keepIn K (.ref f1) = true)
    (a2 : PySem.W.nsIn K mainGlobals "_law_draw" = some (some (.ref f2))) (l2 : K.lookup f2 = some ⟨oc2, od2, .func (PySem.W.fnOf "_law_draw" "_law_draw" (defArgs sDraw) (defBody sDraw) (defScope sDraw) .none kV2 dc2 pm2 an2 cd2 ct2), sl2⟩) (c2 : PySem.W.codeIn K cd2 "_law_draw" = true) (k2 : PySem.W.keepIn K (.ref f2) = true)
    (a3 : PySem.W.nsIn K mainGlobals "_law_codes" = some (some (.ref f3))) (l3 : K.lookup f3 = some ⟨oc3, od3, .func (PySem.W.fnOf "_law_codes" "_law_codes" (defArgs sCodes) (defBody sCodes) (defScope sCodes) .none kV3 dc3 pm3 an3 cd3 ct3), sl3⟩) (c3 : PySem.W.codeIn K cd3 "_law_codes" = true) (k3 : PySem.W.keepIn K (.ref f3) = true)
    (a4 : PySem.W.nsIn K mainGlobals "_law_encode" = some (some (.ref f4))) (l4 : K.lookup f4 = some ⟨oc4, od4, .func (PySem.W.fnOf "_law_encode" "_law_encode" (defArgs sLEncode) (defBody sLEncode) (defScope sLEncode) .none kV4 dc4 pm4 an4 cd4 ct4), sl4⟩) (c4 : PySem.W.codeIn K cd4 "_law_encode" = true) (k4 : PySem.W.keepIn K (.ref f4) = true)
    (a5 : PySem.W.nsIn K mainGlobals "_law_value" = some (some (.ref f5))) (l5 : K.lookup f5 = some ⟨oc5, od5, .func (PySem.W.fnOf "_law_value" "_law_value" (defArgs sValue) (defBody sValue) (defScope sValue) .none kV5 dc5 pm5 an5 cd5 ct5), sl5⟩) (c5 : PySem.W.codeIn K cd5 "_law_value" = true) (k5 : PySem.W.keepIn K (.ref f5) = true)
    (a6 : PySem.W.nsIn K mainGlobals "law" = some (some (.ref f6))) (l6 : K.lookup f6 = some ⟨oc6, od6, .func (PySem.W.fnOf "law" "law" (defArgs sLaw) (defBody sLaw) (defScope sLaw) .none kV6 dc6 pm6 an6 cd6 ct6), sl6⟩) (c6 : PySem.W.codeIn K cd6 "law" = true) (k6 : PySem.W.keepIn K (.ref f6) = true)
    (z1 : PySem.W.nsIn K mainGlobals "len" = some none) (z2 : PySem.W.nsIn K mainGlobals "int" = some none) (z3 : PySem.W.nsIn K mainGlobals "range" = some none) (z4 : PySem.W.nsIn K mainGlobals "tuple" = some none) (z5 : PySem.W.nsIn K mainGlobals "list" = some none) (z6 : PySem.W.nsIn K mainGlobals "isinstance" = some none) (z7 : PySem.W.nsIn K mainGlobals "repr" = some none) (z8 : PySem.W.nsIn K mainGlobals "str" = some none) (z9 : PySem.W.nsIn K mainGlobals "ord" = some none) :
    ∃ fd : FuncData, (∀ (s : Shared) (v : Value), BindsTo s fd ⟨[v], []⟩ [("script", v)]) ∧ ∀ base : Heap, K.In base → base.Ns mainGlobals mg → RX.FnAt l.prog w K mg base CX0 callerA fa fd ["script"] (spLaw K) := by
  have e := hfa.symm.trans (PySem.W.mg_of X G a6)
  cases e
  have F1 := fun_mk (st := sEncode) l1 c1 k1
  have b1 := F1.binds (ps := ["value"]) fun _ _ _ _ _ _ us hl => match us, hl with | [_], _ => rfl
  let dE : Def K mg "encode" sEncode ["value"] := ⟨_, _, F1, b1, PySem.W.mg_of X G a1⟩
  have F2 := fun_mk (st := sDraw) l2 c2 k2
  have b2 := F2.binds (ps := ["state", "limit"]) fun _ _ _ _ _ _ us hl => match us, hl with | [_, _], _ => rfl
  let dD : Def K mg "_law_draw" sDraw ["state", "limit"] := ⟨_, _, F2, b2, PySem.W.mg_of X G a2⟩
  have F3 := fun_mk (st := sCodes) l3 c3 k3
  have b3 := F3.binds (ps := ["text"]) fun _ _ _ _ _ _ us hl => match us, hl with | [_], _ => rfl
  let dC : Def K mg "_law_codes" sCodes ["text"] := ⟨_, _, F3, b3, PySem.W.mg_of X G a3⟩
  have F4 := fun_mk (st := sLEncode) l4 c4 k4
  have b4 := F4.binds (ps := ["value"]) fun _ _ _ _ _ _ us hl => match us, hl with | [_], _ => rfl
  let dL : Def K mg "_law_encode" sLEncode ["value"] := ⟨_, _, F4, b4, PySem.W.mg_of X G a4⟩
  have F5 := fun_mk (st := sValue) l5 c5 k5
  have b5 := F5.binds (ps := ["state", "deep"]) fun _ _ _ _ _ _ us hl => match us, hl with | [_, _], _ => rfl
  let dV : Def K mg "_law_value" sValue ["state", "deep"] := ⟨_, _, F5, b5, PySem.W.mg_of X G a5⟩
  have F6 := fun_mk (st := sLaw) l6 c6 k6
  have b6 := F6.binds (ps := ["script"]) fun _ _ _ _ _ _ us hl => match us, hl with | [_], _ => rfl
  let dW : Def K mg "law" sLaw ["script"] := ⟨_, _, F6, b6, PySem.W.mg_of X G a6⟩
  have m_len := PySem.W.mg_none_of X G z1
  have m_int := PySem.W.mg_none_of X G z2
  have m_range := PySem.W.mg_none_of X G z3
  have m_tuple := PySem.W.mg_none_of X G z4
  have m_list := PySem.W.mg_none_of X G z5
  have m_isinstance := PySem.W.mg_none_of X G z6
  have m_repr := PySem.W.mg_none_of X G z7
  have m_str := PySem.W.mg_none_of X G z8
  have m_ord := PySem.W.mg_none_of X G z9
  refine ⟨PySem.W.fnOf "law" "law" (defArgs sLaw) (defBody sLaw) (defScope sLaw) .none kV6 dc6 pm6 an6 cd6 ct6, fun s v => .of_eq rfl, fun base _ _ => ?_⟩
  have GD := ok_draw (P := l.prog) (w := w) (base := base) dD m_len m_int
  have GE := ok_encode (P := l.prog) (w := w) (base := base) dE m_isinstance m_int m_str m_len m_ord
  have GC := ok_codes (P := l.prog) (w := w) (base := base) dC m_ord
  have L1 := ok_lencode (n := 0) dL dC m_isinstance m_str m_tuple m_len GC le_none
  have L2 := ok_lencode (n := 1) dL dC m_isinstance m_str m_tuple m_len GC L1
  have L3 := ok_lencode (n := 2) dL dC m_isinstance m_str m_tuple m_len GC L2
  have L4 := ok_lencode (n := 3) dL dC m_isinstance m_str m_tuple m_len GC L3
  have V1 := ok_value (n := 0) dV dD m_range m_tuple GD val_none
  have V2 := ok_value (n := 1) dV dD m_range m_tuple GD V1
  have V3 := ok_value (n := 2) dV dD m_range m_tuple GD V2
  have V4 := ok_value (n := 3) dV dD m_range m_tuple GD V3
  exact ok_law dW dV dE dL m_list m_range m_isinstance m_repr V4 GE L4
end RR
open PySem PySem.W PyProof.Rows
set_option maxRecDepth 100000 in
set_option maxHeartbeats 0 in
theorem PySem.Challenge.cw_rightrows_k01_encodings_holds : PySem.Challenge.rw_rightrows_k01_encodings.Holds := by
  w_on; o_law; k_head; (case hw => w_witness2)
  k_fill
  refine RX.walk_at (l := PySem.Challenge.rw_rightrows_k01_encodings) (n := 63) (x := "script") (sp := fun w => RR.spLaw _) rfl (by decide) rfl (fun w h Y => PySem.W.kIn_of Y) ?F (fun _ _ a ns hl _ hS => ⟨a, ns, rfl, hS, hl, fun _ => rfl⟩)
  case F =>
    intro w mg fa h KX G hmg
    refine' RR.all_mk KX G hmg ?a1 ?l1 ?c1 ?k1 ?a2 ?l2 ?c2 ?k2 ?a3 ?l3 ?c3 ?k3 ?a4 ?l4 ?c4 ?k4 ?a5 ?l5 ?c5 ?k5 ?a6 ?l6 ?c6 ?k6 ?z1 ?z2 ?z3 ?z4 ?z5 ?z6 ?z7 ?z8 ?z9
    (case a1 => k_is); (case l1 => k_is); (case c1 => k_is); (case k1 => k_is); (case a2 => k_is); (case l2 => k_is)
    (case c2 => k_is); (case k2 => k_is); (case a3 => k_is); (case l3 => k_is); (case c3 => k_is); (case k3 => k_is)
    (case a4 => k_is); (case l4 => k_is); (case c4 => k_is); (case k4 => k_is); (case a5 => k_is); (case l5 => k_is)
    (case c5 => k_is); (case k5 => k_is); (case a6 => k_is); (case l6 => k_is); (case c6 => k_is); (case k6 => k_is)
    (case z1 => k_is); (case z2 => k_is); (case z3 => k_is); (case z4 => k_is); (case z5 => k_is); (case z6 => k_is)
    (case z7 => k_is); (case z8 => k_is); (case z9 => k_is)
