import PyProof.Rows.All
import Wide.All
import OpenK.AllK
import Wide.FinOn
import HandS.ForMost
import HandS.Wide
import HandS.Codes
import HandS.More
import HandS.IsInst
import PySem.Challenge.RW_rightrows_k06_two_tables
import HandS.Strs
import HandS.Set
import HandS.SetFor
import HandS.SetTxt0
import HandS.SetBool
set_option Elab.async false
set_option linter.all false
set_option maxRecDepth 100000
namespace RR
open PySem PySem.Spec PyProof.Rows L2
def topS (i : Nat) : Stmt := PySem.Challenge.pw_rightrows_k06_two_tables.main.body.getD i (.Pass ⟨0, 0, 0, 0⟩)
abbrev sDraw : Stmt := topS 6
/-! ### heaps -/
theorem same_new {H : Hp} {p : Addr} (h : H p = none) (o : HO) : Same H (upd H p o) := fun b u q => by
  rw [upd_ne (ne_of_none q h)]
  exact q
/-- all but the drawer's list stands as it was -/
def Le (st : Addr) (H H' : Hp) : Prop := ∀ b o, b ≠ st → H b = some o → H' b = some o
theorem Le.refl (st : Addr) (H : Hp) : Le st H H := fun _ _ _ h => h
theorem Le.trans {st : Addr} {H H1 H2 : Hp} (a : Le st H H1) (b : Le st H1 H2) : Le st H H2 := fun c o n h => b c o n (a c o n h)
theorem Le.of {st : Addr} {H H' : Hp} (a : Same H H') : Le st H H' := fun b o _ h => a b o h
theorem Le.st {st : Addr} {H : Hp} (o : HO) : Le st H (upd H st o) := fun b u n h => by
  rw [upd_ne n]
  exact h
/-- the drawer's list -/
def Good (st l : Addr) (H : Hp) : Prop := ∃ (a p c : Int) (ns : List Int), H st = some (.lst [.int a, .int p, .ref l, .int c]) ∧ 0 ≤ a ∧ 0 ≤ p ∧ 0 ≤ c ∧ c < 2147483647 ∧ l ≠ st ∧ H l = some (.lst (ns.map V.int))
theorem Good.same {st l : Addr} {H H' : Hp} (g : Good st l H) (s : Same H H') : Good st l H' := by
  obtain ⟨a, p, c, ns, h, h1, h2, h3, h4, h5, h6⟩ := g
  exact ⟨a, p, c, ns, s _ _ h, h1, h2, h3, h4, h5, s _ _ h6⟩
theorem Good.ne {st l D : Addr} {H : Hp} (g : Good st l H) (h : H D = none) : D ≠ st ∧ D ≠ l := by
  obtain ⟨a, p, c, ns, h1, _, _, _, _, _, h6⟩ := g
  refine ⟨fun e => ?_, fun e => ?_⟩
  · rw [e, h1] at h
    cases h
  · rw [e, h6] at h
    cases h
theorem Good.put {st l D : Addr} {H : Hp} {o : HO} (g : Good st l H) (h : D ≠ st ∧ D ≠ l) : Good st l (upd H D o) := by
  obtain ⟨a, p, c, ns, h1, h2, h3, h4, h5, h6, h7⟩ := g
  exact ⟨a, p, c, ns, by rw [upd_ne h.1.symm]; exact h1, h2, h3, h4, h5, h6, by rw [upd_ne h.2.symm]; exact h7⟩
theorem Le.mut {st D : Addr} {H H' : Hp} {o : HO} (le : Le st H H') (h : H D = none) : Le st H (upd H' D o) := fun b u n e => by
  rw [upd_ne (ne_of_none e h)]
  exact le b u n e
theorem small {n : Nat} (h : n ≤ 1000) : n ≤ sizeLine := Nat.le_of_lt (small1000 h)
/-- a def of the text as it stands behind the top -/
structure Def (K : PySem.W.Frag) (mg : Str → Option Value) (x : Str) (st : Stmt) (ps : List Str) where
  f : Addr
  fd : FuncData
  F : Fun K x x st f fd
  b : Binds K fd ps []
  m : mg x = some (.ref f)
def spDraw : Sp := fun vs H Q _ => ∃ (st l : Addr) (n : Int), vs = [.ref st, .int n] ∧ Good st l H ∧ 0 < n ∧ n.natAbs < 2 ^ 200 ∧ ∀ d H', 0 ≤ d → d < n → Le st H H' → Good st l H' → Q (.int d) H'
theorem scDraw : FnScope ["state", "limit", "position", "cell", "mixed", "digit"] ["state", "limit"] (defScope sDraw) := ⟨rfl, rfl, rfl, by decide +kernel, rfl, by decide +kernel, by decide +kernel⟩
section
variable {P : Program} {w : World} {K : PySem.W.Frag} {mg : Str → Option Value} {base : Heap}
theorem ok_draw (D : Def K mg "_law_draw" sDraw ["state", "limit"]) (ml : mg "len" = none) (mi : mg "int" = none) : FnOk P w K mg base CX0 1 D.f D.fd ["state", "limit"] spDraw := by
  refine D.F.ok scDraw (fun vs H Q E h => ?_) (fun cdv A outer s H vs Q E hr h => ?_)
  · obtain ⟨st, l, n, rfl, _⟩ := h
    rfl
  obtain ⟨st, l, n, rfl, g, hn0, hn, q⟩ := h
  refine ⟨_, C8.pss_cut (ps_if (pt_cmpR op_lt (pe_ix ix_list (pv 0) pe_int (fun _ _ => rfl)) (pv 1) (nomark _))
      (pss_cons (ps_set (i := 2) scDraw.nd rfl (.inl rfl) (pe_ix ix_list (pv 0) pe_int (fun _ _ => rfl)))
      (pss_cons (ps_asg (pe_op op_add (pv 2) pe_int) (pg_sub (pv 0) pe_int set_list))
      (pss_cons (ps_set (i := 3) scDraw.nd rfl (.inl rfl) pe_int)
      (C8.pss_cut (ps_if (pt_cmpR op_lt (pv 2) (pe_callB call_len_seq (by rfl) ml PySem.boot_len (pa_cons (pe_ix ix_list (pv 0) pe_int (fun _ _ => rfl)) pa_nil)) (nomark _))
        (pss_one (ps_set (i := 3) scDraw.nd rfl (.inl rfl) (pe_ix ix_list (pe_ix ix_list (pv 0) pe_int (fun _ _ => rfl)) (pv 2) (fun _ _ => rfl)))) pss_nil)
      (pss_one (ps_if (pt_cmpR op_ge (pv 3) (pe_op op_pow pe_int pe_int) (nomark _))
        (pss_one (ps_asg (pv 3) (pg_sub (pv 0) pe_int set_list)))
        (C8.pss_cut (ps_asg (pe_op op_modN (pe_callTy call_int1 (by rfl) mi (by decide +kernel) (pa_cons (pe_op op_mul (pe_op op_add (pe_op op_add (pe_op op_add (pe_ix ix_list (pv 0) pe_int (fun _ _ => rfl)) (pe_op op_modN (pe_callTy call_int1 (by rfl) mi (by decide +kernel) (pa_cons (pv 3) pa_nil)) pe_int)) (pv 2)) pe_int) pe_int) pa_nil)) pe_int) (pg_sub (pv 0) pe_int set_list))
        (C8.pss_cut (ps_set (i := 4) scDraw.nd rfl (.inl rfl) (pe_op op_modN (pe_callTy call_int1 (by rfl) mi (by decide +kernel) (pa_cons (pe_op op_add (pe_op op_mul (pe_ix ix_list (pv 0) pe_int (fun _ _ => rfl)) pe_int) pe_int) pa_nil)) pe_int))
        (pss_one (ps_asg (pe_op op_add (pe_op op_mul (pv 4) pe_int) (pe_op op_modN (pe_callTy call_int1 (by rfl) mi (by decide +kernel) (pa_cons (pe_op op_add (pe_op op_mul (pv 4) pe_int) (pe_ix ix_list (pv 0) pe_int (fun _ _ => rfl))) pa_nil)) pe_int)) (pg_sub (pv 0) pe_int set_list))))))))))) pss_nil)
    (pss_cons (ps_set (i := 5) scDraw.nd rfl (.inl rfl) (pe_op op_modN (pe_callTy call_int1 (by rfl) mi (by decide +kernel) (pa_cons (pe_ix ix_list (pv 0) pe_int (fun _ _ => rfl)) pa_nil)) (pv 1)))
    (pss_cons (ps_asg (pe_op op_fdivW (pe_ix ix_list (pv 0) pe_int (fun _ _ => rfl)) (pv 1)) (pg_sub (pv 0) pe_int set_list))
    (pss_one (ps_ret (pv 5))))), ?_⟩
  obtain ⟨a, p, c, ns, h, ha, hp, hc, hc2, hl, hns⟩ := g
  refine ⟨fun σ' H' => ∃ y2 y3 y4 y5, σ' = [some (.ref st), some (.int n), y2, y3, y4, y5] ∧ Le st H H' ∧ Good st l H', ?_, ?_⟩
  · refine ⟨_, rfl, st, _, 0, _, rfl, rfl, SqL.of h, atI_nat (j := 0) rfl, _, rfl, _, _, rfl, rfl, _, rfl, ite2 (fun _ => ?_) (fun _ => ?_)⟩
    · refine ⟨_, rfl, st, _, 1, _, rfl, rfl, SqL.of h, atI_nat (j := 1) rfl, ?_⟩
      refine ⟨_, rfl, _, _, rfl, rfl, _, rfl, st, _, 1, 1, rfl, rfl, h, rfl, ?_⟩
      have h1 : upd H st (.lst ([.int a, .int p, .ref l, .int c].set 1 (.int (p + 1)))) st = some (.lst [.int a, .int (p + 1), .ref l, .int c]) := upd_same
      have hns1 : upd H st (.lst ([.int a, .int p, .ref l, .int c].set 1 (.int (p + 1)))) l = some (.lst (ns.map V.int)) := by
        rw [upd_ne hl]
        exact hns
      refine ⟨fun σ' H' => ∃ cell : Int, σ' = [some (.ref st), some (.int n), some (.int p), some (.int cell), none, none] ∧ H' = upd H st (.lst ([.int a, .int p, .ref l, .int c].set 1 (.int (p + 1)))), ?_, ?_⟩
      · refine ⟨_, rfl, _, rfl, st, _, 2, _, rfl, rfl, SqL.of h1, atI_nat (j := 2) rfl, l, _, rfl, .inl (SqL.of hns1), _, _, rfl, rfl, _, rfl, ite2 (fun hlt => ?_) (fun _ => ?_)⟩
        · have hlt2 : p < (((ns.map V.int).length : Nat) : Int) := of_decide_eq_true hlt
          rw [List.length_map] at hlt2
          have hk : p.toNat < ns.length := by omega
          have hg : atI (ns.map V.int) p = some (.int ns[p.toNat]) := by
            have e : ((p.toNat : Nat) : Int) = p := by omega
            have z : atI (ns.map V.int) ((p.toNat : Nat) : Int) = some (.int ns[p.toNat]) := atI_nat (by rw [List.getElem?_map, List.getElem?_eq_getElem hk]; rfl)
            rw [e] at z
            exact z
          refine ⟨_, rfl, st, _, 2, _, rfl, rfl, SqL.of h1, atI_nat (j := 2) rfl, _, rfl, l, _, p, _, rfl, rfl, SqL.of hns1, hg, ?_⟩
          exact ⟨_, rfl, rfl⟩
        · exact ⟨_, rfl, rfl⟩
      · rintro σ' H' ⟨cell, rfl, rfl⟩
        refine ⟨_, rfl, 10, 18, rfl, rfl, ⟨by decide, by decide, by decide⟩, _, _, rfl, rfl, _, rfl, ite2 (fun hge => ?_) (fun _ => ?_)⟩
        · have hge2 : cell ≥ 10 ^ 18 := of_decide_eq_true hge
          refine ⟨_, rfl, _, rfl, st, _, 0, 0, rfl, rfl, h1, rfl, ?_⟩
          refine ⟨_, _, _, _, rfl, fun b o nb e => by rw [upd_ne nb, upd_ne nb]; exact e, cell, p + 1, c, ns, upd_same, by omega, by omega, hc, hc2, hl, ?_⟩
          rw [upd_ne hl]
          exact hns1
        · have le1 : Le st H (upd H st (.lst ([.int a, .int p, .ref l, .int c].set 1 (.int (p + 1))))) := Le.st _
          refine ⟨fun σ' H' => ∃ x : Int, σ' = [some (.ref st), some (.int n), some (.int p), some (.int cell), none, none] ∧ 0 ≤ x ∧ x < 2147483647 ∧ H' st = some (.lst [.int a, .int (p + 1), .ref l, .int x]) ∧ H' l = some (.lst (ns.map V.int)) ∧ Le st H H', ?_, ?_⟩
          · refine ⟨_, rfl, st, _, 3, _, rfl, rfl, SqL.of h1, atI_nat (j := 3) rfl, _, rfl, .inl ⟨_, rfl, _, _, rfl, rfl, (by show (2147483629 : Int) ≠ 0; decide), _, _, rfl, rfl, ?_⟩⟩
            refine ⟨_, rfl, _, _, rfl, rfl, _, _, rfl, rfl, _, _, rfl, rfl, .inr (by decide), .inl ⟨_, rfl, _, _, rfl, rfl, (by show (2147483647 : Int) ≠ 0; decide), ?_⟩⟩
            refine ⟨_, rfl, st, _, 3, 3, rfl, rfl, h1, rfl, ?_⟩
            exact ⟨_, rfl, Int.fmod_nonneg_of_pos _ (by decide), Int.fmod_lt_of_pos _ (by decide), upd_same, by rw [upd_ne hl]; exact hns1, le1.trans (Le.st _)⟩
          · rintro σ' H2 ⟨x, rfl, hx0, hx1, h2, hns2, le2⟩
            refine ⟨fun σ' H' => ∃ m : Int, σ' = [some (.ref st), some (.int n), some (.int p), some (.int cell), some (.int m), none] ∧ 0 ≤ m ∧ H' = H2, ?_, ?_⟩
            · refine ⟨_, rfl, st, _, 3, _, rfl, rfl, SqL.of h2, atI_nat (j := 3) rfl, _, _, rfl, rfl, .inr (by decide), _, _, rfl, rfl, .inl ⟨_, rfl, _, _, rfl, rfl, (by show (2147483629 : Int) ≠ 0; decide), ?_⟩⟩
              exact ⟨_, rfl, Int.fmod_nonneg_of_pos _ (by decide), rfl⟩
            · rintro σ' H3 ⟨m, rfl, hm0, rfl⟩
              refine ⟨_, rfl, _, _, rfl, rfl, .inr (by decide), _, rfl, _, _, rfl, rfl, .inr (by decide), _, rfl, st, _, 3, _, rfl, rfl, SqL.of h2, atI_nat (j := 3) rfl, _, _, rfl, rfl, .inl ⟨_, rfl, _, _, rfl, rfl, (by show (2147483587 : Int) ≠ 0; decide), _, _, rfl, rfl, ?_⟩⟩
              refine ⟨_, rfl, st, _, 0, 0, rfl, rfl, h2, rfl, ?_⟩
              have hk0 : 0 ≤ Int.fmod (m * 30011 + x) 2147483587 := Int.fmod_nonneg_of_pos _ (by decide)
              refine ⟨_, _, _, _, rfl, le2.trans (Le.st _), m * 2147483647 + Int.fmod (m * 30011 + x) 2147483587, p + 1, x, ns, upd_same, by omega, by omega, hx0, hx1, hl, ?_⟩
              rw [upd_ne hl]
              exact hns2
    · exact ⟨_, _, _, _, rfl, Le.refl _ _, a, p, c, ns, h, ha, hp, hc, hc2, hl, hns⟩
  · rintro σ' H' ⟨y2, y3, y4, y5, rfl, le, a, p, c, ns, h, ha, hp, hc, hc2, hl, hns⟩
    refine ⟨_, rfl, st, _, 0, _, rfl, rfl, SqL.of h, atI_nat (j := 0) rfl, .inl ⟨_, rfl, ?_⟩⟩
    refine ⟨_, rfl, _, _, rfl, rfl, (by omega), ?_⟩
    refine ⟨_, rfl, st, _, 0, _, rfl, rfl, SqL.of h, atI_nat (j := 0) rfl, _, rfl, _, _, rfl, rfl, wide_div hn0 hn (by decide) (by decide), ?_⟩
    refine ⟨_, rfl, st, _, 0, 0, rfl, rfl, h, rfl, ?_⟩
    refine ⟨_, rfl, ?_⟩
    refine q _ _ (Int.fmod_nonneg_of_pos _ hn0) (Int.fmod_lt_of_pos _ hn0) (fun b o nb e => by rw [upd_ne nb]; exact le _ _ nb e) ⟨a / n, p, c, ns, upd_same, Int.ediv_nonneg ha (by omega), hp, hc, hc2, hl, by rw [upd_ne hl]; exact hns⟩
end
end RR

namespace RR
open PySem PySem.Spec PyProof.Rows L2
abbrev sKey : Stmt := topS 7
abbrev sRow : Stmt := topS 8
/-! ### data that never changes -/
/-- tuples stand as they stood -/
def Tk (H H' : Hp) : Prop := ∀ a xs, H a = some (.tup xs) → H' a = some (.tup xs)
theorem Tk.refl (H : Hp) : Tk H H := fun _ _ h => h
theorem Tk.trans {H H1 H2 : Hp} (a : Tk H H1) (b : Tk H1 H2) : Tk H H2 := fun c o h => b c o (a c o h)
theorem Tk.same {H H' : Hp} (s : Same H H') : Tk H H' := fun _ _ h => s _ _ h
theorem Tk.le {st l : Addr} {H H' : Hp} (g : Good st l H) (s : Le st H H') : Tk H H' := fun a xs h => s a _ (fun e => by
  obtain ⟨i, p, c, ns, h2, _⟩ := g
  rw [e, h2] at h
  cases h) h
/-- a store to what is no tuple -/
theorem Tk.put {H : Hp} {p : Addr} (o : HO) (h : ∀ xs, H p ≠ some (.tup xs)) : Tk H (upd H p o) := fun a xs e => by
  rw [upd_ne (fun z => h xs (by rw [← z]; exact e))]
  exact e
theorem Tk.new {H : Hp} {p : Addr} (h : H p = none) (o : HO) : Tk H (upd H p o) := Tk.same (same_new h o)
mutual
inductive TD (H : Hp) : V → PyData → Prop
  | non : TD H .non .none
  | int (i : Int) : TD H (.int i) (.int i)
  | str (x : Str) : TD H (.str x) (.str x)
  | tup {a : Addr} {xs : List V} {ds : List PyData} : H a = some (.tup xs) → TDs H xs ds → TD H (.ref a) (.tuple ds)
inductive TDs (H : Hp) : List V → List PyData → Prop
  | nil : TDs H [] []
  | cons {v : V} {vs : List V} {d : PyData} {ds : List PyData} : TD H v d → TDs H vs ds → TDs H (v :: vs) (d :: ds)
end
mutual
theorem TD.mono {H H' : Hp} (k : Tk H H') : ∀ (d : PyData) (v : V), TD H v d → TD H' v d
  | _, _, .non => .non
  | _, _, .int i => .int i
  | _, _, .str x => .str x
  | .tuple ds, .ref a, .tup (xs := xs) h hs => .tup (k _ _ h) (TDs.mono k ds xs hs)
theorem TDs.mono {H H' : Hp} (k : Tk H H') : ∀ (ds : List PyData) (vs : List V), TDs H vs ds → TDs H' vs ds
  | _, _, .nil => .nil
  | d :: ds, v :: vs, .cons h hs => .cons (TD.mono k d v h) (TDs.mono k ds vs hs)
end
mutual
theorem TD.dp {K : PySem.W.Frag} {H : Hp} : ∀ (d : PyData) (v : V), TD H v d → Dp K H v d
  | _, _, .non => .non
  | _, _, .int i => .int i
  | _, _, .str x => .str x
  | .tuple ds, .ref a, .tup (xs := xs) h hs => .tup (SqT.of h) (TDs.dp ds xs hs)
theorem TDs.dp {K : PySem.W.Frag} {H : Hp} : ∀ (ds : List PyData) (vs : List V), TDs H vs ds → DpAll K H vs ds
  | _, _, .nil => .nil
  | d :: ds, v :: vs, .cons h hs => .cons (TD.dp d v h) (TDs.dp ds vs hs)
end
theorem TDs.length {H : Hp} : ∀ {vs : List V} {ds : List PyData}, TDs H vs ds → vs.length = ds.length
  | _, _, .nil => rfl
  | _, _, .cons _ h => congrArg Nat.succ (TDs.length h)
theorem TDs.get {H : Hp} : ∀ {vs : List V} {ds : List PyData}, TDs H vs ds → ∀ (i : Nat) (v : V), vs[i]? = some v → ∃ d, ds[i]? = some d ∧ TD H v d
  | _, _, .nil, i, v, h => by simp at h
  | _, _, .cons h1 h, 0, v, e => ⟨_, rfl, by
      have e2 := Option.some.inj e
      rw [← e2]
      exact h1⟩
  | _, _, .cons h1 h, i + 1, v, e => TDs.get h i v e
theorem TDs.app {H : Hp} : ∀ {vs ws : List V} {ds es : List PyData}, TDs H vs ds → TDs H ws es → TDs H (vs ++ ws) (ds ++ es)
  | _, _, _, _, .nil, h => h
  | _, _, _, _, .cons h1 h2, h => .cons h1 (TDs.app h2 h)
theorem TDs.ints {H : Hp} : ∀ ns : List Int, TDs H (ns.map V.int) (ns.map PyData.int)
  | [] => .nil
  | n :: r => .cons (.int n) (TDs.ints r)
def rowD (ns : List Int) : PyData := .tuple (ns.map PyData.int)
def pairD (p : Str × List Int) : PyData := .tuple [.str p.1, rowD p.2]
/-! ### keys, rows -/
def letS : Str := "abcdefghijklmnopqrstuvwxyz0123456789"
def KeyOk (s : Str) : Prop := 1 ≤ s.length ∧ s.length ≤ 8 ∧ ∀ c ∈ s.cps.toList, c ∈ letS.cps.toList
def RowOk (ns : List Int) : Prop := 1 ≤ ns.length ∧ ns.length ≤ 3 ∧ ∀ n ∈ ns, 0 ≤ n ∧ n ≤ 65535
theorem pick {z : Str} {d : Int} (h0 : 0 ≤ d) (h1 : d < (z.cps.toList.length : Int)) : ∃ c, atI z.cps.toList d = some c ∧ c ∈ z.cps.toList := by
  have hk : d.toNat < z.cps.toList.length := by omega
  have e : ((d.toNat : Nat) : Int) = d := by omega
  have q : atI z.cps.toList ((d.toNat : Nat) : Int) = some z.cps.toList[d.toNat] := atI_nat (List.getElem?_eq_getElem hk)
  rw [e] at q
  exact ⟨_, q, List.getElem_mem hk⟩
def spKey : Sp := fun vs H Q _ => ∃ st l : Addr, vs = [.ref st] ∧ Good st l H ∧ ∀ s H', KeyOk s → Le st H H' → Good st l H' → Q (.str s) H'
def spRow : Sp := fun vs H Q _ => ∃ st l : Addr, vs = [.ref st] ∧ Good st l H ∧ ∀ r ns H', RowOk ns → Le st H H' → Good st l H' → H' r = some (.tup (ns.map V.int)) → Q (.ref r) H'
theorem scKey : FnScope ["state", "letters", "choice", "key", "k"] ["state"] (defScope sKey) := ⟨rfl, rfl, rfl, by decide +kernel, rfl, by decide +kernel, by decide +kernel⟩
theorem scRow : FnScope ["state", "k"] ["state"] (defScope sRow) := ⟨rfl, rfl, rfl, by decide +kernel, rfl, by decide +kernel, by decide +kernel⟩
theorem sub1 : ∀ c ∈ ("abcdefghij" : Str).cps.toList, c ∈ letS.cps.toList := by decide +kernel
theorem sub2 : ∀ c ∈ ("ab0z" : Str).cps.toList, c ∈ letS.cps.toList := by decide +kernel
theorem sub3 : ∀ c ∈ ("ab9" : Str).cps.toList, c ∈ letS.cps.toList := by decide +kernel
theorem len1 : (("abcdefghij" : Str).cps.toList.length : Int) = 10 := by decide +kernel
theorem len2 : (("ab0z" : Str).cps.toList.length : Int) = 4 := by decide +kernel
theorem len3 : (("ab9" : Str).cps.toList.length : Int) = 3 := by decide +kernel
theorem lenL : (letS.cps.toList.length : Int) = 36 := by decide +kernel
theorem app_list (a b : Str) : (a ++ b).cps.toList = a.cps.toList ++ b.cps.toList := Array.toList_append
theorem str_len (a : Str) : a.length = a.cps.toList.length := (Array.length_toList).symm
theorem app_len (a b : Str) : (a ++ b).length = a.length + b.length := by
  rw [str_len, str_len, str_len, app_list, List.length_append]
theorem KeyOk.app {s : Str} {c : Nat} (h : s.length < 8) (hs : ∀ c ∈ s.cps.toList, c ∈ letS.cps.toList) (hc : c ∈ letS.cps.toList) : KeyOk (s ++ ⟨#[c]⟩) := by
  refine ⟨?_, ?_, fun x hx => ?_⟩
  · rw [app_len]
    show 1 ≤ s.length + 1
    omega
  · rw [app_len]
    show s.length + 1 ≤ 8
    omega
  · rw [app_list, List.mem_append] at hx
    rcases hx with hx | hx
    · exact hs x hx
    · have e : x = c := by simpa using hx
      rw [e]
      exact hc
theorem pow7 {n : Nat} (h : n ≤ 100000) : n < 2 ^ 200 := Nat.lt_of_le_of_lt h (by decide)
section
variable {P : Program} {w : World} {K : PySem.W.Frag} {mg : Str → Option Value} {base : Heap}
theorem ok_key (D : Def K mg "_law_key" sKey ["state"]) (DD : Def K mg "_law_draw" sDraw ["state", "limit"]) (mr : mg "range" = none) (GD : FnOk P w K mg base CX0 1 DD.f DD.fd ["state", "limit"] spDraw) : FnOk P w K mg base CX0 2 D.f D.fd ["state"] spKey := by
  refine D.F.ok scKey (fun vs H Q E h => ?_) (fun cdv A outer s H vs Q E hr h => ?_)
  · obtain ⟨st, l, rfl, _⟩ := h
    rfl
  obtain ⟨st, l, rfl, g, q⟩ := h
  refine ⟨_, pss_cons (ps_set (i := 1) scKey.nd rfl (.inl rfl) pe_str)
    (pss_cons (ps_set (i := 2) scKey.nd rfl (.inl rfl) (pe_call GD hr (by rfl) DD.m DD.F.kp DD.b .nil pass0 (pa_cons (pv 0) (pa_cons pe_int pa_nil))))
    (pss_cons (ps_if (pt_cmpR op_eq (pv 2) pe_int (nomark _))
      (pss_one (ps_ret (pe_ix ix_str pe_str (pe_call GD hr (by rfl) DD.m DD.F.kp DD.b .nil pass0 (pa_cons (pv 0) (pa_cons pe_int pa_nil))) (fun _ _ => rfl)))) pss_nil)
    (pss_cons (ps_if (pt_cmpR op_eq (pv 2) pe_int (nomark _))
      (pss_one (ps_ret (pe_op op_add_str (pe_ix ix_str pe_str (pe_call GD hr (by rfl) DD.m DD.F.kp DD.b .nil pass0 (pa_cons (pv 0) (pa_cons pe_int pa_nil))) (fun _ _ => rfl)) (pe_ix ix_str pe_str (pe_call GD hr (by rfl) DD.m DD.F.kp DD.b .nil pass0 (pa_cons (pv 0) (pa_cons pe_int pa_nil))) (fun _ _ => rfl))))) pss_nil)
    (pss_cons (ps_set (i := 3) scKey.nd rfl (.inl rfl) pe_str)
    (pss_cons (ps_for PassesOwn.never rfl (pi_range1 (by rfl) mr (pa_cons (pe_op op_add pe_int (pe_call GD hr (by rfl) DD.m DD.F.kp DD.b .nil pass0 (pa_cons (pv 0) (pa_cons pe_int pa_nil)))) pa_nil)) (pg_name (i := 4) scKey.nd rfl (.inl rfl))
      (pss_one (ps_set (i := 3) scKey.nd rfl (.inl rfl) (pe_op op_add_str (pv 3) (pe_ix ix_str (pv 1) (pe_call GD hr (by rfl) DD.m DD.F.kp DD.b .nil pass0 (pa_cons (pv 0) (pa_cons pe_int pa_nil))) (fun _ _ => rfl))))))
    (pss_one (ps_ret (pv 3)))))))), ?_⟩
  refine ⟨_, rfl, st, l, 3, rfl, g, by decide, by decide, fun d H1 d0 d1 le1 g1 => ?_⟩
  refine ⟨_, rfl, rfl, _, rfl, ite2 (fun _ => ?_) (fun _ => ?_)⟩
  · refine ⟨_, rfl, st, l, 10, rfl, g1, by decide, by decide, fun d2 H2 d20 d21 le2 g2 => ?_⟩
    obtain ⟨c, hc, hm⟩ := pick (z := "abcdefghij") d20 (by rw [len1]; exact d21)
    refine ⟨_, _, c, rfl, rfl, by decide, hc, ?_⟩
    refine q _ _ ⟨by show 1 ≤ 1; decide, by show 1 ≤ 8; decide, fun x hx => ?_⟩ (le1.trans le2) g2
    have e : x = c := by simpa using hx
    rw [e]
    exact sub1 c hm
  refine ⟨_, rfl, rfl, _, rfl, ite2 (fun _ => ?_) (fun _ => ?_)⟩
  · refine ⟨_, rfl, st, l, 4, rfl, g1, by decide, by decide, fun d2 H2 d20 d21 le2 g2 => ?_⟩
    obtain ⟨c, hc, hm⟩ := pick (z := "ab0z") d20 (by rw [len2]; exact d21)
    refine ⟨_, _, c, rfl, rfl, by decide, hc, ?_⟩
    refine ⟨_, rfl, st, l, 3, rfl, g2, by decide, by decide, fun d3 H3 d30 d31 le3 g3 => ?_⟩
    obtain ⟨c3, hc3, hm3⟩ := pick (z := "ab9") d30 (by rw [len3]; exact d31)
    refine ⟨_, _, c3, rfl, rfl, by decide, hc3, ?_⟩
    refine ⟨_, _, rfl, rfl, by show 2 ≤ sizeLine; decide, ?_⟩
    refine q _ _ (KeyOk.app (by show 1 < 8; decide) (fun x hx => ?_) (sub3 c3 hm3)) ((le1.trans le2).trans le3) g3
    have e : x = c := by simpa using hx
    rw [e]
    exact sub2 c hm
  refine ⟨_, rfl, st, l, 8, rfl, g1, by decide, by decide, fun d2 H2 d20 d21 le2 g2 => ?_⟩
  refine ⟨_, _, rfl, rfl, _, rfl, by omega, by omega, for_range (lo := 0) (n := (1 + d2).toNat) (fun i σ H' => ∃ s y, σ = [some (.ref st), some (.str letS), some (.int d), some (.str s), y] ∧ s.length = i ∧ (∀ c ∈ s.cps.toList, c ∈ letS.cps.toList) ∧ Le st H H' ∧ Good st l H') ?_ ?_ ?_⟩
  · exact ⟨_, _, rfl, rfl, fun c hc => (by cases hc), le1.trans le2, g2⟩
  · rintro i σ H' hi ⟨s, y, rfl, hl, hs, le, g3⟩
    refine ⟨_, rfl, _, rfl, _, rfl, st, l, 36, rfl, g3, by decide, by decide, fun d3 H3 d30 d31 le3 g3 => ?_⟩
    obtain ⟨c, hc, hm⟩ := pick (z := letS) d30 (by rw [lenL]; exact d31)
    refine ⟨_, _, c, rfl, rfl, by decide +kernel, hc, ?_⟩
    have hl8 : s.length < 8 := by omega
    refine ⟨_, _, rfl, rfl, by show s.length + 1 ≤ sizeLine; exact small (by omega), ?_⟩
    refine ⟨_, _, rfl, ?_, (KeyOk.app hl8 hs hm).2.2, le.trans le3, g3⟩
    rw [app_len, hl]
    rfl
  · rintro σ H' ⟨s, y, rfl, hl, hs, le, g3⟩
    exact ⟨_, rfl, q _ _ ⟨by omega, by omega, hs⟩ le g3⟩
theorem ok_row (D : Def K mg "_law_row" sRow ["state"]) (DD : Def K mg "_law_draw" sDraw ["state", "limit"]) (mr : mg "range" = none) (mt : mg "tuple" = none) (GD : FnOk P w K mg base CX0 1 DD.f DD.fd ["state", "limit"] spDraw) : FnOk P w K mg base CX0 2 D.f D.fd ["state"] spRow := by
  refine D.F.ok scRow (fun vs H Q E h => ?_) (fun cdv A outer s H vs Q E hr h => ?_)
  · obtain ⟨st, l, rfl, _⟩ := h
    rfl
  obtain ⟨st, l, rfl, g, q⟩ := h
  refine ⟨_, pss_one (ps_ret (pe_callTy call_tuple_of (by rfl) mt (by decide +kernel) (pa_cons (pe_lc (own := [("k", 1)]) (g := gName 1) (by rfl) scRow.nd
      (pi_range1 (by rfl) mr (pa_cons (pe_op op_add pe_int (pe_call GD hr (by rfl) DD.m DD.F.kp DD.b .nil pass0 (pa_cons (pv 0) (pa_cons pe_int pa_nil)))) pa_nil))
      (blkOk_by (own := [("k", 1)]) (N := ["state", "k"]) (sc := defScope sRow) (by decide +kernel))
      (fun _ _ _ _ _ => pg_name (i := 1) scRow.nd rfl (Or.inl rfl)) (fun _ _ _ _ _ => pts_nil)
      (fun _ _ _ _ _ => pe_call GD hr (by rfl) DD.m DD.F.kp DD.b .nil pass0 (pa_cons (pv 0) (pa_cons (pe_ix (r := rIxL K) ix_list (pe_lst (pa_cons pe_int (pa_cons pe_int pa_nil))) (pe_call GD hr (by rfl) DD.m DD.F.kp DD.b .nil pass0 (pa_cons (pv 0) (pa_cons pe_int pa_nil))) (fun _ _ => rfl)) pa_nil)))) pa_nil))), ?_⟩
  refine ⟨_, rfl, st, l, 3, rfl, g, by decide, by decide, fun d H1 d0 d1 le1 g1 => ?_⟩
  refine ⟨_, _, rfl, rfl, _, rfl, by omega, by omega, fun D hD => ?_⟩
  refine lc_range (lo := 0) (n := (1 + d).toNat) (fun i H' => ∃ ns : List Int, H' D = some (.lst (ns.map V.int)) ∧ ns.length = i ∧ (∀ n ∈ ns, 0 ≤ n ∧ n ≤ 65535) ∧ Le st H1 H' ∧ Good st l H') ?_ ?_ ?_
  · exact ⟨[], upd_same, rfl, fun n hn => (by cases hn), Le.of (same_new hD _), g1.same (same_new hD _)⟩
  · rintro i H2 hi ⟨ns, hns, hl, hb, le2, g2⟩
    refine ⟨rfl, ?_⟩
    refine ⟨_, rfl, by show 2 ≤ sizeLine; decide, fun z hz => ?_⟩
    have nDz : D ≠ z := ne_of_none hns hz
    have g3 := g2.same (same_new hz (.lst [.int 4, .int 65536]))
    refine ⟨_, rfl, st, l, 2, rfl, g3, by decide, by decide, fun d3 H3 d30 d31 le3 g3 => ?_⟩
    have hz3 : H3 z = some (.lst [.int 4, .int 65536]) := le3 z _ (g2.ne hz).1 upd_same
    have hD3 : H3 D = some (.lst (ns.map V.int)) := le3 D _ (g1.ne hD).1 (by rw [upd_ne nDz]; exact hns)
    obtain ⟨m, hm, m0, m1⟩ : ∃ m : Int, atI [V.int 4, .int 65536] d3 = some (.int m) ∧ 0 < m ∧ m ≤ 65536 := by
      rcases (by omega : d3 = 0 ∨ d3 = 1) with e | e
      · exact ⟨4, by rw [e]; rfl, by decide, by decide⟩
      · exact ⟨65536, by rw [e]; rfl, by decide, by decide⟩
    refine ⟨z, _, d3, _, rfl, rfl, SqL.of hz3, hm, ?_⟩
    refine ⟨st, l, m, rfl, g3, m0, pow7 (by omega), fun d4 H4 d40 d41 le4 g4 => ?_⟩
    have hD4 : H4 D = some (.lst (ns.map V.int)) := le4 D _ (g1.ne hD).1 hD3
    refine ⟨_, hD4, ?_, ns ++ [d4], ?_, ?_, ?_, ?_, g4.put (g1.ne hD)⟩
    · rw [List.length_map]
      exact small1000 (by omega)
    · rw [upd_same, List.map_append]
      rfl
    · rw [List.length_append, hl]
      rfl
    · intro n hn
      rw [List.mem_append] at hn
      rcases hn with hn | hn
      · exact hb n hn
      · have e : n = d4 := by simpa using hn
        omega
    · exact (((le2.trans (Le.of (same_new hz _))).trans le3).trans le4).mut hD
  · rintro H2 ⟨ns, hns, hl, hb, le2, g2⟩
    refine ⟨D, _, rfl, .inl ⟨SqL.of hns, fun r hr2 => ?_⟩⟩
    refine q r ns _ ⟨by omega, by omega, hb⟩ ((le1.trans le2).trans (Le.of (same_new hr2 _))) (g2.same (same_new hr2 _)) upd_same
end
end RR

namespace RR
open PySem PySem.Spec PyProof.Rows L2
abbrev sTable : Stmt := topS 9
/-! ### order of keys -/
def Lt (a b : Str) : Prop := a.cps.toList < b.cps.toList
theorem tri : ∀ a b : List Nat, a < b ∨ a = b ∨ b < a
  | [], [] => .inr (.inl rfl)
  | [], _ :: _ => .inl (by simp)
  | _ :: _, [] => .inr (.inr (by simp))
  | x :: a, y :: b => by
    rcases Nat.lt_trichotomy x y with h | h | h
    · exact .inl (List.cons_lt_cons_iff.mpr (.inl h))
    · subst h
      rcases tri a b with q | q | q
      · exact .inl (List.cons_lt_cons_iff.mpr (.inr ⟨rfl, q⟩))
      · exact .inr (.inl (by rw [q]))
      · exact .inr (.inr (List.cons_lt_cons_iff.mpr (.inr ⟨rfl, q⟩)))
    · exact .inr (.inr (List.cons_lt_cons_iff.mpr (.inl h)))
theorem ltr : ∀ {a b c : List Nat}, a < b → b < c → a < c
  | _, [], _, h, _ => absurd h (by simp)
  | _, _ :: _, [], _, h => absurd h (by simp)
  | [], _ :: _, _ :: _, _, _ => by simp
  | x :: a, y :: b, z :: c, h, k => by
    rw [List.cons_lt_cons_iff] at h k ⊢
    rcases h with h | ⟨rfl, h⟩
    · rcases k with k | ⟨rfl, k⟩
      · exact .inl (Nat.lt_trans h k)
      · exact .inl h
    · rcases k with k | ⟨rfl, k⟩
      · exact .inl k
      · exact .inr ⟨rfl, ltr h k⟩
theorem lirr : ∀ {a : List Nat}, ¬ a < a
  | [], h => absurd h (by simp)
  | x :: a, h => by
    rw [List.cons_lt_cons_iff] at h
    rcases h with h | ⟨_, h⟩
    · exact Nat.lt_irrefl _ h
    · exact lirr h
theorem Lt.trans {a b c : Str} (h : Lt a b) (k : Lt b c) : Lt a c := ltr h k
theorem Lt.irrefl {a : Str} : ¬ Lt a a := lirr
theorem str_ext {a b : Str} (h : a.cps.toList = b.cps.toList) : a = b := by
  cases a
  cases b
  exact congrArg Str.mk (Array.toList_inj.mp h)
theorem Lt.tri (a b : Str) : Lt a b ∨ a = b ∨ Lt b a := by
  rcases RR.tri a.cps.toList b.cps.toList with h | h | h
  · exact .inl h
  · exact .inr (.inl (str_ext h))
  · exact .inr (.inr h)
theorem asc_of : ∀ (r : List Str) (p : Str), risingS p r = true → (p :: r).Nodup → (p :: r).Pairwise Lt
  | [], p, _, _ => List.pairwise_singleton _ _
  | x :: r, p, h, n => by
    have h1 : (!ltCps x.cps.toList p.cps.toList && risingS x r) = true := h
    rw [Bool.and_eq_true] at h1
    have h2 := h1.1
    rw [ltCps_eq] at h2
    have n2 := List.nodup_cons.mp n
    have hx : Lt p x := by
      rcases Lt.tri p x with k | k | k
      · exact k
      · exact absurd (by rw [k]; exact List.mem_cons_self) n2.1
      · rw [decide_eq_true (show x.cps.toList < p.cps.toList from k)] at h2
        cases h2
    have ih := asc_of r x h1.2 n2.2
    refine List.pairwise_cons.mpr ⟨fun y hy => ?_, ih⟩
    rcases List.mem_cons.mp hy with e | e
    · rw [e]
      exact hx
    · exact hx.trans (List.rel_of_pairwise_cons ih e)
theorem asc {ys : List Str} (h : sortedS ys = true) (n : ys.Nodup) : ys.Pairwise Lt := by
  cases ys with
  | nil => exact List.Pairwise.nil
  | cons x r => exact asc_of r x h n
def TabOk (tb : List (Str × List Int)) : Prop := (tb.map (·.1)).Pairwise Lt ∧ ∀ p ∈ tb, KeyOk p.1 ∧ RowOk p.2
/-! ### dicts -/
theorem mem_put {kvs : List (Key × V)} {k : Key} {v : V} {e : Key × V} (h : e ∈ putK kvs k v) : e = (k, v) ∨ e ∈ kvs := by
  unfold putK at h
  split at h
  · obtain ⟨a, ha, rfl⟩ := List.mem_map.mp h
    by_cases q : a.1 = k
    · rw [if_pos q, q]
      exact .inl rfl
    · rw [if_neg q]
      exact .inr ha
  · rcases List.mem_append.mp h with h | h
    · exact .inr h
    · exact .inl (by simpa using h)
theorem put_keys (kvs : List (Key × V)) (k : Key) (v : V) : (k ∈ kvs.map (·.1) ∧ (putK kvs k v).map (·.1) = kvs.map (·.1)) ∨ (k ∉ kvs.map (·.1) ∧ (putK kvs k v).map (·.1) = kvs.map (·.1) ++ [k]) := by
  have ha : (kvs.any fun kv => decide (kv.1 = k)) = true ↔ k ∈ kvs.map (·.1) := by
    rw [List.any_eq_true, List.mem_map]
    constructor
    · rintro ⟨x, hx, e⟩
      exact ⟨x, hx, of_decide_eq_true e⟩
    · rintro ⟨x, hx, e⟩
      exact ⟨x, hx, decide_eq_true e⟩
  unfold putK
  by_cases h : k ∈ kvs.map (·.1)
  · refine .inl ⟨h, ?_⟩
    rw [if_pos (ha.mpr h), List.map_map]
    refine List.map_congr_left fun x _ => ?_
    show (if x.1 = k then (x.1, v) else x).1 = x.1
    split <;> rfl
  · refine .inr ⟨h, ?_⟩
    rw [if_neg (fun z => h (ha.mp z)), List.map_append]
    rfl
theorem val_mem {kvs : List (Key × V)} {k : Key} (h : k ∈ kvs.map (·.1)) : ∃ v, valV kvs k = some v ∧ (k, v) ∈ kvs := by
  induction kvs with
  | nil => cases h
  | cons p r ih =>
    by_cases e : p.1 = k
    · exact ⟨p.2, valV_pos e, by rw [← e]; exact List.mem_cons_self⟩
    · rw [List.map_cons, List.mem_cons] at h
      rcases h with h | h
      · exact absurd h.symm e
      · obtain ⟨v, hv, hm⟩ := ih h
        exact ⟨v, by rw [valV_neg e]; exact hv, List.mem_cons_of_mem _ hm⟩
def RowsOk (H : Hp) (kvs : List (Key × V)) : Prop := (kvs.map (·.1)).Nodup ∧ ∀ e ∈ kvs, ∃ s ns, e.1 = .inr s ∧ KeyOk s ∧ RowOk ns ∧ TD H e.2 (rowD ns)
theorem RowsOk.mono {H H' : Hp} {kvs : List (Key × V)} (k : Tk H H') (h : RowsOk H kvs) : RowsOk H' kvs := ⟨h.1, fun e he => by
  obtain ⟨s, ns, h1, h2, h3, h4⟩ := h.2 e he
  exact ⟨s, ns, h1, h2, h3, TD.mono k _ _ h4⟩⟩
theorem RowsOk.put {H : Hp} {kvs : List (Key × V)} {s : Str} {v : V} {ns : List Int} (h : RowsOk H kvs) (hs : KeyOk s) (hn : RowOk ns) (hv : TD H v (rowD ns)) : RowsOk H (putK kvs (.inr s) v) := by
  refine ⟨?_, fun e he => ?_⟩
  · rcases put_keys kvs (.inr s) v with ⟨hk, q⟩ | ⟨hk, q⟩
    · rw [q]
      exact h.1
    · rw [q]
      refine List.nodup_append.mpr ⟨h.1, by simp, fun a ha b hb => ?_⟩
      have e : b = Sum.inr s := by simpa using hb
      intro z
      rw [z, e] at ha
      exact hk ha
  · rcases mem_put he with e | e
    · rw [e]
      exact ⟨s, ns, rfl, hs, hn, hv⟩
    · exact h.2 _ e
theorem put_len (kvs : List (Key × V)) (k : Key) (v : V) : (putK kvs k v).length ≤ kvs.length + 1 := by
  rcases put_keys kvs k v with ⟨hk, q⟩ | ⟨hk, q⟩
  · have h := congrArg List.length q
    rw [List.length_map, List.length_map] at h
    omega
  · have h := congrArg List.length q
    rw [List.length_map, List.length_append, List.length_map, List.length_singleton] at h
    omega
theorem RowsOk.strs {H : Hp} {kvs : List (Key × V)} (h : RowsOk H kvs) : ∃ ks : List Str, kvs.map (·.1) = ks.map Sum.inr ∧ ks.Nodup := by
  obtain ⟨h1, h2⟩ := h
  induction kvs with
  | nil => exact ⟨[], rfl, List.nodup_nil⟩
  | cons p r ih =>
    rw [List.map_cons, List.nodup_cons] at h1
    obtain ⟨ks, e, n⟩ := ih h1.2 fun e he => h2 e (List.mem_cons_of_mem _ he)
    obtain ⟨s, ns, e1, _⟩ := h2 p List.mem_cons_self
    refine ⟨s :: ks, by rw [List.map_cons, List.map_cons, e, e1], List.nodup_cons.mpr ⟨fun hs => ?_, n⟩⟩
    refine h1.1 ?_
    rw [e, e1]
    exact List.mem_map.mpr ⟨s, hs, rfl⟩
theorem Le.free {st l : Addr} {H H' : Hp} {D : Addr} (le : Le st H H') (g : Good st l H') (h : H' D = none) : H D = none := by
  cases e : H D with
  | none => rfl
  | some o =>
    rw [le D o (g.ne h).1 e] at h
    cases h
def spTable : Sp := fun vs H Q _ => ∃ (st l : Addr) (most : Int), vs = [.ref st, .int most] ∧ Good st l H ∧ 0 ≤ most ∧ most ≤ 30 ∧
  ∀ t vs tb H', TabOk tb → (tb.length : Int) ≤ most → H t = none → Le st H H' → Good st l H' → H' t = some (.lst vs) → TDs H' vs (tb.map pairD) → Q (.ref t) H'
theorem scTable : FnScope ["state", "most", "rows", "k", "key"] ["state", "most"] (defScope sTable) := ⟨rfl, rfl, rfl, by decide +kernel, rfl, by decide +kernel, by decide +kernel⟩
section
variable {P : Program} {w : World} {K : PySem.W.Frag} {mg : Str → Option Value} {base : Heap}
theorem ok_table (D : Def K mg "_law_table" sTable ["state", "most"]) (DD : Def K mg "_law_draw" sDraw ["state", "limit"]) (DK : Def K mg "_law_key" sKey ["state"]) (DR : Def K mg "_law_row" sRow ["state"]) (mr : mg "range" = none) (ms : mg "sorted" = none)
    (GD : FnOk P w K mg base CX0 1 DD.f DD.fd ["state", "limit"] spDraw) (GK : FnOk P w K mg base CX0 2 DK.f DK.fd ["state"] spKey) (GR : FnOk P w K mg base CX0 2 DR.f DR.fd ["state"] spRow) : FnOk P w K mg base CX0 3 D.f D.fd ["state", "most"] spTable := by
  refine D.F.ok scTable (fun vs H Q E h => ?_) (fun cdv A outer s H vs Q E hr h => ?_)
  · obtain ⟨st, l, most, rfl, _⟩ := h
    rfl
  obtain ⟨st, l, most, rfl, g, hm0, hm1, q⟩ := h
  refine ⟨_, pss_cons (ps_set (i := 2) scTable.nd rfl (.inr rfl) pe_dnewK)
    (pss_cons (ps_for PassesOwn.never rfl (pi_range1 (by rfl) mr (pa_cons (pe_call GD (hr.mono (by decide)) (by rfl) DD.m DD.F.kp DD.b .nil pass0 (pa_cons (pv 0) (pa_cons (pe_op op_add (pv 1) pe_int) pa_nil))) pa_nil)) (pg_name (i := 3) scTable.nd rfl (.inl rfl))
      (pss_cons (ps_set (i := 4) scTable.nd rfl (.inl rfl) (pe_call GK hr (by rfl) DK.m DK.F.kp DK.b .nil pass0 (pa_cons (pv 0) pa_nil)))
      (pss_one (ps_dput (hu_of hr) (pv 2) (pv 4) (pe_call GR hr (by rfl) DR.m DR.F.kp DR.b .nil pass0 (pa_cons (pv 0) pa_nil)) rfl))))
    (pss_one (ps_ret (pe_lc (own := [("key", 4)]) (g := gName 4) (by rfl) scTable.nd
      (pi_list (pe_callB (call_sortedD rfl) (by rfl) ms (by decide +kernel) (pa_cons (pv 2) pa_nil)))
      (blkOk_by (own := [("key", 4)]) (N := ["state", "most", "rows", "k", "key"]) (sc := defScope sTable) (by decide +kernel))
      (fun _ _ _ _ _ => pg_name (i := 4) scTable.nd rfl (Or.inl rfl)) (fun _ _ _ _ _ => pts_nil)
      (fun _ _ _ _ _ => pe_tup (pa_cons (pv 4) (pa_cons (pe_dget (hu_of hr) (pv 2) (pv 4) (fun _ _ => rfl)) pa_nil))))))), ?_⟩
  intro d hd
  have g0 := g.same (same_new hd (.dK []))
  refine ⟨_, rfl, _, rfl, _, _, rfl, rfl, st, l, most + 1, rfl, g0, by omega, pow7 (by omega), fun n H1 n0 n1 le1 g1 => ?_⟩
  have hd1 : H1 d = some (.dK []) := le1 d _ (g.ne hd).1 upd_same
  have le1' : Le st H H1 := (Le.of (same_new hd _)).trans le1
  refine ⟨n, rfl, by omega, by omega, for_range (lo := 0) (n := n.toNat) (fun i σ H' => ∃ kvs y3 y4, σ = [some (.ref st), some (.int most), some (.ref d), y3, y4] ∧ H' d = some (.dK kvs) ∧ kvs.length ≤ i ∧ RowsOk H' kvs ∧ Le st H H' ∧ Good st l H') ?_ ?_ ?_⟩
  · exact ⟨[], _, _, rfl, hd1, Nat.le_refl _, ⟨List.nodup_nil, fun e he => (by cases he)⟩, le1', g1⟩
  · rintro i σ H2 hi ⟨kvs, y3, y4, rfl, hd2, hl, hk, le2, g2⟩
    refine ⟨_, rfl, st, l, rfl, g2, fun s H3 hs le3 g3 => ?_⟩
    refine ⟨_, rfl, st, l, rfl, g3, fun r ns H4 hn le4 g4 hr4 => ?_⟩
    have hd4 : H4 d = some (.dK kvs) := le4 d _ (g.ne hd).1 (le3 d _ (g.ne hd).1 hd2)
    have hk4 : RowsOk H4 kvs := (hk.mono (Tk.le g2 le3)).mono (Tk.le g3 le4)
    refine ⟨_, rfl, _, rfl, d, _, rfl, DPut.k (k := Sum.inr s) hd4 (small1000 (by omega)), ?_⟩
    have tk : Tk H4 (upd H4 d (.dK (putK kvs (Sum.inr s) (.ref r)))) := Tk.put _ fun xs e => by
      rw [hd4] at e
      cases e
    refine ⟨putK kvs (Sum.inr s) (.ref r), _, _, rfl, upd_same, Nat.le_trans (put_len _ _ _) (by omega), (hk4.put hs hn ?_).mono tk, ((le2.trans le3).trans le4).mut hd, g4.put (g.ne hd)⟩
    exact .tup hr4 (TDs.ints ns)
  · rintro σ H2 ⟨kvs, y3, y4, rfl, hd2, hl, hk, le2, g2⟩
    obtain ⟨ks, eks, nks⟩ := hk.strs
    have lks : ks.length = kvs.length := by
      have h := congrArg List.length eks
      rw [List.length_map, List.length_map] at h
      exact h.symm
    refine ⟨_, rfl, d, kvs, ks, rfl, .inl hd2, eks, by omega, fun ys p hp hsort hpn => ?_⟩
    refine ⟨p, rfl, ⟨_, SqL.of upd_same⟩, fun D hD => ?_⟩
    have npd : d ≠ p := ne_of_none hd2 hpn
    have npD : p ≠ D := ne_of_none upd_same hD
    have hHD : H2 D = none := by
      rw [upd_ne npD.symm] at hD
      exact hD
    have ndD : d ≠ D := ne_of_none hd2 hHD
    have s3 : Same H2 (upd (upd H2 p (.lst (ys.map V.str))) D (.lst [])) := (same_new hpn _).trans (same_new hD _)
    refine lc_list (K := K) (a := p) (xs := ys.map V.str) (fun i H' => ∃ (vs : List V) (tb : List (Str × List Int)), H' D = some (.lst vs) ∧ TDs H' vs (tb.map pairD) ∧ tb.map (·.1) = ys.take i ∧ (∀ p ∈ tb, KeyOk p.1 ∧ RowOk p.2) ∧ Le st H H' ∧ Good st l H' ∧ H' d = some (.dK kvs) ∧ RowsOk H' kvs ∧ H' p = some (.lst (ys.map V.str))) ?_ ?_ ?_ ?_
    · exact ⟨[], [], upd_same, .nil, rfl, fun p hp => (by cases hp), le2.trans (Le.of s3), g2.same s3, s3 _ _ hd2, hk.mono (Tk.same s3), by rw [upd_ne npD]; exact upd_same⟩
    · rintro i H' hi ⟨vs, tb, _, _, _, _, _, _, _, _, h⟩
      exact SqL.of h
    · rintro i x H' hi ⟨vs, tb, hD', hT, et, hok, le', g', hd', hk', hp'⟩
      obtain ⟨y, hy, rfl⟩ : ∃ y, ys[i]? = some y ∧ x = .str y := by
        rw [List.getElem?_map] at hi
        cases e : ys[i]? with
        | none =>
          rw [e] at hi
          cases hi
        | some y =>
          rw [e] at hi
          exact ⟨y, rfl, (Option.some.inj hi).symm⟩
      have hyk : (Sum.inr y : Key) ∈ kvs.map (·.1) := by
        rw [eks]
        exact List.mem_map.mpr ⟨y, hp.mem_iff.mp (List.mem_of_getElem? hy), rfl⟩
      obtain ⟨v, hv, hm⟩ := val_mem hyk
      obtain ⟨s0, ns, e1, h2, h3, h4⟩ := hk'.2 _ hm
      have e1' : y = s0 := Sum.inr.inj e1
      subst e1'
      refine ⟨rfl, ?_⟩
      refine ⟨_, rfl, _, rfl, _, rfl, d, v, rfl, (by rw [← hv]; exact DGet.k (k := Sum.inr y) hd'), by show 2 ≤ sizeLine; decide, fun t ht => ?_⟩
      have nDt : D ≠ t := ne_of_none hD' ht
      have s5 := same_new ht (.tup [.str y, v])
      have hlen : vs.length = tb.length := by
        have h := TDs.length hT
        rw [List.length_map] at h
        exact h
      have htb : tb.length ≤ 30 := by
        have h := congrArg List.length et
        rw [List.length_map, List.length_take] at h
        have h9 := hp.length_eq
        omega
      refine ⟨vs, by rw [upd_ne nDt]; exact hD', small1000 (by omega), ?_⟩
      have tk : Tk H' (upd (upd H' t (.tup [.str y, v])) D (.lst (vs ++ [.ref t]))) := (Tk.same s5).trans (Tk.put _ fun xs e => by
        rw [upd_ne nDt, hD'] at e
        cases e)
      have nDst : D ≠ st ∧ D ≠ l := g2.ne hHD
      refine ⟨vs ++ [.ref t], tb ++ [(y, ns)], upd_same, ?_, ?_, ?_, (le'.trans (Le.of s5)).mut (le2.free g2 hHD), (g'.same s5).put nDst, ?_, hk'.mono tk, ?_⟩
      · rw [List.map_append]
        refine TDs.app (TDs.mono tk _ _ hT) (.cons ?_ .nil)
        refine .tup (xs := [.str y, v]) ?_ (.cons (.str y) (.cons (TD.mono tk _ _ h4) .nil))
        rw [upd_ne nDt.symm]
        exact upd_same
      · rw [List.map_append, et, List.take_add_one, hy]
        rfl
      · intro p hp
        rw [List.mem_append] at hp
        rcases hp with hp | hp
        · exact hok p hp
        · have e : p = (y, ns) := by simpa using hp
          rw [e]
          exact ⟨h2, h3⟩
      · rw [upd_ne ndD]
        exact s5 _ _ hd'
      · rw [upd_ne npD]
        exact s5 _ _ hp'
    · rintro H' ⟨vs, tb, hD', hT, et, hok, le', g', hd', hk', hp'⟩
      rw [List.length_map, List.take_length] at et
      have hlen : tb.length = ys.length := by
        have h := congrArg List.length et
        rw [List.length_map] at h
        exact h
      have h9 := hp.length_eq
      refine q D vs tb H' ⟨by rw [et]; exact asc hsort (hp.nodup_iff.mpr nks), hok⟩ (by omega) (le2.free g2 hHD) le' g' hD' hT
end
end RR

namespace RR
open PySem PySem.Spec PyProof.Rows L2
/-! ### data that can be compared -/
def Sh (n : Nat) (d : PyData) : Prop := d.canLay0 = true ∧ d.depth ≤ n
theorem all_lay : ∀ xs : List PyData, (∀ x ∈ xs, x.canLay0 = true) → PyData.canLayAll0 xs = true
  | [], _ => rfl
  | x :: xs, h => by
    show (x.canLay0 && PyData.canLayAll0 xs) = true
    rw [h x List.mem_cons_self, all_lay xs fun y hy => h y (List.mem_cons_of_mem _ hy)]
    rfl
theorem all_depth {n : Nat} : ∀ xs : List PyData, (∀ x ∈ xs, x.depth ≤ n) → PyData.depthAll xs ≤ n
  | [], _ => Nat.zero_le _
  | x :: xs, h => by
    show max x.depth (PyData.depthAll xs) ≤ n
    exact Nat.max_le.mpr ⟨h x List.mem_cons_self, all_depth xs fun y hy => h y (List.mem_cons_of_mem _ hy)⟩
theorem Sh.list {n : Nat} {xs : List PyData} (h : ∀ x ∈ xs, Sh n x) : Sh (n + 1) (.list xs) := ⟨all_lay xs fun x hx => (h x hx).1, Nat.succ_le_succ (all_depth xs fun x hx => (h x hx).2)⟩
theorem Sh.tuple {n : Nat} {xs : List PyData} (h : ∀ x ∈ xs, Sh n x) : Sh (n + 1) (.tuple xs) := ⟨all_lay xs fun x hx => (h x hx).1, Nat.succ_le_succ (all_depth xs fun x hx => (h x hx).2)⟩
theorem Sh.int {n : Nat} (i : Int) : Sh n (.int i) := ⟨rfl, Nat.zero_le _⟩
theorem Sh.non {n : Nat} : Sh n .none := ⟨rfl, Nat.zero_le _⟩
theorem let_ok : ∀ c ∈ letS.cps.toList, c < 128 := by decide +kernel
theorem Sh.str {n : Nat} {s : Str} (h : ∀ c ∈ s.cps.toList, c < 128) : Sh n (.str s) := by
  refine ⟨?_, Nat.zero_le _⟩
  show s.cps.all (· < 0x110000) = true
  rw [← Array.all_toList, List.all_eq_true]
  intro x hx
  exact decide_eq_true (Nat.lt_trans (h x hx) (by decide))
theorem Sh.key {n : Nat} {s : Str} (h : KeyOk s) : Sh n (.str s) := Sh.str fun c hc => let_ok c (h.2.2 c hc)
theorem Sh.row (n : Nat) (ns : List Int) : Sh (n + 1) (rowD ns) := Sh.tuple fun x hx => by
  obtain ⟨i, _, rfl⟩ := List.mem_map.mp hx
  exact Sh.int i
theorem Sh.pair {n : Nat} {p : Str × List Int} (h : KeyOk p.1) : Sh (n + 2) (pairD p) := Sh.tuple fun x hx => by
  rcases List.mem_cons.mp hx with e | e
  · rw [e]
    exact Sh.key h
  · have e2 : x = rowD p.2 := by simpa using e
    rw [e2]
    exact Sh.row n _
theorem Sh.tab {n : Nat} {tb : List (Str × List Int)} (h : ∀ p ∈ tb, KeyOk p.1) : Sh (n + 3) (.list (tb.map pairD)) := Sh.list fun x hx => by
  obtain ⟨p, hp, rfl⟩ := List.mem_map.mp hx
  exact Sh.pair (h p hp)
theorem Sh.mono {n m : Nat} {d : PyData} (h : Sh n d) (k : n ≤ m) : Sh m d := ⟨h.1, Nat.le_trans h.2 k⟩
theorem Sh.ok {n : Nat} {d : PyData} (h : Sh n d) (k : n ≤ 64) : SeqAt.shaped d = true := by
  unfold SeqAt.shaped
  rw [h.1, decide_eq_true (Nat.le_trans h.2 k)]
  rfl
theorem Sh.refl {n : Nat} {d : PyData} (h : Sh n d) : PyData.eqv d d = true := SeqAt.eqv_refl d h.1
/-! ### what data is like -/
theorem TD.un {H : Hp} {v : V} {ds : List PyData} (h : TD H v (.tuple ds)) : ∃ a xs, v = .ref a ∧ H a = some (.tup xs) ∧ TDs H xs ds := by
  cases h with
  | tup h1 h2 => exact ⟨_, _, rfl, h1, h2⟩
theorem TD.str_eq {H : Hp} {v : V} {s : Str} (h : TD H v (.str s)) : v = .str s := by
  cases h with
  | str => rfl
theorem TD.int_eq {H : Hp} {v : V} {i : Int} (h : TD H v (.int i)) : v = .int i := by
  cases h with
  | int => rfl
theorem TDs.un {H : Hp} {vs : List V} {d : PyData} {ds : List PyData} (h : TDs H vs (d :: ds)) : ∃ v ws, vs = v :: ws ∧ TD H v d ∧ TDs H ws ds := by
  cases h with
  | cons h1 h2 => exact ⟨_, _, rfl, h1, h2⟩
theorem TDs.un0 {H : Hp} {vs : List V} (h : TDs H vs []) : vs = [] := by
  cases h with
  | nil => rfl
theorem TD.pair {H : Hp} {v : V} {p : Str × List Int} (h : TD H v (pairD p)) : ∃ a r, v = .ref a ∧ H a = some (.tup [.str p.1, r]) ∧ TD H r (rowD p.2) := by
  obtain ⟨a, xs, rfl, h1, h2⟩ := TD.un h
  obtain ⟨x, ys, rfl, h3, h4⟩ := h2.un
  obtain ⟨r, zs, rfl, h5, h6⟩ := h4.un
  have e := h6.un0
  subst e
  have e2 := h3.str_eq
  subst e2
  exact ⟨a, r, rfl, h1, h5⟩
def below (k : Str) (tb : List (Str × List Int)) : List (Str × List Int) := tb.filter fun p => decide (p.1.cps.toList < k.cps.toList)
def above (k : Str) (tb : List (Str × List Int)) : List (Str × List Int) := tb.filter fun p => decide (k.cps.toList < p.1.cps.toList)
theorem lt_asym {a b : List Nat} (h : a < b) : ¬ b < a := fun k => lirr (ltr h k)
theorem parts_len (k : Str) : ∀ tb : List (Str × List Int), (below k tb).length + (above k tb).length ≤ tb.length
  | [] => Nat.le_refl _
  | p :: r => by
    have ih := parts_len k r
    unfold below above at ih ⊢
    rw [List.filter_cons, List.filter_cons]
    by_cases h1 : p.1.cps.toList < k.cps.toList
    · rw [if_pos (decide_eq_true h1), if_neg (by rw [decide_eq_false (lt_asym h1)]; decide)]
      simp only [List.length_cons]
      omega
    · rw [if_neg (by rw [decide_eq_false h1]; decide)]
      split <;> simp only [List.length_cons] <;> omega
/-- [x for x in xs if test]: a test that makes nothing -/
theorem lc_filt {K : PySem.W.Frag} {a D : Addr} {vs : List V} {tb : List (Str × List Int)} {i : Nat} {tt : TT} {ws : List Nat} {σ : L2.St} {H1 : Hp} {Qd : Hp → Prop} (f : Str × List Int → Bool)
    (hS : H1 a = some (.lst vs)) (hT : TDs H1 vs (tb.map pairD)) (hD : H1 D = none) (hlen : vs.length ≤ 1000)
    (hw : ∀ v, wipe ((wipe σ ws).set i (some v)) ws = wipe σ ws) (hi : ∀ v, ((wipe σ ws).set i (some v))[i]? = some (some v))
    (ht : ∀ (p : Str × List Int) (c : Addr) (r : V) (H' : Hp), p ∈ tb → H' c = some (.tup [.str p.1, r]) → TD H' r (rowD p.2) → Same H1 H' → ∀ Q : Bool → Hp → Prop, Q (f p) H' → tt ((wipe σ ws).set i (some (.ref c))) H' Q)
    (hd : ∀ us H', Same H1 H' → H' D = some (.lst us) → TDs H' us ((tb.filter f).map pairD) → Qd H') :
    ∃ W : Nat → Nat → Hp → Prop, (∃ m, W 0 m (upd H1 D (.lst []))) ∧ ∀ j m H, W j m H →
      ((Itl K a).stop j H ∧ Qd H) ∨ ((Itl K a).go j H ∧ ∃ Nx : Hp → Prop, (∀ H', Nx H' → ∃ m', m' < m ∧ W (j + 1) m' H') ∧ ∀ x H', (Itl K a).yld j H x H' → gName i x (wipe σ ws) H' fun σ2 H2 => wipe σ2 ws = wipe σ ws ∧ tt σ2 H2 fun b H3 =>
        if b = true then tVar i σ2 H3 fun y H4 => ∃ acc, H4 D = some (.lst acc) ∧ acc.length < sizeLine ∧ Nx (upd H4 D (.lst (acc ++ [y]))) else Nx H3) := by
  have hl := hT.length
  rw [List.length_map] at hl
  refine lc_list (K := K) (a := a) (xs := vs) (fun j H' => ∃ us, H' D = some (.lst us) ∧ TDs H' us (((tb.take j).filter f).map pairD) ∧ Same H1 H') ?_ ?_ ?_ ?_
  · exact ⟨[], upd_same, .nil, same_new hD _⟩
  · rintro j H' _ ⟨us, _, _, s⟩
    exact SqL.of (s _ _ hS)
  · rintro j x H' hx ⟨us, hus, hU, s⟩
    have hj : j < vs.length := (List.getElem?_eq_some_iff.mp hx).1
    obtain ⟨d, hd1, hd2⟩ := TDs.get hT j x hx
    rw [List.getElem?_map] at hd1
    obtain ⟨p, hp, rfl⟩ : ∃ p, tb[j]? = some p ∧ d = pairD p := by
      cases e : tb[j]? with
      | none =>
        rw [e] at hd1
        cases hd1
      | some p =>
        rw [e] at hd1
        exact ⟨p, rfl, (Option.some.inj hd1).symm⟩
    have hm : p ∈ tb := List.mem_of_getElem? hp
    obtain ⟨c, r, rfl, hc, hr⟩ := (TD.mono (Tk.same s) _ _ hd2).pair
    have etake : tb.take (j + 1) = tb.take j ++ [p] := by
      rw [List.take_add_one, hp]
      rfl
    refine ⟨hw _, ht p c r H' hm hc hr s _ ?_⟩
    cases e : f p with
    | true =>
      refine iteT ?_
      have hul : us.length ≤ vs.length := by
        have h := hU.length
        rw [List.length_map] at h
        have h2 := List.length_filter_le f (tb.take j)
        rw [List.length_take] at h2
        omega
      have tk : Tk H' (upd H' D (.lst (us ++ [.ref c]))) := Tk.put _ fun xs e => by
        rw [hus] at e
        cases e
      refine ⟨_, hi _, us, hus, small1000 (by omega), us ++ [.ref c], upd_same, ?_, fun b o e => ?_⟩
      · rw [etake, List.filter_append, List.filter_cons, e, if_pos rfl, List.map_append]
        exact TDs.app (TDs.mono tk _ _ hU) (.cons (TD.mono (tk) _ _ (TD.mono (Tk.same s) _ _ hd2)) .nil)
      · rw [upd_ne (ne_of_none e hD)]
        exact s _ _ e
    | false =>
      refine iteF ?_
      refine ⟨us, hus, ?_, s⟩
      rw [etake, List.filter_append, List.filter_cons, e, if_neg Bool.false_ne_true, List.filter_nil, List.append_nil]
      exact hU
  · rintro H' ⟨us, hus, hU, s⟩
    rw [hl, List.take_length] at hU
    exact hd us H' s hus hU
section
variable {P : Program} {w : World} {K : PySem.W.Frag} {mg : Str → Option Value} {base : Heap}
end
end RR

namespace RR
open PySem PySem.Spec PyProof.Rows L2
abbrev sInRange : Stmt := topS 1
abbrev sPairsIn : Stmt := topS 2
abbrev Tab := List (Str × List Int)
/-! ### queries and answers -/
def inR (lo hi k : Str) : Bool := !decide (k.cps.toList < lo.cps.toList) && decide (k.cps.toList < hi.cps.toList)
def within (lo hi : Str) (tb : Tab) : Tab := tb.filter fun p => inR lo hi p.1
def colOf (ns : List Int) (c : Int) : Int := if c < (ns.length : Int) then ns.getD c.toNat 0 else 0
def look (tb : Tab) (k : Str) : Option (List Int) := (tb.find? fun p => decide (p.1 = k)).map (·.2)
def optD : Option (List Int) → PyData
  | none => .none
  | some r => rowD r
def pairO : Option (Str × List Int) → PyData
  | none => .none
  | some p => pairD p
inductive Qry where
  | get (k : Str)
  | range (lo hi : Str)
  | next (k : Str) (n : Int)
  | count (lo hi : Str)
  | sum (c : Int) (lo hi : Str)
  | place (k : Str)
  | at_ (n : Int)
def qryD : Qry → PyData
  | .get k => .tuple [.str "get", .str k]
  | .range lo hi => .tuple [.str "range", .str lo, .str hi]
  | .next k n => .tuple [.str "next", .str k, .int n]
  | .count lo hi => .tuple [.str "count", .str lo, .str hi]
  | .sum c lo hi => .tuple [.str "sum", .int c, .str lo, .str hi]
  | .place k => .tuple [.str "place", .str k]
  | .at_ n => .tuple [.str "at", .int n]
def Qry.Ok : Qry → Prop
  | .next _ n => 0 ≤ n
  | .sum c _ _ => 0 ≤ c
  | .at_ n => 0 ≤ n
  | _ => True
inductive Res where
  | dat (d : PyData)
  | lst (tb : Tab)
def ansOf (tb : Tab) : Qry → Res
  | .get k => .dat (optD (look tb k))
  | .range lo hi => .lst (within lo hi tb)
  | .next k n => .lst ((above k tb).take n.toNat)
  | .count lo hi => .dat (.int ((within lo hi tb).length : Int))
  | .sum c lo hi => .dat (.int ((within lo hi tb).map fun p => colOf p.2 c).sum)
  | .place k => .dat (.int ((below k tb).length : Int))
  | .at_ n => .dat (pairO tb[n.toNat]?)
def ResAt (H H' : Hp) (v : V) : Res → Prop
  | .dat d => TD H' v d
  | .lst tb => ∃ p ws, v = .ref p ∧ H p = none ∧ H' p = some (.lst ws) ∧ TDs H' ws (tb.map pairD)
/-! ### dicts of tables -/
theorem tab_pairs {K : PySem.W.Frag} {H : Hp} : ∀ {vs : List V} {tb : Tab}, TDs H vs (tb.map pairD) → ∃ (ps : List Addr) (kvs : List (Key × V)), vs = ps.map V.ref ∧ Paired (fun p kv => SqT K H p [kV kv.1, kv.2]) ps kvs ∧ kvs.map (·.1) = tb.map (fun p => (Sum.inr p.1 : Key)) ∧ TDs H (kvs.map (·.2)) (tb.map fun p => rowD p.2)
  | vs, [], h => by
    have e := h.un0
    subst e
    exact ⟨[], [], rfl, .nil, rfl, .nil⟩
  | vs, p :: tb, h => by
    obtain ⟨v, ws, rfl, h1, h2⟩ := h.un
    obtain ⟨ps, kvs, rfl, h3, h4, h5⟩ := tab_pairs h2
    obtain ⟨a, r, rfl, h6, h7⟩ := h1.pair
    exact ⟨a :: ps, (Sum.inr p.1, r) :: kvs, rfl, .cons (SqT.of h6) h3, by rw [List.map_cons, List.map_cons, h4], .cons h7 h5⟩
theorem merge_app (acc more : List (Key × V)) (h : ((acc ++ more).map (·.1)).Nodup) : mergeK acc more = acc ++ more := by
  induction more generalizing acc with
  | nil =>
    rw [List.append_nil]
    rfl
  | cons p r ih =>
    have e : putK acc p.1 p.2 = acc ++ [p] := by
      rcases put_keys acc p.1 p.2 with ⟨hk, _⟩ | ⟨hk, _⟩
      · rw [List.map_append, List.nodup_append] at h
        exact absurd rfl (h.2.2 p.1 hk p.1 (by simp))
      · refine putK_new p.2 ?_
        cases e : valV acc p.1 with
        | none => rfl
        | some v => exact absurd (valV_in e) hk
    show mergeK (putK acc p.1 p.2) r = acc ++ p :: r
    rw [e, ih (acc ++ [p]) (by rw [List.append_assoc]; exact h), List.append_assoc]
    rfl
theorem keys_nodup {tb : Tab} (h : (tb.map (·.1)).Pairwise Lt) : (tb.map fun p => (Sum.inr p.1 : Key)).Nodup := by
  have h1 : (tb.map (·.1)).Nodup := List.Pairwise.imp (R := Lt) (fun {a b} q e => by
    rw [e] at q
    exact Lt.irrefl q) h
  have h2 : (tb.map fun p => (Sum.inr p.1 : Key)) = (tb.map (·.1)).map Sum.inr := by
    rw [List.map_map]
    rfl
  rw [h2]
  exact List.Pairwise.map _ (fun a b q e => q (Sum.inr.inj e)) h1
theorem val_look {H : Hp} (k : Str) : ∀ {tb : Tab} {kvs : List (Key × V)}, kvs.map (·.1) = tb.map (fun p => (Sum.inr p.1 : Key)) → TDs H (kvs.map (·.2)) (tb.map fun p => rowD p.2) → TD H ((valV kvs (.inr k)).getD .non) (optD (look tb k))
  | [], [], _, _ => .non
  | [], _ :: _, h, _ => by cases h
  | _ :: _, [], h, _ => by cases h
  | p :: tb, kv :: kvs, h, h2 => by
    rw [List.map_cons, List.map_cons] at h
    have e1 := (List.cons.inj h).1
    have e2 := (List.cons.inj h).2
    obtain ⟨v, ws, e3, h3, h4⟩ := h2.un
    rw [List.map_cons] at e3
    have e4 := (List.cons.inj e3).1
    have e5 := (List.cons.inj e3).2
    rw [← e5] at h4
    by_cases hk : p.1 = k
    · have hv : valV (kv :: kvs) (.inr k) = some kv.2 := valV_pos (by rw [e1, hk])
      have hl : look (p :: tb) k = some p.2 := by
        unfold look
        rw [List.find?_cons, decide_eq_true hk]
        rfl
      rw [hv, hl, e4]
      exact h3
    · have hv : valV (kv :: kvs) (.inr k) = valV kvs (.inr k) := valV_neg (by rw [e1]; exact fun e => hk (Sum.inr.inj e))
      have hl : look (p :: tb) k = look tb k := by
        unfold look
        rw [List.find?_cons, decide_eq_false hk]
      rw [hv, hl]
      exact val_look k e2 h4
/-! ### promises -/
def spInRange : Sp := fun vs H Q _ => ∃ k lo hi : Str, vs = [.str k, .str lo, .str hi] ∧ Q (.bl (inR lo hi k)) H
def spColumnOf : Sp := fun vs H Q _ => ∃ (r : Addr) (ns : List Int) (c : Int), vs = [.ref r, .int c] ∧ H r = some (.tup (ns.map V.int)) ∧ 0 ≤ c ∧ ns.length ≤ 1000 ∧ Q (.int (colOf ns c)) H
def spWithin : Sp := fun vs H Q _ => ∃ (t : Addr) (lo hi : Str) (us : List V) (tb : Tab), vs = [.ref t, .str lo, .str hi] ∧ H t = some (.lst us) ∧ TDs H us (tb.map pairD) ∧ tb.length ≤ 1000 ∧
  ∀ p ws H', H p = none → Same H H' → H' p = some (.lst ws) → TDs H' ws ((within lo hi tb).map pairD) → Q (.ref p) H'
def spAns : Sp := fun vs H Q _ => ∃ (t : Addr) (c : V) (qy : Qry) (us : List V) (tb : Tab), vs = [.ref t, c] ∧ TD H c (qryD qy) ∧ qy.Ok ∧ H t = some (.lst us) ∧ TDs H us (tb.map pairD) ∧ tb.length ≤ 100 ∧ (tb.map (·.1)).Pairwise Lt ∧ (∀ p ∈ tb, p.2.length ≤ 1000) ∧
  ∀ v H', Same H H' → ResAt H H' v (ansOf tb qy) → Q v H'
theorem scInRange : FnScope ["key", "low", "high"] ["key", "low", "high"] (defScope sInRange) := ⟨rfl, rfl, rfl, by decide +kernel, rfl, by decide +kernel, by decide +kernel⟩
theorem scPairsIn : FnScope ["table", "low", "high", "pair"] ["table", "low", "high"] (defScope sPairsIn) := ⟨rfl, rfl, rfl, by decide +kernel, rfl, by decide +kernel, by decide +kernel⟩
theorem small_len {n : Nat} (h : n ≤ 1000) : n < sizeLine := small1000 h
theorem row_un {H : Hp} {v : V} {ns : List Int} (h : TD H v (rowD ns)) : ∃ a, v = .ref a ∧ H a = some (.tup (ns.map V.int)) := by
  obtain ⟨a, xs, rfl, h1, h2⟩ := h.un
  refine ⟨a, rfl, ?_⟩
  have e : ∀ {vs : List V} {ns : List Int}, TDs H vs (ns.map PyData.int) → vs = ns.map V.int := by
    intro vs ns
    induction ns generalizing vs with
    | nil => exact fun h => h.un0
    | cons n r ih =>
      intro h
      obtain ⟨v, ws, rfl, h3, h4⟩ := h.un
      rw [h3.int_eq, ih h4]
      rfl
  rw [h1, e h2]
theorem at_of {α : Type} {xs : List α} {n : Int} (h0 : 0 ≤ n) {x : α} (h : xs[n.toNat]? = some x) : atI xs n = some x := by
  have e : ((n.toNat : Nat) : Int) = n := by omega
  have q : atI xs ((n.toNat : Nat) : Int) = some x := atI_nat h
  rw [e] at q
  exact q
section
variable {P : Program} {w : World} {K : PySem.W.Frag} {mg : Str → Option Value} {base : Heap}
theorem ok_in_range (D : Def K mg "in_range" sInRange ["key", "low", "high"]) : FnOk P w K mg base CX0 1 D.f D.fd ["key", "low", "high"] spInRange := by
  refine D.F.ok scInRange (fun vs H Q E h => ?_) (fun cdv A outer s H vs Q E hr h => ?_)
  · obtain ⟨k, lo, hi, rfl, _⟩ := h
    rfl
  obtain ⟨k, lo, hi, rfl, q⟩ := h
  refine ⟨_, pss_one (ps_ret (pe_chain op_le_str op_lt_str (pv 1) (pv 0) (pv 2))), ?_⟩
  refine ⟨_, rfl, _, rfl, _, _, rfl, rfl, _, rfl, ite2 (fun h1 => ?_) (fun h1 => ?_)⟩
  · refine ⟨_, rfl, _, _, rfl, rfl, ?_⟩
    have e : inR lo hi k = decide (k.cps.toList < hi.cps.toList) := by
      unfold inR
      rw [h1, Bool.true_and]
    rw [e] at q
    exact q
  · have e : inR lo hi k = false := by
      unfold inR
      rw [Bool.eq_false_iff.mpr h1, Bool.false_and]
    rw [e] at q
    exact q
theorem ok_pairs_in (D : Def K mg "pairs_in_range" sPairsIn ["table", "low", "high"]) (DI : Def K mg "in_range" sInRange ["key", "low", "high"]) (GI : FnOk P w K mg base CX0 1 DI.f DI.fd ["key", "low", "high"] spInRange) : FnOk P w K mg base CX0 2 D.f D.fd ["table", "low", "high"] spWithin := by
  refine D.F.ok scPairsIn (fun vs H Q E h => ?_) (fun cdv A outer s H vs Q E hr h => ?_)
  · obtain ⟨t, lo, hi, us, tb, rfl, _⟩ := h
    rfl
  obtain ⟨t, lo, hi, us, tb, rfl, ht, hT, hlen, q⟩ := h
  refine ⟨_, pss_one (ps_ret (pe_lc (own := [("pair", 3)]) (g := gName 3) (by rfl) scPairsIn.nd (pi_list (pv 0))
      (blkOk_by (own := [("pair", 3)]) (N := ["table", "low", "high", "pair"]) (sc := defScope sPairsIn) (by decide +kernel))
      (fun _ _ _ _ _ => pg_name (i := 3) scPairsIn.nd rfl (Or.inl rfl))
      (fun _ _ _ _ _ => pts_one (pt_val (pe_call GI hr (by rfl) DI.m DI.F.kp DI.b .nil pass0 (pa_cons (pe_ix (r := rIxT K) ix_tup (pv 3) pe_int (fun _ _ => rfl)) (pa_cons (pv 1) (pa_cons (pv 2) pa_nil))))))
      (fun _ _ _ _ _ => pv 3))), ?_⟩
  refine ⟨_, rfl, t, rfl, ⟨_, SqL.of ht⟩, fun D hD => ?_⟩
  have hl := hT.length
  rw [List.length_map] at hl
  refine lc_filt (fun p => inR lo hi p.1) ht hT hD (by omega) (fun v => rfl) (fun v => rfl) (fun p c r H' hp hc hr s Q hQ => ?_) (fun ws H' s hw hW => q D ws H' hD s hw hW)
  exact ⟨_, rfl, c, _, 0, _, rfl, rfl, SqT.of hc, atI_nat (j := 0) rfl, _, rfl, _, rfl, p.1, lo, hi, rfl, _, rfl, hQ⟩
end
theorem TDs.take {H : Hp} : ∀ {vs : List V} {ds : List PyData} (n : Nat), TDs H vs ds → TDs H (vs.take n) (ds.take n)
  | _, _, 0, _ => .nil
  | _, _, n + 1, .nil => .nil
  | _, _, n + 1, .cons h1 h2 => .cons h1 (TDs.take n h2)
theorem cut_to (xs : List V) {m : Int} (h : 0 ≤ m) : cutV xs none (some m) = xs.take m.toNat := by
  have e : ((m.toNat : Nat) : Int) = m := by omega
  unfold cutV
  rw [HT.sIx_none, ← e, HT.sIx_nat, List.drop_zero, Nat.sub_zero]
  rw [show ((m.toNat : Nat) : Int).toNat = m.toNat by omega]
  by_cases hm : m.toNat ≤ xs.length
  · rw [Nat.min_eq_left hm]
  · rw [Nat.min_eq_right (by omega), List.take_length, List.take_of_length_le (by omega)]
section
variable {P : Program} {w : World} {K : PySem.W.Frag} {mg : Str → Option Value} {base : Heap}
end
end RR

namespace RR
open PySem PySem.Spec PyProof.Rows L2
theorem q_un2 {H : Hp} {v : V} {z k : Str} (h : TD H v (.tuple [.str z, .str k])) : ∃ a, v = .ref a ∧ H a = some (.tup [.str z, .str k]) := by
  obtain ⟨a, xs, rfl, h1, h2⟩ := h.un
  obtain ⟨x, ys, rfl, h3, h4⟩ := h2.un
  obtain ⟨y, zs, rfl, h5, h6⟩ := h4.un
  rw [h3.str_eq, h5.str_eq, h6.un0] at h1
  exact ⟨a, rfl, h1⟩
theorem q_un2i {H : Hp} {v : V} {z : Str} {n : Int} (h : TD H v (.tuple [.str z, .int n])) : ∃ a, v = .ref a ∧ H a = some (.tup [.str z, .int n]) := by
  obtain ⟨a, xs, rfl, h1, h2⟩ := h.un
  obtain ⟨x, ys, rfl, h3, h4⟩ := h2.un
  obtain ⟨y, zs, rfl, h5, h6⟩ := h4.un
  rw [h3.str_eq, h5.int_eq, h6.un0] at h1
  exact ⟨a, rfl, h1⟩
theorem q_un3 {H : Hp} {v : V} {z k l : Str} (h : TD H v (.tuple [.str z, .str k, .str l])) : ∃ a, v = .ref a ∧ H a = some (.tup [.str z, .str k, .str l]) := by
  obtain ⟨a, xs, rfl, h1, h2⟩ := h.un
  obtain ⟨x, ys, rfl, h3, h4⟩ := h2.un
  obtain ⟨y, zs, rfl, h5, h6⟩ := h4.un
  obtain ⟨w, us, rfl, h7, h8⟩ := h6.un
  rw [h3.str_eq, h5.str_eq, h7.str_eq, h8.un0] at h1
  exact ⟨a, rfl, h1⟩
theorem q_un3i {H : Hp} {v : V} {z k : Str} {n : Int} (h : TD H v (.tuple [.str z, .str k, .int n])) : ∃ a, v = .ref a ∧ H a = some (.tup [.str z, .str k, .int n]) := by
  obtain ⟨a, xs, rfl, h1, h2⟩ := h.un
  obtain ⟨x, ys, rfl, h3, h4⟩ := h2.un
  obtain ⟨y, zs, rfl, h5, h6⟩ := h4.un
  obtain ⟨w, us, rfl, h7, h8⟩ := h6.un
  rw [h3.str_eq, h5.str_eq, h7.int_eq, h8.un0] at h1
  exact ⟨a, rfl, h1⟩
theorem q_un4 {H : Hp} {v : V} {z k l : Str} {n : Int} (h : TD H v (.tuple [.str z, .int n, .str k, .str l])) : ∃ a, v = .ref a ∧ H a = some (.tup [.str z, .int n, .str k, .str l]) := by
  obtain ⟨a, xs, rfl, h1, h2⟩ := h.un
  obtain ⟨x, ys, rfl, h3, h4⟩ := h2.un
  obtain ⟨y, zs, rfl, h5, h6⟩ := h4.un
  obtain ⟨w, us, rfl, h7, h8⟩ := h6.un
  obtain ⟨w2, us2, rfl, h9, h10⟩ := h8.un
  rw [h3.str_eq, h5.int_eq, h7.str_eq, h9.str_eq, h10.un0] at h1
  exact ⟨a, rfl, h1⟩
section
variable {P : Program} {w : World} {K : PySem.W.Frag} {mg : Str → Option Value} {base : Heap}
end
abbrev sBound : Stmt := topS 10
abbrev sSomeKey : Stmt := topS 11
abbrev sLWithin : Stmt := topS 13
abbrev sCell : Stmt := topS 14
def BndOk (s : Str) : Prop := s.length ≤ 9 ∧ ∀ c ∈ s.cps.toList, c ∈ letS.cps.toList
theorem KeyOk.bnd {s : Str} (h : KeyOk s) : BndOk s := ⟨by have := h.2.1; omega, h.2.2⟩
def spSomeKey : Sp := fun vs H Q _ => ∃ (st l t : Addr) (us : List V) (tb : List (Str × List Int)), vs = [.ref st, .ref t] ∧ Good st l H ∧ t ≠ st ∧ H t = some (.lst us) ∧ TDs H us (tb.map pairD) ∧ (∀ p ∈ tb, KeyOk p.1) ∧ tb.length ≤ 100 ∧
  ∀ s H', KeyOk s → Le st H H' → Good st l H' → Q (.str s) H'
def spBound : Sp := fun vs H Q _ => ∃ (st l t : Addr) (us : List V) (tb : List (Str × List Int)), vs = [.ref st, .ref t] ∧ Good st l H ∧ t ≠ st ∧ H t = some (.lst us) ∧ TDs H us (tb.map pairD) ∧ (∀ p ∈ tb, KeyOk p.1) ∧ tb.length ≤ 100 ∧
  ∀ s H', BndOk s → Le st H H' → Good st l H' → Q (.str s) H'
theorem scSomeKey : FnScope ["state", "table"] ["state", "table"] (defScope sSomeKey) := ⟨rfl, rfl, rfl, by decide +kernel, rfl, by decide +kernel, by decide +kernel⟩
theorem scBound : FnScope ["state", "table", "choice"] ["state", "table"] (defScope sBound) := ⟨rfl, rfl, rfl, by decide +kernel, rfl, by decide +kernel, by decide +kernel⟩
theorem scLWithin : FnScope ["table", "low", "high", "pair"] ["table", "low", "high"] (defScope sLWithin) := ⟨rfl, rfl, rfl, by decide +kernel, rfl, by decide +kernel, by decide +kernel⟩
theorem scCell : FnScope ["row", "column"] ["row", "column"] (defScope sCell) := ⟨rfl, rfl, rfl, by decide +kernel, rfl, by decide +kernel, by decide +kernel⟩
/-- the pair at a drawn place -/
theorem pair_got {H : Hp} {us : List V} {tb : Tab} {d : Int} (hT : TDs H us (tb.map pairD)) (h0 : 0 ≤ d) (h1 : d < (us.length : Int)) : ∃ c r p, atI us d = some (.ref c) ∧ H c = some (.tup [.str p.1, r]) ∧ p ∈ tb := by
  have hj : d.toNat < us.length := by omega
  obtain ⟨dd, hd1, hd2⟩ := TDs.get hT _ _ (List.getElem?_eq_getElem hj)
  rw [List.getElem?_map] at hd1
  cases e : tb[d.toNat]? with
  | none =>
    rw [e] at hd1
    cases hd1
  | some p =>
    rw [e] at hd1
    have e2 : pairD p = dd := Option.some.inj hd1
    rw [← e2] at hd2
    obtain ⟨c, r, ec, hc, _⟩ := hd2.pair
    refine ⟨c, r, p, ?_, hc, List.mem_of_getElem? e⟩
    rw [← ec]
    exact at_of h0 (List.getElem?_eq_getElem hj)
section
variable {P : Program} {w : World} {K : PySem.W.Frag} {mg : Str → Option Value} {base : Heap}
theorem ok_some_key (D : Def K mg "_law_some_key" sSomeKey ["state", "table"]) (DD : Def K mg "_law_draw" sDraw ["state", "limit"]) (DK : Def K mg "_law_key" sKey ["state"]) (ml : mg "len" = none)
    (GD : FnOk P w K mg base CX0 1 DD.f DD.fd ["state", "limit"] spDraw) (GK : FnOk P w K mg base CX0 2 DK.f DK.fd ["state"] spKey) : FnOk P w K mg base CX0 3 D.f D.fd ["state", "table"] spSomeKey := by
  refine D.F.ok scSomeKey (fun vs H Q E h => ?_) (fun cdv A outer s H vs Q E hr h => ?_)
  · obtain ⟨st, l, t, us, tb, rfl, _⟩ := h
    rfl
  obtain ⟨st, l, t, us, tb, rfl, g, nt, ht, hT, hk, hlen, q⟩ := h
  have hl := hT.length
  rw [List.length_map] at hl
  refine ⟨_, C8.pss_cut (ps_if (PW.pt (pw_and (pt_cmpR op_gt (pe_callB call_len_seq (by rfl) ml PySem.boot_len (pa_cons (pv 1) pa_nil)) pe_int (nomark _))
      (pw_and1 (pt_cmpR op_gt (pe_call GD (hr.mono (by decide)) (by rfl) DD.m DD.F.kp DD.b .nil pass0 (pa_cons (pv 0) (pa_cons pe_int pa_nil))) pe_int (nomark _)))))
    (pss_one (ps_ret (pe_ix ix_tup (pe_ix ix_list (pv 1) (pe_call GD (hr.mono (by decide)) (by rfl) DD.m DD.F.kp DD.b .nil pass0 (pa_cons (pv 0) (pa_cons (pe_callB call_len_seq (by rfl) ml PySem.boot_len (pa_cons (pv 1) pa_nil)) pa_nil))) (fun _ _ => rfl)) pe_int (fun _ _ => rfl)))) pss_nil)
    (pss_one (ps_ret (pe_call GK hr (by rfl) DK.m DK.F.kp DK.b .nil pass0 (pa_cons (pv 0) pa_nil)))), ?_⟩
  refine ⟨fun σ' H' => σ' = [some (.ref st), some (.ref t)] ∧ Le st H H' ∧ Good st l H', ?_, ?_⟩
  · refine ⟨_, rfl, t, us, rfl, .inl (SqL.of ht), _, _, rfl, rfl, _, rfl, ite2 (fun h0 => ?_) (fun _ => ?_)⟩
    · have h0' : 0 < (us.length : Int) := of_decide_eq_true h0
      refine ⟨_, rfl, st, l, 3, rfl, g, by decide, by decide, fun d H1 d0 d1 le1 g1 => ?_⟩
      refine ⟨_, _, rfl, rfl, _, rfl, ite2 (fun _ => ?_) (fun _ => ?_)⟩
      · have ht1 := le1 t _ nt ht
        refine ⟨_, rfl, _, rfl, _, rfl, t, us, rfl, .inl (SqL.of ht1), st, l, _, rfl, g1, h0', pow7 (by omega), fun d2 H2 d20 d21 le2 g2 => ?_⟩
        have ht2 := le2 t _ nt ht1
        have hj : d2.toNat < us.length := by omega
        have hat : atI us d2 = some us[d2.toNat] := by
          have e : ((d2.toNat : Nat) : Int) = d2 := by omega
          have z : atI us ((d2.toNat : Nat) : Int) = some us[d2.toNat] := atI_nat (List.getElem?_eq_getElem hj)
          rw [e] at z
          exact z
        obtain ⟨dd, hd1, hd2⟩ := TDs.get hT _ _ (List.getElem?_eq_getElem hj)
        rw [List.getElem?_map] at hd1
        obtain ⟨p, hp, rfl⟩ : ∃ p, tb[d2.toNat]? = some p ∧ dd = pairD p := by
          cases e : tb[d2.toNat]? with
          | none =>
            rw [e] at hd1
            cases hd1
          | some p =>
            rw [e] at hd1
            exact ⟨p, rfl, (Option.some.inj hd1).symm⟩
        obtain ⟨c, r, ec, hc, _⟩ := (TD.mono ((Tk.le g le1).trans (Tk.le g1 le2)) _ _ hd2).pair
        refine ⟨t, us, d2, _, rfl, rfl, SqL.of ht2, hat, ?_⟩
        refine ⟨c, _, 0, _, ec, rfl, SqT.of hc, atI_nat (j := 0) rfl, ?_⟩
        exact q _ _ (hk p (List.mem_of_getElem? hp)) (le1.trans le2) g2
      · exact ⟨rfl, le1, g1⟩
    · exact ⟨rfl, Le.refl _ _, g⟩
  · rintro σ' H1 ⟨rfl, le1, g1⟩
    exact ⟨_, rfl, st, l, rfl, g1, fun s H2 hs le2 g2 => q s H2 hs (le1.trans le2) g2⟩
theorem ok_bound (D : Def K mg "_law_bound" sBound ["state", "table"]) (DD : Def K mg "_law_draw" sDraw ["state", "limit"]) (DK : Def K mg "_law_key" sKey ["state"]) (ml : mg "len" = none)
    (GD : FnOk P w K mg base CX0 1 DD.f DD.fd ["state", "limit"] spDraw) (GK : FnOk P w K mg base CX0 2 DK.f DK.fd ["state"] spKey) : FnOk P w K mg base CX0 3 D.f D.fd ["state", "table"] spBound := by
  refine D.F.ok scBound (fun vs H Q E h => ?_) (fun cdv A outer s H vs Q E hr h => ?_)
  · obtain ⟨st, l, t, us, tb, rfl, _⟩ := h
    rfl
  obtain ⟨st, l, t, us, tb, rfl, g, nt, ht, hT, hk, hlen, q⟩ := h
  have hl := hT.length
  rw [List.length_map] at hl
  refine ⟨_, pss_cons (ps_set (i := 2) scBound.nd rfl (.inl rfl) (pe_call GD (hr.mono (by decide)) (by rfl) DD.m DD.F.kp DD.b .nil pass0 (pa_cons (pv 0) (pa_cons pe_int pa_nil)))) <|
    pss_cons (ps_if (pt_cmpR op_eq (pv 2) pe_int (nomark _)) (pss_one (ps_ret pe_str)) pss_nil) <|
    pss_cons (ps_if (PW.pt (pw_and (pt_cmpR op_lt (pv 2) pe_int (nomark _)) (pw_and1 (pt_cmpR op_gt (pe_callB call_len_seq (by rfl) ml PySem.boot_len (pa_cons (pv 1) pa_nil)) pe_int (nomark _)))))
      (pss_one (ps_ret (pe_op op_add_str (pe_ix ix_tup (pe_ix ix_list (pv 1) (pe_call GD (hr.mono (by decide)) (by rfl) DD.m DD.F.kp DD.b .nil pass0 (pa_cons (pv 0) (pa_cons (pe_callB call_len_seq (by rfl) ml PySem.boot_len (pa_cons (pv 1) pa_nil)) pa_nil))) (fun _ _ => rfl)) pe_int (fun _ _ => rfl)) (pe_ix ix_list (pe_lst (pa_cons pe_str (pa_cons pe_str (pa_cons pe_str pa_nil)))) (pe_call GD (hr.mono (by decide)) (by rfl) DD.m DD.F.kp DD.b .nil pass0 (pa_cons (pv 0) (pa_cons pe_int pa_nil))) (fun _ _ => rfl))))) pss_nil) <|
    pss_one (ps_ret (pe_call GK hr (by rfl) DK.m DK.F.kp DK.b .nil pass0 (pa_cons (pv 0) pa_nil))), ?_⟩
  refine ⟨_, rfl, st, l, 4, rfl, g, by decide, by decide, fun d H1 d0 d1 le1 g1 => ?_⟩
  refine ⟨_, rfl, rfl, _, rfl, ite2 (fun _ => q _ _ ⟨by decide, fun c hc => by cases hc⟩ le1 g1) (fun _ => ?_)⟩
  have ht1 := le1 t _ nt ht
  have last : ∀ s H', KeyOk s → Le st H1 H' → Good st l H' → Q (.str s) H' := fun s H' hs le g => q s H' hs.bnd (le1.trans le) g
  refine ⟨_, rfl, _, _, rfl, rfl, _, rfl, ite2 (fun _ => ?_) (fun _ => ?_)⟩
  · refine ⟨_, rfl, t, us, rfl, .inl (SqL.of ht1), _, _, rfl, rfl, _, rfl, ite2 (fun h0 => ?_) (fun _ => ?_)⟩
    · have h0' : 0 < (us.length : Int) := of_decide_eq_true h0
      refine ⟨_, rfl, _, rfl, _, rfl, t, us, rfl, .inl (SqL.of ht1), st, l, _, rfl, g1, h0', pow7 (by omega), fun d2 H2 d20 d21 le2 g2 => ?_⟩
      have ht2 := le2 t _ nt ht1
      have hT2 := TDs.mono ((Tk.le g le1).trans (Tk.le g1 le2)) _ _ hT
      obtain ⟨c, r, p, hat, hc, hm⟩ := pair_got hT2 d20 d21
      refine ⟨t, us, d2, _, rfl, rfl, SqL.of ht2, hat, c, _, 0, _, rfl, rfl, SqT.of hc, atI_nat (j := 0) rfl, ?_⟩
      refine ⟨by show 3 ≤ sizeLine; decide, fun z hz => ?_⟩
      have s3 := same_new hz (.lst [.str "", .str "", .str "0"])
      have z3 : upd H2 z (.lst [.str "", .str "", .str "0"]) z = some (.lst [.str "", .str "", .str "0"]) := upd_same
      have hzn := g2.ne hz
      refine ⟨_, rfl, st, l, 3, rfl, g2.same s3, by decide, by decide, fun d4 H4 d40 d41 le4 g4 => ?_⟩
      obtain ⟨x, hx, hxo⟩ : ∃ x : Str, atI [V.str "", .str "", .str "0"] d4 = some (.str x) ∧ x.length ≤ 1 ∧ ∀ c ∈ x.cps.toList, c ∈ letS.cps.toList := by
        rcases (by omega : d4 = 0 ∨ d4 = 1 ∨ d4 = 2) with e | e | e
        · exact ⟨"", by rw [e]; rfl, by decide, fun c hc => by cases hc⟩
        · exact ⟨"", by rw [e]; rfl, by decide, fun c hc => by cases hc⟩
        · exact ⟨"0", by rw [e]; rfl, by decide +kernel, by decide +kernel⟩
      refine ⟨z, _, d4, _, rfl, rfl, SqL.of (le4 z _ hzn.1 z3), hx, ?_⟩
      have hk1 := hk p hm
      have hk2 := hk1.2.1
      have hx1 := hxo.1
      refine ⟨_, _, rfl, rfl, small (by omega), q _ _ ⟨by rw [app_len]; omega, fun c hc => ?_⟩ (((le1.trans le2).trans (Le.of s3)).trans le4) g4⟩
      rw [app_list, List.mem_append] at hc
      rcases hc with hc | hc
      · exact hk1.2.2 c hc
      · exact hxo.2 c hc
    · exact ⟨_, rfl, st, l, rfl, g1, last⟩
  · exact ⟨_, rfl, st, l, rfl, g1, last⟩
theorem ok_lwithin (D : Def K mg "_law_within" sLWithin ["table", "low", "high"]) : FnOk P w K mg base CX0 1 D.f D.fd ["table", "low", "high"] spWithin := by
  refine D.F.ok scLWithin (fun vs H Q E h => ?_) (fun cdv A outer s H vs Q E hr h => ?_)
  · obtain ⟨t, lo, hi, us, tb, rfl, _⟩ := h
    rfl
  obtain ⟨t, lo, hi, us, tb, rfl, ht, hT, hlen, q⟩ := h
  refine ⟨_, pss_one (ps_ret (pe_lc (own := [("pair", 3)]) (g := gName 3) (by rfl) scLWithin.nd (pi_list (pv 0))
      (blkOk_by (own := [("pair", 3)]) (N := ["table", "low", "high", "pair"]) (sc := defScope sLWithin) (by decide +kernel))
      (fun _ _ _ _ _ => pg_name (i := 3) scLWithin.nd rfl (Or.inl rfl))
      (fun _ _ _ _ _ => pts_one (PW.pt (pw_and (pt_cmpR op_le_str (pv 1) (pe_ix (r := rIxT K) ix_tup (pv 3) pe_int (fun _ _ => rfl)) (nomark _)) (pw_and1 (pt_cmpR op_lt_str (pe_ix (r := rIxT K) ix_tup (pv 3) pe_int (fun _ _ => rfl)) (pv 2) (nomark _))))))
      (fun _ _ _ _ _ => pv 3))), ?_⟩
  refine ⟨_, rfl, t, rfl, ⟨_, SqL.of ht⟩, fun D hD => ?_⟩
  have hl := hT.length
  rw [List.length_map] at hl
  refine lc_filt (fun p => inR lo hi p.1) ht hT hD (by omega) (fun v => rfl) (fun v => rfl) (fun p c r H' hp hc hr s Q hQ => ?_) (fun ws H' s hw hW => q D ws H' hD s hw hW)
  refine ⟨_, rfl, _, rfl, c, _, 0, _, rfl, rfl, SqT.of hc, atI_nat (j := 0) rfl, _, _, rfl, rfl, _, rfl, ite2 (fun h1 => ?_) (fun h1 => ?_)⟩
  · have e : inR lo hi p.1 = decide (p.1.cps.toList < hi.cps.toList) := by
      unfold inR
      rw [h1, Bool.true_and]
    rw [e] at hQ
    exact ⟨_, rfl, c, _, 0, _, rfl, rfl, SqT.of hc, atI_nat (j := 0) rfl, _, rfl, _, _, rfl, rfl, _, rfl, hQ⟩
  · have e : inR lo hi p.1 = false := by
      unfold inR
      rw [Bool.eq_false_iff.mpr h1, Bool.false_and]
    rw [e] at hQ
    exact hQ
theorem ok_cell (D : Def K mg "_law_cell" sCell ["row", "column"]) (ml : mg "len" = none) : FnOk P w K mg base CX0 1 D.f D.fd ["row", "column"] spColumnOf := by
  refine D.F.ok scCell (fun vs H Q E h => ?_) (fun cdv A outer s H vs Q E hr h => ?_)
  · obtain ⟨r, ns, c, rfl, _⟩ := h
    rfl
  obtain ⟨r, ns, c, rfl, hR, hc, hl, q⟩ := h
  refine ⟨_, pss_cons (ps_if (pt_cmpR op_lt (pv 1) (pe_callB call_len_seq (by rfl) ml PySem.boot_len (pa_cons (pv 0) pa_nil)) (nomark _)) (pss_one (ps_ret (pe_ix ix_tup (pv 0) (pv 1) (fun _ _ => rfl)))) pss_nil) <| pss_one (ps_ret pe_int), ?_⟩
  refine ⟨_, rfl, _, rfl, r, _, rfl, .inr (SqT.of hR), _, _, rfl, rfl, _, rfl, ite2 (fun h1 => ?_) (fun h1 => ?_)⟩
  · have h2 : c < ((ns.map V.int).length : Int) := of_decide_eq_true h1
    rw [List.length_map] at h2
    have hk : c.toNat < ns.length := by omega
    refine ⟨_, rfl, _, rfl, r, _, c, .int ns[c.toNat], rfl, rfl, SqT.of hR, at_of hc (by rw [List.getElem?_map, List.getElem?_eq_getElem hk]; rfl), ?_⟩
    unfold colOf at q
    rw [if_pos h2, List.getD_eq_getElem?_getD, List.getElem?_eq_getElem hk] at q
    exact q
  · have h2 : ¬ c < ((ns.map V.int).length : Int) := of_decide_eq_false (Bool.eq_false_iff.mpr h1)
    rw [List.length_map] at h2
    unfold colOf at q
    rw [if_neg h2] at q
    exact q
end
end RR

namespace RR
open PySem PySem.Spec PyProof.Rows L2
abbrev sLAns : Stmt := topS 15
theorem scLAns : FnScope ["table", "query", "name", "pair", "found"] ["table", "query"] (defScope sLAns) := ⟨rfl, rfl, rfl, by decide +kernel, rfl, by decide +kernel, by decide +kernel⟩
section
variable {P : Program} {w : World} {K : PySem.W.Frag} {mg : Str → Option Value} {base : Heap}
theorem ok_lanswer (D : Def K mg "_law_answer" sLAns ["table", "query"]) (DW : Def K mg "_law_within" sLWithin ["table", "low", "high"]) (DC : Def K mg "_law_cell" sCell ["row", "column"]) (ml : mg "len" = none) (msum : mg "sum" = none)
    (GW : FnOk P w K mg base CX0 1 DW.f DW.fd ["table", "low", "high"] spWithin) (GC : FnOk P w K mg base CX0 1 DC.f DC.fd ["row", "column"] spColumnOf) : FnOk P w K mg base CX0 2 D.f D.fd ["table", "query"] spAns := by
  refine D.F.ok scLAns (fun vs H Q E h => ?_) (fun cdv A outer s H vs Q E hr h => ?_)
  · obtain ⟨t, c, qy, us, tb, rfl, _⟩ := h
    rfl
  obtain ⟨t, c, qy, us, tb, rfl, hc, hok, ht, hT, hlen, hasc, hrow, q⟩ := h
  have hl := hT.length
  rw [List.length_map] at hl
  refine ⟨_, pss_cons (ps_set (i := 2) scLAns.nd rfl (.inl rfl) (pe_ix ix_tup (pv 1) pe_int (fun _ _ => rfl))) <|
    pss_cons (ps_if (pt_cmpR op_eq (pv 2) pe_str (nomark _))
      (pss_cons (ps_for PassesOwn.never rfl (pi_list (pv 0)) (pg_name (i := 3) scLAns.nd rfl (.inl rfl))
        (pss_one (ps_if (pt_cmpR op_eq (pe_ix ix_tup (pv 3) pe_int (fun _ _ => rfl)) (pe_ix ix_tup (pv 1) pe_int (fun _ _ => rfl)) (nomark _)) (pss_one (ps_ret (pe_ix ix_tup (pv 3) pe_int (fun _ _ => rfl)))) pss_nil))) <|
      pss_one (ps_ret pe_non)) pss_nil) <|
    pss_cons (ps_if (pt_cmpR op_eq (pv 2) pe_str (nomark _)) (pss_one (ps_ret (pe_call GW hr (by rfl) DW.m DW.F.kp DW.b .nil pass0 (pa_cons (pv 0) (pa_cons (pe_ix ix_tup (pv 1) pe_int (fun _ _ => rfl)) (pa_cons (pe_ix ix_tup (pv 1) pe_int (fun _ _ => rfl)) pa_nil)))))) pss_nil) <|
    pss_cons (ps_if (pt_cmpR op_eq (pv 2) pe_str (nomark _))
      (pss_cons (ps_setLc (i := 4) (own := [("pair", 3)]) (g := gName 3) (by rfl) scLAns.nd rfl rfl (sw_true rfl rfl rfl (by decide +kernel)) (pi_list (pv 0))
        (blkOk_by (own := [("pair", 3)]) (N := ["table", "query", "name", "pair", "found"]) (sc := defScope sLAns) (by decide +kernel))
        (fun _ _ _ _ _ => pg_name (i := 3) scLAns.nd rfl (Or.inl rfl)) (fun _ _ _ _ _ => pts_one (pt_cmpR op_gt_str (pe_ix (r := rIxT K) ix_tup (pv 3) pe_int (fun _ _ => rfl)) (pe_ix (r := rIxT K) ix_tup (pv 1) pe_int (fun _ _ => rfl)) (nomark _)))
        (fun _ _ _ _ _ => pv 3)) <|
      pss_one (ps_ret (pe_slice sl_list (pv 4) po_none (po_some (pe_ix ix_tup (pv 1) pe_int (fun _ _ => rfl)))))) pss_nil) <|
    pss_cons (ps_if (pt_cmpR op_eq (pv 2) pe_str (nomark _)) (pss_one (ps_ret (pe_callB call_len_seq (by rfl) ml PySem.boot_len (pa_cons (pe_call GW hr (by rfl) DW.m DW.F.kp DW.b .nil pass0 (pa_cons (pv 0) (pa_cons (pe_ix ix_tup (pv 1) pe_int (fun _ _ => rfl)) (pa_cons (pe_ix ix_tup (pv 1) pe_int (fun _ _ => rfl)) pa_nil)))) pa_nil)))) pss_nil) <|
    pss_cons (ps_if (pt_cmpR op_eq (pv 2) pe_str (nomark _)) (pss_one (ps_ret (pe_callB (cr_sum rfl) (by rfl) msum (by decide +kernel) (pa_cons (pe_lc (own := [("pair", 3)]) (g := gName 3) (by rfl) scLAns.nd (pi_list (pe_call GW hr (by rfl) DW.m DW.F.kp DW.b .nil pass0 (pa_cons (pv 0) (pa_cons (pe_ix ix_tup (pv 1) pe_int (fun _ _ => rfl)) (pa_cons (pe_ix ix_tup (pv 1) pe_int (fun _ _ => rfl)) pa_nil)))))
        (blkOk_by (own := [("pair", 3)]) (N := ["table", "query", "name", "pair", "found"]) (sc := defScope sLAns) (by decide +kernel))
        (fun _ _ _ _ _ => pg_name (i := 3) scLAns.nd rfl (Or.inl rfl)) (fun _ _ _ _ _ => pts_nil)
        (fun _ _ _ _ _ => pe_call GC hr (by rfl) DC.m DC.F.kp DC.b .nil pass0 (pa_cons (pe_ix (r := rIxT K) ix_tup (pv 3) pe_int (fun _ _ => rfl)) (pa_cons (pe_ix (r := rIxT K) ix_tup (pv 1) pe_int (fun _ _ => rfl)) pa_nil)))) pa_nil)))) pss_nil) <|
    pss_cons (ps_if (pt_cmpR op_eq (pv 2) pe_str (nomark _)) (pss_one (ps_ret (pe_callB call_len_seq (by rfl) ml PySem.boot_len (pa_cons (pe_lc (own := [("pair", 3)]) (g := gName 3) (by rfl) scLAns.nd (pi_list (pv 0))
        (blkOk_by (own := [("pair", 3)]) (N := ["table", "query", "name", "pair", "found"]) (sc := defScope sLAns) (by decide +kernel))
        (fun _ _ _ _ _ => pg_name (i := 3) scLAns.nd rfl (Or.inl rfl)) (fun _ _ _ _ _ => pts_one (pt_cmpR op_lt_str (pe_ix (r := rIxT K) ix_tup (pv 3) pe_int (fun _ _ => rfl)) (pe_ix (r := rIxT K) ix_tup (pv 1) pe_int (fun _ _ => rfl)) (nomark _)))
        (fun _ _ _ _ _ => pv 3)) pa_nil)))) pss_nil) <|
    pss_cons (ps_if (pt_cmpR op_lt (pe_ix ix_tup (pv 1) pe_int (fun _ _ => rfl)) (pe_callB call_len_seq (by rfl) ml PySem.boot_len (pa_cons (pv 0) pa_nil)) (nomark _)) (pss_one (ps_ret (pe_ix ix_list (pv 0) (pe_ix ix_tup (pv 1) pe_int (fun _ _ => rfl)) (fun _ _ => rfl)))) pss_nil) <|
    pss_one (ps_ret pe_non), ?_⟩
  cases qy with
  | get k =>
    obtain ⟨a, rfl, ha⟩ := q_un2 hc
    refine ⟨_, rfl, a, _, 0, _, rfl, rfl, SqT.of ha, atI_nat (j := 0) rfl, ?_⟩
    refine ⟨_, rfl, rfl, _, rfl, ite2 (fun _ => ?_) (fun n => absurd (decide_eq_true rfl) n)⟩
    refine ⟨_, rfl, t, rfl, ⟨us, SqL.of ht⟩, for_list (K := K) (a := t) (xs := us) (fun i σ H' => ∃ y3, σ = [some (.ref t), some (.ref a), some (.str "get"), y3, none] ∧ H' = H ∧ ∀ p ∈ tb.take i, ¬ p.1 = k) ?_ ?_ ?_ ?_⟩
    · exact ⟨_, rfl, rfl, fun p hp => by cases hp⟩
    · rintro i σ H' _ ⟨y3, rfl, rfl, _⟩
      exact SqL.of ht
    · rintro i x σ H' hx ⟨y3, rfl, rfl, hno⟩
      obtain ⟨d, hd1, hd2⟩ := TDs.get hT i x hx
      rw [List.getElem?_map] at hd1
      obtain ⟨p, hp, rfl⟩ : ∃ p, tb[i]? = some p ∧ d = pairD p := by
        cases e : tb[i]? with
        | none =>
          rw [e] at hd1
          cases hd1
        | some p =>
          rw [e] at hd1
          exact ⟨p, rfl, (Option.some.inj hd1).symm⟩
      obtain ⟨ca, r, rfl, hca, hr2⟩ := hd2.pair
      have etake : tb.take (i + 1) = tb.take i ++ [p] := by
        rw [List.take_add_one, hp]
        rfl
      refine ⟨_, rfl, ca, _, 0, _, rfl, rfl, SqT.of hca, atI_nat (j := 0) rfl, _, rfl, a, _, 1, _, rfl, rfl, SqT.of ha, atI_nat (j := 1) rfl, rfl, _, rfl, ite2 (fun e => ?_) (fun ne => ?_)⟩
      · have e2 : p.1 = k := V.str.inj (of_decide_eq_true e)
        refine ⟨_, rfl, ca, _, 1, _, rfl, rfl, SqT.of hca, atI_nat (j := 1) rfl, q r _ (Same.refl _) ?_⟩
        show TD H' r (optD (look tb k))
        have el : look tb k = some p.2 := by
          unfold look
          have hsplit : tb = tb.take i ++ p :: tb.drop (i + 1) := by
            have h1 := List.take_append_drop (i + 1) tb
            rw [etake, List.append_assoc] at h1
            exact h1.symm
          rw [hsplit, List.find?_append]
          have h2 : (tb.take i).find? (fun p => decide (p.1 = k)) = none := List.find?_eq_none.mpr fun x hx => by
            rw [decide_eq_false (hno x hx)]
            decide
          rw [h2, List.find?_cons, decide_eq_true e2]
          rfl
        rw [el]
        exact hr2
      · refine ⟨_, rfl, rfl, fun x hx2 => ?_⟩
        rw [etake, List.mem_append] at hx2
        rcases hx2 with hx2 | hx2
        · exact hno x hx2
        · have e3 : x = p := by simpa using hx2
          rw [e3]
          intro e4
          exact ne (decide_eq_true (by rw [e4]))
    · rintro σ H' ⟨y3, rfl, rfl, hno⟩
      refine q .non _ (Same.refl _) ?_
      show TD H' .non (optD (look tb k))
      have el : look tb k = none := by
        unfold look
        rw [hl, List.take_length] at hno
        rw [List.find?_eq_none.mpr fun x hx => by rw [decide_eq_false (hno x hx)]; decide]
        rfl
      rw [el]
      exact .non
  | range lo hi =>
    obtain ⟨a, rfl, ha⟩ := q_un3 hc
    refine ⟨_, rfl, a, _, 0, _, rfl, rfl, SqT.of ha, atI_nat (j := 0) rfl, ?_⟩
    refine ⟨_, rfl, rfl, _, rfl, ite2 (fun e => absurd (V.str.inj (of_decide_eq_true e)) (by decide +kernel)) (fun _ => ?_)⟩
    refine ⟨_, rfl, rfl, _, rfl, ite2 (fun _ => ?_) (fun n => absurd (decide_eq_true rfl) n)⟩
    exact ⟨_, rfl, _, rfl, a, _, 1, _, rfl, rfl, SqT.of ha, atI_nat (j := 1) rfl, _, rfl, a, _, 2, _, rfl, rfl, SqT.of ha, atI_nat (j := 2) rfl, t, lo, hi, us, tb, rfl, ht, hT, by omega, fun p ws H' hp s hw hW => q _ H' s ⟨p, ws, rfl, hp, hw, hW⟩⟩
  | next k n =>
    obtain ⟨a, rfl, ha⟩ := q_un3i hc
    refine ⟨_, rfl, a, _, 0, _, rfl, rfl, SqT.of ha, atI_nat (j := 0) rfl, ?_⟩
    refine ⟨_, rfl, rfl, _, rfl, ite2 (fun e => absurd (V.str.inj (of_decide_eq_true e)) (by decide +kernel)) (fun _ => ?_)⟩
    refine ⟨_, rfl, rfl, _, rfl, ite2 (fun e => absurd (V.str.inj (of_decide_eq_true e)) (by decide +kernel)) (fun _ => ?_)⟩
    refine ⟨_, rfl, rfl, _, rfl, ite2 (fun _ => ?_) (fun n => absurd (decide_eq_true rfl) n)⟩
    refine ⟨_, rfl, t, rfl, ⟨_, SqL.of ht⟩, fun D hD => ?_⟩
    refine lc_filt (fun p => decide (k.cps.toList < p.1.cps.toList)) ht hT hD (by omega) (fun v => rfl) (fun v => rfl) (fun p c r H' hp hc hr s Q hQ => ?_) (fun ws H1 s1 hw hW => ?_)
    · exact ⟨_, rfl, c, _, 0, _, rfl, rfl, SqT.of hc, atI_nat (j := 0) rfl, _, rfl, a, _, 1, _, rfl, rfl, SqT.of (s _ _ ha), atI_nat (j := 1) rfl, _, _, rfl, rfl, _, rfl, hQ⟩
    refine ⟨_, rfl, _, rfl, a, _, 2, _, rfl, rfl, SqT.of (s1 _ _ ha), atI_nat (j := 2) rfl, n, rfl, D, ws, rfl, SqL.of hw, fun p hp => ?_⟩
    refine q _ _ (s1.trans (same_new hp _)) ⟨p, _, rfl, s1.free hp, upd_same, ?_⟩
    rw [cut_to ws hok, List.map_take]
    exact TDs.mono (Tk.new hp _) _ _ (TDs.take _ hW)
  | count lo hi =>
    obtain ⟨a, rfl, ha⟩ := q_un3 hc
    refine ⟨_, rfl, a, _, 0, _, rfl, rfl, SqT.of ha, atI_nat (j := 0) rfl, ?_⟩
    refine ⟨_, rfl, rfl, _, rfl, ite2 (fun e => absurd (V.str.inj (of_decide_eq_true e)) (by decide +kernel)) (fun _ => ?_)⟩
    refine ⟨_, rfl, rfl, _, rfl, ite2 (fun e => absurd (V.str.inj (of_decide_eq_true e)) (by decide +kernel)) (fun _ => ?_)⟩
    refine ⟨_, rfl, rfl, _, rfl, ite2 (fun e => absurd (V.str.inj (of_decide_eq_true e)) (by decide +kernel)) (fun _ => ?_)⟩
    refine ⟨_, rfl, rfl, _, rfl, ite2 (fun _ => ?_) (fun n => absurd (decide_eq_true rfl) n)⟩
    refine ⟨_, rfl, _, rfl, a, _, 1, _, rfl, rfl, SqT.of ha, atI_nat (j := 1) rfl, _, rfl, a, _, 2, _, rfl, rfl, SqT.of ha, atI_nat (j := 2) rfl, t, lo, hi, us, tb, rfl, ht, hT, by omega, fun p ws H1 hp s1 hw hW => ?_⟩
    have l1 := hW.length
    rw [List.length_map] at l1
    refine ⟨p, ws, rfl, .inl (SqL.of hw), ?_⟩
    rw [l1]
    exact q _ H1 s1 (.int _)
  | sum c lo hi =>
    obtain ⟨a, rfl, ha⟩ := q_un4 hc
    refine ⟨_, rfl, a, _, 0, _, rfl, rfl, SqT.of ha, atI_nat (j := 0) rfl, ?_⟩
    refine ⟨_, rfl, rfl, _, rfl, ite2 (fun e => absurd (V.str.inj (of_decide_eq_true e)) (by decide +kernel)) (fun _ => ?_)⟩
    refine ⟨_, rfl, rfl, _, rfl, ite2 (fun e => absurd (V.str.inj (of_decide_eq_true e)) (by decide +kernel)) (fun _ => ?_)⟩
    refine ⟨_, rfl, rfl, _, rfl, ite2 (fun e => absurd (V.str.inj (of_decide_eq_true e)) (by decide +kernel)) (fun _ => ?_)⟩
    refine ⟨_, rfl, rfl, _, rfl, ite2 (fun e => absurd (V.str.inj (of_decide_eq_true e)) (by decide +kernel)) (fun _ => ?_)⟩
    refine ⟨_, rfl, rfl, _, rfl, ite2 (fun _ => ?_) (fun n => absurd (decide_eq_true rfl) n)⟩
    refine ⟨_, rfl, _, rfl, a, _, 2, _, rfl, rfl, SqT.of ha, atI_nat (j := 2) rfl, _, rfl, a, _, 3, _, rfl, rfl, SqT.of ha, atI_nat (j := 3) rfl, t, lo, hi, us, tb, rfl, ht, hT, by omega, fun p ws H1 hp s1 hw hW => ?_⟩
    have l1 : (within lo hi tb).length ≤ tb.length := List.length_filter_le _ _
    have l2 := hW.length
    rw [List.length_map] at l2
    refine ⟨p, rfl, ⟨_, SqL.of hw⟩, fun D hD => ?_⟩
    refine lc_list (K := K) (a := p) (xs := ws) (fun i H' => Same H1 H' ∧ H' D = some (.lst ((((within lo hi tb).take i).map fun p => colOf p.2 c).map V.int))) ?_ ?_ ?_ ?_
    · exact ⟨same_new hD _, upd_same⟩
    · rintro i H' _ ⟨s, _⟩
      exact SqL.of (s _ _ hw)
    · rintro i x H' hx ⟨s, hD'⟩
      obtain ⟨d, hd1, hd2⟩ := TDs.get hW i x hx
      rw [List.getElem?_map] at hd1
      obtain ⟨p2, hp2, rfl⟩ : ∃ p, (within lo hi tb)[i]? = some p ∧ d = pairD p := by
        cases e : (within lo hi tb)[i]? with
        | none =>
          rw [e] at hd1
          cases hd1
        | some p =>
          rw [e] at hd1
          exact ⟨p, rfl, (Option.some.inj hd1).symm⟩
      obtain ⟨a2, r, rfl, ha2, hr2⟩ := (TD.mono (Tk.same s) _ _ hd2).pair
      obtain ⟨ra, rfl, hra⟩ := row_un hr2
      have hm : p2 ∈ tb := (List.mem_filter.mp (List.mem_of_getElem? hp2)).1
      refine ⟨rfl, _, rfl, a2, _, 1, _, rfl, rfl, SqT.of ha2, atI_nat (j := 1) rfl, _, rfl, a, _, 1, _, rfl, rfl, SqT.of (s _ _ (s1 _ _ ha)), atI_nat (j := 1) rfl, ra, p2.2, c, rfl, hra, hok, hrow p2 hm, _, hD', ?_, fun b o e => ?_, ?_⟩
      · rw [List.length_map, List.length_map, List.length_take]
        exact small1000 (by omega)
      · rw [upd_ne (ne_of_none e hD)]
        exact s _ _ e
      · rw [upd_same, List.take_add_one, hp2, List.map_append, List.map_append]
        rfl
    · rintro H' ⟨s, hD'⟩
      rw [l2, List.take_length] at hD'
      exact ⟨D, _, rfl, SqL.of hD', q _ _ (s1.trans s) (.int _)⟩
  | place k =>
    obtain ⟨a, rfl, ha⟩ := q_un2 hc
    refine ⟨_, rfl, a, _, 0, _, rfl, rfl, SqT.of ha, atI_nat (j := 0) rfl, ?_⟩
    refine ⟨_, rfl, rfl, _, rfl, ite2 (fun e => absurd (V.str.inj (of_decide_eq_true e)) (by decide +kernel)) (fun _ => ?_)⟩
    refine ⟨_, rfl, rfl, _, rfl, ite2 (fun e => absurd (V.str.inj (of_decide_eq_true e)) (by decide +kernel)) (fun _ => ?_)⟩
    refine ⟨_, rfl, rfl, _, rfl, ite2 (fun e => absurd (V.str.inj (of_decide_eq_true e)) (by decide +kernel)) (fun _ => ?_)⟩
    refine ⟨_, rfl, rfl, _, rfl, ite2 (fun e => absurd (V.str.inj (of_decide_eq_true e)) (by decide +kernel)) (fun _ => ?_)⟩
    refine ⟨_, rfl, rfl, _, rfl, ite2 (fun e => absurd (V.str.inj (of_decide_eq_true e)) (by decide +kernel)) (fun _ => ?_)⟩
    refine ⟨_, rfl, rfl, _, rfl, ite2 (fun _ => ?_) (fun n => absurd (decide_eq_true rfl) n)⟩
    refine ⟨_, rfl, t, rfl, ⟨_, SqL.of ht⟩, fun D hD => ?_⟩
    refine lc_filt (fun p => decide (p.1.cps.toList < k.cps.toList)) ht hT hD (by omega) (fun v => rfl) (fun v => rfl) (fun p c r H' hp hc hr s Q hQ => ?_) (fun ws H1 s1 hw hW => ?_)
    · exact ⟨_, rfl, c, _, 0, _, rfl, rfl, SqT.of hc, atI_nat (j := 0) rfl, _, rfl, a, _, 1, _, rfl, rfl, SqT.of (s _ _ ha), atI_nat (j := 1) rfl, _, _, rfl, rfl, _, rfl, hQ⟩
    have hW : TDs H1 ws ((below k tb).map pairD) := hW
    have l1 := hW.length
    rw [List.length_map] at l1
    refine ⟨D, ws, rfl, .inl (SqL.of hw), ?_⟩
    rw [l1]
    exact q _ H1 s1 (.int _)
  | at_ n =>
    obtain ⟨a, rfl, ha⟩ := q_un2i hc
    refine ⟨_, rfl, a, _, 0, _, rfl, rfl, SqT.of ha, atI_nat (j := 0) rfl, ?_⟩
    refine ⟨_, rfl, rfl, _, rfl, ite2 (fun e => absurd (V.str.inj (of_decide_eq_true e)) (by decide +kernel)) (fun _ => ?_)⟩
    refine ⟨_, rfl, rfl, _, rfl, ite2 (fun e => absurd (V.str.inj (of_decide_eq_true e)) (by decide +kernel)) (fun _ => ?_)⟩
    refine ⟨_, rfl, rfl, _, rfl, ite2 (fun e => absurd (V.str.inj (of_decide_eq_true e)) (by decide +kernel)) (fun _ => ?_)⟩
    refine ⟨_, rfl, rfl, _, rfl, ite2 (fun e => absurd (V.str.inj (of_decide_eq_true e)) (by decide +kernel)) (fun _ => ?_)⟩
    refine ⟨_, rfl, rfl, _, rfl, ite2 (fun e => absurd (V.str.inj (of_decide_eq_true e)) (by decide +kernel)) (fun _ => ?_)⟩
    refine ⟨_, rfl, rfl, _, rfl, ite2 (fun e => absurd (V.str.inj (of_decide_eq_true e)) (by decide +kernel)) (fun _ => ?_)⟩
    refine ⟨_, rfl, a, _, 1, _, rfl, rfl, SqT.of ha, atI_nat (j := 1) rfl, _, rfl, t, us, rfl, .inl (SqL.of ht), _, _, rfl, rfl, _, rfl, ite2 (fun h1 => ?_) (fun h1 => ?_)⟩
    · have h2 : n < (us.length : Int) := of_decide_eq_true h1
      have hk : n.toNat < us.length := by
        have h3 : 0 ≤ n := hok
        omega
      obtain ⟨d, hd1, hd2⟩ := TDs.get hT _ _ (List.getElem?_eq_getElem hk)
      refine ⟨_, rfl, _, rfl, a, _, 1, _, rfl, rfl, SqT.of ha, atI_nat (j := 1) rfl, t, us, n, us[n.toNat], rfl, rfl, SqL.of ht, at_of hok (List.getElem?_eq_getElem hk), q _ _ (Same.refl _) ?_⟩
      show TD H us[n.toNat] (pairO tb[n.toNat]?)
      rw [List.getElem?_map] at hd1
      cases e : tb[n.toNat]? with
      | none =>
        rw [e] at hd1
        cases hd1
      | some p =>
        rw [e] at hd1
        have e2 : pairD p = d := Option.some.inj hd1
        rw [← e2] at hd2
        exact hd2
    · have h2 : ¬ n < (us.length : Int) := of_decide_eq_false (Bool.eq_false_iff.mpr h1)
      refine q _ _ (Same.refl _) ?_
      show TD H .non (pairO tb[n.toNat]?)
      have h3 : 0 ≤ n := hok
      rw [List.getElem?_eq_none (by omega)]
      exact .non
end
end RR

namespace RR
open PySem PySem.Spec PyProof.Rows L2
abbrev sChange : Stmt := topS 12
abbrev sChanged : Stmt := topS 16
/-! ### data that can be compared -/
/-! ### what data is like -/
/-! ### changes -/
inductive Chg where
  | put (k : Str) (r : List Int)
  | rem (k : Str)
def Chg.key : Chg → Str
  | .put k _ => k
  | .rem k => k
def Chg.own : Chg → List (Str × List Int)
  | .put k r => [(k, r)]
  | .rem _ => []
def Chg.Ok : Chg → Prop
  | .put k r => KeyOk k ∧ RowOk r
  | .rem k => KeyOk k
def chgD : Chg → PyData
  | .put k r => .tuple [.str "put", .str k, rowD r]
  | .rem k => .tuple [.str "remove", .str k]
def changed (tb : List (Str × List Int)) (ch : Chg) : List (Str × List Int) := below ch.key tb ++ ch.own ++ above ch.key tb
theorem Chg.key_ok {ch : Chg} (h : ch.Ok) : KeyOk ch.key := by
  cases ch with
  | put k r => exact h.1
  | rem k => exact h
theorem changed_ok {tb : List (Str × List Int)} {ch : Chg} (h : ∀ p ∈ tb, KeyOk p.1 ∧ RowOk p.2) (hc : ch.Ok) : ∀ p ∈ changed tb ch, KeyOk p.1 ∧ RowOk p.2 := by
  intro p hp
  rcases List.mem_append.mp hp with hp | hp
  · rcases List.mem_append.mp hp with hp | hp
    · exact h p (List.mem_filter.mp hp).1
    · cases ch with
      | put k r =>
        have e : p = (k, r) := by simpa [Chg.own] using hp
        rw [e]
        exact hc
      | rem k => cases hp
  · exact h p (List.mem_filter.mp hp).1
theorem changed_len (tb : List (Str × List Int)) (ch : Chg) : (changed tb ch).length ≤ tb.length + 1 := by
  have h := parts_len ch.key tb
  unfold changed
  rw [List.length_append, List.length_append]
  have h2 : ch.own.length ≤ 1 := by
    cases ch with
    | put k r => exact Nat.le_refl _
    | rem k => exact Nat.zero_le _
  omega
def spChangedT : Sp := fun vs H Q _ => ∃ (t : Addr) (c : V) (ch : Chg) (us : List V) (tb : List (Str × List Int)), vs = [.ref t, c] ∧ TD H c (chgD ch) ∧ H t = some (.lst us) ∧ TDs H us (tb.map pairD) ∧ tb.length ≤ 100 ∧
  ∀ p ws H', H p = none → Same H H' → H' p = some (.lst ws) → TDs H' ws ((changed tb ch).map pairD) → Q (.ref p) H'
def spChange : Sp := fun vs H Q _ => ∃ (st l t : Addr) (us : List V) (tb : List (Str × List Int)), vs = [.ref st, .ref t] ∧ Good st l H ∧ t ≠ st ∧ H t = some (.lst us) ∧ TDs H us (tb.map pairD) ∧ (∀ p ∈ tb, KeyOk p.1) ∧ tb.length ≤ 100 ∧
  ∀ c ch H', ch.Ok → TD H' c (chgD ch) → Le st H H' → Good st l H' → Q c H'
theorem scChange : FnScope ["state", "table"] ["state", "table"] (defScope sChange) := ⟨rfl, rfl, rfl, by decide +kernel, rfl, by decide +kernel, by decide +kernel⟩
theorem scChanged : FnScope ["table", "change", "made", "pair"] ["table", "change"] (defScope sChanged) := ⟨rfl, rfl, rfl, by decide +kernel, rfl, by decide +kernel, by decide +kernel⟩
section
variable {P : Program} {w : World} {K : PySem.W.Frag} {mg : Str → Option Value} {base : Heap}
end
/-! ### reading a change -/
theorem chg_key {K : PySem.W.Frag} {H : Hp} {c : V} {ch : Chg} (h : TD H c (chgD ch)) : ∃ a xs, c = .ref a ∧ H a = some (.tup xs) ∧ atI xs 1 = some (.str ch.key) ∧ atI xs 0 = some (.str (match ch with | .put _ _ => "put" | .rem _ => "remove")) ∧
    ∀ k r, ch = .put k r → ∃ v, atI xs 2 = some v ∧ TD H v (rowD r) := by
  cases ch with
  | put k r =>
    obtain ⟨a, xs, rfl, h1, h2⟩ := TD.un h
    obtain ⟨x0, y0, rfl, e0, h3⟩ := h2.un
    obtain ⟨x1, y1, rfl, e1, h4⟩ := h3.un
    obtain ⟨x2, y2, rfl, e2, h5⟩ := h4.un
    have e3 := h5.un0
    subst e3
    have q0 := e0.str_eq
    have q1 := e1.str_eq
    subst q0 q1
    refine ⟨a, _, rfl, h1, rfl, rfl, fun k' r' e => ⟨x2, rfl, ?_⟩⟩
    cases e
    exact e2
  | rem k =>
    obtain ⟨a, xs, rfl, h1, h2⟩ := TD.un h
    obtain ⟨x0, y0, rfl, e0, h3⟩ := h2.un
    obtain ⟨x1, y1, rfl, e1, h4⟩ := h3.un
    have e3 := h4.un0
    subst e3
    have q0 := e0.str_eq
    have q1 := e1.str_eq
    subst q0 q1
    exact ⟨a, _, rfl, h1, rfl, rfl, fun k' r' e => by cases e⟩
section
variable {P : Program} {w : World} {K : PySem.W.Frag} {mg : Str → Option Value} {base : Heap}
theorem ok_change (D : Def K mg "_law_change" sChange ["state", "table"]) (DD : Def K mg "_law_draw" sDraw ["state", "limit"]) (DS : Def K mg "_law_some_key" sSomeKey ["state", "table"]) (DR : Def K mg "_law_row" sRow ["state"])
    (GD : FnOk P w K mg base CX0 1 DD.f DD.fd ["state", "limit"] spDraw) (GS : FnOk P w K mg base CX0 3 DS.f DS.fd ["state", "table"] spSomeKey) (GR : FnOk P w K mg base CX0 2 DR.f DR.fd ["state"] spRow) : FnOk P w K mg base CX0 4 D.f D.fd ["state", "table"] spChange := by
  refine D.F.ok scChange (fun vs H Q E h => ?_) (fun cdv A outer s H vs Q E hr h => ?_)
  · obtain ⟨st, l, t, us, tb, rfl, _⟩ := h
    rfl
  obtain ⟨st, l, t, us, tb, rfl, g, nt, ht, hT, hk, hlen, q⟩ := h
  refine ⟨_, pss_cons (ps_if (pt_cmpR op_eq (pe_call GD (hr.mono (by decide)) (by rfl) DD.m DD.F.kp DD.b .nil pass0 (pa_cons (pv 0) (pa_cons pe_int pa_nil))) pe_int (nomark _))
      (pss_one (ps_ret (pe_tup (pa_cons pe_str (pa_cons (pe_call GS hr (by rfl) DS.m DS.F.kp DS.b .nil pass0 (pa_cons (pv 0) (pa_cons (pv 1) pa_nil))) pa_nil))))) pss_nil)
    (pss_one (ps_ret (pe_tup (pa_cons pe_str (pa_cons (pe_call GS hr (by rfl) DS.m DS.F.kp DS.b .nil pass0 (pa_cons (pv 0) (pa_cons (pv 1) pa_nil))) (pa_cons (pe_call GR (hr.mono (by decide)) (by rfl) DR.m DR.F.kp DR.b .nil pass0 (pa_cons (pv 0) pa_nil)) pa_nil)))))), ?_⟩
  refine ⟨_, rfl, st, l, 3, rfl, g, by decide, by decide, fun d H1 d0 d1 le1 g1 => ?_⟩
  have ht1 := le1 t _ nt ht
  have hT1 := TDs.mono (Tk.le g le1) _ _ hT
  refine ⟨rfl, _, rfl, ite2 (fun _ => ?_) (fun _ => ?_)⟩
  · refine ⟨_, rfl, _, rfl, st, l, t, us, tb, rfl, g1, nt, ht1, hT1, hk, hlen, fun k H2 hk2 le2 g2 => ?_⟩
    refine ⟨by show 2 ≤ sizeLine; decide, fun p hp => ?_⟩
    have s3 := same_new hp (.tup [.str "remove", .str k])
    exact q _ (.rem k) _ hk2 (.tup upd_same (.cons (.str _) (.cons (.str _) .nil))) ((le1.trans le2).trans (Le.of s3)) (g2.same s3)
  · refine ⟨_, rfl, _, rfl, st, l, t, us, tb, rfl, g1, nt, ht1, hT1, hk, hlen, fun k H2 hk2 le2 g2 => ?_⟩
    refine ⟨_, rfl, st, l, rfl, g2, fun r ns H3 hn le3 g3 hr3 => ?_⟩
    refine ⟨by show 3 ≤ sizeLine; decide, fun p hp => ?_⟩
    have s4 := same_new hp (.tup [.str "put", .str k, .ref r])
    exact q _ (.put k ns) _ ⟨hk2, hn⟩ (.tup upd_same (.cons (.str _) (.cons (.str _) (.cons (.tup (s4 _ _ hr3) (TDs.ints ns)) .nil)))) (((le1.trans le2).trans le3).trans (Le.of s4)) (g3.same s4)
theorem ok_changed (D : Def K mg "_law_changed" sChanged ["table", "change"]) : FnOk P w K mg base CX0 1 D.f D.fd ["table", "change"] spChangedT := by
  refine D.F.ok scChanged (fun vs H Q E h => ?_) (fun cdv A outer s H vs Q E hr h => ?_)
  · obtain ⟨t, c, ch, us, tb, rfl, _⟩ := h
    rfl
  obtain ⟨t, c, ch, us, tb, rfl, hc, ht, hT, hlen, q⟩ := h
  refine ⟨_, pss_cons (ps_setLc (i := 2) (own := [("pair", 3)]) (g := gName 3) (by rfl) scChanged.nd rfl rfl (sw_true rfl rfl rfl (by decide +kernel)) (pi_list (pv 0))
      (blkOk_by (own := [("pair", 3)]) (N := ["table", "change", "made", "pair"]) (sc := defScope sChanged) (by decide +kernel))
      (fun _ _ _ _ _ => pg_name (i := 3) scChanged.nd rfl (Or.inl rfl))
      (fun _ _ _ _ _ => pts_one (pt_cmpR op_lt_str (pe_ix (r := rIxT K) ix_tup (pv 3) pe_int (fun _ _ => rfl)) (pe_ix (r := rIxT K) ix_tup (pv 1) pe_int (fun _ _ => rfl)) (nomark _)))
      (fun _ _ _ _ _ => pv 3))
    (C8.pss_cut (ps_if (pt_cmpR op_eq (pe_ix ix_tup (pv 1) pe_int (fun _ _ => rfl)) pe_str (nomark _))
      (pss_one (ps_expr (pe_bm PySem.F.plainAttrs_list PySem.F.slot_list_append PySem.F.type_list_append mt_append (pv 2) (pa_cons (pe_tup (pa_cons (pe_ix ix_tup (pv 1) pe_int (fun _ _ => rfl)) (pa_cons (pe_ix ix_tup (pv 1) pe_int (fun _ _ => rfl)) pa_nil))) pa_nil)))) pss_nil)
    (pss_one (ps_ret (pe_op op_cat (pv 2) (pe_lc (own := [("pair", 3)]) (g := gName 3) (by rfl) scChanged.nd (pi_list (pv 0))
      (blkOk_by (own := [("pair", 3)]) (N := ["table", "change", "made", "pair"]) (sc := defScope sChanged) (by decide +kernel))
      (fun _ _ _ _ _ => pg_name (i := 3) scChanged.nd rfl (Or.inl rfl))
      (fun _ _ _ _ _ => pts_one (pt_cmpR op_gt_str (pe_ix (r := rIxT K) ix_tup (pv 3) pe_int (fun _ _ => rfl)) (pe_ix (r := rIxT K) ix_tup (pv 1) pe_int (fun _ _ => rfl)) (nomark _)))
      (fun _ _ _ _ _ => pv 3)))))), ?_⟩
  obtain ⟨a, xs, rfl, ha, h1, h0, h2⟩ := chg_key (K := K) hc
  have hl := hT.length
  rw [List.length_map] at hl
  refine ⟨_, rfl, t, rfl, ⟨_, SqL.of ht⟩, fun D hD => ?_⟩
  refine lc_filt (fun p => decide (p.1.cps.toList < ch.key.cps.toList)) ht hT hD (by omega) (fun v => rfl) (fun v => rfl) (fun p c r H' hp hc hr s Q hQ => ?_) (fun ws H1 s1 hw hW => ?_)
  · exact ⟨_, rfl, c, _, 0, _, rfl, rfl, SqT.of hc, atI_nat (j := 0) rfl, _, rfl, a, _, 1, _, rfl, rfl, SqT.of (s _ _ ha), h1, _, _, rfl, rfl, _, rfl, hQ⟩
  have hW : TDs H1 ws ((below ch.key tb).map pairD) := hW
  have lw := hW.length
  rw [List.length_map] at lw
  have pl := parts_len ch.key tb
  have pl2 : ch.own.length ≤ 1 := by
    cases ch with
    | put k r => exact Nat.le_refl _
    | rem k => exact Nat.zero_le _
  refine ⟨fun σ' H' => ∃ os, σ' = [some (.ref t), some (.ref a), some (.ref D), none] ∧ Same H H' ∧ H' D = some (.lst os) ∧ TDs H' os ((below ch.key tb ++ ch.own).map pairD), ?_, ?_⟩
  · refine ⟨_, rfl, a, _, 0, _, rfl, rfl, SqT.of (s1 _ _ ha), h0, rfl, _, rfl, ?_⟩
    cases ch with
    | put k r =>
      refine iteT ?_
      obtain ⟨v, hv, hr2⟩ := h2 k r rfl
      refine ⟨_, rfl, .inl ⟨rfl, _, SqL.of hw⟩, ?_⟩
      refine ⟨_, rfl, a, _, 1, _, rfl, rfl, SqT.of (s1 _ _ ha), h1, _, rfl, a, _, 2, v, rfl, rfl, SqT.of (s1 _ _ ha), hv, by show 2 ≤ sizeLine; decide, fun p hp => ?_⟩
      have s2 := same_new hp (.tup [.str (Chg.put k r).key, v])
      refine ⟨D, _, _, rfl, rfl, s2 _ _ hw, small1000 (by omega), ws ++ [.ref p], rfl, fun b o e => ?_, upd_same, ?_⟩
      · rw [upd_ne (ne_of_none e hD)]
        exact s2 _ _ (s1 _ _ e)
      · have tk : Tk (upd H1 p (.tup [.str (Chg.put k r).key, v])) (upd (upd H1 p (.tup [.str (Chg.put k r).key, v])) D (.lst (ws ++ [.ref p]))) := Tk.put _ fun xs e => by
          rw [s2 _ _ hw] at e
          cases e
        rw [List.map_append]
        refine TDs.app (TDs.mono ((Tk.same s2).trans tk) _ _ hW) (.cons ?_ .nil)
        exact .tup (tk _ _ upd_same) (.cons (.str _) (.cons (TD.mono ((Tk.same (s1.trans s2)).trans tk) _ _ hr2) .nil))
    | rem k =>
      refine iteF ?_
      refine ⟨ws, rfl, s1, hw, ?_⟩
      rw [show (Chg.rem k).own = [] from rfl, List.append_nil]
      exact hW
  · rintro σ' H2 ⟨os, rfl, s2, hD2, hos⟩
    have lo := hos.length
    rw [List.length_map, List.length_append] at lo
    refine ⟨_, rfl, _, rfl, t, rfl, ⟨_, SqL.of (s2 _ _ ht)⟩, fun D2 hD2n => ?_⟩
    refine lc_filt (fun p => decide (ch.key.cps.toList < p.1.cps.toList)) (s2 _ _ ht) (TDs.mono (Tk.same s2) _ _ hT) hD2n (by omega) (fun v => rfl) (fun v => rfl) (fun p c r H' hp hc hr s Q hQ => ?_) (fun ws3 H3 s3 hw3 hW3 => ?_)
    · exact ⟨_, rfl, c, _, 0, _, rfl, rfl, SqT.of hc, atI_nat (j := 0) rfl, _, rfl, a, _, 1, _, rfl, rfl, SqT.of (s _ _ (s2 _ _ ha)), h1, _, _, rfl, rfl, _, rfl, hQ⟩
    have hW3 : TDs H3 ws3 ((above ch.key tb).map pairD) := hW3
    have l3 := hW3.length
    rw [List.length_map] at l3
    refine ⟨D, D2, _, _, rfl, rfl, s3 _ _ hD2, hw3, small (by omega), fun p hp => ?_⟩
    have s4 := same_new hp (.lst (os ++ ws3))
    refine q p _ _ (s2.free (s3.free hp)) (s2.trans (s3.trans s4)) upd_same ?_
    unfold changed
    rw [List.map_append]
    exact TDs.app (TDs.mono (Tk.same (s3.trans s4)) _ _ hos) (TDs.mono (Tk.same s4) _ _ hW3)
end
end RR

namespace RX
open PySem PySem.Spec PyProof.Rows L2 PySem.Froz
/-! ### sets of texts -/
def keyS (e : Int × Value) : Str := match e.2 with
  | .str x _ => x
  | _ => ""
def TxE (w : World) (e : Int × Value) : Prop := ∃ k u, e = (hashStr w k, Value.str k u)
def Ledge (w : World) (t : SetTable) : Prop := w.params.followText "set-order" = true ∨ t.led = true
/-- what lies in the set: the texts l, none twice; its table rises and can be walked -/
structure TxD (w : World) (D : SD) (l : List Str) : Prop where
  el : ∀ e ∈ D.1.toList, TxE w e
  keys : (D.1.toList.map keyS).Perm l
  nd : l.Nodup
  fit : D.2.2.fits D.1.size = true
  ris : Ris D.2.2.place.toList
  led : Ledge w D.2.2
def SetTx (w : World) (h : Heap) (a : Addr) (l : List Str) : Prop := ∃ D : SD, h.get? a = some (sObj "set" D) ∧ TxD w D l
theorem SetTx.at {w : World} {h h' : Heap} {a : Addr} {l : List Str} (R : SetTx w h a l) (k : ∀ o, h.get? a = some o → h'.get? a = some o) : SetTx w h' a l := by
  obtain ⟨D, hD, x⟩ := R
  exact ⟨D, k _ hD, x⟩
theorem txE_is {P : Program} {w : World} {e : Int × Value} (h : TxE w e) (k : Str) : (strKind P w).is k e.2 = true ↔ keyS e = k := by
  obtain ⟨j, u, rfl⟩ := h
  show Value.isStrOf k (.str j u) = true ↔ j = k
  simp [Value.isStrOf]
theorem TxD.ok {P : Program} {w : World} {D : SD} {l : List Str} (x : TxD w D l) : TxOk P w D l where
  el := fun e he => by
    obtain ⟨k, u, rfl⟩ := x.el e he
    exact ⟨⟨k, is_str k u, rfl⟩, rfl⟩
  mem := fun k => by
    rw [← x.keys.mem_iff, List.mem_map]
    exact ⟨fun ⟨e, he, q⟩ => ⟨e, he, (txE_is (x.el e he) k).2 q⟩, fun ⟨e, he, q⟩ => ⟨e, he, (txE_is (x.el e he) k).1 q⟩⟩
  sz := by
    rw [← x.keys.length_eq, List.length_map, Array.length_toList]
  fit := x.fit
theorem TxD.perm {w : World} {es es' : Array (Int × Value)} {ep ep' : Nat} {t t' : SetTable} {l l' : List Str} (x : TxD w (es, ep, t) l) (p : es'.toList.Perm es.toList) (hf : t'.fits es'.size = true) (r : Ris t'.place.toList) (hl : Ledge w t') : TxD w (es', ep', t') l where
  el := fun e he => x.el e (p.mem_iff.mp he)
  keys := (p.map keyS).trans x.keys
  nd := x.nd
  fit := hf
  ris := r
  led := hl
theorem TxD.tail {w : World} {ep : Nat} {es : Array (Int × Value)} {t : SetTable} {wd : Bool} {l : List Str} (x : TxD w (es, ep, t) l) : TxD w (tailTx ep es t wd) l := by
  unfold tailTx
  by_cases c : (!wd && t.tooFull) = true
  · rw [if_pos c]
    refine x.perm (l' := l) (relayAll_perm t es _) (relayAll_fits t es _) (relayAll_ris t es _) (x.led.imp id fun z => ?_)
    rw [relayAll_led]
    exact z
  · rw [if_neg c]
    exact ⟨x.el, x.keys, x.nd, x.fit, x.ris, x.led⟩
theorem TxD.add {w : World} {D : SD} {l : List Str} {k : Str} (u : Tok) (x : TxD w D l) (hk : k ∉ l) : TxD w (addTx (hashStr w k) (.str k u) D) (k :: l) := by
  obtain ⟨es, ep, t⟩ := D
  have p := layNew_perm t es (hashStr w k) (.str k u)
  rw [Array.toList_push] at p
  have p2 := p.trans (List.perm_append_singleton _ _)
  have led1 : Ledge w (layNew t es (hashStr w k) (.str k u)).2.1 := x.led.imp id fun z => by
    rw [layNew_led]
    exact z
  have y : TxD w ((layNew t es (hashStr w k) (.str k u)).1, ep, (layNew t es (hashStr w k) (.str k u)).2.1) (k :: l) := by
    refine ⟨fun e he => ?_, (p2.map keyS).trans (x.keys.cons k), List.nodup_cons.mpr ⟨hk, x.nd⟩, layNew_fits t es _ _, layNew_ris t es _ _ x.ris, led1⟩
    rcases List.mem_cons.mp (p2.mem_iff.mp he) with z | z
    · exact ⟨k, u, z⟩
    · exact x.el e z
  show TxD w (tailTx ep (layNew t es (hashStr w k) (.str k u)).1 (if (layNew t es (hashStr w k) (.str k u)).2.1.plain = true then { (layNew t es (hashStr w k) (.str k u)).2.1 with plain := false } else (layNew t es (hashStr w k) (.str k u)).2.1) (layNew t es (hashStr w k) (.str k u)).2.2.1) (k :: l)
  refine TxD.tail ?_
  by_cases c : (layNew t es (hashStr w k) (.str k u)).2.1.plain = true
  · rw [if_pos c]
    exact ⟨y.el, y.keys, y.nd, SetTable.fits_plain_off y.fit, y.ris, y.led⟩
  · rw [if_neg c]
    exact y
/-- with one more -/
def ins (k : Str) (l : List Str) : List Str := if k ∈ l then l else k :: l
theorem mem_ins {k j : Str} {l : List Str} : j ∈ ins k l ↔ j = k ∨ j ∈ l := by
  unfold ins
  split
  · rename_i h
    exact ⟨.inr, fun z => z.elim (fun e => e ▸ h) id⟩
  · exact List.mem_cons
theorem ins_len (k : Str) (l : List Str) : (ins k l).length ≤ l.length + 1 := by
  unfold ins
  split
  · omega
  · exact Nat.le_refl _
section
variable {P : Program} {w : World} {A : Around} {E : Value → Shared → Prop} {s : Shared} {a : Addr} {l : List Str} {k : Str} {u : Tok}
theorem add_hashed {Q : Bool → Shared → Prop} (R : SetTx w s.heap a l) (hb : l.length + 1 < scanBound) (h : ∀ b h', Heap.SameBut a s.heap h' → SetTx w h' a (ins k l) → Q b { s with heap := h' }) :
    wpAny (model P w) A (setAddHashed a (.str k u) (hashStr w k)) Q E s := by
  obtain ⟨D, ho, x⟩ := R
  by_cases hk : k ∈ l
  · have e1 : ins k l = l := if_pos hk
    rw [e1] at h
    obtain ⟨es, ep, t⟩ := D
    have F : TxOk P w (es, ep, t) l := x.ok
    obtain ⟨e, he, q⟩ := (F.mem k).mp hk
    have hb0 : es.size < scanBound := by
      have z : es.size = l.length := F.sz
      omega
    unfold setAddHashed setAddHashedIn
    refine wpAny_holding (wpAny_bind (wpAny_setState_of ho rfl F.fit ?_))
    dsimp only
    rw [byScan_of (knd := strKind P w) rfl hb0 F.el]
    simp only [↓reduceIte]
    unfold setAddByScan
    refine wpAny_bind (wpAny_bind (wpAny_rule (wpAny_bind (wpAny_setScan_of (knd := strKind P w) (k := k) (is_str k u) ho rfl F.fit F.el ?_))))
    cases hr : List.findIdx? (fun e => (strKind P w).is k e.2) es.toList with
    | none =>
      have z := List.findIdx?_eq_none_iff.mp hr e he
      rw [q] at z
      cases z
    | some j =>
      exact wpAny_pure (wpAny_pure (h _ s.heap (Heap.SameBut.refl a s.heap) ⟨_, ho, x⟩))
  · have e1 : ins k l = k :: l := if_neg hk
    rw [e1] at h
    refine add_x (P := P) ho x.ok hk hb (h _ _ (Heap.SameBut.update s.heap a _) ⟨_, get_upd _ ho rfl, x.add u hk⟩)
theorem add_tx {Q : Value → Shared → Prop} (R : SetTx w s.heap a l) (hb : l.length + 1 < scanBound) (h : ∀ h', Heap.SameBut a s.heap h' → SetTx w h' a (ins k l) → Q .none { s with heap := h', toks := s.toks + 1 }) :
    wpAny (model P w) A (call (.builtin "set.add") [.ref a, .str k u]) Q E s := by
  have hT : s.TypeIs (.ref a) "set" := by
    obtain ⟨D, ho, _⟩ := R
    exact ⟨_, ho, rfl⟩
  refine wpAny_call_entry F.slot_set_add hT F.entry_set_add ?_ (F.args_set_add_2 _ _)
  unfold Builtin.«set.add» Builtin.Frozenset.oneOther
  simp only [List.isEmpty_nil, bind_assoc]
  unfold Builtin.Frozenset.addrOf setAdd
  refine wpAny_bind (wpAny_pure ?_)
  try dsimp only
  refine wpAny_bind (wpAny_pure ?_)
  try dsimp only
  refine wpAny_bind (wpAny_holding (wpAny_bind ((strKind P w).pyHash (is_str k u) ?_)))
  refine add_hashed (s := { s with toks := s.toks + 1 }) R hb fun b h' sb r => ?_
  exact wpAny_pure ⟨_, rfl, h h' sb r⟩
end
end RX

namespace RX
open PySem PySem.Spec PyProof.Rows L2 PySem.Froz
def valS (v : Value) : Str := match v with
  | .str x _ => x
  | _ => ""
theorem strs_val : ∀ {l : List Value}, (∀ v ∈ l, ∃ k u, v = Value.str k u) → StrsAre l (l.map valS)
  | [], _ => .nil
  | v :: l, h => by
    obtain ⟨k, u, rfl⟩ := h v List.mem_cons_self
    exact .cons k u (strs_val fun x hx => h x (List.mem_cons_of_mem _ hx))
section
variable {P : Program} {w : World} {A : Around} {E : Value → Shared → Prop} {s : Shared} {a : Addr} {l : List Str}
theorem sorted_tx {Q : Value → Shared → Prop} (R : SetTx w s.heap a l) (hh : A.handled = none) (h64 : l.length < 64)
    (hQ : ∀ s' p (out : Array Value) (c : Nat) (ys : List Str), (∀ b o, s.heap.get? b = some o → s'.heap.get? b = some o) → s'.gens = s.gens → s'.os = s.os → s.heap.objs.size ≤ p →
      s'.heap.get? p = some (seqObj "list" out c) → StrsAre out.toList ys → ys.Perm l → sortedS ys = true → Q (.ref p) s') : wpAny (model P w) A (call (.builtin "sorted") [.ref a]) Q E s := by
  obtain ⟨⟨es, ep, t⟩, ho, x⟩ := R
  have hsz : es.size = l.length := (x.ok (P := P)).sz
  refine Calls.call_function_entry kind_sorted plain_sorted entry_sorted (args_sorted1 _) ?_
  unfold Builtin.«sorted»
  refine wpAny_bind (m := checkCount "sorted" 1 1 _) (wpAny_pure ?_)
  refine wpAny_bind (collect_set (A := A.in1) hh ⟨_, ho, rfl, rfl⟩ x.fit (show es.size < scanBound by unfold scanBound; omega) x.ris x.led fun s1 vs k1 hz g1 o1 pm => ?_)
  have hS : StrsAre vs (vs.map valS) := strs_val fun v hv => by
    obtain ⟨e, he, q⟩ := List.mem_map.mp (pm.mem_iff.mp hv)
    obtain ⟨k, u, rfl⟩ := x.el e he
    exact ⟨k, u, q.symm⟩
  have pk : (vs.map valS).Perm l := by
    have q := pm.map valS
    rw [List.map_map] at q
    exact q.trans x.keys
  have hvl : vs.length = l.length := by
    have q := pk.length_eq
    rw [List.length_map] at q
    exact q
  refine wpAny_bind (wpAny_newList ?_ (by rw [hvl, sizeLine_eq]; omega))
  have hoL : (s1.heap.push (seqObj "list" vs.toArray 0)).get? s1.heap.objs.size = some (seqObj "list" vs.toArray 0) := Heap.get?_push_size _ rfl
  refine wpAny_bind (wpAny_holding (wpAny_call_entry slot_list_sort ⟨_, hoL, rfl⟩ entry_list_sort
    (list_sort_treeK strKind_oneLt (s := { s1 with heap := s1.heap.push (seqObj "list" vs.toArray 0) }) hoL hS.keysOf (fun v₁ v₂ rest e => keyKind_strs (by rw [← e]; exact hS)) (by rw [hvl]; exact h64) fun st' hp hs => ⟨_, rfl, ?_⟩) (args_list_sort _)))
  obtain ⟨ys, y1, y2, y3⟩ := sorted_out_str hS hp hs
  obtain ⟨c, hc⟩ := sortedHeap_at (vs := vs) (out := (arrOf st').map (·.2)) hoL
  refine wpAny_pure ⟨_, rfl, hQ _ s1.heap.objs.size ((arrOf st').map (·.2)) c ys (fun b u e => ?_) g1 o1 hz hc y1 (y2.trans pk) y3⟩
  have q := k1 b u e
  have hlt := Heap.lt_size q
  show (sortedHeap (s1.heap.push (seqObj "list" vs.toArray 0)) s1.heap.objs.size vs ((arrOf st').map (·.2))).get? b = some u
  rw [sortedHeap_old (Nat.ne_of_lt hlt) (by rw [size_push']; exact Nat.lt_succ_of_lt hlt)]
  exact Heap.get?_push_of_some _ q
end
/-! ### as things of one's own -/
def SetTxO (w : World) (a : Addr) (l : List Str) : HO := .ext fun h => SetTx w h a l
theorem setTxO_new {w : World} {P : Program} {H : Hp} {h : Heap} {a : Addr} {l : List Str} (R : SetTx w h a l) : ObjOk P w H h a (SetTxO w a l) := by
  have ⟨D, ho, _⟩ := R
  exact ⟨R, ⟨_, ho⟩, fun h1 h2 p k => SetTx.at p k⟩
theorem fresh_tx {w : World} {h : Heap} {a : Addr} (ho : h.get? a = some { cls := .type "set", dict := none, data := .set #[] 0 (.fresh 0 0 (!w.params.followText "set-order")) }) : SetTx w h a [] :=
  ⟨(#[], 0, .fresh 0 0 (!w.params.followText "set-order")), ho, (fun e he => by simp at he), (by simp), List.nodup_nil, by rfl, List.Pairwise.nil, by
    show _ ∨ (!w.params.followText "set-order") = true
    cases w.params.followText "set-order"
    · exact .inr rfl
    · exact .inl rfl⟩
section
variable {X : Cx}
theorem setTxO_get {pins : List (Addr × Obj)} {σ : L2.St} {H : Hp} {s : Shared} {a : Addr} {l : List Str} (I : Inv X pins σ H s) (ha : H a = some (SetTxO X.w a l)) : SetTx X.w s.heap a l := (I.hok a _ ha).1
/-- sorted(a set of texts) -/
def rSortTx (w : World) : List V → Hp → VK → Prop := fun vs H Q => ∃ (a : Addr) (l : List Str), vs = [V.ref a] ∧ H a = some (SetTxO w a l) ∧ l.length < 64 ∧ ∀ ys p, ys.Perm l → l.Nodup → sortedS ys = true → H p = none → Q (.ref p) (upd H p (.lst (ys.map V.str)))
theorem call_sortTx (hc : X.calm = true) : CallR X (.builtin "sorted") (rSortTx X.w) := by
  intro pins s σ H vs us Q I r h
  obtain ⟨a, l, rfl, ha, h64, q⟩ := h
  have R := setTxO_get I ha
  have nd : l.Nodup := by
    obtain ⟨D, _, x⟩ := R
    exact x.nd
  rw [Vals.ref1 r]
  refine sorted_tx R (I.ok.hd hc) h64 fun s' p out c ys k g o hp hg hS pm srt => ?_
  have hlen : (ys.map V.str).length ≤ sizeLine := by rw [List.length_map, pm.length_eq, sizeLine_eq]; omega
  have hn : H p = none := I.hok.fresh hp
  have J : Inv X pins σ (upd H p (.lst (ys.map V.str))) { s with heap := s'.heap, gens := s'.gens, drawn := s'.drawn, toks := s'.toks } :=
    I.call (ch := []) (Un.laid k hp hn) (I.hok.laid k hp ⟨hlen, out.toList, c, vals_of_strs hS, hg⟩) (by rw [g]; exact I.bare) (fun _ z => nomatch z)
  have e : s' = { s with heap := s'.heap, gens := s'.gens, drawn := s'.drawn, toks := s'.toks } := by
    cases s'
    cases s
    cases o
    rfl
  rw [e]
  exact ⟨.ref p, _, J, rfl, q ys p pm nd srt hn⟩
/-- set.add of a text -/
theorem addTx_ok {pins : List (Addr × Obj)} {σ : L2.St} {H : Hp} {s : Shared} {E : Value → Shared → Prop} {D : Addr} {l : List Str} {k : Str} {u : Tok} {Q : Value → Shared → Prop} (I : Inv X pins σ H s) (hD : H D = some (SetTxO X.w D l)) (room : l.length + 1 < scanBound)
    (h : ∀ s', Inv X pins σ (upd H D (SetTxO X.w D (ins k l))) s' → Q .none s') : wpAny (model X.prog X.w) X.A (call (.builtin "set.add") [.ref D, .str k u]) Q E s := by
  refine add_tx (setTxO_get I hD) room fun h' sb new => ?_
  have he : ∃ u, h'.get? D = some u := by
    have ⟨_, ho, _⟩ := new
    exact ⟨_, ho⟩
  exact h _ (I.write (e := D) (t' := s.toks + 1) (by rw [hD]; trivial) (.inl rfl) (fun b u hb hu => (sb.2 b hb).trans hu) he (setTxO_new new))
end
end RX

namespace RX
open PySem PySem.Spec PyProof.Rows L2 PySem.Froz
/-- the members are those of ks -/
def Mems (l ks : List Str) : Prop := ∀ k, k ∈ l ↔ k ∈ ks
theorem Mems.ins {l ks : List Str} (h : Mems l ks) (k : Str) : Mems (ins k l) (ks ++ [k]) := fun j => by
  rw [mem_ins, h j, List.mem_append, List.mem_singleton]
  exact Or.comm
section
variable {P : Program} {w : World} {A : Around} {E : Value → Shared → Prop} {s : Shared}
/-- set.update.loop over texts -/
theorem update_txts {I : Addr} {fp wr : List Addr} {G : Array GenState → Array GenState → Prop} {n : Nat} {Pv : Nat → Value → Prop} {St : Nat → Shared → Prop} {R : Result → Shared → Prop}
    (W : WalksS P w A.in1 I fp wr G n Pv St) (S : Addr) (hSf : S ∉ fp) (ks : List Str) (hn : n = ks.length) (hb : ks.length + 1 < scanBound) (hval : ∀ i v, Pv i v → ∃ k t, ks[i]? = some k ∧ v = .str k t) :
    ∀ (m i : Nat) (s : Shared), n - i = m → i ≤ n → St i s → (∃ l, l.length ≤ i ∧ Mems l (ks.take i) ∧ SetTx w s.heap S l) →
      (∀ s' l, Moved (S :: wr) G s s' → l.length ≤ n → Mems l ks → SetTx w s'.heap S l → R (.ok (.ret .none)) s') → codeAny (model P w) A (.builtin "set.update.loop" ⟨[.ref S, .ref I], []⟩) R s := by
  have away : S ∉ wr := fun h => hSf (W.sub _ h)
  have more : ∀ b ∈ wr, b ∈ S :: wr := fun b hb => List.mem_cons_of_mem _ hb
  intro m
  induction m with
  | zero =>
    intro i s hm0 hi hst ⟨l, hl, hm, hS⟩ hR
    obtain rfl : i = n := by omega
    refine codeAny_builtin F.entry_set_update_loop ?_
    rw [Around.under_plainId F.plain_set_update_loop _]
    refine wpAny_bind (W.done s _ _ hst fun s' mv => wpAny_pure (hR s' l (mv.mono more) hl ?_ (hS.at fun o e => mv.heap S o away e)))
    rw [List.take_of_length_le (by omega)] at hm
    exact hm
  | succ m ih =>
    intro i s hm0 hi hst ⟨l, hl, hm, hS⟩ hR
    have hlt : i < n := by omega
    refine codeAny_builtin F.entry_set_update_loop ?_
    rw [Around.under_plainId F.plain_set_update_loop _]
    refine wpAny_bind (W.item i s _ _ hlt hst fun v s' hP hst' mv => ?_)
    obtain ⟨z, t, hz, rfl⟩ := hval i v hP
    refine wpAny_bind (wpAny_holding ?_)
    unfold setAdd
    refine wpAny_holding (wpAny_bind ((strKind P w).pyHash (k := z) (is_str _ _) ?_))
    refine add_hashed (P := P) (s := { s' with toks := s'.toks + 1 }) (hS.at fun o e => mv.heap S o away e) (by omega) fun b h' sb hS2 => ?_
    have step : ∀ c o, c ≠ S → s'.heap.get? c = some o → h'.get? c = some o := fun c o nc e => (sb.2 c nc).trans e
    refine wpAny_pure ⟨plainId_quiet F.plain_set_update_loop _, ih (i + 1) _ (by omega) hlt (W.frame _ s' _ _ hst' (Nat.le_succ _) fun c hc o e => step c o (fun q => hSf (q ▸ hc)) e) ⟨ins z l, Nat.le_trans (ins_len z l) (by omega), ?_, hS2⟩ fun s'' l2 mv2 hl2 hm2 hS3 => ?_⟩
    · rw [List.take_add_one, hz]
      exact hm.ins z
    · exact hR s'' l2 (Moved.trans W.gtrans ((mv.mono more).then_heap (Nat.le_succ _) fun c o hc e => step c o (fun q => hc (by rw [q]; exact List.mem_cons_self)) e) mv2) hl2 hm2 hS3
end
end RX

namespace RX
open PySem PySem.Spec PyProof.Rows L2 PySem.Froz
section
variable {P : Program} {w : World} {A : Around} {E : Value → Shared → Prop} {s : Shared}
/-- set.__init__ of a list of texts, the set new at S -/
def Filled (w : World) (S : Addr) (ks : List Str) (s s' : Shared) : Prop := ∃ h' tk l, s' = { s with heap := h', toks := tk } ∧ SetTx w h' S l ∧ l.length ≤ ks.length ∧ Mems l ks ∧ ∀ b o, b ≠ S → s.heap.get? b = some o → h'.get? b = some o
set_option maxHeartbeats 3200000 in
theorem init_txts {S l : Addr} {items : Array Value} (ks : List Str) (hh : A.handled = none) (hl : s.heap.IsList l items) (hit : StrsAre items.toList ks) (hb : ks.length + 1 < scanBound)
    (hS : s.heap.get? S = some { cls := .type "set", dict := none, data := .set #[] 0 (.fresh 0 0 (!w.params.followText "set-order")) }) :
    codeAny (model P w) A (.call (.builtin "set.__init__") ⟨[.ref S, .ref l], []⟩) (wants (fun r s' => r = .none ∧ Filled w S ks s s') E) s := by
  have hT : s.TypeIs (.ref S) "set" := ⟨_, hS, rfl⟩
  have hisz : items.size = ks.length := by
    rw [← StrsAre.len_eq hit, Array.length_toList]
  have nlS : l ≠ S := fun e => by
    obtain ⟨o, ho, hc, _⟩ := hl
    rw [e, hS] at ho
    cases ho
    simp at hc
  refine codeAny_call_builtin F.called_set.init.plain F.entry_set_init (check_set_init_1 hT ?_)
  obtain ⟨ol, hol, hcl, nl, hdl⟩ := id hl
  obtain ⟨ocls, odict, odata, oslots⟩ := ol
  simp only at hcl hdl
  subst hcl; subst hdl
  have hsls := F.sub_list_set
  have hslf := F.sub_list_frozenset
  have hne : (Value.type "list" == Value.type "dict") = false := by decide
  unfold Builtin.«set.__init__» noKeywords Builtin.Frozenset.updateFrom
  generalize hPI : pyIter = PI
  wp_walk
  subst hPI
  refine wpAny_pyIter_list hl (wpAny_bind (wpAny_runValue ?_))
  have hh3 : A.in1.in1.handled = none := by simp [hh]
  have hneI : l ≠ s.heap.objs.size := Nat.ne_of_lt (Heap.lt_size hol)
  have hSlt : S < s.heap.objs.size := Heap.lt_size hS
  have hSf : S ∉ [s.heap.objs.size, l] := fun z => by
    rcases List.mem_cons.mp z with e | e
    · exact Nat.ne_of_lt hSlt e
    · exact nlS (List.mem_singleton.mp e).symm
  have hval : ∀ (i : Nat) (v : Value), items[i]? = some v → ∃ k t, ks[i]? = some k ∧ v = .str k t := fun i v hv => by
    have hi : i < ks.length := by rw [← hisz]; exact (Array.getElem?_eq_some_iff.mp hv).1
    obtain ⟨t, e⟩ := SS.strs_at hit i v (by rw [Array.getElem?_toList]; exact hv)
    refine ⟨ks[i], t, List.getElem?_eq_getElem hi, ?_⟩
    rw [e, List.getD_eq_getElem?_getD, List.getElem?_eq_getElem hi] <;> rfl
  refine update_txts (P := P) ((Walks.list hh3 _ l hneI items).toS) S hSf ks hisz hb hval (items.size - 0) 0 _ (by omega) (Nat.zero_le _) ?hst ?h0 ?hR
  case hst => exact ⟨⟨_, Heap.get?_push_size _ rfl, rfl, rfl⟩, (hl.push _)⟩
  case h0 => exact ⟨[], Nat.le_refl 0, fun k => by simp, fresh_tx (w := w) (Heap.get?_push_of_some _ hS)⟩
  intro s' l2 mv hl2 hm hS2
  obtain ⟨h', g2, d', tk', os'⟩ := s'
  have eg : g2 = s.gens := mv.gens
  have ed : d' = s.drawn := mv.drawn
  have eo : os' = s.os := mv.os
  subst eg; subst ed; subst eo
  rw [hisz] at hl2
  refine wpAny_pure (wpAny_pure ⟨rfl, h', tk', l2, rfl, hS2, hl2, hm, fun b o nb e => ?_⟩)
  have hb0 : b < s.heap.objs.size := Heap.lt_size e
  refine mv.heap b o (fun z => ?_) (Heap.get?_push_of_some _ e)
  rcases List.mem_cons.mp z with q | q
  · exact nb q
  · exact Nat.ne_of_lt hb0 (List.mem_singleton.mp q)
set_option maxHeartbeats 3200000 in
theorem call_txts {l : Addr} {items : Array Value} (ks : List Str) {Q : Value → Shared → Prop} (hh : A.handled = none) (hl : s.heap.IsList l items) (hit : StrsAre items.toList ks) (hb : ks.length + 1 < scanBound)
    (h : ∀ (h' : Heap) (tk : Nat) (l' : List Str), SetTx w h' s.heap.objs.size l' → l'.length ≤ ks.length → Mems l' ks → (∀ b o, s.heap.get? b = some o → h'.get? b = some o) → Q (.ref s.heap.objs.size) { s with heap := h', toks := tk }) :
    wpAny (model P w) A (call (.type "set") [.ref l]) Q E s := by
  obtain ⟨c, tl, hmro⟩ := F.called_set.mro
  have hmade := F.called_set.made
  have hsub := F.called_set.sub
  have h1 := F.called_set.notType
  have h2 := F.called_set.canCreate
  have hct := F.typeCall_set_1 (.ref l)
  have hli := F.called_set.init.lookup
  have hbi := F.called_set.init.bind (.ref s.heap.objs.size)
  refine wpAny_call (codeAny_of_tree (wpAny_pure ⟨Code.quiet_builtin _ (by decide +kernel), codeAny_builtin F.entry_type_call ?_⟩))
  rw [Around.under_plain (weight_type_call_type "set" [.ref l] []) rfl]
  repeat (any_goals (first | assumption | wp_step))
  refine codeAny_mono (code_set_led1 (.ref l) (E := E) (Q₁ := fun obj s1 => obj = .ref s.heap.objs.size ∧ s1 = { s with heap := s.heap.push { cls := .type "set", dict := none, data := .set #[] 0 (.fresh 0 0 (!w.params.followText "set-order")) } }) ⟨rfl, rfl⟩) fun r s1 hr => ?_
  rcases r with e | (_ | _ | _ | obj)
  · exact hr
  · exact hr.elim
  · exact hr.elim
  · exact hr.elim
  obtain ⟨rfl, rfl⟩ := hr
  have hS : (s.heap.push { cls := .type "set", dict := none, data := .set #[] 0 (.fresh 0 0 (!w.params.followText "set-order")) }).get? s.heap.objs.size = some { cls := .type "set", dict := none, data := .set #[] 0 (.fresh 0 0 (!w.params.followText "set-order")) } := Heap.get?_push_size _ rfl
  have hT : Shared.TypeIs { s with heap := s.heap.push { cls := .type "set", dict := none, data := .set #[] 0 (.fresh 0 0 (!w.params.followText "set-order")) } } (.ref s.heap.objs.size) "set" := ⟨_, hS, rfl⟩
  repeat (any_goals (first | assumption | wp_step))
  refine codeAny_mono (init_txts (P := P) (E := E) ks (by simp [hh]) (hl.push _) hit hb hS) fun r2 s2 hr2 => ?_
  rcases r2 with e | (_ | _ | _ | r)
  · exact hr2
  · exact hr2.elim
  · exact hr2.elim
  · exact hr2.elim
  obtain ⟨rfl, h', tk, l', rfl, hS2, hl2, hm, k⟩ := hr2
  repeat (any_goals (first | assumption | wp_step))
  exact h _ _ _ hS2 hl2 hm fun b o e => k b o (Nat.ne_of_lt (Heap.lt_size e)) (Heap.get?_push_of_some _ e)
end
section
variable {X : Cx}
/-- set(a list of texts) -/
def rSetTx (K : PySem.W.Frag) (w : World) : List V → Hp → VK → Prop := fun xs H Q => ∃ (p : Addr) (ks : List Str), xs = [V.ref p] ∧ SqL K H p (ks.map V.str) ∧ ks.length ≤ 1000 ∧ ∀ a l, H a = none → l.length ≤ ks.length → Mems l ks → Q (.ref a) (upd H a (SetTxO w a l))
theorem call_setTx (hc : X.calm = true) : CallR X (.type "set") (rSetTx X.K X.w) := by
  intro pins s σ H xs us Q I r h
  obtain ⟨p, ks, rfl, hl, hf, q⟩ := h
  rw [Vals.ref1 r]
  obtain ⟨its, rv, pl, hz⟩ := I.list hl
  refine call_txts (P := X.prog) (w := X.w) ks (I.ok.hd hc) pl.isList (by simpa using strsAre_of rv) (by unfold scanBound; omega) fun h' tk l R g m k => ?_
  exact ⟨.ref s.heap.objs.size, upd H s.heap.objs.size (SetTxO X.w s.heap.objs.size l), I.laid (t' := tk) k (Nat.le_refl _) (setTxO_new R), rfl, q _ l (I.hok.fresh (Nat.le_refl _)) g m⟩
end
end RX

namespace RX
open PySem PySem.Spec PyProof.Rows L2 PySem.Froz PpSet
/-! ### {elt for target in iter}, elt a text -/
/-- a turn's end -/
def ScEnd (w : World) (D : Addr) (Nx : Hp → Prop) : V → Hp → Prop := fun y H => ∃ (k : Str) (l : List Str), y = .str k ∧ H D = some (SetTxO w D l) ∧ l.length + 1 < scanBound ∧ Nx (upd H D (SetTxO w D (ins k l)))
def tScT (w : World) (wi : TI) (g : TG) (te : TE) (vs : List Nat) : TE := fun σ H Q => wi σ H fun J H1 => ∀ D, H1 D = none → ∃ W : Nat → Nat → Hp → Prop, (∃ m, W 0 m (upd H1 D (SetTxO w D []))) ∧ ∀ i m H, W i m H →
  (J.stop i H ∧ Q (.ref D) H) ∨ (J.go i H ∧ ∃ Nx : Hp → Prop, (∀ H', Nx H' → ∃ m', m' < m ∧ W (i + 1) m' H') ∧ ∀ x H', J.yld i H x H' → g x (wipe σ vs) H' fun σ2 H2 => wipe σ2 vs = wipe σ vs ∧ te σ2 H2 (ScEnd w D Nx))
section
variable {X : Cx}
theorem pe_scT {elt tg iter : Expr} {scope : Scope} {own : List (PySem.Str × Nat)} {pos : Pos} {wi : TI} {g : TG} {te : TE} (hc : X.calm = true) (hN : X.N.Nodup) (hi : PI X tg iter wi) (ok : BlkOk X.N X.env.scope scope own)
    (hg : ∀ (s : Shared) (H : Hp) (C : Addr) (cl : List (PySem.Str × Addr)) (fp : List Addr), PG (X.blk s H scope (compEnvC scope cl C X.env) fp) tg g)
    (he : ∀ (s : Shared) (H : Hp) (C : Addr) (cl : List (PySem.Str × Addr)) (fp : List Addr), PE (X.blk s H scope (compEnvC scope cl C X.env) fp) elt te) (hs : ∀ x, foldedSetIterable iter X.env x = pure x := by intro _; rfl) :
    PE X (.SetComp elt [⟨tg, iter, [], 0⟩] scope pos) (tScT X.w wi g te (own.map (·.2))) := by
  refine ⟨fun pins s σ H Q I h => ?_⟩
  rw [eval_SetComp]
  have hfree : ∀ y ∈ scope.names, y.2 = .free → ∃ c, X.env.cells.lookup y.1 = some c := fun y hy e => (ok.free y hy e).elim (fun k => I.ok.has _ (.inl k)) fun k => I.ok.has _ (.inr k)
  refine wpAny_comprehension_free rfl hs (closure_ok hfree) ok.kind (fun y hy e => by rw [ok.uniq y hy, e]) (thn (hi.run pins s σ H _ I h) fun xv s1 hx => thn hx fun itv s2 h2 => ?_)
  obtain ⟨it, fp, tn, J, H2, e, I2, T, st2, f2, q⟩ := h2
  subst e
  refine newSet_ok (newEnv_comp ?_)
  generalize hD : s2.heap.objs.size = D
  obtain ⟨W, ⟨m0, w0⟩, turn⟩ := q D (I2.hok.fresh (Nat.le_of_eq hD))
  generalize hs3 : ({ s2 with heap := s2.heap.push { cls := .type "set", dict := none, data := .set #[] 0 (.fresh 0 0 (!X.w.params.followText "set-order")) } } : Shared) = s3
  have h3 : s3.heap = s2.heap.push { cls := .type "set", dict := none, data := .set #[] 0 (.fresh 0 0 (!X.w.params.followText "set-order")) } := by rw [← hs3]
  have up3 : ∀ b o, s2.heap.get? b = some o → s3.heap.get? b = some o := fun b o e => by rw [h3]; exact Heap.get?_push_of_some _ e
  have I3 : Inv X pins σ (upd H2 D (SetTxO X.w D [])) s3 := by
    rw [← hs3]
    refine I2.laid (t' := s2.toks) (fun b o e => Heap.get?_push_of_some _ e) (Nat.le_of_eq hD) (setTxO_new (fresh_tx ?_))
    rw [← hD]
    exact Heap.get?_push_size _ rfl
  have f3 : ∀ b ∈ fp, FpOk X pins (upd H2 D (SetTxO X.w D [])) b ∧ b < s3.heap.objs.size := fun b hb => by
    obtain ⟨o, e, _⟩ := T.obj _ _ st2 b hb
    have lt := Heap.lt_size e
    refine ⟨⟨?_, (f2 b hb).2⟩, Heap.lt_size (up3 b o e)⟩
    rw [upd_ne (by rw [← hD]; exact Nat.ne_of_lt lt)]
    exact (f2 b hb).1
  have st3 : tn 0 s3.heap := T.keep _ _ _ st2 fun b _ o e => up3 b o e
  generalize hH3 : upd H2 D (SetTxO X.w D []) = H3 at I3 w0 f3
  have I4 := block_start I3 ok hN f3
  have pg := hg s3 H3 s3.heap.objs.size (cellsFrom (s3.heap.objs.size + 1) scope.names (cloFrom X.env.cells scope.names [])) fp
  have pe := he s3 H3 s3.heap.objs.size (cellsFrom (s3.heap.objs.size + 1) scope.names (cloFrom X.env.cells scope.names [])) fp
  have n3 : ∀ b ∈ fp, H3 b = none := fun b hb => (f3 b hb).1.1
  show codeAny _ _ (.compStart (.SetComp elt [⟨tg, iter, [], 0⟩] scope pos) 0 (.ref it) (.ref D) (compEnvC scope (cellsFrom (s3.heap.objs.size + 1) scope.names (cloFrom X.env.cells scope.names [])) s3.heap.objs.size X.env)) _ { s3 with heap := pushCells (s3.heap.push { cls := .type "dict", data := .dict #[] }) scope.names }
  generalize hce : compEnvC scope (cellsFrom (s3.heap.objs.size + 1) scope.names (cloFrom X.env.cells scope.names [])) s3.heap.objs.size X.env = ce at I4 pg pe ⊢
  have cL : ce.locals = s3.heap.objs.size := by subst hce; rfl
  generalize hs4 : ({ s3 with heap := pushCells (s3.heap.push { cls := .type "dict", data := .dict #[] }) scope.names } : Shared) = s4 at I4 ⊢
  have st4 : tn 0 s4.heap := T.keep _ _ _ st3 fun b _ o e => by rw [← hs4]; exact pushCells_keeps _ _ _ _ (Heap.get?_push_of_some _ e)
  have stat : ∀ {σ' : L2.St} {H' : Hp} {s' : Shared}, Inv (X.blk s3 H3 scope ce fp) [] σ' H' s' → (∀ b ∈ fp, H' b = none) → ∀ b ∈ fp, FpOk (X.blk s3 H3 scope ce fp) [] H' b := fun {σ' H' s'} I' hn b hb =>
    ⟨hn b hb, (I'.ok.exf b hb).1, I'.ok.exfs b hb, .inl hb, fun x c e => (I'.ok.exf b hb).2 x c e, fun p hp => absurd (show p ∈ ([] : List (Addr × Obj)) ++ [] from hp) (by simp)⟩
  have loop := compLoopS_any (prog := X.prog) (w := X.w) (A := X.A) (elt := elt) (target := tg) (iter := iter) (ifs := []) (scope := scope) (pos := pos) (it := .ref it) (acc := .ref D) (env := ce)
    (R := compPost (model X.prog X.w) X.A X.xe none (fun v s' => ∃ x H', Inv X pins σ H' s' ∧ RelV x v ∧ Q x H') (.ref D) s3.heap.objs.size)
    (fun n s' => ∃ i H', Inv (X.blk s3 H3 scope ce fp) [] (wipe σ (own.map (·.2))) H' s' ∧ tn i s'.heap ∧ (∀ b ∈ fp, H' b = none) ∧ W i n H') ?_ m0 (s := s4) ⟨0, H3, I4, st4, n3, w0⟩
  · exact codeAny_compStart_set loop (T.self X.A 0 _ _ _ st4 loop)
  rintro n s5 ⟨i, H5, I5, st5, n5, w5⟩
  rcases turn i n H5 w5 with ⟨stop, qq⟩ | ⟨go, Nx, hNx, step⟩
  · refine thnF (T.done (X.blk s3 H3 scope ce fp) rfl rfl rfl hc i [] s5 _ H5 (fun _ _ => False) I5 (stat I5 n5) st5 stop) fun r s6 ⟨hr, I6⟩ => ?_
    subst hr
    have I7 : Inv X pins σ H5 s6 := I3.call' (ch := fp) I6.os I6.base I6.hok I6.bare fun b hb => ⟨(f3 b hb).1.2.2.2.1, (f3 b hb).1.2.1, (f3 b hb).1.2.2.2.2.1, (f3 b hb).1.2.2.2.2.2⟩
    have nC : H5 ce.locals = none := I6.free
    obtain ⟨m, hn, _⟩ := I6.loc
    have hn2 : s6.heap.Ns ce.locals m := hn
    rw [cL] at nC hn2
    obtain ⟨g0, g1, g2, g3, g4, g5⟩ := I3.fpOk (Nat.le_refl _) nC
    exact ⟨m, hn2, fun h2 sb => ⟨.ref D, H5, I7.turned (t' := s6.toks) (fun b o hb e => (sb.2 b hb).trans e) g0 g1 g3 g4 g5, rfl, qq⟩⟩
  · refine thnF (T.item (X.blk s3 H3 scope ce fp) rfl rfl rfl hc i [] s5 _ H5 (fun _ _ => False) I5 (stat I5 n5) st5 go) fun r s6 ⟨u, hr, h6⟩ => ?_
    subst hr
    refine thnF h6 fun _ s7 ⟨x, H7, I7, r7, y7, st7, n7⟩ => ?_
    refine thnF (pg.run _ s7 _ H7 x u _ (I7.pinned (stat I7 n7) (T.obj _ _ st7)) r7 (step x H7 y7)) fun _ s8 ⟨σ8, H8, I8, hw8, q8⟩ => ?_
    refine wpAny_pure ?_
    simp only [if_true]
    refine thnF (pe.run _ s8 σ8 H8 _ I8 q8) fun z s10 ⟨yv, H10, I10, r10, k, l, ey, hD10, room, nx⟩ => ?_
    subst ey
    obtain ⟨tk, rfl⟩ := r10
    refine addTx_ok (X := X.blk s3 H3 scope ce fp) I10 hD10 room fun s11 I11 => ?_
    obtain ⟨m', hm, w'⟩ := hNx _ nx
    have pin : ∀ b ∈ fp, ∀ o, s7.heap.get? b = some o → s11.heap.get? b = some o ∧ (upd H10 D (SetTxO X.w D (ins k l))) b = none := fun b hb o e =>
      let z := I11.pin (b, o) (List.mem_append_right _ (List.mem_append_right _ (mem_pinsAt hb e)))
      ⟨z.1, z.2.1⟩
    refine ⟨m', hm, i + 1, _, (I11.unpinned (pins := [])).weak (by rw [← hw8, wipe_length]) (fun j v e => ?_), T.keep _ _ _ st7 fun b hb o e => (pin b hb o e).1, fun b hb => ?_, w'⟩
    · rw [← hw8] at e
      exact (wipe_some e).1
    · obtain ⟨o, e, _⟩ := T.obj _ _ st7 b hb
      exact (pin b hb o e).2
end
/-- over a list that the block leaves as it is -/
theorem scT_list {w : World} {K : PySem.W.Frag} {a : Addr} {xs : List V} {g : TG} {te : TE} {vs : List Nat} {σ : L2.St} {H1 : Hp} {D : Addr} {Qd : Hp → Prop} (Pv : Nat → Hp → Prop) (h0 : Pv 0 (upd H1 D (SetTxO w D []))) (hl : ∀ i H, i ≤ xs.length → Pv i H → SqL K H a xs)
    (hs : ∀ i x H, xs[i]? = some x → Pv i H → g x (wipe σ vs) H fun σ2 H2 => wipe σ2 vs = wipe σ vs ∧ te σ2 H2 (ScEnd w D (Pv (i + 1)))) (hd : ∀ H, Pv xs.length H → Qd H) :
    ∃ W : Nat → Nat → Hp → Prop, (∃ m, W 0 m (upd H1 D (SetTxO w D []))) ∧ ∀ i m H, W i m H →
      ((Itl K a).stop i H ∧ Qd H) ∨ ((Itl K a).go i H ∧ ∃ Nx : Hp → Prop, (∀ H', Nx H' → ∃ m', m' < m ∧ W (i + 1) m' H') ∧ ∀ x H', (Itl K a).yld i H x H' → g x (wipe σ vs) H' fun σ2 H2 => wipe σ2 vs = wipe σ vs ∧ te σ2 H2 (ScEnd w D Nx)) := by
  refine ⟨fun i m H => m = xs.length - i ∧ i ≤ xs.length ∧ Pv i H, ⟨xs.length, rfl, Nat.zero_le _, h0⟩, ?_⟩
  rintro i m H ⟨rfl, hi, p⟩
  have q := hl i H hi p
  by_cases hlt : i < xs.length
  · refine .inr ⟨⟨xs, xs[i], q, by simp [hlt]⟩, Pv (i + 1), fun H' p' => ⟨xs.length - (i + 1), by omega, rfl, hlt, p'⟩, fun x H' y => ?_⟩
    obtain ⟨e, y⟩ := y
    subst e
    exact hs i x _ (y xs q) p
  · have e : i = xs.length := by omega
    subst e
    exact .inl ⟨⟨xs, q, Nat.le_refl _⟩, hd H p⟩
end RX

namespace RR
open PySem PySem.Spec PyProof.Rows L2
open RX (Mems ins SetTxO rSortTx rSetTx)
abbrev sChanges : Stmt := topS 3
abbrev sJoinedRows : Stmt := topS 4
/-! ### what two tables share -/
def keysL (a b : Tab) : List Str := a.map (·.1) ++ b.map (·.1)
def chD (a b : Tab) (k : Str) : PyData := .tuple [.str k, optD (look a k), optD (look b k)]
def neq (a b : Tab) (k : Str) : Bool := !PyData.eqv (optD (look a k)) (optD (look b k))
def difD (a b : Tab) (ys : List Str) : List PyData := (ys.filter (neq a b)).map (chD a b)
theorem Sh.opt (n : Nat) (o : Option (List Int)) : Sh (n + 1) (optD o) := by
  cases o with
  | none => exact Sh.non
  | some r => exact Sh.row n r
theorem lt_uniq : ∀ {ys zs : List Str}, ys.Pairwise Lt → zs.Pairwise Lt → (∀ k, k ∈ ys ↔ k ∈ zs) → ys = zs
  | [], [], _, _, _ => rfl
  | [], z :: zs, _, _, h => absurd ((h z).mpr List.mem_cons_self) (by simp)
  | y :: ys, [], _, _, h => absurd ((h y).mp List.mem_cons_self) (by simp)
  | y :: ys, z :: zs, hy, hz, h => by
    obtain ⟨hy1, hy2⟩ := List.pairwise_cons.mp hy
    obtain ⟨hz1, hz2⟩ := List.pairwise_cons.mp hz
    have e : y = z := by
      rcases List.mem_cons.mp ((h y).mp List.mem_cons_self) with q | q
      · exact q
      · rcases List.mem_cons.mp ((h z).mpr List.mem_cons_self) with q2 | q2
        · exact q2.symm
        · exact absurd (Lt.trans (hz1 y q) (hy1 z q2)) Lt.irrefl
    subst e
    rw [lt_uniq hy2 hz2 fun k => ⟨fun hk => ?_, fun hk => ?_⟩]
    · rcases List.mem_cons.mp ((h k).mp (List.mem_cons_of_mem _ hk)) with q | q
      · exact absurd (hy1 k hk) (by rw [q]; exact Lt.irrefl)
      · exact q
    · rcases List.mem_cons.mp ((h k).mpr (List.mem_cons_of_mem _ hk)) with q | q
      · exact absurd (hz1 k hk) (by rw [q]; exact Lt.irrefl)
      · exact q
def spDif : Sp := fun vs H Q _ => ∃ (t t2 : Addr) (us us2 : List V) (a b : Tab), vs = [.ref t, .ref t2] ∧ H t = some (.lst us) ∧ TDs H us (a.map pairD) ∧ H t2 = some (.lst us2) ∧ TDs H us2 (b.map pairD) ∧ a.length ≤ 30 ∧ b.length ≤ 30 ∧ (∀ p ∈ a, p.2.length ≤ 1000) ∧ (∀ p ∈ b, p.2.length ≤ 1000) ∧ (a.map (·.1)).Pairwise Lt ∧ (b.map (·.1)).Pairwise Lt ∧
  ∀ p ws ys H', H p = none → Same H H' → ys.Pairwise Lt → Mems ys (keysL a b) → ys.length ≤ 60 → H' p = some (.lst ws) → TDs H' ws (difD a b ys) → Q (.ref p) H'
theorem scChanges : FnScope ["first", "second", "old_rows", "new_rows", "keys", "changes", "pair", "key", "old", "new"] ["first", "second"] (defScope sChanges) := ⟨rfl, rfl, rfl, by decide +kernel, rfl, by decide +kernel, by decide +kernel⟩
/-- a table's dict -/
def DictOf (H : Hp) (d : Addr) (a : Tab) : Prop := ∃ kvs : List (Key × V), H d = some (.dK kvs) ∧ kvs.map (·.1) = a.map (fun p => (Sum.inr p.1 : Key)) ∧ TDs H (kvs.map (·.2)) (a.map fun p => rowD p.2)
theorem DictOf.same {H H' : Hp} {d : Addr} {a : Tab} (h : DictOf H d a) (s : Same H H') : DictOf H' d a := by
  obtain ⟨kvs, h1, h2, h3⟩ := h
  exact ⟨kvs, s _ _ h1, h2, TDs.mono (Tk.same s) _ _ h3⟩
section
variable {P : Program} {w : World} {K : PySem.W.Frag} {mg : Str → Option Value} {base : Heap}
set_option maxHeartbeats 1000000 in
theorem ok_changes (D : Def K mg "changes_between" sChanges ["first", "second"]) (mdict : mg "dict" = none) (ms : mg "sorted" = none) : FnOk P w K mg base CX0 1 D.f D.fd ["first", "second"] spDif := by
  refine D.F.ok scChanges (fun vs H Q E h => ?_) (fun cdv A outer s H vs Q E hr h => ?_)
  · obtain ⟨t, t2, us, us2, a, b, rfl, _⟩ := h
    rfl
  obtain ⟨t, t2, us, us2, a, b, rfl, ht, hT, ht2, hT2, la, lb, _, _, pa, pb, q⟩ := h
  refine ⟨_, pss_cons (ps_set (i := 2) scChanges.nd rfl (.inr rfl) (pe_callTy (call_dictP rfl) (by rfl) mdict (by decide +kernel) (pa_cons (pv 0) pa_nil))) <|
    pss_cons (ps_set (i := 3) scChanges.nd rfl (.inr rfl) (pe_callTy (call_dictP rfl) (by rfl) mdict (by decide +kernel) (pa_cons (pv 1) pa_nil))) <|
    pss_cons (ps_set (i := 4) scChanges.nd rfl (.inl rfl) (pe_callB (RX.call_sortTx rfl) (by rfl) ms (by decide +kernel) (pa_cons (RX.pe_scT (own := [("pair", 6)]) (g := gName 6) (by rfl) scChanges.nd (pi_list (pe_op op_cat (pv 0) (pv 1)))
      (blkOk_by (own := [("pair", 6)]) (N := ["first", "second", "old_rows", "new_rows", "keys", "changes", "pair", "key", "old", "new"]) (sc := defScope sChanges) (by decide +kernel))
      (fun _ _ _ _ _ => pg_name (i := 6) scChanges.nd rfl (Or.inl rfl))
      (fun _ _ _ _ _ => pe_ix (r := rIxT K) ix_tup (pv 6) pe_int (fun _ _ => rfl))) pa_nil))) <|
    pss_cons (ps_setLc (i := 5) (own := [("key", 7)]) (g := gName 7) (by rfl) scChanges.nd rfl rfl (sw_true rfl rfl rfl (by decide +kernel)) (pi_list (pv 4))
      (blkOk_by (own := [("key", 7)]) (N := ["first", "second", "old_rows", "new_rows", "keys", "changes", "pair", "key", "old", "new"]) (sc := defScope sChanges) (by decide +kernel))
      (fun _ _ _ _ _ => pg_name (i := 7) scChanges.nd rfl (Or.inl rfl)) (fun _ _ _ _ _ => pts_nil)
      (fun _ _ _ _ _ => pe_tup (pa_cons (pv 7) (pa_cons (pe_dget1 (hu_of hr) (pv 2) (pv 7) ⟨rfl, rfl, rfl, rfl⟩) (pa_cons (pe_dget1 (hu_of hr) (pv 3) (pv 7) ⟨rfl, rfl, rfl, rfl⟩) pa_nil))))) <|
    pss_one (ps_ret (pe_lc (own := [("key", 7), ("old", 8), ("new", 9)]) (g := gTup K 3 (fun vs σ H Q => ∃ x ws, vs = x :: ws ∧ gName 7 x σ H fun σ H => ∃ x2 ws2, ws = x2 :: ws2 ∧ gName 8 x2 σ H fun σ H => ∃ x3 ws3, ws2 = x3 :: ws3 ∧ gName 9 x3 σ H fun σ H => ws3 = [] ∧ Q σ H)) (by rfl) scChanges.nd (pi_list (pv 5))
      (blkOk_by (own := [("key", 7), ("old", 8), ("new", 9)]) (N := ["first", "second", "old_rows", "new_rows", "keys", "changes", "pair", "key", "old", "new"]) (sc := defScope sChanges) (by decide +kernel))
      (fun _ _ _ _ _ => pg_tup (by rfl) (pgs_cons (pg_name (i := 7) scChanges.nd rfl (Or.inl rfl)) (pgs_cons (pg_name (i := 8) scChanges.nd rfl (Or.inl rfl)) (pgs_cons (pg_name (i := 9) scChanges.nd rfl (Or.inl rfl)) pgs_nil))))
      (fun _ _ _ _ _ => pts_one (pt_cmpR (r := rNeD K) (op_neD hr.units) (pv 8) (pv 9) (nomark _)))
      (fun _ _ _ _ _ => pe_tup (pa_cons (pv 7) (pa_cons (pv 8) (pa_cons (pv 9) pa_nil)))))), ?_⟩
  have lu := hT.length
  have lu2 := hT2.length
  rw [List.length_map] at lu lu2
  -- the dicts
  obtain ⟨ps, kvs, e1, h3, h4, h5⟩ := tab_pairs (K := K) hT
  have nd1 : (kvs.map (·.1)).Nodup := by
    rw [h4]
    exact keys_nodup pa
  refine ⟨_, rfl, t, ps, kvs, rfl, SqL.of (by rw [← e1]; exact ht), h3, fun d1 hd1 => ?_⟩
  have s1 := same_new hd1 (.dK (mergeK [] kvs))
  have o1 : DictOf (upd H d1 (.dK (mergeK [] kvs))) d1 a := ⟨kvs, by rw [upd_same, merge_app [] kvs nd1]; rfl, h4, TDs.mono (Tk.same s1) _ _ h5⟩
  generalize upd H d1 (.dK (mergeK [] kvs)) = H1 at s1 o1
  obtain ⟨ps2, kvs2, e2, h3b, h4b, h5b⟩ := tab_pairs (K := K) (TDs.mono (Tk.same s1) _ _ hT2)
  have nd2 : (kvs2.map (·.1)).Nodup := by
    rw [h4b]
    exact keys_nodup pb
  refine ⟨_, rfl, t2, ps2, kvs2, rfl, SqL.of (by rw [← e2]; exact s1 _ _ ht2), h3b, fun d2 hd2 => ?_⟩
  have s2 := same_new hd2 (.dK (mergeK [] kvs2))
  have o2 : DictOf (upd H1 d2 (.dK (mergeK [] kvs2))) d2 b := ⟨kvs2, by rw [upd_same, merge_app [] kvs2 nd2]; rfl, h4b, TDs.mono (Tk.same s2) _ _ h5b⟩
  have o1b := o1.same s2
  generalize upd H1 d2 (.dK (mergeK [] kvs2)) = H2 at s2 o2 o1b
  have s12 := s1.trans s2
  -- the keys
  have hTa := TDs.mono (Tk.same s12) _ _ hT
  have hTb := TDs.mono (Tk.same s12) _ _ hT2
  refine ⟨_, rfl, _, rfl, t, t2, us, us2, rfl, rfl, s12 _ _ ht, s12 _ _ ht2, small (by omega), fun c hc => ?_⟩
  have s3 := same_new hc (.lst (us ++ us2))
  have hc3 : upd H2 c (.lst (us ++ us2)) c = some (.lst (us ++ us2)) := upd_same
  have hT3 := TDs.app (TDs.mono (Tk.same s3) _ _ hTa) (TDs.mono (Tk.same s3) _ _ hTb)
  rw [← List.map_append] at hT3
  have o1c := o1b.same s3
  have o2c := o2.same s3
  generalize upd H2 c (.lst (us ++ us2)) = H3 at s3 hc3 hT3 o1c o2c
  have s13 := s12.trans s3
  refine ⟨c, rfl, ⟨_, SqL.of hc3⟩, fun S hS => ?_⟩
  have l3 : (us ++ us2).length = (a ++ b).length := by
    rw [List.length_append, List.length_append, lu, lu2]
  have lab : (a ++ b).length ≤ 60 := by
    rw [List.length_append]
    omega
  refine RX.scT_list (K := K) (a := c) (xs := us ++ us2) (fun i H' => Same H3 H' ∧ ∃ l, H' S = some (SetTxO w S l) ∧ l.length ≤ i ∧ Mems l (((a ++ b).take i).map (·.1))) ?_ ?_ ?_ ?_
  · exact ⟨same_new hS _, [], upd_same, Nat.le_refl 0, fun k => Iff.rfl⟩
  · rintro i H' _ ⟨sv, _⟩
    exact SqL.of (sv _ _ hc3)
  · rintro i x H' hx ⟨sv, l, hl, hll, hm⟩
    have hi : i < (us ++ us2).length := (List.getElem?_eq_some_iff.mp hx).1
    obtain ⟨d, hd1', hd2'⟩ := TDs.get hT3 i x hx
    rw [List.getElem?_map] at hd1'
    obtain ⟨p, hp, rfl⟩ : ∃ p, (a ++ b)[i]? = some p ∧ d = pairD p := by
      cases e : (a ++ b)[i]? with
      | none =>
        rw [e] at hd1'
        cases hd1'
      | some p =>
        rw [e] at hd1'
        exact ⟨p, rfl, (Option.some.inj hd1').symm⟩
    obtain ⟨pa', r, rfl, hpa, _⟩ := (TD.mono (Tk.same sv) _ _ hd2').pair
    refine ⟨rfl, _, rfl, pa', _, 0, _, rfl, rfl, SqT.of hpa, atI_nat (j := 0) rfl, ?_⟩
    refine ⟨p.1, l, rfl, hl, by unfold scanBound; omega, fun b' o e => ?_, ins p.1 l, upd_same, Nat.le_trans (RX.ins_len p.1 l) (by omega), ?_⟩
    · rw [upd_ne (ne_of_none e hS)]
      exact sv _ _ e
    · rw [List.take_add_one, hp, List.map_append]
      exact hm.ins p.1
  rintro H4 ⟨s4, l, hl, hll, hm⟩
  rw [l3] at hm hll
  rw [List.take_length, List.map_append] at hm
  have hm : Mems l (keysL a b) := hm
  refine ⟨S, l, rfl, hl, by omega, fun ys p6 pm nd srt hp6 => ?_⟩
  have hasc : ys.Pairwise Lt := asc srt (pm.nodup_iff.mpr nd)
  have hmy : Mems ys (keysL a b) := fun k => (pm.mem_iff).trans (hm k)
  have ly : ys.length ≤ 60 := by
    rw [pm.length_eq]
    omega
  have s6 := same_new hp6 (.lst (ys.map V.str))
  have hy : upd H4 p6 (.lst (ys.map V.str)) p6 = some (.lst (ys.map V.str)) := upd_same
  have o1d := (o1c.same s4).same s6
  have o2d := (o2c.same s4).same s6
  generalize upd H4 p6 (.lst (ys.map V.str)) = H5 at s6 hy o1d o2d
  have s15 := s13.trans (s4.trans s6)
  clear hTa hTb hT3 hc3 o1c o2c o1b o2 o1
  -- the changes
  refine ⟨_, rfl, p6, rfl, ⟨_, SqL.of hy⟩, fun C hC => ?_⟩
  refine lc_list (K := K) (a := p6) (xs := ys.map V.str) (fun i H' => Same H5 H' ∧ ∃ vs, H' C = some (.lst vs) ∧ TDs H' vs ((ys.take i).map (chD a b))) ?_ ?_ ?_ ?_
  · exact ⟨same_new hC _, [], upd_same, .nil⟩
  · rintro i H' _ ⟨sv, _⟩
    exact SqL.of (sv _ _ hy)
  · rintro i x H' hx ⟨sv, vs, hvs, hV⟩
    rw [List.getElem?_map] at hx
    obtain ⟨k, hk, rfl⟩ : ∃ k, ys[i]? = some k ∧ x = V.str k := by
      cases e : ys[i]? with
      | none =>
        rw [e] at hx
        cases hx
      | some k =>
        rw [e] at hx
        exact ⟨k, rfl, (Option.some.inj hx).symm⟩
    have hi : i < ys.length := (List.getElem?_eq_some_iff.mp hk).1
    obtain ⟨m1, hm1, g1, g2⟩ := o1d.same sv
    obtain ⟨m2, hm2, g3, g4⟩ := o2d.same sv
    have lv := hV.length
    rw [List.length_map, List.length_take] at lv
    refine ⟨rfl, _, rfl, ?_⟩
    refine ⟨_, rfl, d1, rfl, .inl ⟨_, .inl hm1⟩, _, rfl, _, DGet.k (k := Sum.inr k) hm1, ?_⟩
    refine ⟨_, rfl, d2, rfl, .inl ⟨_, .inl hm2⟩, _, rfl, _, DGet.k (k := Sum.inr k) hm2, ?_⟩
    refine ⟨by show 3 ≤ sizeLine; decide, fun z hz => ?_⟩
    have sz := same_new hz (.tup [.str k, (valV m1 (.inr k)).getD .non, (valV m2 (.inr k)).getD .non])
    have ez : upd H' z (.tup [.str k, (valV m1 (.inr k)).getD .non, (valV m2 (.inr k)).getD .non]) z = some (.tup [.str k, (valV m1 (.inr k)).getD .non, (valV m2 (.inr k)).getD .non]) := upd_same
    refine ⟨vs, sz _ _ hvs, small1000 (by omega), fun b' o e => ?_, vs ++ [.ref z], upd_same, ?_⟩
    · rw [upd_ne (ne_of_none e hC)]
      exact sz _ _ (sv _ _ e)
    · generalize upd H' z (.tup [.str k, (valV m1 (.inr k)).getD .non, (valV m2 (.inr k)).getD .non]) = Hz at sz ez
      have tk : Tk Hz (upd Hz C (.lst (vs ++ [.ref z]))) := Tk.put _ fun xs e => by
        rw [sz _ _ hvs] at e
        cases e
      have tk2 := (Tk.same sz).trans tk
      rw [List.take_add_one, hk, List.map_append]
      exact TDs.app (TDs.mono tk2 _ _ hV) (.cons (.tup (tk _ _ ez) (.cons (.str k) (.cons (TD.mono tk2 _ _ (val_look k g1 g2)) (.cons (TD.mono tk2 _ _ (val_look k g3 g4)) .nil)))) .nil)
  rintro H6 ⟨s7, vs, hvs, hV⟩
  rw [List.length_map, List.take_length] at hV
  have lv := hV.length
  rw [List.length_map] at lv
  have s16 := s15.trans s7
  -- those that differ
  refine ⟨_, rfl, C, rfl, ⟨_, SqL.of hvs⟩, fun C2 hC2 => ?_⟩
  refine lc_list (K := K) (a := C) (xs := vs) (fun i H' => Same H6 H' ∧ ∃ ws, H' C2 = some (.lst ws) ∧ TDs H' ws (difD a b (ys.take i))) ?_ ?_ ?_ ?_
  · exact ⟨same_new hC2 _, [], upd_same, .nil⟩
  · rintro i H' _ ⟨sv, _⟩
    exact SqL.of (sv _ _ hvs)
  · rintro i x H' hx ⟨sv, ws, hws, hW⟩
    obtain ⟨d, hd1', hd2'⟩ := TDs.get hV i x hx
    rw [List.getElem?_map] at hd1'
    obtain ⟨k, hk, rfl⟩ : ∃ k, ys[i]? = some k ∧ d = chD a b k := by
      cases e : ys[i]? with
      | none =>
        rw [e] at hd1'
        cases hd1'
      | some k =>
        rw [e] at hd1'
        exact ⟨k, rfl, (Option.some.inj hd1').symm⟩
    have hi : i < ys.length := (List.getElem?_eq_some_iff.mp hk).1
    obtain ⟨z, zs, rfl, hz, hzs⟩ := TD.un (TD.mono (Tk.same sv) _ _ hd2')
    obtain ⟨x0, y0, rfl, e0, hz1⟩ := hzs.un
    obtain ⟨x1, y1, rfl, hx1, hz2⟩ := hz1.un
    obtain ⟨x2, y2, rfl, hx2, hz3⟩ := hz2.un
    have e3 := hz3.un0
    subst e3
    have q0 := e0.str_eq
    subst q0
    have lw := hW.length
    have lf : (difD a b (ys.take i)).length ≤ i := by
      unfold difD
      rw [List.length_map]
      refine Nat.le_trans (List.length_filter_le _ _) ?_
      rw [List.length_take]
      omega
    have etake : difD a b (ys.take (i + 1)) = difD a b (ys.take i) ++ (if neq a b k = true then [chD a b k] else []) := by
      unfold difD
      rw [List.take_add_one, hk, List.filter_append, List.map_append]
      congr 1
      show List.map (chD a b) (List.filter (neq a b) [k]) = _
      rw [List.filter_cons, List.filter_nil]
      split <;> rfl
    refine ⟨z, _, rfl, SqT.of hz, rfl, _, _, rfl, _, _, rfl, _, _, rfl, rfl, rfl, ?_⟩
    refine ⟨_, rfl, _, rfl, _, _, TD.dp _ _ hx1, TD.dp _ _ hx2, (Sh.opt 0 _).ok (by decide), (Sh.opt 0 _).ok (by decide), _, rfl, ?_⟩
    show if neq a b k = true then _ else _
    cases hq : neq a b k with
    | true =>
      refine iteT ?_
      refine ⟨_, rfl, _, rfl, _, rfl, by show 3 ≤ sizeLine; decide, fun y hy2 => ?_⟩
      have sy := same_new hy2 (.tup [.str k, x1, x2])
      have ey : upd H' y (.tup [.str k, x1, x2]) y = some (.tup [.str k, x1, x2]) := upd_same
      refine ⟨ws, sy _ _ hws, small1000 (by omega), fun b' o e => ?_, ws ++ [.ref y], upd_same, ?_⟩
      · rw [upd_ne (ne_of_none e hC2)]
        exact sy _ _ (sv _ _ e)
      · generalize upd H' y (.tup [.str k, x1, x2]) = Hy at sy ey
        have tk : Tk Hy (upd Hy C2 (.lst (ws ++ [.ref y]))) := Tk.put _ fun xs e => by
          rw [sy _ _ hws] at e
          cases e
        have tk2 := (Tk.same sy).trans tk
        rw [etake, hq, if_pos rfl]
        exact TDs.app (TDs.mono tk2 _ _ hW) (.cons (.tup (tk _ _ ey) (.cons (.str k) (.cons (TD.mono tk2 _ _ hx1) (.cons (TD.mono tk2 _ _ hx2) .nil)))) .nil)
    | false =>
      refine iteF ?_
      refine ⟨sv, ws, hws, ?_⟩
      rw [etake, hq, if_neg Bool.false_ne_true, List.append_nil]
      exact hW
  rintro H7 ⟨s8, ws, hws, hW⟩
  rw [lv, List.take_length] at hW
  exact q C2 ws ys H7 (s16.free hC2) (s16.trans s8) hasc hmy ly hws hW
end
end RR

namespace RR
open PySem PySem.Spec PyProof.Rows L2
theorem val_opt {H : Hp} (k : Str) : ∀ {tb : Tab} {kvs : List (Key × V)}, kvs.map (·.1) = tb.map (fun p => (Sum.inr p.1 : Key)) → TDs H (kvs.map (·.2)) (tb.map fun p => rowD p.2) →
    (look tb k = none ∧ valV kvs (.inr k) = none) ∨ ∃ r v, look tb k = some r ∧ valV kvs (.inr k) = some v ∧ TD H v (rowD r)
  | [], [], _, _ => .inl ⟨rfl, rfl⟩
  | [], _ :: _, h, _ => by cases h
  | _ :: _, [], h, _ => by cases h
  | p :: tb, kv :: kvs, h, h2 => by
    rw [List.map_cons, List.map_cons] at h
    have e1 := (List.cons.inj h).1
    have e2 := (List.cons.inj h).2
    rw [List.map_cons, List.map_cons] at h2
    obtain ⟨v, ws, e3, h3, h4⟩ := h2.un
    have e4 := (List.cons.inj e3).1
    have e5 := (List.cons.inj e3).2
    rw [← e5] at h4
    by_cases hk : p.1 = k
    · refine .inr ⟨p.2, kv.2, ?_, valV_pos (by rw [e1, hk]), by rw [e4]; exact h3⟩
      unfold look
      rw [List.find?_cons, decide_eq_true hk]
      rfl
    · have hv : valV (kv :: kvs) (.inr k) = valV kvs (.inr k) := valV_neg (by rw [e1]; exact fun e => hk (Sum.inr.inj e))
      have hl : look (p :: tb) k = look tb k := by
        unfold look
        rw [List.find?_cons, decide_eq_false hk]
      rw [hv, hl]
      exact val_opt k e2 h4
/-- the joined rows -/
def jo (b : Tab) (p : Str × List Int) : List PyData := match look b p.1 with
  | some r => [.tuple [.str p.1, rowD p.2, rowD r]]
  | none => []
def joinD (b tb : Tab) : List PyData := (tb.map (jo b)).flatten
theorem joinD_len (b : Tab) : ∀ tb : Tab, (joinD b tb).length ≤ tb.length
  | [] => Nat.le_refl 0
  | p :: tb => by
    have ih := joinD_len b tb
    have h : (jo b p).length ≤ 1 := by
      unfold jo
      split
      · exact Nat.le_refl 1
      · exact Nat.zero_le 1
    show (jo b p ++ joinD b tb).length ≤ tb.length + 1
    rw [List.length_append]
    omega
theorem joinD_take {b tb : Tab} {i : Nat} {p : Str × List Int} (h : tb[i]? = some p) : joinD b (tb.take (i + 1)) = joinD b (tb.take i) ++ jo b p := by
  unfold joinD
  rw [List.take_add_one, h, List.map_append, List.flatten_append]
  congr 1
  show (List.map (jo b) [p]).flatten = _
  simp
def spJoin : Sp := fun vs H Q _ => ∃ (t t2 : Addr) (lo hi : Str) (us us2 : List V) (a b : Tab), vs = [.ref t, .ref t2, .str lo, .str hi] ∧ H t = some (.lst us) ∧ TDs H us (a.map pairD) ∧ H t2 = some (.lst us2) ∧ TDs H us2 (b.map pairD) ∧ a.length ≤ 100 ∧ b.length ≤ 100 ∧ (∀ p ∈ b, p.2.length ≤ 1000) ∧ (b.map (·.1)).Pairwise Lt ∧
  ∀ p ws H', H p = none → Same H H' → H' p = some (.lst ws) → TDs H' ws (joinD b (within lo hi a)) → Q (.ref p) H'
theorem scJoinedRows : FnScope ["first", "second", "low", "high", "second_rows", "key", "row"] ["first", "second", "low", "high"] (defScope sJoinedRows) := ⟨rfl, rfl, rfl, by decide +kernel, rfl, by decide +kernel, by decide +kernel⟩
theorem within_len (lo hi : Str) (tb : Tab) : (within lo hi tb).length ≤ tb.length := List.length_filter_le _ _
section
variable {P : Program} {w : World} {K : PySem.W.Frag} {mg : Str → Option Value} {base : Heap}
theorem ok_joined_rows (D : Def K mg "joined_rows" sJoinedRows ["first", "second", "low", "high"]) (DW : Def K mg "pairs_in_range" sPairsIn ["table", "low", "high"]) (mdict : mg "dict" = none)
    (GW : FnOk P w K mg base CX0 2 DW.f DW.fd ["table", "low", "high"] spWithin) : FnOk P w K mg base CX0 3 D.f D.fd ["first", "second", "low", "high"] spJoin := by
  refine D.F.ok scJoinedRows (fun vs H Q E h => ?_) (fun cdv A outer s H vs Q E hr h => ?_)
  · obtain ⟨t, t2, lo, hi, us, us2, a, b, rfl, _⟩ := h
    rfl
  obtain ⟨t, t2, lo, hi, us, us2, a, b, rfl, ht, hT, ht2, hT2, la, lb, _, pb, q⟩ := h
  refine ⟨_, pss_cons (ps_set (i := 4) scJoinedRows.nd rfl (.inr rfl) (pe_callTy (call_dictP rfl) (by rfl) mdict (by decide +kernel) (pa_cons (pv 1) pa_nil))) <|
    pss_one (ps_ret (pe_lc (own := [("key", 5), ("row", 6)]) (g := gTup K 2 (fun vs σ H Q => ∃ x ws, vs = x :: ws ∧ gName 5 x σ H fun σ H => ∃ x2 ws2, ws = x2 :: ws2 ∧ gName 6 x2 σ H fun σ H => ws2 = [] ∧ Q σ H)) (by rfl) scJoinedRows.nd
      (pi_list (pe_call GW hr (by rfl) DW.m DW.F.kp DW.b .nil pass0 (pa_cons (pv 0) (pa_cons (pv 2) (pa_cons (pv 3) pa_nil)))))
      (blkOk_by (own := [("key", 5), ("row", 6)]) (N := ["first", "second", "low", "high", "second_rows", "key", "row"]) (sc := defScope sJoinedRows) (by decide +kernel))
      (fun _ _ _ _ _ => pg_tup (by rfl) (pgs_cons (pg_name (i := 5) scJoinedRows.nd rfl (Or.inl rfl)) (pgs_cons (pg_name (i := 6) scJoinedRows.nd rfl (Or.inl rfl)) pgs_nil)))
      (fun _ _ _ _ _ => pts_one (pt_cmp (pc_din (hu_of hr) (pv 5) (pv 4))))
      (fun _ _ _ _ _ => pe_tup (pa_cons (pv 5) (pa_cons (pv 6) (pa_cons (pe_dget (hu_of hr) (pv 4) (pv 5) (fun _ _ => rfl)) pa_nil)))))), ?_⟩
  obtain ⟨ps2, kvs2, e2, h3b, h4b, h5b⟩ := tab_pairs (K := K) hT2
  have nd2 : (kvs2.map (·.1)).Nodup := by
    rw [h4b]
    exact keys_nodup pb
  refine ⟨_, rfl, t2, ps2, kvs2, rfl, SqL.of (by rw [← e2]; exact ht2), h3b, fun d2 hd2 => ?_⟩
  have s1 := same_new hd2 (.dK (mergeK [] kvs2))
  have o1 : DictOf (upd H d2 (.dK (mergeK [] kvs2))) d2 b := ⟨kvs2, by rw [upd_same, merge_app [] kvs2 nd2]; rfl, h4b, TDs.mono (Tk.same s1) _ _ h5b⟩
  generalize upd H d2 (.dK (mergeK [] kvs2)) = H1 at s1 o1
  refine ⟨_, rfl, _, rfl, _, rfl, t, lo, hi, us, a, rfl, s1 _ _ ht, TDs.mono (Tk.same s1) _ _ hT, by omega, fun c ws H2 hc s2 hw hW => ?_⟩
  have o2 := o1.same s2
  have s12 := s1.trans s2
  have lw := hW.length
  rw [List.length_map] at lw
  have lwi := within_len lo hi a
  refine ⟨c, rfl, ⟨_, SqL.of hw⟩, fun C hC => ?_⟩
  refine lc_list (K := K) (a := c) (xs := ws) (fun i H' => Same H2 H' ∧ ∃ vs, H' C = some (.lst vs) ∧ TDs H' vs (joinD b ((within lo hi a).take i))) ?_ ?_ ?_ ?_
  · exact ⟨same_new hC _, [], upd_same, .nil⟩
  · rintro i H' _ ⟨sv, _⟩
    exact SqL.of (sv _ _ hw)
  · rintro i x H' hx ⟨sv, vs, hvs, hV⟩
    obtain ⟨d, hd1', hd2'⟩ := TDs.get hW i x hx
    rw [List.getElem?_map] at hd1'
    obtain ⟨p, hp, rfl⟩ : ∃ p, (within lo hi a)[i]? = some p ∧ d = pairD p := by
      cases e : (within lo hi a)[i]? with
      | none =>
        rw [e] at hd1'
        cases hd1'
      | some p =>
        rw [e] at hd1'
        exact ⟨p, rfl, (Option.some.inj hd1').symm⟩
    obtain ⟨z, r, rfl, hz, hr2⟩ := (TD.mono (Tk.same sv) _ _ hd2').pair
    have etake := joinD_take (b := b) hp
    have lv := hV.length
    have lj := joinD_len b ((within lo hi a).take i)
    rw [List.length_take] at lj
    obtain ⟨m, hm, g1, g2⟩ := o2.same sv
    refine ⟨z, _, rfl, SqT.of hz, rfl, _, _, rfl, _, _, rfl, rfl, rfl, ?_⟩
    refine ⟨_, rfl, _, rfl, d2, _, rfl, DGet.k (k := Sum.inr p.1) hm, _, rfl, ?_⟩
    rcases val_opt p.1 g1 g2 with ⟨e1, e3⟩ | ⟨rr, v, e1, e3, hv⟩
    · rw [e3]
      refine iteF ?_
      refine ⟨sv, vs, hvs, ?_⟩
      rw [etake]
      unfold jo
      rw [e1, List.append_nil]
      exact hV
    · rw [e3]
      refine iteT ?_
      refine ⟨_, rfl, _, rfl, _, rfl, _, rfl, d2, v, rfl, (by rw [← e3]; exact DGet.k (k := Sum.inr p.1) hm), by show 3 ≤ sizeLine; decide, fun y hy2 => ?_⟩
      have sy := same_new hy2 (.tup [.str p.1, r, v])
      have ey : upd H' y (.tup [.str p.1, r, v]) y = some (.tup [.str p.1, r, v]) := upd_same
      refine ⟨vs, sy _ _ hvs, small1000 (by omega), fun b' o e => ?_, vs ++ [.ref y], upd_same, ?_⟩
      · rw [upd_ne (ne_of_none e hC)]
        exact sy _ _ (sv _ _ e)
      · generalize upd H' y (.tup [.str p.1, r, v]) = Hy at sy ey
        have tk : Tk Hy (upd Hy C (.lst (vs ++ [.ref y]))) := Tk.put _ fun xs e => by
          rw [sy _ _ hvs] at e
          cases e
        have tk2 := (Tk.same sy).trans tk
        rw [etake]
        unfold jo
        rw [e1]
        exact TDs.app (TDs.mono tk2 _ _ hV) (.cons (.tup (tk _ _ ey) (.cons (.str _) (.cons (TD.mono tk2 _ _ hr2) (.cons (TD.mono tk2 _ _ hv) .nil)))) .nil)
  rintro H3 ⟨s3, vs, hvs, hV⟩
  rw [lw, List.take_length] at hV
  exact q C vs H3 (s12.free hC) (s12.trans s3) hvs hV
end
end RR

namespace RR
open PySem PySem.Spec PyProof.Rows L2
open RX (Mems ins SetTxO rSortTx rSetTx)
abbrev sDiffs : Stmt := topS 17
abbrev sLJoined : Stmt := topS 18
theorem scDiffs : FnScope ["first", "second", "keys", "found", "key", "one", "two", "pair"] ["first", "second"] (defScope sDiffs) := ⟨rfl, rfl, rfl, by decide +kernel, rfl, by decide +kernel, by decide +kernel⟩
theorem scLJoined : FnScope ["first", "second", "low", "high", "found", "pair", "other"] ["first", "second", "low", "high"] (defScope sLJoined) := ⟨rfl, rfl, rfl, by decide +kernel, rfl, by decide +kernel, by decide +kernel⟩
/-- [pair[0] for pair in t] -/
theorem lc_keys {K : PySem.W.Frag} {a D : Addr} {vs : List V} {tb : Tab} {i : Nat} {te : TE} {ws : List Nat} {σ : L2.St} {H1 : Hp} {Qd : Hp → Prop}
    (hS : H1 a = some (.lst vs)) (hT : TDs H1 vs (tb.map pairD)) (hD : H1 D = none) (hlen : tb.length ≤ 1000)
    (hw : ∀ v, wipe ((wipe σ ws).set i (some v)) ws = wipe σ ws)
    (ht : ∀ (p : Str × List Int) (c : Addr) (r : V) (H' : Hp), H' c = some (.tup [.str p.1, r]) → ∀ Q : VK, Q (.str p.1) H' → te ((wipe σ ws).set i (some (.ref c))) H' Q)
    (hd : ∀ H', Same H1 H' → H' D = some (.lst ((tb.map (·.1)).map V.str)) → Qd H') :
    ∃ W : Nat → Nat → Hp → Prop, (∃ m, W 0 m (upd H1 D (.lst []))) ∧ ∀ j m H, W j m H →
      ((Itl K a).stop j H ∧ Qd H) ∨ ((Itl K a).go j H ∧ ∃ Nx : Hp → Prop, (∀ H', Nx H' → ∃ m', m' < m ∧ W (j + 1) m' H') ∧ ∀ x H', (Itl K a).yld j H x H' → gName i x (wipe σ ws) H' fun σ2 H2 => wipe σ2 ws = wipe σ ws ∧ tYes σ2 H2 fun b H3 =>
        if b = true then te σ2 H3 fun y H4 => ∃ acc, H4 D = some (.lst acc) ∧ acc.length < sizeLine ∧ Nx (upd H4 D (.lst (acc ++ [y]))) else Nx H3) := by
  have hl := hT.length
  rw [List.length_map] at hl
  refine lc_list (K := K) (a := a) (xs := vs) (fun j H' => Same H1 H' ∧ H' D = some (.lst (((tb.take j).map (·.1)).map V.str))) ?_ ?_ ?_ ?_
  · exact ⟨same_new hD _, upd_same⟩
  · rintro j H' _ ⟨s, _⟩
    exact SqL.of (s _ _ hS)
  · rintro j x H' hx ⟨s, hD'⟩
    obtain ⟨d, hd1, hd2⟩ := TDs.get hT j x hx
    rw [List.getElem?_map] at hd1
    obtain ⟨p, hp, rfl⟩ : ∃ p, tb[j]? = some p ∧ d = pairD p := by
      cases e : tb[j]? with
      | none =>
        rw [e] at hd1
        cases hd1
      | some p =>
        rw [e] at hd1
        exact ⟨p, rfl, (Option.some.inj hd1).symm⟩
    obtain ⟨c, r, rfl, hc, hr⟩ := (TD.mono (Tk.same s) _ _ hd2).pair
    refine ⟨hw _, ?_⟩
    refine ht p c r H' hc _ ⟨_, hD', ?_, fun b o e => ?_, ?_⟩
    · rw [List.length_map, List.length_map, List.length_take]
      exact small1000 (by omega)
    · rw [upd_ne (ne_of_none e hD)]
      exact s _ _ e
    · rw [upd_same, List.take_add_one, hp, List.map_append, List.map_append]
      rfl
  · rintro H' ⟨s, hD'⟩
    rw [hl, List.take_length] at hD'
    exact hd H' s hD'
section
variable {P : Program} {w : World} {K : PySem.W.Frag} {mg : Str → Option Value} {base : Heap}
theorem ok_diffs (D : Def K mg "_law_differences" sDiffs ["first", "second"]) (DA : Def K mg "_law_answer" sLAns ["table", "query"]) (ms : mg "sorted" = none) (mset : mg "set" = none)
    (GA : FnOk P w K mg base CX0 2 DA.f DA.fd ["table", "query"] spAns) : FnOk P w K mg base CX0 3 D.f D.fd ["first", "second"] spDif := by
  refine D.F.ok scDiffs (fun vs H Q E h => ?_) (fun cdv A outer s H vs Q E hr h => ?_)
  · obtain ⟨t, t2, us, us2, a, b, rfl, _⟩ := h
    rfl
  obtain ⟨t, t2, us, us2, a, b, rfl, ht, hT, ht2, hT2, la, lb, ra, rb, pa, pb, q⟩ := h
  refine ⟨_, pss_cons (ps_set (i := 2) scDiffs.nd rfl (.inl rfl) (pe_callB (RX.call_sortTx rfl) (by rfl) ms (by decide +kernel) (pa_cons (pe_callTy (RX.call_setTx rfl) (by rfl) mset (by decide +kernel) (pa_cons (pe_op op_cat
      (pe_lc (own := [("pair", 7)]) (g := gName 7) (by rfl) scDiffs.nd (pi_list (pv 0))
      (blkOk_by (own := [("pair", 7)]) (N := ["first", "second", "keys", "found", "key", "one", "two", "pair"]) (sc := defScope sDiffs) (by decide +kernel))
      (fun _ _ _ _ _ => pg_name (i := 7) scDiffs.nd rfl (Or.inl rfl)) (fun _ _ _ _ _ => pts_nil)
      (fun _ _ _ _ _ => pe_ix (r := rIxT K) ix_tup (pv 7) pe_int (fun _ _ => rfl)))
      (pe_lc (own := [("pair", 7)]) (g := gName 7) (by rfl) scDiffs.nd (pi_list (pv 1))
      (blkOk_by (own := [("pair", 7)]) (N := ["first", "second", "keys", "found", "key", "one", "two", "pair"]) (sc := defScope sDiffs) (by decide +kernel))
      (fun _ _ _ _ _ => pg_name (i := 7) scDiffs.nd rfl (Or.inl rfl)) (fun _ _ _ _ _ => pts_nil)
      (fun _ _ _ _ _ => pe_ix (r := rIxT K) ix_tup (pv 7) pe_int (fun _ _ => rfl)))) pa_nil)) pa_nil))) <|
    pss_cons (ps_set (i := 3) scDiffs.nd rfl (.inl rfl) (pe_lst pa_nil)) <|
    pss_cons (ps_for PassesOwn.never rfl (pi_list (pv 2)) (pg_name (i := 4) scDiffs.nd rfl (.inl rfl))
      (pss_cons (ps_set (i := 5) scDiffs.nd rfl (.inl rfl) (pe_call GA hr (by rfl) DA.m DA.F.kp DA.b .nil pass0 (pa_cons (pv 0) (pa_cons (pe_tup (pa_cons pe_str (pa_cons (pv 4) pa_nil))) pa_nil)))) <|
      pss_cons (ps_set (i := 6) scDiffs.nd rfl (.inl rfl) (pe_call GA hr (by rfl) DA.m DA.F.kp DA.b .nil pass0 (pa_cons (pv 1) (pa_cons (pe_tup (pa_cons pe_str (pa_cons (pv 4) pa_nil))) pa_nil)))) <|
      pss_one (ps_if (pt_cmpR (op_neD hr.units) (pv 5) (pv 6) (nomark _))
        (pss_one (ps_expr (pe_bm PySem.F.plainAttrs_list PySem.F.slot_list_append PySem.F.type_list_append mt_append (pv 3) (pa_cons (pe_tup (pa_cons (pv 4) (pa_cons (pv 5) (pa_cons (pv 6) pa_nil)))) pa_nil)))) pss_nil))) <|
    pss_one (ps_ret (pv 3)), ?_⟩
  -- the keys
  have ew : (cxOf CX0 P w K mg base ["first", "second", "keys", "found", "key", "one", "two", "pair"] "_law_differences" (defScope sDiffs) D.f cdv A outer s H E).nox.w = w := rfl
  refine ⟨_, rfl, t, rfl, ⟨_, SqL.of ht⟩, fun D1 hD1 => ?_⟩
  refine lc_keys ht hT hD1 (by omega) (fun v => rfl) (fun p c r H' hc Q hQ => ⟨_, rfl, c, _, 0, _, rfl, rfl, SqT.of hc, atI_nat (j := 0) rfl, hQ⟩) fun H1 s1 h1 => ?_
  refine ⟨_, rfl, t2, rfl, ⟨_, SqL.of (s1 _ _ ht2)⟩, fun D2 hD2 => ?_⟩
  refine lc_keys (s1 _ _ ht2) (TDs.mono (Tk.same s1) _ _ hT2) hD2 (by omega) (fun v => rfl) (fun p c r H' hc Q hQ => ⟨_, rfl, c, _, 0, _, rfl, rfl, SqT.of hc, atI_nat (j := 0) rfl, hQ⟩) fun H2 s2 h2 => ?_
  refine ⟨D1, D2, _, _, rfl, rfl, s2 _ _ h1, h2, ?_, fun c hc => ?_⟩
  · rw [List.length_map, List.length_map, List.length_map, List.length_map]
    exact small (by omega)
  have s3 := same_new hc (.lst ((a.map (·.1)).map V.str ++ (b.map (·.1)).map V.str))
  have hc3 : upd H2 c (.lst ((a.map (·.1)).map V.str ++ (b.map (·.1)).map V.str)) c = some (.lst ((keysL a b).map V.str)) := by
    rw [upd_same]
    unfold keysL
    rw [List.map_append]
  generalize upd H2 c (.lst ((a.map (·.1)).map V.str ++ (b.map (·.1)).map V.str)) = H3 at s3 hc3
  have s13 := s1.trans (s2.trans s3)
  have lk : (keysL a b).length ≤ 60 := by
    unfold keysL
    rw [List.length_append, List.length_map, List.length_map]
    omega
  refine ⟨c, keysL a b, rfl, SqL.of hc3, by omega, fun S l hS hll hm => ?_⟩
  rw [ew]
  have s4 := same_new hS (SetTxO w S l)
  refine ⟨S, l, rfl, upd_same, by omega, fun ys p6 pm nd srt hp6 => ?_⟩
  have hasc : ys.Pairwise Lt := asc srt (pm.nodup_iff.mpr nd)
  have hmy : Mems ys (keysL a b) := fun k => (pm.mem_iff).trans (hm k)
  have ly : ys.length ≤ 60 := by
    rw [pm.length_eq]
    omega
  have s6 := s4.trans (same_new hp6 (.lst (ys.map V.str)))
  have hy : upd (upd H3 S (SetTxO w S l)) p6 (.lst (ys.map V.str)) p6 = some (.lst (ys.map V.str)) := upd_same
  generalize upd (upd H3 S (SetTxO w S l)) p6 (.lst (ys.map V.str)) = H4 at s6 hy
  have s14 := s13.trans s6
  clear s4 h1 h2 hc3
  -- found
  refine ⟨Nat.zero_le _, fun f hf => ?_⟩
  have hf0 : H f = none := s14.free hf
  refine ⟨_, rfl, p6, rfl, ⟨_, SqL.of ((same_new hf _) _ _ hy)⟩, for_list (K := K) (a := p6) (xs := ys.map V.str) (fun i σ H' => ∃ y4 y5 y6 y7 ws, σ = [some (.ref t), some (.ref t2), some (.ref p6), some (.ref f), y4, y5, y6, y7] ∧ Same H4 H' ∧ H' f = some (.lst ws) ∧ TDs H' ws (difD a b (ys.take i))) ?_ ?_ ?_ ?_⟩
  · exact ⟨_, _, _, _, [], rfl, same_new hf _, upd_same, .nil⟩
  · rintro i σ H' _ ⟨_, _, _, _, _, _, sv, _⟩
    exact SqL.of (sv _ _ hy)
  · rintro i x σ H' hx ⟨y4, y5, y6, y7, ws, rfl, sv, hws, hW⟩
    rw [List.getElem?_map] at hx
    obtain ⟨k, hk, rfl⟩ : ∃ k, ys[i]? = some k ∧ x = V.str k := by
      cases e : ys[i]? with
      | none =>
        rw [e] at hx
        cases hx
      | some k =>
        rw [e] at hx
        exact ⟨k, rfl, (Option.some.inj hx).symm⟩
    have hi : i < ys.length := (List.getElem?_eq_some_iff.mp hk).1
    have sH := s14.trans sv
    have lw := hW.length
    have lf : (difD a b (ys.take i)).length ≤ i := by
      unfold difD
      rw [List.length_map]
      refine Nat.le_trans (List.length_filter_le _ _) ?_
      rw [List.length_take]
      omega
    have etake : difD a b (ys.take (i + 1)) = difD a b (ys.take i) ++ (if neq a b k = true then [chD a b k] else []) := by
      unfold difD
      rw [List.take_add_one, hk, List.filter_append, List.map_append]
      congr 1
      show List.map (chD a b) (List.filter (neq a b) [k]) = _
      rw [List.filter_cons, List.filter_nil]
      split <;> rfl
    refine ⟨_, rfl, _, rfl, by show 2 ≤ sizeLine; decide, fun c1 hc1 => ?_⟩
    have g1 := same_new hc1 (.tup [.str "get", .str k])
    refine ⟨t, .ref c1, .get k, us, a, rfl, .tup upd_same (.cons (.str _) (.cons (.str _) .nil)), trivial, g1 _ _ (sH _ _ ht), TDs.mono (Tk.same (sH.trans g1)) _ _ hT, by omega, pa, ra, fun one H5 g2 hone => ?_⟩
    have hone : TD H5 one (optD (look a k)) := hone
    have g12 := g1.trans g2
    refine ⟨_, rfl, _, rfl, by show 2 ≤ sizeLine; decide, fun c2 hc2 => ?_⟩
    have g3 := same_new hc2 (.tup [.str "get", .str k])
    have sH3 := sH.trans (g12.trans g3)
    refine ⟨t2, .ref c2, .get k, us2, b, rfl, .tup upd_same (.cons (.str _) (.cons (.str _) .nil)), trivial, sH3 _ _ ht2, TDs.mono (Tk.same sH3) _ _ hT2, by omega, pb, rb, fun two H6 g4 htwo => ?_⟩
    have htwo : TD H6 two (optD (look b k)) := htwo
    have hone6 := TD.mono (Tk.same (g3.trans g4)) _ _ hone
    have g14 := g12.trans (g3.trans g4)
    have hws6 := g14 _ _ hws
    have hW6 := TDs.mono (Tk.same g14) _ _ hW
    have sv6 := sv.trans g14
    refine ⟨_, rfl, _, rfl, _, _, TD.dp _ _ hone6, TD.dp _ _ htwo, (Sh.opt 0 _).ok (by decide), (Sh.opt 0 _).ok (by decide), _, rfl, ?_⟩
    show if neq a b k = true then _ else _
    cases hq : neq a b k with
    | true =>
      refine iteT ?_
      refine ⟨_, rfl, .inl ⟨rfl, _, SqL.of hws6⟩, _, rfl, _, rfl, _, rfl, by show 3 ≤ sizeLine; decide, fun y hy2 => ?_⟩
      have sy := same_new hy2 (.tup [.str k, one, two])
      have ey : upd H6 y (.tup [.str k, one, two]) y = some (.tup [.str k, one, two]) := upd_same
      refine ⟨f, ws, _, rfl, rfl, sy _ _ hws6, small1000 (by omega), ?_⟩
      refine ⟨_, _, _, _, ws ++ [.ref y], rfl, fun b' o e => ?_, upd_same, ?_⟩
      · rw [upd_ne (ne_of_none e hf)]
        exact sy _ _ (sv6 _ _ e)
      · generalize upd H6 y (.tup [.str k, one, two]) = Hy at sy ey
        have tk : Tk Hy (upd Hy f (.lst (ws ++ [.ref y]))) := Tk.put _ fun xs e => by
          rw [sy _ _ hws6] at e
          cases e
        have tk2 := (Tk.same sy).trans tk
        rw [etake, hq, if_pos rfl]
        exact TDs.app (TDs.mono tk2 _ _ hW6) (.cons (.tup (tk _ _ ey) (.cons (.str k) (.cons (TD.mono tk2 _ _ hone6) (.cons (TD.mono tk2 _ _ htwo) .nil)))) .nil)
    | false =>
      refine iteF ?_
      refine ⟨_, _, _, _, ws, rfl, sv6, hws6, ?_⟩
      rw [etake, hq, if_neg Bool.false_ne_true, List.append_nil]
      exact hW6
  · rintro σ H' ⟨y4, y5, y6, y7, ws, rfl, sv, hws, hW⟩
    rw [List.length_map, List.take_length] at hW
    exact ⟨_, rfl, q f ws ys H' hf0 (s14.trans sv) hasc hmy ly hws hW⟩
end
end RR

namespace RR
open PySem PySem.Spec PyProof.Rows L2
abbrev sSecond : Stmt := topS 19
theorem scSecond : FnScope ["state", "table", "k"] ["state", "table"] (defScope sSecond) := ⟨rfl, rfl, rfl, by decide +kernel, rfl, by decide +kernel, by decide +kernel⟩
/-! ### a change keeps the order -/
theorem changed_asc {tb : Tab} (h : (tb.map (·.1)).Pairwise Lt) (ch : Chg) : ((changed tb ch).map (·.1)).Pairwise Lt := by
  have hb : ∀ p ∈ below ch.key tb, Lt p.1 ch.key := fun p hp => show p.1.cps.toList < ch.key.cps.toList from of_decide_eq_true (List.mem_filter.mp hp).2
  have ha : ∀ p ∈ above ch.key tb, Lt ch.key p.1 := fun p hp => show ch.key.cps.toList < p.1.cps.toList from of_decide_eq_true (List.mem_filter.mp hp).2
  have ho : ∀ p ∈ ch.own, p.1 = ch.key := fun p hp => by
    cases ch with
    | put k r =>
      have e : p = (k, r) := by simpa [Chg.own] using hp
      rw [e]
      rfl
    | rem k => cases hp
  have hw : (tb.Pairwise fun x y => Lt x.1 y.1) := List.pairwise_map.mp h
  have no : (ch.own.Pairwise fun x y => Lt x.1 y.1) := by
    cases ch with
    | put k r => exact List.pairwise_singleton _ _
    | rem k => exact List.Pairwise.nil
  refine List.pairwise_map.mpr ?_
  unfold changed
  refine List.pairwise_append.mpr ⟨List.pairwise_append.mpr ⟨hw.filter _, no, fun x hx y hy => ?_⟩, hw.filter _, fun x hx y hy => ?_⟩
  · rw [ho y hy]
    exact hb x hx
  · rcases List.mem_append.mp hx with hx | hx
    · exact Lt.trans (hb x hx) (ha y hy)
    · rw [ho x hx]
      exact ha y hy
theorem changed_tab {tb : Tab} (h : TabOk tb) {ch : Chg} (hc : ch.Ok) : TabOk (changed tb ch) := ⟨changed_asc h.1 ch, changed_ok h.2 hc⟩
def spSecond : Sp := fun vs H Q _ => ∃ (st l t : Addr) (us : List V) (tb : Tab), vs = [.ref st, .ref t] ∧ Good st l H ∧ t ≠ st ∧ H t = some (.lst us) ∧ TDs H us (tb.map pairD) ∧ TabOk tb ∧ tb.length ≤ 9 ∧
  ∀ t' us' tb' H', TabOk tb' → tb'.length ≤ 13 → Le st H H' → Good st l H' → t' ≠ st → H' t' = some (.lst us') → TDs H' us' (tb'.map pairD) → Q (.ref t') H'
section
variable {P : Program} {w : World} {K : PySem.W.Frag} {mg : Str → Option Value} {base : Heap}
theorem ok_second (D : Def K mg "_law_second" sSecond ["state", "table"]) (DD : Def K mg "_law_draw" sDraw ["state", "limit"]) (DT : Def K mg "_law_table" sTable ["state", "most"]) (DC : Def K mg "_law_change" sChange ["state", "table"]) (DL : Def K mg "_law_changed" sChanged ["table", "change"]) (mr : mg "range" = none)
    (GD : FnOk P w K mg base CX0 1 DD.f DD.fd ["state", "limit"] spDraw) (GT : FnOk P w K mg base CX0 3 DT.f DT.fd ["state", "most"] spTable) (GC : FnOk P w K mg base CX0 4 DC.f DC.fd ["state", "table"] spChange) (GL : FnOk P w K mg base CX0 1 DL.f DL.fd ["table", "change"] spChangedT) : FnOk P w K mg base CX0 5 D.f D.fd ["state", "table"] spSecond := by
  refine D.F.ok scSecond (fun vs H Q E h => ?_) (fun cdv A outer s H vs Q E hr h => ?_)
  · obtain ⟨st, l, t, us, tb, rfl, _⟩ := h
    rfl
  obtain ⟨st, l, t, us, tb, rfl, g, nt, ht, hT, hok, hlen, q⟩ := h
  have hr1 := hr.mono (show 1 ≤ 4 by decide)
  refine ⟨_, pss_cons (ps_if (pt_cmpR op_eq (pe_call GD hr1 (by rfl) DD.m DD.F.kp DD.b .nil pass0 (pa_cons (pv 0) (pa_cons pe_int pa_nil))) pe_int (nomark _))
      (pss_one (ps_ret (pe_call GT (hr.mono (by decide)) (by rfl) DT.m DT.F.kp DT.b .nil pass0 (pa_cons (pv 0) (pa_cons pe_int pa_nil))))) pss_nil) <|
    pss_cons (ps_for PassesOwn.never rfl (pi_range1 (by rfl) mr (pa_cons (pe_call GD hr1 (by rfl) DD.m DD.F.kp DD.b .nil pass0 (pa_cons (pv 0) (pa_cons pe_int pa_nil))) pa_nil)) (pg_name (i := 2) scSecond.nd rfl (.inl rfl))
      (pss_one (ps_set (i := 1) scSecond.nd rfl (.inl rfl) (pe_call GL hr1 (by rfl) DL.m DL.F.kp DL.b .nil pass0 (pa_cons (pv 1) (pa_cons (pe_call GC hr (by rfl) DC.m DC.F.kp DC.b .nil pass0 (pa_cons (pv 0) (pa_cons (pv 1) pa_nil))) pa_nil)))))) <|
    pss_one (ps_ret (pv 1)), ?_⟩
  refine ⟨_, rfl, st, l, 3, rfl, g, by decide, by decide, fun d H1 d0 d1 le1 g1 => ?_⟩
  refine ⟨rfl, _, rfl, ite2 (fun _ => ?_) (fun _ => ?_)⟩
  · refine ⟨_, rfl, st, l, 9, rfl, g1, by decide, by decide, fun t2 us2 tb2 H2 hok2 hl2 ht2n le2 g2 ht2 hT2 => ?_⟩
    exact q t2 us2 tb2 H2 hok2 (by omega) (le1.trans le2) g2 (g1.ne ht2n).1 ht2 hT2
  · refine ⟨_, rfl, st, l, 5, rfl, g1, by decide, by decide, fun n H2 n0 n1 le2 g2 => ?_⟩
    have le12 := le1.trans le2
    refine ⟨_, rfl, by omega, by omega, for_range (lo := 0) (n := n.toNat) (fun i σ H' => ∃ (t' : Addr) (us' : List V) (tb' : Tab) (y2 : Option V), σ = [some (.ref st), some (.ref t'), y2] ∧ Le st H H' ∧ Good st l H' ∧ t' ≠ st ∧ H' t' = some (.lst us') ∧ TDs H' us' (tb'.map pairD) ∧ TabOk tb' ∧ tb'.length ≤ 9 + i) ?_ ?_ ?_⟩
    · exact ⟨t, us, tb, _, rfl, le12, g2, nt, le12 t _ nt ht, TDs.mono (Tk.le g le12) _ _ hT, hok, by omega⟩
    · rintro i σ H3 hi ⟨t', us', tb', y2, rfl, le3, g3, nt', ht', hT', hok', hl'⟩
      refine ⟨_, rfl, _, rfl, _, rfl, st, l, t', us', tb', rfl, g3, nt', ht', hT', fun p hp => (hok'.2 p hp).1, by omega, fun c ch H4 hch hc le4 g4 => ?_⟩
      have ht4 := le4 t' _ nt' ht'
      have hT4 := TDs.mono (Tk.le g3 le4) _ _ hT'
      refine ⟨t', c, ch, us', tb', rfl, hc, ht4, hT4, by omega, fun p ws H5 hp s5 hw hW => ?_⟩
      have lc := changed_len tb' ch
      exact ⟨p, ws, changed tb' ch, _, rfl, (le3.trans le4).trans (Le.of s5), g4.same s5, (g4.ne hp).1, hw, hW, changed_tab hok' hch, by omega⟩
    · rintro σ H3 ⟨t', us', tb', y2, rfl, le3, g3, nt', ht', hT', hok', hl'⟩
      exact ⟨_, rfl, q t' us' tb' H3 hok' (by omega) le3 g3 nt' ht' hT'⟩
theorem ok_ljoined (D : Def K mg "_law_joined" sLJoined ["first", "second", "low", "high"]) (DW : Def K mg "_law_within" sLWithin ["table", "low", "high"]) (DA : Def K mg "_law_answer" sLAns ["table", "query"])
    (GW : FnOk P w K mg base CX0 1 DW.f DW.fd ["table", "low", "high"] spWithin) (GA : FnOk P w K mg base CX0 2 DA.f DA.fd ["table", "query"] spAns) : FnOk P w K mg base CX0 3 D.f D.fd ["first", "second", "low", "high"] spJoin := by
  refine D.F.ok scLJoined (fun vs H Q E h => ?_) (fun cdv A outer s H vs Q E hr h => ?_)
  · obtain ⟨t, t2, lo, hi, us, us2, a, b, rfl, _⟩ := h
    rfl
  obtain ⟨t, t2, lo, hi, us, us2, a, b, rfl, ht, hT, ht2, hT2, la, lb, rb, pb, q⟩ := h
  refine ⟨_, pss_cons (ps_set (i := 4) scLJoined.nd rfl (.inl rfl) (pe_lst pa_nil)) <|
    pss_cons (ps_for PassesOwn.never rfl (pi_list (pe_call GW (hr.mono (by decide)) (by rfl) DW.m DW.F.kp DW.b .nil pass0 (pa_cons (pv 0) (pa_cons (pv 2) (pa_cons (pv 3) pa_nil))))) (pg_name (i := 5) scLJoined.nd rfl (.inl rfl))
      (pss_cons (ps_set (i := 6) scLJoined.nd rfl (.inl rfl) (pe_call GA hr (by rfl) DA.m DA.F.kp DA.b .nil pass0 (pa_cons (pv 1) (pa_cons (pe_tup (pa_cons pe_str (pa_cons (pe_ix ix_tup (pv 5) pe_int (fun _ _ => rfl)) pa_nil))) pa_nil)))) <|
      pss_one (ps_if (pt_cmpR op_notN (pv 6) pe_non (nomark _))
        (pss_one (ps_expr (pe_bm PySem.F.plainAttrs_list PySem.F.slot_list_append PySem.F.type_list_append mt_append (pv 4) (pa_cons (pe_tup (pa_cons (pe_ix ix_tup (pv 5) pe_int (fun _ _ => rfl)) (pa_cons (pe_ix ix_tup (pv 5) pe_int (fun _ _ => rfl)) (pa_cons (pv 6) pa_nil)))) pa_nil)))) pss_nil))) <|
    pss_one (ps_ret (pv 4)), ?_⟩
  refine ⟨Nat.zero_le _, fun f hf => ?_⟩
  have s1 := same_new hf (.lst [])
  have hf1 : upd H f (.lst []) f = some (.lst []) := upd_same
  generalize upd H f (.lst []) = H1 at s1 hf1
  refine ⟨_, rfl, _, rfl, _, rfl, t, lo, hi, us, a, rfl, s1 _ _ ht, TDs.mono (Tk.same s1) _ _ hT, by omega, fun c ws H2 hc s2 hw hW => ?_⟩
  have s12 := s1.trans s2
  have lw := hW.length
  rw [List.length_map] at lw
  have lwi := within_len lo hi a
  have nfc : f ≠ c := fun e => by
    rw [← e, hf1] at hc
    cases hc
  refine ⟨c, rfl, ⟨_, SqL.of hw⟩, for_list (K := K) (a := c) (xs := ws) (fun i σ H' => ∃ y5 y6 vs, σ = [some (.ref t), some (.ref t2), some (.str lo), some (.str hi), some (.ref f), y5, y6] ∧ (∀ b o, b ≠ f → H2 b = some o → H' b = some o) ∧ H' f = some (.lst vs) ∧ TDs H' vs (joinD b ((within lo hi a).take i))) ?_ ?_ ?_ ?_⟩
  · exact ⟨_, _, [], rfl, fun _ _ _ e => e, s2 _ _ hf1, .nil⟩
  · rintro i σ H' _ ⟨_, _, _, _, kp, _⟩
    exact SqL.of (kp _ _ nfc.symm hw)
  · rintro i x σ H' hx ⟨y5, y6, vs, rfl, kp, hvs, hV⟩
    have tk0 : Tk H2 H' := fun z xs e => kp z _ (fun e2 => by
      rw [e2, s2 _ _ hf1] at e
      cases e) e
    obtain ⟨d, hd1', hd2'⟩ := TDs.get hW i x hx
    rw [List.getElem?_map] at hd1'
    obtain ⟨p, hp, rfl⟩ : ∃ p, (within lo hi a)[i]? = some p ∧ d = pairD p := by
      cases e : (within lo hi a)[i]? with
      | none =>
        rw [e] at hd1'
        cases hd1'
      | some p =>
        rw [e] at hd1'
        exact ⟨p, rfl, (Option.some.inj hd1').symm⟩
    obtain ⟨z, r, rfl, hz, hr2⟩ := (TD.mono tk0 _ _ hd2').pair
    have etake := joinD_take (b := b) hp
    have lv := hV.length
    have lj := joinD_len b ((within lo hi a).take i)
    rw [List.length_take] at lj
    have nf2 : t2 ≠ f := ne_of_none ht2 hf
    have ht2' := kp t2 _ nf2 (s12 _ _ ht2)
    have hT2' := TDs.mono ((Tk.same s12).trans tk0) _ _ hT2
    refine ⟨_, rfl, _, rfl, z, _, 0, _, rfl, rfl, SqT.of hz, atI_nat (j := 0) rfl, by show 2 ≤ sizeLine; decide, fun c1 hc1 => ?_⟩
    have g1 := same_new hc1 (.tup [.str "get", .str p.1])
    refine ⟨t2, .ref c1, .get p.1, us2, b, rfl, .tup upd_same (.cons (.str _) (.cons (.str _) .nil)), trivial, g1 _ _ ht2', TDs.mono (Tk.same g1) _ _ hT2', by omega, pb, rb, fun o H5 g2 ho => ?_⟩
    have ho : TD H5 o (optD (look b p.1)) := ho
    have g12 := g1.trans g2
    have hvs5 := g12 _ _ hvs
    have hV5 := TDs.mono (Tk.same g12) _ _ hV
    have hz5 := g12 _ _ hz
    have hr5 := TD.mono (Tk.same g12) _ _ hr2
    refine ⟨_, rfl, rfl, _, rfl, ?_⟩
    cases el : look b p.1 with
    | none =>
      rw [el] at ho
      have eo : o = .non := by
        cases ho with
        | non => rfl
      rw [eo]
      refine iteF ?_
      refine ⟨_, _, vs, rfl, fun b' o' nb e => g12 _ _ (kp _ _ nb e), hvs5, ?_⟩
      rw [etake]
      unfold jo
      rw [el, List.append_nil]
      exact hV5
    | some rr =>
      rw [el] at ho
      have ho : TD H5 o (rowD rr) := ho
      obtain ⟨oa, rfl, hoa⟩ := row_un ho
      refine iteT ?_
      refine ⟨_, rfl, .inl ⟨rfl, _, SqL.of hvs5⟩, _, rfl, z, _, 0, _, rfl, rfl, SqT.of hz5, atI_nat (j := 0) rfl, _, rfl, z, _, 1, _, rfl, rfl, SqT.of hz5, atI_nat (j := 1) rfl, _, rfl, by show 3 ≤ sizeLine; decide, fun y hy2 => ?_⟩
      have sy := same_new hy2 (.tup [.str p.1, r, .ref oa])
      have ey : upd H5 y (.tup [.str p.1, r, .ref oa]) y = some (.tup [.str p.1, r, .ref oa]) := upd_same
      refine ⟨f, vs, _, rfl, rfl, sy _ _ hvs5, small1000 (by omega), ?_⟩
      refine ⟨_, _, vs ++ [.ref y], rfl, fun b' o' nb e => ?_, upd_same, ?_⟩
      · rw [upd_ne nb]
        exact sy _ _ (g12 _ _ (kp _ _ nb e))
      · generalize upd H5 y (.tup [.str p.1, r, .ref oa]) = Hy at sy ey
        have tk : Tk Hy (upd Hy f (.lst (vs ++ [.ref y]))) := Tk.put _ fun xs e => by
          rw [sy _ _ hvs5] at e
          cases e
        have tk2 := (Tk.same sy).trans tk
        rw [etake]
        unfold jo
        rw [el]
        exact TDs.app (TDs.mono tk2 _ _ hV5) (.cons (.tup (tk _ _ ey) (.cons (.str _) (.cons (TD.mono tk2 _ _ hr5) (.cons (TD.mono tk2 _ _ ho) .nil)))) .nil)
  · rintro σ H' ⟨y5, y6, vs, rfl, kp, hvs, hV⟩
    rw [lw, List.take_length] at hV
    refine ⟨_, rfl, q f vs H' hf (fun b' o e => ?_) hvs hV⟩
    exact kp _ _ (ne_of_none e hf) (s12 _ _ e)
end
end RR

namespace RR
open PySem PySem.Spec PyProof.Rows L2
open RX (Mems)
abbrev sLaw : Stmt := topS 20
def spLaw (K : PySem.W.Frag) : Sp := fun vs H Q _ => ∃ (a : Addr) (ns : List Int), vs = [.ref a] ∧ SqL K H a (ns.map V.int) ∧ ns.length ≤ 63 ∧ ∀ H', Q (.bl true) H'
theorem scLaw : FnScope ["script", "state", "first", "second", "copies", "k", "low", "high"] ["script"] (defScope sLaw) := ⟨rfl, rfl, rfl, by decide +kernel, rfl, by decide +kernel, by decide +kernel⟩
/-! ### answers against each other -/
theorem same_ne {K : PySem.W.Frag} {H : Hp} {a b : Addr} {us vs : List V} {ds : List PyData} {n : Nat} (ha : H a = some (.lst us)) (hb : H b = some (.lst vs)) (hu : TDs H us ds) (hv : TDs H vs ds) (sh : Sh n (.list ds)) (hn : n ≤ 64) {Q : VK} (q : Q (.bl false) H) : rNeD K (.ref a) (.ref b) H Q := by
  refine ⟨_, _, .lst (SqL.of ha) (TDs.dp _ _ hu), .lst (SqL.of hb) (TDs.dp _ _ hv), sh.ok hn, sh.ok hn, ?_⟩
  rw [sh.refl]
  exact q
theorem cop_ne {K : PySem.W.Frag} {H : Hp} {p q c1 c2 t t2 : Addr} {us us2 : List V} {a b : Tab} (hp : H p = some (.lst [.ref c1, .ref c2])) (hq : H q = some (.lst [.ref t, .ref t2])) (h1 : H c1 = some (.lst us)) (h2 : H c2 = some (.lst us2)) (ht : H t = some (.lst us)) (ht2 : H t2 = some (.lst us2))
    (hT : TDs H us (a.map pairD)) (hT2 : TDs H us2 (b.map pairD)) (ka : ∀ p ∈ a, KeyOk p.1) (kb : ∀ p ∈ b, KeyOk p.1) {Q : VK} (z : Q (.bl false) H) : rNeD K (.ref p) (.ref q) H Q := by
  have sh : Sh 4 (.list [.list (a.map pairD), .list (b.map pairD)]) := Sh.list fun x hx => by
    rcases List.mem_cons.mp hx with e | e
    · rw [e]
      exact Sh.tab (n := 0) ka
    · have e2 : x = .list (b.map pairD) := by simpa using e
      rw [e2]
      exact Sh.tab (n := 0) kb
  refine ⟨_, _, .lst (SqL.of hp) (.cons (.lst (SqL.of h1) (TDs.dp _ _ hT)) (.cons (.lst (SqL.of h2) (TDs.dp _ _ hT2)) .nil)), .lst (SqL.of hq) (.cons (.lst (SqL.of ht) (TDs.dp _ _ hT)) (.cons (.lst (SqL.of ht2) (TDs.dp _ _ hT2)) .nil)), sh.ok (by decide), sh.ok (by decide), ?_⟩
  rw [sh.refl]
  exact z
theorem nil_eq {K : PySem.W.Frag} {H : Hp} {a b : Addr} {us : List V} (ha : H a = some (.lst us)) (hu : us = []) (hb : H b = some (.lst [])) {Q : VK} (q : Q (.bl true) H) : rEqD K (.ref a) (.ref b) H Q := by
  subst hu
  exact ⟨.list [], .list [], .lst (SqL.of ha) .nil, .lst (SqL.of hb) .nil, by decide, by decide, q⟩
theorem keys_ok {a b : Tab} (ka : ∀ p ∈ a, KeyOk p.1) (kb : ∀ p ∈ b, KeyOk p.1) {ys : List Str} (h : Mems ys (keysL a b)) : ∀ k ∈ ys, KeyOk k := fun k hk => by
  rcases List.mem_append.mp ((h k).mp hk) with z | z
  · obtain ⟨p, hp, rfl⟩ := List.mem_map.mp z
    exact ka p hp
  · obtain ⟨p, hp, rfl⟩ := List.mem_map.mp z
    exact kb p hp
theorem Sh.dif {a b : Tab} {ys : List Str} (h : ∀ k ∈ ys, KeyOk k) : Sh 3 (.list (difD a b ys)) := Sh.list fun x hx => by
  obtain ⟨k, hk, rfl⟩ := List.mem_map.mp hx
  refine Sh.tuple fun y hy => ?_
  rcases List.mem_cons.mp hy with e | e
  · rw [e]
    exact Sh.key (h k (List.mem_filter.mp hk).1)
  · rcases List.mem_cons.mp e with e | e
    · rw [e]
      exact Sh.opt 0 _
    · have e2 : y = optD (look b k) := by simpa using e
      rw [e2]
      exact Sh.opt 0 _
theorem Sh.join {b tb : Tab} (h : ∀ p ∈ tb, KeyOk p.1) : Sh 3 (.list (joinD b tb)) := Sh.list fun x hx => by
  obtain ⟨l, hl, hx⟩ := List.mem_flatten.mp hx
  obtain ⟨p, hp, rfl⟩ := List.mem_map.mp hl
  unfold jo at hx
  cases e : look b p.1 with
  | none =>
    rw [e] at hx
    cases hx
  | some r =>
    rw [e] at hx
    have ex : x = .tuple [.str p.1, rowD p.2, rowD r] := by simpa using hx
    rw [ex]
    refine Sh.tuple fun y hy => ?_
    rcases List.mem_cons.mp hy with e | e
    · rw [e]
      exact Sh.key (h p hp)
    · rcases List.mem_cons.mp e with e | e
      · rw [e]
        exact Sh.row 0 _
      · have e2 : y = rowD r := by simpa using e
        rw [e2]
        exact Sh.row 0 _
theorem dif_self (a : Tab) : ∀ ys : List Str, difD a a ys = []
  | [] => rfl
  | k :: ys => by
    have ih := dif_self a ys
    have h : neq a a k = false := by
      unfold neq
      rw [(Sh.opt 0 (look a k)).refl]
      rfl
    unfold difD at ih ⊢
    rw [List.filter_cons, h, if_neg Bool.false_ne_true]
    exact ih
theorem join_nil : ∀ tb : Tab, joinD [] tb = []
  | [] => rfl
  | p :: tb => by
    show jo [] p ++ joinD [] tb = []
    rw [join_nil tb]
    rfl
section
variable {P : Program} {w : World} {K : PySem.W.Frag} {mg : Str → Option Value} {base : Heap}
theorem ok_law (D : Def K mg "law" sLaw ["script"]) (DT : Def K mg "_law_table" sTable ["state", "most"]) (DS : Def K mg "_law_second" sSecond ["state", "table"]) (DB : Def K mg "_law_bound" sBound ["state", "table"])
    (DC : Def K mg "changes_between" sChanges ["first", "second"]) (DF : Def K mg "_law_differences" sDiffs ["first", "second"]) (DJ : Def K mg "joined_rows" sJoinedRows ["first", "second", "low", "high"]) (DL : Def K mg "_law_joined" sLJoined ["first", "second", "low", "high"])
    (mlist : mg "list" = none) (mr : mg "range" = none)
    (GT : FnOk P w K mg base CX0 3 DT.f DT.fd ["state", "most"] spTable) (GS : FnOk P w K mg base CX0 5 DS.f DS.fd ["state", "table"] spSecond) (GB : FnOk P w K mg base CX0 3 DB.f DB.fd ["state", "table"] spBound)
    (GC : FnOk P w K mg base CX0 1 DC.f DC.fd ["first", "second"] spDif) (GF : FnOk P w K mg base CX0 3 DF.f DF.fd ["first", "second"] spDif) (GJ : FnOk P w K mg base CX0 3 DJ.f DJ.fd ["first", "second", "low", "high"] spJoin) (GL : FnOk P w K mg base CX0 3 DL.f DL.fd ["first", "second", "low", "high"] spJoin) :
    FnOk P w K mg base CX0 6 D.f D.fd ["script"] (spLaw K) := by
  refine D.F.ok scLaw (fun vs H Q E h => ?_) (fun cdv A outer s H vs Q E hr h => ?_)
  · obtain ⟨a, ns, rfl, _⟩ := h
    rfl
  obtain ⟨a, ns, rfl, hS, hlen, q⟩ := h
  have hr3 := hr.mono (show 3 ≤ 5 by decide)
  have hr1 := hr.mono (show 1 ≤ 5 by decide)
  refine ⟨_, pss_cons (ps_set (i := 1) scLaw.nd rfl (.inl rfl) (pe_lst (pa_cons pe_int (pa_cons pe_int (pa_cons (pe_callTy call_list_of (by rfl) mlist (by decide +kernel) (pa_cons (pv 0) pa_nil)) (pa_cons pe_int pa_nil)))))) <|
    pss_cons (ps_set (i := 2) scLaw.nd rfl (.inl rfl) (pe_call GT hr3 (by rfl) DT.m DT.F.kp DT.b .nil pass0 (pa_cons (pv 1) (pa_cons pe_int pa_nil)))) <|
    pss_cons (ps_set (i := 3) scLaw.nd rfl (.inl rfl) (pe_call GS hr (by rfl) DS.m DS.F.kp DS.b .nil pass0 (pa_cons (pv 1) (pa_cons (pv 2) pa_nil)))) <|
    pss_cons (ps_set (i := 4) scLaw.nd rfl (.inl rfl) (pe_lst (pa_cons (pe_callTy call_list_of (by rfl) mlist (by decide +kernel) (pa_cons (pv 2) pa_nil)) (pa_cons (pe_callTy call_list_of (by rfl) mlist (by decide +kernel) (pa_cons (pv 3) pa_nil)) pa_nil)))) <|
    pss_cons (ps_if (PW.pt (pw_or (pt_cmpR (op_neD hr.units) (pe_call GC hr1 (by rfl) DC.m DC.F.kp DC.b .nil pass0 (pa_cons (pe_ix ix_list (pv 4) pe_int (fun _ _ => rfl)) (pa_cons (pe_ix ix_list (pv 4) pe_int (fun _ _ => rfl)) pa_nil))) (pe_call GF hr3 (by rfl) DF.m DF.F.kp DF.b .nil pass0 (pa_cons (pv 2) (pa_cons (pv 3) pa_nil))) (nomark _))
        (pw_or1 (pt_cmpR (op_neD hr.units) (pv 4) (pe_lst (pa_cons (pv 2) (pa_cons (pv 3) pa_nil))) (nomark _))))) (pss_one (ps_ret pe_bl)) pss_nil) <|
    pss_cons (ps_for PassesOwn.never rfl (pi_range1 (by rfl) mr (pa_cons pe_int pa_nil)) (pg_name (i := 5) scLaw.nd rfl (.inl rfl))
      (pss_cons (ps_set (i := 6) scLaw.nd rfl (.inl rfl) (pe_call GB hr3 (by rfl) DB.m DB.F.kp DB.b .nil pass0 (pa_cons (pv 1) (pa_cons (pv 2) pa_nil)))) <|
      pss_cons (ps_set (i := 7) scLaw.nd rfl (.inl rfl) (pe_call GB hr3 (by rfl) DB.m DB.F.kp DB.b .nil pass0 (pa_cons (pv 1) (pa_cons (pv 2) pa_nil)))) <|
      pss_cons (ps_set (i := 4) scLaw.nd rfl (.inl rfl) (pe_lst (pa_cons (pe_callTy call_list_of (by rfl) mlist (by decide +kernel) (pa_cons (pv 2) pa_nil)) (pa_cons (pe_callTy call_list_of (by rfl) mlist (by decide +kernel) (pa_cons (pv 3) pa_nil)) pa_nil)))) <|
      pss_cons (ps_if (pt_cmpR (op_neD hr.units) (pe_call GJ hr3 (by rfl) DJ.m DJ.F.kp DJ.b .nil pass0 (pa_cons (pe_ix ix_list (pv 4) pe_int (fun _ _ => rfl)) (pa_cons (pe_ix ix_list (pv 4) pe_int (fun _ _ => rfl)) (pa_cons (pv 6) (pa_cons (pv 7) pa_nil))))) (pe_call GL hr3 (by rfl) DL.m DL.F.kp DL.b .nil pass0 (pa_cons (pv 2) (pa_cons (pv 3) (pa_cons (pv 6) (pa_cons (pv 7) pa_nil))))) (nomark _)) (pss_one (ps_ret pe_bl)) pss_nil) <|
      pss_one (ps_if (pt_cmpR (op_neD hr.units) (pv 4) (pe_lst (pa_cons (pv 2) (pa_cons (pv 3) pa_nil))) (nomark _)) (pss_one (ps_ret pe_bl)) pss_nil))) <|
    pss_one (ps_ret (pe_and (pe_cmpR (op_eqD hr.units) (pe_call GC hr1 (by rfl) DC.m DC.F.kp DC.b .nil pass0 (pa_cons (pe_callTy call_list_of (by rfl) mlist (by decide +kernel) (pa_cons (pv 2) pa_nil)) (pa_cons (pe_callTy call_list_of (by rfl) mlist (by decide +kernel) (pa_cons (pv 2) pa_nil)) pa_nil))) (pe_lst pa_nil) (nomark _))
      (pe_one (pe_cmpR (op_eqD hr.units) (pe_call GJ hr3 (by rfl) DJ.m DJ.F.kp DJ.b .nil pass0 (pa_cons (pe_callTy call_list_of (by rfl) mlist (by decide +kernel) (pa_cons (pv 2) pa_nil)) (pa_cons (pe_lst pa_nil) (pa_cons pe_str (pa_cons pe_str pa_nil))))) (pe_lst pa_nil) (nomark _))))), ?_⟩
  refine ⟨_, rfl, a, _, rfl, .inl hS, fun l hl => ?_⟩
  refine ⟨by show 4 ≤ sizeLine; decide, fun st hst => ?_⟩
  have nls : l ≠ st := ne_of_none upd_same hst
  have g0 : Good st l (upd (upd H l (.lst (ns.map V.int))) st (.lst [.int 0, .int 0, .ref l, .int 1])) := ⟨0, 0, 1, ns, upd_same, by decide, by decide, by decide, by decide, nls, by rw [upd_ne nls]; exact upd_same⟩
  generalize upd (upd H l (.lst (ns.map V.int))) st (.lst [.int 0, .int 0, .ref l, .int 1]) = H0 at g0
  refine ⟨_, rfl, st, l, 9, rfl, g0, by decide, by decide, fun t us tb H1 hok htb htn le1 g1 ht hT => ?_⟩
  have nt : t ≠ st := (g0.ne htn).1
  refine ⟨_, rfl, _, rfl, st, l, t, us, tb, rfl, g1, nt, ht, hT, hok, by omega, fun t2 us2 tb2 H2 hok2 hl2 le2 g2 nt2 ht2 hT2 => ?_⟩
  have ht' := le2 t _ nt ht
  have hT' := TDs.mono (Tk.le g1 le2) _ _ hT
  have ka : ∀ p ∈ tb, KeyOk p.1 := fun p hp => (hok.2 p hp).1
  have kb : ∀ p ∈ tb2, KeyOk p.1 := fun p hp => (hok2.2 p hp).1
  have ra : ∀ p ∈ tb, p.2.length ≤ 1000 := fun p hp => by
    have z := (hok.2 p hp).2.2.1
    omega
  have rb : ∀ p ∈ tb2, p.2.length ≤ 1000 := fun p hp => by
    have z := (hok2.2 p hp).2.2.1
    omega
  -- copies
  refine ⟨_, rfl, t, us, rfl, .inl (SqL.of ht'), fun c1 hc1 => ?_⟩
  have s1 := same_new hc1 (.lst us)
  have e1 : upd H2 c1 (.lst us) c1 = some (.lst us) := upd_same
  generalize upd H2 c1 (.lst us) = H3 at s1 e1
  refine ⟨_, rfl, t2, us2, rfl, .inl (SqL.of (s1 _ _ ht2)), fun c2 hc2 => ?_⟩
  have s2 := same_new hc2 (.lst us2)
  have e2 : upd H3 c2 (.lst us2) c2 = some (.lst us2) := upd_same
  generalize upd H3 c2 (.lst us2) = H4 at s2 e2
  refine ⟨by show 2 ≤ sizeLine; decide, fun cp hcp => ?_⟩
  have s3 := same_new hcp (.lst [.ref c1, .ref c2])
  have e3 : upd H4 cp (.lst [.ref c1, .ref c2]) cp = some (.lst [.ref c1, .ref c2]) := upd_same
  generalize upd H4 cp (.lst [.ref c1, .ref c2]) = H5 at s3 e3
  have s13 := s1.trans (s2.trans s3)
  have e1' := s3 _ _ (s2 _ _ e1)
  have e2' := s3 _ _ e2
  have hT5 := TDs.mono (Tk.same s13) _ _ hT'
  have hT25 := TDs.mono (Tk.same s13) _ _ hT2
  refine ⟨_, rfl, cp, _, 0, _, rfl, rfl, SqL.of e3, atI_nat (j := 0) rfl, _, rfl, cp, _, 1, _, rfl, rfl, SqL.of e3, atI_nat (j := 1) rfl, ?_⟩
  refine ⟨c1, c2, us, us2, tb, tb2, rfl, e1', hT5, e2', hT25, by omega, by omega, ra, rb, hok.1, hok2.1, fun p ws ys H6 hp s6 hasc hm ly hw hW => ?_⟩
  have s16 := s13.trans s6
  refine ⟨_, rfl, _, rfl, t, t2, us, us2, tb, tb2, rfl, s16 _ _ ht', TDs.mono (Tk.same s6) _ _ hT5, s16 _ _ ht2, TDs.mono (Tk.same s6) _ _ hT25, by omega, by omega, ra, rb, hok.1, hok2.1, fun p2 ws2 ys2 H7 hp2 s7 hasc2 hm2 ly2 hw2 hW2 => ?_⟩
  have eys : ys2 = ys := lt_uniq hasc2 hasc fun k => (hm2 k).trans (hm k).symm
  rw [eys] at hW2
  refine same_ne (s7 _ _ hw) hw2 (TDs.mono (Tk.same s7) _ _ hW) hW2 (Sh.dif (keys_ok ka kb hm)) (by decide) ⟨_, rfl, ?_⟩
  refine iteF ?_
  refine ⟨_, rfl, _, rfl, _, rfl, by show 2 ≤ sizeLine; decide, fun z hz => ?_⟩
  have s8 := same_new hz (.lst [.ref t, .ref t2])
  have s68 := s6.trans (s7.trans s8)
  have s18 := s13.trans s68
  refine cop_ne (s68 _ _ e3) upd_same (s68 _ _ e1') (s68 _ _ e2') (s18 _ _ ht') (s18 _ _ ht2) (TDs.mono (Tk.same s68) _ _ hT5) (TDs.mono (Tk.same s68) _ _ hT25) ka kb ⟨_, rfl, ?_⟩
  refine iteF ?_
  have g8 : Good st l (upd H7 z (.lst [.ref t, .ref t2])) := g2.same s18
  have ht8 := s18 _ _ ht'
  have ht28 := s18 _ _ ht2
  have hT8 := TDs.mono (Tk.same s68) _ _ hT5
  have hT28 := TDs.mono (Tk.same s68) _ _ hT25
  generalize upd H7 z (.lst [.ref t, .ref t2]) = H8 at g8 ht8 ht28 hT8 hT28
  clear s8 s68 s18
  refine ⟨4, rfl, by decide, by decide, for_range (lo := 0) (n := 4) (fun i σ H' => ∃ y4 y5 y6 y7, σ = [some (.ref a), some (.ref st), some (.ref t), some (.ref t2), y4, y5, y6, y7] ∧ Good st l H' ∧ H' t = some (.lst us) ∧ H' t2 = some (.lst us2) ∧ TDs H' us (tb.map pairD) ∧ TDs H' us2 (tb2.map pairD)) ?_ ?_ ?_⟩
  · exact ⟨_, _, _, _, rfl, g8, ht8, ht28, hT8, hT28⟩
  · rintro i σ G0 hi ⟨y4, y5, y6, y7, rfl, q0, f1, f2, f3, f4⟩
    refine ⟨_, rfl, _, rfl, st, l, t, us, tb, rfl, q0, nt, f1, f3, ka, by omega, fun lo G1 hlo m1 q1 => ?_⟩
    have f1b := m1 t _ nt f1
    have f3b := TDs.mono (Tk.le q0 m1) _ _ f3
    refine ⟨_, rfl, _, rfl, st, l, t, us, tb, rfl, q1, nt, f1b, f3b, ka, by omega, fun hi' G2 hhi m2 q2 => ?_⟩
    have f1c := m2 t _ nt f1b
    have f3c := TDs.mono (Tk.le q1 m2) _ _ f3b
    have f2c := m2 t2 _ nt2 (m1 t2 _ nt2 f2)
    have f4c := TDs.mono ((Tk.le q0 m1).trans (Tk.le q1 m2)) _ _ f4
    refine ⟨_, rfl, t, us, rfl, .inl (SqL.of f1c), fun d1 hd1 => ?_⟩
    have n1 := same_new hd1 (.lst us)
    have k1 : upd G2 d1 (.lst us) d1 = some (.lst us) := upd_same
    generalize upd G2 d1 (.lst us) = G3 at n1 k1
    refine ⟨_, rfl, t2, us2, rfl, .inl (SqL.of (n1 _ _ f2c)), fun d2 hd2 => ?_⟩
    have n2 := same_new hd2 (.lst us2)
    have k2 : upd G3 d2 (.lst us2) d2 = some (.lst us2) := upd_same
    generalize upd G3 d2 (.lst us2) = G4 at n2 k2
    refine ⟨by show 2 ≤ sizeLine; decide, fun dp hdp => ?_⟩
    have n3 := same_new hdp (.lst [.ref d1, .ref d2])
    have k3 : upd G4 dp (.lst [.ref d1, .ref d2]) dp = some (.lst [.ref d1, .ref d2]) := upd_same
    generalize upd G4 dp (.lst [.ref d1, .ref d2]) = G5 at n3 k3
    have n13 := n1.trans (n2.trans n3)
    have k1' := n3 _ _ (n2 _ _ k1)
    have k2' := n3 _ _ k2
    have u1 := TDs.mono (Tk.same n13) _ _ f3c
    have u2 := TDs.mono (Tk.same n13) _ _ f4c
    refine ⟨_, rfl, dp, _, 0, _, rfl, rfl, SqL.of k3, atI_nat (j := 0) rfl, _, rfl, dp, _, 1, _, rfl, rfl, SqL.of k3, atI_nat (j := 1) rfl, _, rfl, _, rfl, ?_⟩
    refine ⟨d1, d2, lo, hi', us, us2, tb, tb2, rfl, k1', u1, k2', u2, by omega, by omega, rb, hok2.1, fun p ws G6 hp n6 hw hW => ?_⟩
    have n16 := n13.trans n6
    refine ⟨_, rfl, _, rfl, _, rfl, _, rfl, t, t2, lo, hi', us, us2, tb, tb2, rfl, n16 _ _ f1c, TDs.mono (Tk.same n6) _ _ u1, n16 _ _ f2c, TDs.mono (Tk.same n6) _ _ u2, by omega, by omega, rb, hok2.1, fun p2 ws2 G7 hp2 n7 hw2 hW2 => ?_⟩
    refine same_ne (n7 _ _ hw) hw2 (TDs.mono (Tk.same n7) _ _ hW) hW2 (Sh.join fun p hp => ka p (List.mem_filter.mp hp).1) (by decide) ⟨_, rfl, ?_⟩
    refine iteF ?_
    refine ⟨_, rfl, _, rfl, _, rfl, by show 2 ≤ sizeLine; decide, fun z hz => ?_⟩
    have n8 := same_new hz (.lst [.ref t, .ref t2])
    have n68 := n6.trans (n7.trans n8)
    have n18 := n13.trans n68
    refine cop_ne (n68 _ _ k3) upd_same (n68 _ _ k1') (n68 _ _ k2') (n18 _ _ f1c) (n18 _ _ f2c) (TDs.mono (Tk.same n68) _ _ u1) (TDs.mono (Tk.same n68) _ _ u2) ka kb ⟨_, rfl, ?_⟩
    refine iteF ?_
    exact ⟨_, _, _, _, rfl, q2.same n18, n18 _ _ f1c, n18 _ _ f2c, TDs.mono (Tk.same n68) _ _ u1, TDs.mono (Tk.same n68) _ _ u2⟩
  · rintro σ G0 ⟨y4, y5, y6, y7, rfl, q0, f1, f2, f3, f4⟩
    refine ⟨_, rfl, t, us, rfl, .inl (SqL.of f1), fun d1 hd1 => ?_⟩
    have n1 := same_new hd1 (.lst us)
    have k1 : upd G0 d1 (.lst us) d1 = some (.lst us) := upd_same
    generalize upd G0 d1 (.lst us) = G1 at n1 k1
    refine ⟨_, rfl, t, us, rfl, .inl (SqL.of (n1 _ _ f1)), fun d2 hd2 => ?_⟩
    have n2 := same_new hd2 (.lst us)
    have k2 : upd G1 d2 (.lst us) d2 = some (.lst us) := upd_same
    generalize upd G1 d2 (.lst us) = G2 at n2 k2
    have n12 := n1.trans n2
    have u1 := TDs.mono (Tk.same n12) _ _ f3
    refine ⟨d1, d2, us, us, tb, tb, rfl, n2 _ _ k1, u1, k2, u1, by omega, by omega, ra, ra, hok.1, hok.1, fun p ws ys G3 hp n3 hasc hm ly hw hW => ?_⟩
    rw [dif_self] at hW
    refine ⟨Nat.zero_le _, fun z hz => ?_⟩
    have n4 := same_new hz (.lst [])
    refine nil_eq (n4 _ _ hw) hW.un0 upd_same ⟨true, rfl, iteT ?_⟩
    have n14 := n12.trans (n3.trans n4)
    have v1 := n14 _ _ f1
    have v3 := TDs.mono (Tk.same n14) _ _ f3
    generalize upd G3 z (.lst []) = G4 at v1 v3
    refine ⟨_, rfl, t, us, rfl, .inl (SqL.of v1), fun d3 hd3 => ?_⟩
    have n5 := same_new hd3 (.lst us)
    refine ⟨Nat.zero_le _, fun d4 hd4 => ?_⟩
    have n6 := same_new hd4 (.lst [])
    refine ⟨d3, d4, "", "zzzzzzzzz", us, [], tb, [], rfl, n6 _ _ upd_same, TDs.mono (Tk.same (n5.trans n6)) _ _ v3, upd_same, .nil, by omega, by decide, fun p hp => (by cases hp), List.Pairwise.nil, fun p ws G5 hp n7 hw hW => ?_⟩
    rw [join_nil] at hW
    refine ⟨Nat.zero_le _, fun y hy => ?_⟩
    exact nil_eq ((same_new hy (.lst [])) _ _ hw) hW.un0 upd_same (q _)
end
end RR

namespace RR
open PySem PySem.Spec PyProof.Rows L2
theorem all_mk {l : PySem.W.OpenLaw} {w : World} {K : PySem.W.Frag} {h : Heap} {mg : Str → Option Value} {fa f1 f2 f3 f4 f5 f6 f7 f8 f9 f10 f11 f12 f13 f14 f15 f16 f17 f18 f19 : Addr} (X : K.In h) (G : h.Ns mainGlobals mg) (hfa : mg "law" = some (.ref fa))
    {od1 an1 od2 an2 od3 an3 od4 an4 od5 an5 od6 an6 od7 an7 od8 an8 od9 an9 od10 an10 od11 an11 od12 an12 od13 an13 od14 an14 od15 an15 od16 an16 od17 an17 od18 an18 od19 an19 : Option Addr} {sl1 sl2 sl3 sl4 sl5 sl6 sl7 sl8 sl9 sl10 sl11 sl12 sl13 sl14 sl15 sl16 sl17 sl18 sl19 : Array (Option Value)} {oc1 kV1 dc1 pm1 cd1 ct1 oc2 kV2 dc2 pm2 cd2 ct2 oc3 kV3 dc3 pm3 cd3 ct3 oc4 kV4 dc4 pm4 cd4 ct4 oc5 kV5 dc5 pm5 cd5 ct5 oc6 kV6 dc6 pm6 cd6 ct6 oc7 kV7 dc7 pm7 cd7 ct7 oc8 kV8 dc8 pm8 cd8 ct8 oc9 kV9 dc9 pm9 cd9 ct9 oc10 kV10 dc10 pm10 cd10 ct10 oc11 kV11 dc11 pm11 cd11 ct11 oc12 kV12 dc12 pm12 cd12 ct12 oc13 kV13 dc13 pm13 cd13 ct13 oc14 kV14 dc14 pm14 cd14 ct14 oc15 kV15 dc15 pm15 cd15 ct15 oc16 kV16 dc16 pm16 cd16 ct16 oc17 kV17 dc17 pm17 cd17 ct17 oc18 kV18 dc18 pm18 cd18 ct18 oc19 kV19 dc19 pm19 cd19 ct19 : Value}
    (a1 : PySem.W.nsIn K mainGlobals "in_range" = some (some (.ref f1))) (l1 : K.lookup f1 = some ⟨oc1, od1, .func (PySem.W.fnOf "in_range" "in_range" (defArgs sInRange) (defBody sInRange) (defScope sInRange) .none kV1 dc1 pm1 an1 cd1 ct1), sl1⟩) (c1 : PySem.W.codeIn K cd1 "in_range" = true) (k1 : PySem.W.keepIn K (.ref f1) = true)
    (a2 : PySem.W.nsIn K mainGlobals "pairs_in_range" = some (some (.ref f2))) (l2 : K.lookup f2 = some ⟨oc2, od2, .func (PySem.W.fnOf "pairs_in_range" "pairs_in_range" (defArgs sPairsIn) (defBody sPairsIn) (defScope sPairsIn) .none kV2 dc2 pm2 an2 cd2 ct2), sl2⟩) (c2 : PySem.W.codeIn K cd2 "pairs_in_range" = true) (k2 : PySem.W.keepIn K (.ref f2) = true)
    (a3 : PySem.W.nsIn K mainGlobals "changes_between" = some (some (.ref f3))) (l3 : K.lookup f3 = some ⟨oc3, od3, .func (PySem.W.fnOf "changes_between" "changes_between" (defArgs sChanges) (defBody sChanges) (defScope sChanges) .none kV3 dc3 pm3 an3 cd3 ct3), sl3⟩) (c3 : PySem.W.codeIn K cd3 "changes_between" = true) (k3 : PySem.W.keepIn K (.ref f3) = true)
    (a4 : PySem.W.nsIn K mainGlobals "joined_rows" = some (some (.ref f4))) (l4 : K.lookup f4 = some ⟨oc4, od4, .func (PySem.W.fnOf "joined_rows" "joined_rows" (defArgs sJoinedRows) (defBody sJoinedRows) (defScope sJoinedRows) .none kV4 dc4 pm4 an4 cd4 ct4), sl4⟩) (c4 : PySem.W.codeIn K cd4 "joined_rows" = true) (k4 : PySem.W.keepIn K (.ref f4) = true)
    (a5 : PySem.W.nsIn K mainGlobals "_law_draw" = some (some (.ref f5))) (l5 : K.lookup f5 = some ⟨oc5, od5, .func (PySem.W.fnOf "_law_draw" "_law_draw" (defArgs sDraw) (defBody sDraw) (defScope sDraw) .none kV5 dc5 pm5 an5 cd5 ct5), sl5⟩) (c5 : PySem.W.codeIn K cd5 "_law_draw" = true) (k5 : PySem.W.keepIn K (.ref f5) = true)
    (a6 : PySem.W.nsIn K mainGlobals "_law_key" = some (some (.ref f6))) (l6 : K.lookup f6 = some ⟨oc6, od6, .func (PySem.W.fnOf "_law_key" "_law_key" (defArgs sKey) (defBody sKey) (defScope sKey) .none kV6 dc6 pm6 an6 cd6 ct6), sl6⟩) (c6 : PySem.W.codeIn K cd6 "_law_key" = true) (k6 : PySem.W.keepIn K (.ref f6) = true)
    (a7 : PySem.W.nsIn K mainGlobals "_law_row" = some (some (.ref f7))) (l7 : K.lookup f7 = some ⟨oc7, od7, .func (PySem.W.fnOf "_law_row" "_law_row" (defArgs sRow) (defBody sRow) (defScope sRow) .none kV7 dc7 pm7 an7 cd7 ct7), sl7⟩) (c7 : PySem.W.codeIn K cd7 "_law_row" = true) (k7 : PySem.W.keepIn K (.ref f7) = true)
    (a8 : PySem.W.nsIn K mainGlobals "_law_table" = some (some (.ref f8))) (l8 : K.lookup f8 = some ⟨oc8, od8, .func (PySem.W.fnOf "_law_table" "_law_table" (defArgs sTable) (defBody sTable) (defScope sTable) .none kV8 dc8 pm8 an8 cd8 ct8), sl8⟩) (c8 : PySem.W.codeIn K cd8 "_law_table" = true) (k8 : PySem.W.keepIn K (.ref f8) = true)
    (a9 : PySem.W.nsIn K mainGlobals "_law_bound" = some (some (.ref f9))) (l9 : K.lookup f9 = some ⟨oc9, od9, .func (PySem.W.fnOf "_law_bound" "_law_bound" (defArgs sBound) (defBody sBound) (defScope sBound) .none kV9 dc9 pm9 an9 cd9 ct9), sl9⟩) (c9 : PySem.W.codeIn K cd9 "_law_bound" = true) (k9 : PySem.W.keepIn K (.ref f9) = true)
    (a10 : PySem.W.nsIn K mainGlobals "_law_some_key" = some (some (.ref f10))) (l10 : K.lookup f10 = some ⟨oc10, od10, .func (PySem.W.fnOf "_law_some_key" "_law_some_key" (defArgs sSomeKey) (defBody sSomeKey) (defScope sSomeKey) .none kV10 dc10 pm10 an10 cd10 ct10), sl10⟩) (c10 : PySem.W.codeIn K cd10 "_law_some_key" = true) (k10 : PySem.W.keepIn K (.ref f10) = true)
    (a11 : PySem.W.nsIn K mainGlobals "_law_change" = some (some (.ref f11))) (l11 : K.lookup f11 = some ⟨oc11, od11, .func (PySem.W.fnOf "_law_change" "_law_change" (defArgs sChange) (defBody sChange) (defScope sChange) .none kV11 dc11 pm11 an11 cd11 ct11), sl11⟩) (c11 : PySem.W.codeIn K cd11 "_law_change" = true) (k11 : PySem.W.keepIn K (.ref f11) = true)
    (a12 : PySem.W.nsIn K mainGlobals "_law_within" = some (some (.ref f12))) (l12 : K.lookup f12 = some ⟨oc12, od12, .func (PySem.W.fnOf "_law_within" "_law_within" (defArgs sLWithin) (defBody sLWithin) (defScope sLWithin) .none kV12 dc12 pm12 an12 cd12 ct12), sl12⟩) (c12 : PySem.W.codeIn K cd12 "_law_within" = true) (k12 : PySem.W.keepIn K (.ref f12) = true)
    (a13 : PySem.W.nsIn K mainGlobals "_law_cell" = some (some (.ref f13))) (l13 : K.lookup f13 = some ⟨oc13, od13, .func (PySem.W.fnOf "_law_cell" "_law_cell" (defArgs sCell) (defBody sCell) (defScope sCell) .none kV13 dc13 pm13 an13 cd13 ct13), sl13⟩) (c13 : PySem.W.codeIn K cd13 "_law_cell" = true) (k13 : PySem.W.keepIn K (.ref f13) = true)
    (a14 : PySem.W.nsIn K mainGlobals "_law_answer" = some (some (.ref f14))) (l14 : K.lookup f14 = some ⟨oc14, od14, .func (PySem.W.fnOf "_law_answer" "_law_answer" (defArgs sLAns) (defBody sLAns) (defScope sLAns) .none kV14 dc14 pm14 an14 cd14 ct14), sl14⟩) (c14 : PySem.W.codeIn K cd14 "_law_answer" = true) (k14 : PySem.W.keepIn K (.ref f14) = true)
    (a15 : PySem.W.nsIn K mainGlobals "_law_changed" = some (some (.ref f15))) (l15 : K.lookup f15 = some ⟨oc15, od15, .func (PySem.W.fnOf "_law_changed" "_law_changed" (defArgs sChanged) (defBody sChanged) (defScope sChanged) .none kV15 dc15 pm15 an15 cd15 ct15), sl15⟩) (c15 : PySem.W.codeIn K cd15 "_law_changed" = true) (k15 : PySem.W.keepIn K (.ref f15) = true)
    (a16 : PySem.W.nsIn K mainGlobals "_law_differences" = some (some (.ref f16))) (l16 : K.lookup f16 = some ⟨oc16, od16, .func (PySem.W.fnOf "_law_differences" "_law_differences" (defArgs sDiffs) (defBody sDiffs) (defScope sDiffs) .none kV16 dc16 pm16 an16 cd16 ct16), sl16⟩) (c16 : PySem.W.codeIn K cd16 "_law_differences" = true) (k16 : PySem.W.keepIn K (.ref f16) = true)
    (a17 : PySem.W.nsIn K mainGlobals "_law_joined" = some (some (.ref f17))) (l17 : K.lookup f17 = some ⟨oc17, od17, .func (PySem.W.fnOf "_law_joined" "_law_joined" (defArgs sLJoined) (defBody sLJoined) (defScope sLJoined) .none kV17 dc17 pm17 an17 cd17 ct17), sl17⟩) (c17 : PySem.W.codeIn K cd17 "_law_joined" = true) (k17 : PySem.W.keepIn K (.ref f17) = true)
    (a18 : PySem.W.nsIn K mainGlobals "_law_second" = some (some (.ref f18))) (l18 : K.lookup f18 = some ⟨oc18, od18, .func (PySem.W.fnOf "_law_second" "_law_second" (defArgs sSecond) (defBody sSecond) (defScope sSecond) .none kV18 dc18 pm18 an18 cd18 ct18), sl18⟩) (c18 : PySem.W.codeIn K cd18 "_law_second" = true) (k18 : PySem.W.keepIn K (.ref f18) = true)
    (a19 : PySem.W.nsIn K mainGlobals "law" = some (some (.ref f19))) (l19 : K.lookup f19 = some ⟨oc19, od19, .func (PySem.W.fnOf "law" "law" (defArgs sLaw) (defBody sLaw) (defScope sLaw) .none kV19 dc19 pm19 an19 cd19 ct19), sl19⟩) (c19 : PySem.W.codeIn K cd19 "law" = true) (k19 : PySem.W.keepIn K (.ref f19) = true)
    (z1 : PySem.W.nsIn K mainGlobals "len" = some none) (z2 : PySem.W.nsIn K mainGlobals "int" = some none) (z3 : PySem.W.nsIn K mainGlobals "range" = some none) (z4 : PySem.W.nsIn K mainGlobals "tuple" = some none) (z5 : PySem.W.nsIn K mainGlobals "sorted" = some none) (z6 : PySem.W.nsIn K mainGlobals "list" = some none) (z7 : PySem.W.nsIn K mainGlobals "dict" = some none) (z8 : PySem.W.nsIn K mainGlobals "set" = some none) (z9 : PySem.W.nsIn K mainGlobals "sum" = some none) :
    ∃ fd : FuncData, (∀ (s : Shared) (v : Value), BindsTo s fd ⟨[v], []⟩ [("script", v)]) ∧ ∀ base : Heap, K.In base → base.Ns mainGlobals mg → FnOk l.prog w K mg base CX0 6 fa fd ["script"] (spLaw K) := by
  have e := hfa.symm.trans (PySem.W.mg_of X G a19)
  cases e
  have F1 := fun_mk (st := sInRange) l1 c1 k1
  have b1 := F1.binds (ps := ["key", "low", "high"]) fun _ _ _ _ _ _ us hl => match us, hl with | [_, _, _], _ => rfl
  let d1 : Def K mg "in_range" sInRange ["key", "low", "high"] := ⟨_, _, F1, b1, PySem.W.mg_of X G a1⟩
  have F2 := fun_mk (st := sPairsIn) l2 c2 k2
  have b2 := F2.binds (ps := ["table", "low", "high"]) fun _ _ _ _ _ _ us hl => match us, hl with | [_, _, _], _ => rfl
  let d2 : Def K mg "pairs_in_range" sPairsIn ["table", "low", "high"] := ⟨_, _, F2, b2, PySem.W.mg_of X G a2⟩
  have F3 := fun_mk (st := sChanges) l3 c3 k3
  have b3 := F3.binds (ps := ["first", "second"]) fun _ _ _ _ _ _ us hl => match us, hl with | [_, _], _ => rfl
  let d3 : Def K mg "changes_between" sChanges ["first", "second"] := ⟨_, _, F3, b3, PySem.W.mg_of X G a3⟩
  have F4 := fun_mk (st := sJoinedRows) l4 c4 k4
  have b4 := F4.binds (ps := ["first", "second", "low", "high"]) fun _ _ _ _ _ _ us hl => match us, hl with | [_, _, _, _], _ => rfl
  let d4 : Def K mg "joined_rows" sJoinedRows ["first", "second", "low", "high"] := ⟨_, _, F4, b4, PySem.W.mg_of X G a4⟩
  have F5 := fun_mk (st := sDraw) l5 c5 k5
  have b5 := F5.binds (ps := ["state", "limit"]) fun _ _ _ _ _ _ us hl => match us, hl with | [_, _], _ => rfl
  let dD : Def K mg "_law_draw" sDraw ["state", "limit"] := ⟨_, _, F5, b5, PySem.W.mg_of X G a5⟩
  have F6 := fun_mk (st := sKey) l6 c6 k6
  have b6 := F6.binds (ps := ["state"]) fun _ _ _ _ _ _ us hl => match us, hl with | [_], _ => rfl
  let dK : Def K mg "_law_key" sKey ["state"] := ⟨_, _, F6, b6, PySem.W.mg_of X G a6⟩
  have F7 := fun_mk (st := sRow) l7 c7 k7
  have b7 := F7.binds (ps := ["state"]) fun _ _ _ _ _ _ us hl => match us, hl with | [_], _ => rfl
  let dR : Def K mg "_law_row" sRow ["state"] := ⟨_, _, F7, b7, PySem.W.mg_of X G a7⟩
  have F8 := fun_mk (st := sTable) l8 c8 k8
  have b8 := F8.binds (ps := ["state", "most"]) fun _ _ _ _ _ _ us hl => match us, hl with | [_, _], _ => rfl
  let dT : Def K mg "_law_table" sTable ["state", "most"] := ⟨_, _, F8, b8, PySem.W.mg_of X G a8⟩
  have F9 := fun_mk (st := sBound) l9 c9 k9
  have b9 := F9.binds (ps := ["state", "table"]) fun _ _ _ _ _ _ us hl => match us, hl with | [_, _], _ => rfl
  let dB : Def K mg "_law_bound" sBound ["state", "table"] := ⟨_, _, F9, b9, PySem.W.mg_of X G a9⟩
  have F10 := fun_mk (st := sSomeKey) l10 c10 k10
  have b10 := F10.binds (ps := ["state", "table"]) fun _ _ _ _ _ _ us hl => match us, hl with | [_, _], _ => rfl
  let dS : Def K mg "_law_some_key" sSomeKey ["state", "table"] := ⟨_, _, F10, b10, PySem.W.mg_of X G a10⟩
  have F11 := fun_mk (st := sChange) l11 c11 k11
  have b11 := F11.binds (ps := ["state", "table"]) fun _ _ _ _ _ _ us hl => match us, hl with | [_, _], _ => rfl
  let dC : Def K mg "_law_change" sChange ["state", "table"] := ⟨_, _, F11, b11, PySem.W.mg_of X G a11⟩
  have F12 := fun_mk (st := sLWithin) l12 c12 k12
  have b12 := F12.binds (ps := ["table", "low", "high"]) fun _ _ _ _ _ _ us hl => match us, hl with | [_, _, _], _ => rfl
  let dI : Def K mg "_law_within" sLWithin ["table", "low", "high"] := ⟨_, _, F12, b12, PySem.W.mg_of X G a12⟩
  have F13 := fun_mk (st := sCell) l13 c13 k13
  have b13 := F13.binds (ps := ["row", "column"]) fun _ _ _ _ _ _ us hl => match us, hl with | [_, _], _ => rfl
  let dE : Def K mg "_law_cell" sCell ["row", "column"] := ⟨_, _, F13, b13, PySem.W.mg_of X G a13⟩
  have F14 := fun_mk (st := sLAns) l14 c14 k14
  have b14 := F14.binds (ps := ["table", "query"]) fun _ _ _ _ _ _ us hl => match us, hl with | [_, _], _ => rfl
  let dA : Def K mg "_law_answer" sLAns ["table", "query"] := ⟨_, _, F14, b14, PySem.W.mg_of X G a14⟩
  have F15 := fun_mk (st := sChanged) l15 c15 k15
  have b15 := F15.binds (ps := ["table", "change"]) fun _ _ _ _ _ _ us hl => match us, hl with | [_, _], _ => rfl
  let dL : Def K mg "_law_changed" sChanged ["table", "change"] := ⟨_, _, F15, b15, PySem.W.mg_of X G a15⟩
  have F16 := fun_mk (st := sDiffs) l16 c16 k16
  have b16 := F16.binds (ps := ["first", "second"]) fun _ _ _ _ _ _ us hl => match us, hl with | [_, _], _ => rfl
  let dF : Def K mg "_law_differences" sDiffs ["first", "second"] := ⟨_, _, F16, b16, PySem.W.mg_of X G a16⟩
  have F17 := fun_mk (st := sLJoined) l17 c17 k17
  have b17 := F17.binds (ps := ["first", "second", "low", "high"]) fun _ _ _ _ _ _ us hl => match us, hl with | [_, _, _, _], _ => rfl
  let dJ : Def K mg "_law_joined" sLJoined ["first", "second", "low", "high"] := ⟨_, _, F17, b17, PySem.W.mg_of X G a17⟩
  have F18 := fun_mk (st := sSecond) l18 c18 k18
  have b18 := F18.binds (ps := ["state", "table"]) fun _ _ _ _ _ _ us hl => match us, hl with | [_, _], _ => rfl
  let dN : Def K mg "_law_second" sSecond ["state", "table"] := ⟨_, _, F18, b18, PySem.W.mg_of X G a18⟩
  have F19 := fun_mk (st := sLaw) l19 c19 k19
  have b19 := F19.binds (ps := ["script"]) fun _ _ _ _ _ _ us hl => match us, hl with | [_], _ => rfl
  let dW : Def K mg "law" sLaw ["script"] := ⟨_, _, F19, b19, PySem.W.mg_of X G a19⟩
  have m_len := PySem.W.mg_none_of X G z1
  have m_int := PySem.W.mg_none_of X G z2
  have m_range := PySem.W.mg_none_of X G z3
  have m_tuple := PySem.W.mg_none_of X G z4
  have m_sorted := PySem.W.mg_none_of X G z5
  have m_list := PySem.W.mg_none_of X G z6
  have m_dict := PySem.W.mg_none_of X G z7
  have m_set := PySem.W.mg_none_of X G z8
  have m_sum := PySem.W.mg_none_of X G z9
  refine ⟨PySem.W.fnOf "law" "law" (defArgs sLaw) (defBody sLaw) (defScope sLaw) .none kV19 dc19 pm19 an19 cd19 ct19, fun s v => .of_eq rfl, fun base _ _ => ?_⟩
  have GD := ok_draw (P := l.prog) (w := w) (base := base) dD m_len m_int
  have GK := ok_key dK dD m_range GD
  have GR := ok_row dR dD m_range m_tuple GD
  have GT := ok_table dT dD dK dR m_range m_sorted GD GK GR
  have GS := ok_some_key dS dD dK m_len GD GK
  have GB := ok_bound dB dD dK m_len GD GK
  have GC := ok_change dC dD dS dR GD GS GR
  have G1 := ok_in_range (P := l.prog) (w := w) (base := base) d1
  have G2 := ok_pairs_in d2 d1 G1
  have G3 := ok_changes (P := l.prog) (w := w) (base := base) d3 m_dict m_sorted
  have G4 := ok_joined_rows d4 d2 m_dict G2
  have GI := ok_lwithin (P := l.prog) (w := w) (base := base) dI
  have GE := ok_cell (P := l.prog) (w := w) (base := base) dE m_len
  have GA := ok_lanswer dA dI dE m_len m_sum GI GE
  have GL := ok_changed (P := l.prog) (w := w) (base := base) dL
  have GF := ok_diffs dF dA m_sorted m_set GA
  have GJ := ok_ljoined dJ dI dA GI GA
  have GN := ok_second dN dD dT dC dL m_range GD GT GC GL
  exact ok_law dW dT dN dB d3 dF d4 dJ m_list m_range GT GN GB G3 GF G4 GJ
end RR
open PySem PySem.W PyProof.Rows
set_option maxRecDepth 100000 in
set_option maxHeartbeats 0 in
theorem PySem.Challenge.cw_rightrows_k06_two_tables_holds : PySem.Challenge.rw_rightrows_k06_two_tables.Holds := by
  w_on; o_law; k_head; (case hw => w_witness2)
  k_fill
  refine L2.walk_of (l := PySem.Challenge.rw_rightrows_k06_two_tables) (n := 63) (k := 6) (x := "script") (CX := fun _ => L2.CX0) (sp := fun w => RR.spLaw _) rfl (by decide) rfl ⟨rfl, by decide, by decide⟩ (fun w h Y => PySem.W.kIn_of Y) ?F (fun _ _ a ns hl _ hS => ⟨a, ns, rfl, hS, hl, fun _ => rfl⟩) (fun _ _ _ _ _ h => h)
  case F =>
    intro w mg fa h KX G hmg
    refine' RR.all_mk KX G hmg ?a1 ?l1 ?c1 ?k1 ?a2 ?l2 ?c2 ?k2 ?a3 ?l3 ?c3 ?k3 ?a4 ?l4 ?c4 ?k4 ?a5 ?l5 ?c5 ?k5 ?a6 ?l6 ?c6 ?k6 ?a7 ?l7 ?c7 ?k7 ?a8 ?l8 ?c8 ?k8 ?a9 ?l9 ?c9 ?k9 ?a10 ?l10 ?c10 ?k10 ?a11 ?l11 ?c11 ?k11 ?a12 ?l12 ?c12 ?k12 ?a13 ?l13 ?c13 ?k13 ?a14 ?l14 ?c14 ?k14 ?a15 ?l15 ?c15 ?k15 ?a16 ?l16 ?c16 ?k16 ?a17 ?l17 ?c17 ?k17 ?a18 ?l18 ?c18 ?k18 ?a19 ?l19 ?c19 ?k19 ?z1 ?z2 ?z3 ?z4 ?z5 ?z6 ?z7 ?z8 ?z9
    (case a1 => k_is); (case l1 => k_is); (case c1 => k_is); (case k1 => k_is); (case a2 => k_is); (case l2 => k_is)
    (case c2 => k_is); (case k2 => k_is); (case a3 => k_is); (case l3 => k_is); (case c3 => k_is); (case k3 => k_is)
    (case a4 => k_is); (case l4 => k_is); (case c4 => k_is); (case k4 => k_is); (case a5 => k_is); (case l5 => k_is)
    (case c5 => k_is); (case k5 => k_is); (case a6 => k_is); (case l6 => k_is); (case c6 => k_is); (case k6 => k_is)
    (case a7 => k_is); (case l7 => k_is); (case c7 => k_is); (case k7 => k_is); (case a8 => k_is); (case l8 => k_is)
    (case c8 => k_is); (case k8 => k_is); (case a9 => k_is); (case l9 => k_is); (case c9 => k_is); (case k9 => k_is)
    (case a10 => k_is); (case l10 => k_is); (case c10 => k_is); (case k10 => k_is); (case a11 => k_is); (case l11 => k_is)
    (case c11 => k_is); (case k11 => k_is); (case a12 => k_is); (case l12 => k_is); (case c12 => k_is); (case k12 => k_is)
    (case a13 => k_is); (case l13 => k_is); (case c13 => k_is); (case k13 => k_is); (case a14 => k_is); (case l14 => k_is)
    (case c14 => k_is); (case k14 => k_is); (case a15 => k_is); (case l15 => k_is); (case c15 => k_is); (case k15 => k_is)
    (case a16 => k_is); (case l16 => k_is); (case c16 => k_is); (case k16 => k_is); (case a17 => k_is); (case l17 => k_is)
    (case c17 => k_is); (case k17 => k_is); (case a18 => k_is); (case l18 => k_is); (case c18 => k_is); (case k18 => k_is)
    (case a19 => k_is); (case l19 => k_is); (case c19 => k_is); (case k19 => k_is); (case z1 => k_is); (case z2 => k_is)
    (case z3 => k_is); (case z4 => k_is); (case z5 => k_is); (case z6 => k_is); (case z7 => k_is); (case z8 => k_is)
    (case z9 => k_is)
