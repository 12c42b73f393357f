import PyProof.Rows.All
import Wide.All
import OpenK.AllK
import Wide.FinOn
import HandS.ForMost
import HandS.Wide
import HandS.Codes
import HandS.More
import HandS.IsInst
import PySem.Challenge.RW_rightrows_k04_answers
import PyProof.RulesMatchSeq
import PyProof.Rows.MatchSeqLen
set_option Elab.async false
set_option linter.all false
set_option maxRecDepth 100000
namespace RR
open PySem PySem.Spec PyProof.Rows L2
def topS (i : Nat) : Stmt := PySem.Challenge.pw_rightrows_k04_answers.main.body.getD i (.Pass ⟨0, 0, 0, 0⟩)
abbrev sDraw : Stmt := topS 12
/-! ### heaps -/
theorem same_new {H : Hp} {p : Addr} (h : H p = none) (o : HO) : Same H (upd H p o) := fun b u q => by
  rw [upd_ne (ne_of_none q h)]
  exact q
/-- all but the drawer's list stands as it was -/
def Le (st : Addr) (H H' : Hp) : Prop := ∀ b o, b ≠ st → H b = some o → H' b = some o
theorem Le.refl (st : Addr) (H : Hp) : Le st H H := fun _ _ _ h => h
theorem Le.trans {st : Addr} {H H1 H2 : Hp} (a : Le st H H1) (b : Le st H1 H2) : Le st H H2 := fun c o n h => b c o n (a c o n h)
theorem Le.of {st : Addr} {H H' : Hp} (a : Same H H') : Le st H H' := fun b o _ h => a b o h
theorem Le.st {st : Addr} {H : Hp} (o : HO) : Le st H (upd H st o) := fun b u n h => by
  rw [upd_ne n]
  exact h
/-- the drawer's list -/
def Good (st l : Addr) (H : Hp) : Prop := ∃ (a p c : Int) (ns : List Int), H st = some (.lst [.int a, .int p, .ref l, .int c]) ∧ 0 ≤ a ∧ 0 ≤ p ∧ 0 ≤ c ∧ c < 2147483647 ∧ l ≠ st ∧ H l = some (.lst (ns.map V.int))
theorem Good.same {st l : Addr} {H H' : Hp} (g : Good st l H) (s : Same H H') : Good st l H' := by
  obtain ⟨a, p, c, ns, h, h1, h2, h3, h4, h5, h6⟩ := g
  exact ⟨a, p, c, ns, s _ _ h, h1, h2, h3, h4, h5, s _ _ h6⟩
theorem Good.ne {st l D : Addr} {H : Hp} (g : Good st l H) (h : H D = none) : D ≠ st ∧ D ≠ l := by
  obtain ⟨a, p, c, ns, h1, _, _, _, _, _, h6⟩ := g
  refine ⟨fun e => ?_, fun e => ?_⟩
  · rw [e, h1] at h
    cases h
  · rw [e, h6] at h
    cases h
theorem Good.put {st l D : Addr} {H : Hp} {o : HO} (g : Good st l H) (h : D ≠ st ∧ D ≠ l) : Good st l (upd H D o) := by
  obtain ⟨a, p, c, ns, h1, h2, h3, h4, h5, h6, h7⟩ := g
  exact ⟨a, p, c, ns, by rw [upd_ne h.1.symm]; exact h1, h2, h3, h4, h5, h6, by rw [upd_ne h.2.symm]; exact h7⟩
theorem Le.mut {st D : Addr} {H H' : Hp} {o : HO} (le : Le st H H') (h : H D = none) : Le st H (upd H' D o) := fun b u n e => by
  rw [upd_ne (ne_of_none e h)]
  exact le b u n e
theorem small {n : Nat} (h : n ≤ 1000) : n ≤ sizeLine := Nat.le_of_lt (small1000 h)
/-- a def of the text as it stands behind the top -/
structure Def (K : PySem.W.Frag) (mg : Str → Option Value) (x : Str) (st : Stmt) (ps : List Str) where
  f : Addr
  fd : FuncData
  F : Fun K x x st f fd
  b : Binds K fd ps []
  m : mg x = some (.ref f)
def spDraw : Sp := fun vs H Q _ => ∃ (st l : Addr) (n : Int), vs = [.ref st, .int n] ∧ Good st l H ∧ 0 < n ∧ n.natAbs < 2 ^ 200 ∧ ∀ d H', 0 ≤ d → d < n → Le st H H' → Good st l H' → Q (.int d) H'
theorem scDraw : FnScope ["state", "limit", "position", "cell", "mixed", "digit"] ["state", "limit"] (defScope sDraw) := ⟨rfl, rfl, rfl, by decide +kernel, rfl, by decide +kernel, by decide +kernel⟩
section
variable {P : Program} {w : World} {K : PySem.W.Frag} {mg : Str → Option Value} {base : Heap}
theorem ok_draw (D : Def K mg "_law_draw" sDraw ["state", "limit"]) (ml : mg "len" = none) (mi : mg "int" = none) : FnOk P w K mg base CX0 1 D.f D.fd ["state", "limit"] spDraw := by
  refine D.F.ok scDraw (fun vs H Q E h => ?_) (fun cdv A outer s H vs Q E hr h => ?_)
  · obtain ⟨st, l, n, rfl, _⟩ := h
    rfl
  obtain ⟨st, l, n, rfl, g, hn0, hn, q⟩ := h
  refine ⟨_, C8.pss_cut (ps_if (pt_cmpR op_lt (pe_ix ix_list (pv 0) pe_int (fun _ _ => rfl)) (pv 1) (nomark _))
      (pss_cons (ps_set (i := 2) scDraw.nd rfl (.inl rfl) (pe_ix ix_list (pv 0) pe_int (fun _ _ => rfl)))
      (pss_cons (ps_asg (pe_op op_add (pv 2) pe_int) (pg_sub (pv 0) pe_int set_list))
      (pss_cons (ps_set (i := 3) scDraw.nd rfl (.inl rfl) pe_int)
      (C8.pss_cut (ps_if (pt_cmpR op_lt (pv 2) (pe_callB call_len_seq (by rfl) ml PySem.boot_len (pa_cons (pe_ix ix_list (pv 0) pe_int (fun _ _ => rfl)) pa_nil)) (nomark _))
        (pss_one (ps_set (i := 3) scDraw.nd rfl (.inl rfl) (pe_ix ix_list (pe_ix ix_list (pv 0) pe_int (fun _ _ => rfl)) (pv 2) (fun _ _ => rfl)))) pss_nil)
      (pss_one (ps_if (pt_cmpR op_ge (pv 3) (pe_op op_pow pe_int pe_int) (nomark _))
        (pss_one (ps_asg (pv 3) (pg_sub (pv 0) pe_int set_list)))
        (C8.pss_cut (ps_asg (pe_op op_modN (pe_callTy call_int1 (by rfl) mi (by decide +kernel) (pa_cons (pe_op op_mul (pe_op op_add (pe_op op_add (pe_op op_add (pe_ix ix_list (pv 0) pe_int (fun _ _ => rfl)) (pe_op op_modN (pe_callTy call_int1 (by rfl) mi (by decide +kernel) (pa_cons (pv 3) pa_nil)) pe_int)) (pv 2)) pe_int) pe_int) pa_nil)) pe_int) (pg_sub (pv 0) pe_int set_list))
        (C8.pss_cut (ps_set (i := 4) scDraw.nd rfl (.inl rfl) (pe_op op_modN (pe_callTy call_int1 (by rfl) mi (by decide +kernel) (pa_cons (pe_op op_add (pe_op op_mul (pe_ix ix_list (pv 0) pe_int (fun _ _ => rfl)) pe_int) pe_int) pa_nil)) pe_int))
        (pss_one (ps_asg (pe_op op_add (pe_op op_mul (pv 4) pe_int) (pe_op op_modN (pe_callTy call_int1 (by rfl) mi (by decide +kernel) (pa_cons (pe_op op_add (pe_op op_mul (pv 4) pe_int) (pe_ix ix_list (pv 0) pe_int (fun _ _ => rfl))) pa_nil)) pe_int)) (pg_sub (pv 0) pe_int set_list))))))))))) pss_nil)
    (pss_cons (ps_set (i := 5) scDraw.nd rfl (.inl rfl) (pe_op op_modN (pe_callTy call_int1 (by rfl) mi (by decide +kernel) (pa_cons (pe_ix ix_list (pv 0) pe_int (fun _ _ => rfl)) pa_nil)) (pv 1)))
    (pss_cons (ps_asg (pe_op op_fdivW (pe_ix ix_list (pv 0) pe_int (fun _ _ => rfl)) (pv 1)) (pg_sub (pv 0) pe_int set_list))
    (pss_one (ps_ret (pv 5))))), ?_⟩
  obtain ⟨a, p, c, ns, h, ha, hp, hc, hc2, hl, hns⟩ := g
  refine ⟨fun σ' H' => ∃ y2 y3 y4 y5, σ' = [some (.ref st), some (.int n), y2, y3, y4, y5] ∧ Le st H H' ∧ Good st l H', ?_, ?_⟩
  · refine ⟨_, rfl, st, _, 0, _, rfl, rfl, SqL.of h, atI_nat (j := 0) rfl, _, rfl, _, _, rfl, rfl, _, rfl, ite2 (fun _ => ?_) (fun _ => ?_)⟩
    · refine ⟨_, rfl, st, _, 1, _, rfl, rfl, SqL.of h, atI_nat (j := 1) rfl, ?_⟩
      refine ⟨_, rfl, _, _, rfl, rfl, _, rfl, st, _, 1, 1, rfl, rfl, h, rfl, ?_⟩
      have h1 : upd H st (.lst ([.int a, .int p, .ref l, .int c].set 1 (.int (p + 1)))) st = some (.lst [.int a, .int (p + 1), .ref l, .int c]) := upd_same
      have hns1 : upd H st (.lst ([.int a, .int p, .ref l, .int c].set 1 (.int (p + 1)))) l = some (.lst (ns.map V.int)) := by
        rw [upd_ne hl]
        exact hns
      refine ⟨fun σ' H' => ∃ cell : Int, σ' = [some (.ref st), some (.int n), some (.int p), some (.int cell), none, none] ∧ H' = upd H st (.lst ([.int a, .int p, .ref l, .int c].set 1 (.int (p + 1)))), ?_, ?_⟩
      · refine ⟨_, rfl, _, rfl, st, _, 2, _, rfl, rfl, SqL.of h1, atI_nat (j := 2) rfl, l, _, rfl, .inl (SqL.of hns1), _, _, rfl, rfl, _, rfl, ite2 (fun hlt => ?_) (fun _ => ?_)⟩
        · have hlt2 : p < (((ns.map V.int).length : Nat) : Int) := of_decide_eq_true hlt
          rw [List.length_map] at hlt2
          have hk : p.toNat < ns.length := by omega
          have hg : atI (ns.map V.int) p = some (.int ns[p.toNat]) := by
            have e : ((p.toNat : Nat) : Int) = p := by omega
            have z : atI (ns.map V.int) ((p.toNat : Nat) : Int) = some (.int ns[p.toNat]) := atI_nat (by rw [List.getElem?_map, List.getElem?_eq_getElem hk]; rfl)
            rw [e] at z
            exact z
          refine ⟨_, rfl, st, _, 2, _, rfl, rfl, SqL.of h1, atI_nat (j := 2) rfl, _, rfl, l, _, p, _, rfl, rfl, SqL.of hns1, hg, ?_⟩
          exact ⟨_, rfl, rfl⟩
        · exact ⟨_, rfl, rfl⟩
      · rintro σ' H' ⟨cell, rfl, rfl⟩
        refine ⟨_, rfl, 10, 18, rfl, rfl, ⟨by decide, by decide, by decide⟩, _, _, rfl, rfl, _, rfl, ite2 (fun hge => ?_) (fun _ => ?_)⟩
        · have hge2 : cell ≥ 10 ^ 18 := of_decide_eq_true hge
          refine ⟨_, rfl, _, rfl, st, _, 0, 0, rfl, rfl, h1, rfl, ?_⟩
          refine ⟨_, _, _, _, rfl, fun b o nb e => by rw [upd_ne nb, upd_ne nb]; exact e, cell, p + 1, c, ns, upd_same, by omega, by omega, hc, hc2, hl, ?_⟩
          rw [upd_ne hl]
          exact hns1
        · have le1 : Le st H (upd H st (.lst ([.int a, .int p, .ref l, .int c].set 1 (.int (p + 1))))) := Le.st _
          refine ⟨fun σ' H' => ∃ x : Int, σ' = [some (.ref st), some (.int n), some (.int p), some (.int cell), none, none] ∧ 0 ≤ x ∧ x < 2147483647 ∧ H' st = some (.lst [.int a, .int (p + 1), .ref l, .int x]) ∧ H' l = some (.lst (ns.map V.int)) ∧ Le st H H', ?_, ?_⟩
          · refine ⟨_, rfl, st, _, 3, _, rfl, rfl, SqL.of h1, atI_nat (j := 3) rfl, _, rfl, .inl ⟨_, rfl, _, _, rfl, rfl, (by show (2147483629 : Int) ≠ 0; decide), _, _, rfl, rfl, ?_⟩⟩
            refine ⟨_, rfl, _, _, rfl, rfl, _, _, rfl, rfl, _, _, rfl, rfl, .inr (by decide), .inl ⟨_, rfl, _, _, rfl, rfl, (by show (2147483647 : Int) ≠ 0; decide), ?_⟩⟩
            refine ⟨_, rfl, st, _, 3, 3, rfl, rfl, h1, rfl, ?_⟩
            exact ⟨_, rfl, Int.fmod_nonneg_of_pos _ (by decide), Int.fmod_lt_of_pos _ (by decide), upd_same, by rw [upd_ne hl]; exact hns1, le1.trans (Le.st _)⟩
          · rintro σ' H2 ⟨x, rfl, hx0, hx1, h2, hns2, le2⟩
            refine ⟨fun σ' H' => ∃ m : Int, σ' = [some (.ref st), some (.int n), some (.int p), some (.int cell), some (.int m), none] ∧ 0 ≤ m ∧ H' = H2, ?_, ?_⟩
            · refine ⟨_, rfl, st, _, 3, _, rfl, rfl, SqL.of h2, atI_nat (j := 3) rfl, _, _, rfl, rfl, .inr (by decide), _, _, rfl, rfl, .inl ⟨_, rfl, _, _, rfl, rfl, (by show (2147483629 : Int) ≠ 0; decide), ?_⟩⟩
              exact ⟨_, rfl, Int.fmod_nonneg_of_pos _ (by decide), rfl⟩
            · rintro σ' H3 ⟨m, rfl, hm0, rfl⟩
              refine ⟨_, rfl, _, _, rfl, rfl, .inr (by decide), _, rfl, _, _, rfl, rfl, .inr (by decide), _, rfl, st, _, 3, _, rfl, rfl, SqL.of h2, atI_nat (j := 3) rfl, _, _, rfl, rfl, .inl ⟨_, rfl, _, _, rfl, rfl, (by show (2147483587 : Int) ≠ 0; decide), _, _, rfl, rfl, ?_⟩⟩
              refine ⟨_, rfl, st, _, 0, 0, rfl, rfl, h2, rfl, ?_⟩
              have hk0 : 0 ≤ Int.fmod (m * 30011 + x) 2147483587 := Int.fmod_nonneg_of_pos _ (by decide)
              refine ⟨_, _, _, _, rfl, le2.trans (Le.st _), m * 2147483647 + Int.fmod (m * 30011 + x) 2147483587, p + 1, x, ns, upd_same, by omega, by omega, hx0, hx1, hl, ?_⟩
              rw [upd_ne hl]
              exact hns2
    · exact ⟨_, _, _, _, rfl, Le.refl _ _, a, p, c, ns, h, ha, hp, hc, hc2, hl, hns⟩
  · rintro σ' H' ⟨y2, y3, y4, y5, rfl, le, a, p, c, ns, h, ha, hp, hc, hc2, hl, hns⟩
    refine ⟨_, rfl, st, _, 0, _, rfl, rfl, SqL.of h, atI_nat (j := 0) rfl, .inl ⟨_, rfl, ?_⟩⟩
    refine ⟨_, rfl, _, _, rfl, rfl, (by omega), ?_⟩
    refine ⟨_, rfl, st, _, 0, _, rfl, rfl, SqL.of h, atI_nat (j := 0) rfl, _, rfl, _, _, rfl, rfl, wide_div hn0 hn (by decide) (by decide), ?_⟩
    refine ⟨_, rfl, st, _, 0, 0, rfl, rfl, h, rfl, ?_⟩
    refine ⟨_, rfl, ?_⟩
    refine q _ _ (Int.fmod_nonneg_of_pos _ hn0) (Int.fmod_lt_of_pos _ hn0) (fun b o nb e => by rw [upd_ne nb]; exact le _ _ nb e) ⟨a / n, p, c, ns, upd_same, Int.ediv_nonneg ha (by omega), hp, hc, hc2, hl, by rw [upd_ne hl]; exact hns⟩
end
end RR

namespace RR
open PySem PySem.Spec PyProof.Rows L2
abbrev sKey : Stmt := topS 13
abbrev sRow : Stmt := topS 14
/-! ### data that never changes -/
/-- tuples stand as they stood -/
def Tk (H H' : Hp) : Prop := ∀ a xs, H a = some (.tup xs) → H' a = some (.tup xs)
theorem Tk.refl (H : Hp) : Tk H H := fun _ _ h => h
theorem Tk.trans {H H1 H2 : Hp} (a : Tk H H1) (b : Tk H1 H2) : Tk H H2 := fun c o h => b c o (a c o h)
theorem Tk.same {H H' : Hp} (s : Same H H') : Tk H H' := fun _ _ h => s _ _ h
theorem Tk.le {st l : Addr} {H H' : Hp} (g : Good st l H) (s : Le st H H') : Tk H H' := fun a xs h => s a _ (fun e => by
  obtain ⟨i, p, c, ns, h2, _⟩ := g
  rw [e, h2] at h
  cases h) h
/-- a store to what is no tuple -/
theorem Tk.put {H : Hp} {p : Addr} (o : HO) (h : ∀ xs, H p ≠ some (.tup xs)) : Tk H (upd H p o) := fun a xs e => by
  rw [upd_ne (fun z => h xs (by rw [← z]; exact e))]
  exact e
theorem Tk.new {H : Hp} {p : Addr} (h : H p = none) (o : HO) : Tk H (upd H p o) := Tk.same (same_new h o)
mutual
inductive TD (H : Hp) : V → PyData → Prop
  | non : TD H .non .none
  | int (i : Int) : TD H (.int i) (.int i)
  | str (x : Str) : TD H (.str x) (.str x)
  | tup {a : Addr} {xs : List V} {ds : List PyData} : H a = some (.tup xs) → TDs H xs ds → TD H (.ref a) (.tuple ds)
inductive TDs (H : Hp) : List V → List PyData → Prop
  | nil : TDs H [] []
  | cons {v : V} {vs : List V} {d : PyData} {ds : List PyData} : TD H v d → TDs H vs ds → TDs H (v :: vs) (d :: ds)
end
mutual
theorem TD.mono {H H' : Hp} (k : Tk H H') : ∀ (d : PyData) (v : V), TD H v d → TD H' v d
  | _, _, .non => .non
  | _, _, .int i => .int i
  | _, _, .str x => .str x
  | .tuple ds, .ref a, .tup (xs := xs) h hs => .tup (k _ _ h) (TDs.mono k ds xs hs)
theorem TDs.mono {H H' : Hp} (k : Tk H H') : ∀ (ds : List PyData) (vs : List V), TDs H vs ds → TDs H' vs ds
  | _, _, .nil => .nil
  | d :: ds, v :: vs, .cons h hs => .cons (TD.mono k d v h) (TDs.mono k ds vs hs)
end
mutual
theorem TD.dp {K : PySem.W.Frag} {H : Hp} : ∀ (d : PyData) (v : V), TD H v d → Dp K H v d
  | _, _, .non => .non
  | _, _, .int i => .int i
  | _, _, .str x => .str x
  | .tuple ds, .ref a, .tup (xs := xs) h hs => .tup (SqT.of h) (TDs.dp ds xs hs)
theorem TDs.dp {K : PySem.W.Frag} {H : Hp} : ∀ (ds : List PyData) (vs : List V), TDs H vs ds → DpAll K H vs ds
  | _, _, .nil => .nil
  | d :: ds, v :: vs, .cons h hs => .cons (TD.dp d v h) (TDs.dp ds vs hs)
end
theorem TDs.length {H : Hp} : ∀ {vs : List V} {ds : List PyData}, TDs H vs ds → vs.length = ds.length
  | _, _, .nil => rfl
  | _, _, .cons _ h => congrArg Nat.succ (TDs.length h)
theorem TDs.get {H : Hp} : ∀ {vs : List V} {ds : List PyData}, TDs H vs ds → ∀ (i : Nat) (v : V), vs[i]? = some v → ∃ d, ds[i]? = some d ∧ TD H v d
  | _, _, .nil, i, v, h => by simp at h
  | _, _, .cons h1 h, 0, v, e => ⟨_, rfl, by
      have e2 := Option.some.inj e
      rw [← e2]
      exact h1⟩
  | _, _, .cons h1 h, i + 1, v, e => TDs.get h i v e
theorem TDs.app {H : Hp} : ∀ {vs ws : List V} {ds es : List PyData}, TDs H vs ds → TDs H ws es → TDs H (vs ++ ws) (ds ++ es)
  | _, _, _, _, .nil, h => h
  | _, _, _, _, .cons h1 h2, h => .cons h1 (TDs.app h2 h)
theorem TDs.ints {H : Hp} : ∀ ns : List Int, TDs H (ns.map V.int) (ns.map PyData.int)
  | [] => .nil
  | n :: r => .cons (.int n) (TDs.ints r)
def rowD (ns : List Int) : PyData := .tuple (ns.map PyData.int)
def pairD (p : Str × List Int) : PyData := .tuple [.str p.1, rowD p.2]
/-! ### keys, rows -/
def letS : Str := "abcdefghijklmnopqrstuvwxyz0123456789"
def KeyOk (s : Str) : Prop := 1 ≤ s.length ∧ s.length ≤ 8 ∧ ∀ c ∈ s.cps.toList, c ∈ letS.cps.toList
def RowOk (ns : List Int) : Prop := 1 ≤ ns.length ∧ ns.length ≤ 3 ∧ ∀ n ∈ ns, 0 ≤ n ∧ n ≤ 65535
theorem pick {z : Str} {d : Int} (h0 : 0 ≤ d) (h1 : d < (z.cps.toList.length : Int)) : ∃ c, atI z.cps.toList d = some c ∧ c ∈ z.cps.toList := by
  have hk : d.toNat < z.cps.toList.length := by omega
  have e : ((d.toNat : Nat) : Int) = d := by omega
  have q : atI z.cps.toList ((d.toNat : Nat) : Int) = some z.cps.toList[d.toNat] := atI_nat (List.getElem?_eq_getElem hk)
  rw [e] at q
  exact ⟨_, q, List.getElem_mem hk⟩
def spKey : Sp := fun vs H Q _ => ∃ st l : Addr, vs = [.ref st] ∧ Good st l H ∧ ∀ s H', KeyOk s → Le st H H' → Good st l H' → Q (.str s) H'
def spRow : Sp := fun vs H Q _ => ∃ st l : Addr, vs = [.ref st] ∧ Good st l H ∧ ∀ r ns H', RowOk ns → Le st H H' → Good st l H' → H' r = some (.tup (ns.map V.int)) → Q (.ref r) H'
theorem scKey : FnScope ["state", "letters", "choice", "key", "k"] ["state"] (defScope sKey) := ⟨rfl, rfl, rfl, by decide +kernel, rfl, by decide +kernel, by decide +kernel⟩
theorem scRow : FnScope ["state", "k"] ["state"] (defScope sRow) := ⟨rfl, rfl, rfl, by decide +kernel, rfl, by decide +kernel, by decide +kernel⟩
theorem sub1 : ∀ c ∈ ("abcdefghij" : Str).cps.toList, c ∈ letS.cps.toList := by decide +kernel
theorem sub2 : ∀ c ∈ ("ab0z" : Str).cps.toList, c ∈ letS.cps.toList := by decide +kernel
theorem sub3 : ∀ c ∈ ("ab9" : Str).cps.toList, c ∈ letS.cps.toList := by decide +kernel
theorem len1 : (("abcdefghij" : Str).cps.toList.length : Int) = 10 := by decide +kernel
theorem len2 : (("ab0z" : Str).cps.toList.length : Int) = 4 := by decide +kernel
theorem len3 : (("ab9" : Str).cps.toList.length : Int) = 3 := by decide +kernel
theorem lenL : (letS.cps.toList.length : Int) = 36 := by decide +kernel
theorem app_list (a b : Str) : (a ++ b).cps.toList = a.cps.toList ++ b.cps.toList := Array.toList_append
theorem str_len (a : Str) : a.length = a.cps.toList.length := (Array.length_toList).symm
theorem app_len (a b : Str) : (a ++ b).length = a.length + b.length := by
  rw [str_len, str_len, str_len, app_list, List.length_append]
theorem KeyOk.app {s : Str} {c : Nat} (h : s.length < 8) (hs : ∀ c ∈ s.cps.toList, c ∈ letS.cps.toList) (hc : c ∈ letS.cps.toList) : KeyOk (s ++ ⟨#[c]⟩) := by
  refine ⟨?_, ?_, fun x hx => ?_⟩
  · rw [app_len]
    show 1 ≤ s.length + 1
    omega
  · rw [app_len]
    show s.length + 1 ≤ 8
    omega
  · rw [app_list, List.mem_append] at hx
    rcases hx with hx | hx
    · exact hs x hx
    · have e : x = c := by simpa using hx
      rw [e]
      exact hc
theorem pow7 {n : Nat} (h : n ≤ 100000) : n < 2 ^ 200 := Nat.lt_of_le_of_lt h (by decide)
section
variable {P : Program} {w : World} {K : PySem.W.Frag} {mg : Str → Option Value} {base : Heap}
theorem ok_key (D : Def K mg "_law_key" sKey ["state"]) (DD : Def K mg "_law_draw" sDraw ["state", "limit"]) (mr : mg "range" = none) (GD : FnOk P w K mg base CX0 1 DD.f DD.fd ["state", "limit"] spDraw) : FnOk P w K mg base CX0 2 D.f D.fd ["state"] spKey := by
  refine D.F.ok scKey (fun vs H Q E h => ?_) (fun cdv A outer s H vs Q E hr h => ?_)
  · obtain ⟨st, l, rfl, _⟩ := h
    rfl
  obtain ⟨st, l, rfl, g, q⟩ := h
  refine ⟨_, pss_cons (ps_set (i := 1) scKey.nd rfl (.inl rfl) pe_str)
    (pss_cons (ps_set (i := 2) scKey.nd rfl (.inl rfl) (pe_call GD hr (by rfl) DD.m DD.F.kp DD.b .nil pass0 (pa_cons (pv 0) (pa_cons pe_int pa_nil))))
    (pss_cons (ps_if (pt_cmpR op_eq (pv 2) pe_int (nomark _))
      (pss_one (ps_ret (pe_ix ix_str pe_str (pe_call GD hr (by rfl) DD.m DD.F.kp DD.b .nil pass0 (pa_cons (pv 0) (pa_cons pe_int pa_nil))) (fun _ _ => rfl)))) pss_nil)
    (pss_cons (ps_if (pt_cmpR op_eq (pv 2) pe_int (nomark _))
      (pss_one (ps_ret (pe_op op_add_str (pe_ix ix_str pe_str (pe_call GD hr (by rfl) DD.m DD.F.kp DD.b .nil pass0 (pa_cons (pv 0) (pa_cons pe_int pa_nil))) (fun _ _ => rfl)) (pe_ix ix_str pe_str (pe_call GD hr (by rfl) DD.m DD.F.kp DD.b .nil pass0 (pa_cons (pv 0) (pa_cons pe_int pa_nil))) (fun _ _ => rfl))))) pss_nil)
    (pss_cons (ps_set (i := 3) scKey.nd rfl (.inl rfl) pe_str)
    (pss_cons (ps_for PassesOwn.never rfl (pi_range1 (by rfl) mr (pa_cons (pe_op op_add pe_int (pe_call GD hr (by rfl) DD.m DD.F.kp DD.b .nil pass0 (pa_cons (pv 0) (pa_cons pe_int pa_nil)))) pa_nil)) (pg_name (i := 4) scKey.nd rfl (.inl rfl))
      (pss_one (ps_set (i := 3) scKey.nd rfl (.inl rfl) (pe_op op_add_str (pv 3) (pe_ix ix_str (pv 1) (pe_call GD hr (by rfl) DD.m DD.F.kp DD.b .nil pass0 (pa_cons (pv 0) (pa_cons pe_int pa_nil))) (fun _ _ => rfl))))))
    (pss_one (ps_ret (pv 3)))))))), ?_⟩
  refine ⟨_, rfl, st, l, 3, rfl, g, by decide, by decide, fun d H1 d0 d1 le1 g1 => ?_⟩
  refine ⟨_, rfl, rfl, _, rfl, ite2 (fun _ => ?_) (fun _ => ?_)⟩
  · refine ⟨_, rfl, st, l, 10, rfl, g1, by decide, by decide, fun d2 H2 d20 d21 le2 g2 => ?_⟩
    obtain ⟨c, hc, hm⟩ := pick (z := "abcdefghij") d20 (by rw [len1]; exact d21)
    refine ⟨_, _, c, rfl, rfl, by decide, hc, ?_⟩
    refine q _ _ ⟨by show 1 ≤ 1; decide, by show 1 ≤ 8; decide, fun x hx => ?_⟩ (le1.trans le2) g2
    have e : x = c := by simpa using hx
    rw [e]
    exact sub1 c hm
  refine ⟨_, rfl, rfl, _, rfl, ite2 (fun _ => ?_) (fun _ => ?_)⟩
  · refine ⟨_, rfl, st, l, 4, rfl, g1, by decide, by decide, fun d2 H2 d20 d21 le2 g2 => ?_⟩
    obtain ⟨c, hc, hm⟩ := pick (z := "ab0z") d20 (by rw [len2]; exact d21)
    refine ⟨_, _, c, rfl, rfl, by decide, hc, ?_⟩
    refine ⟨_, rfl, st, l, 3, rfl, g2, by decide, by decide, fun d3 H3 d30 d31 le3 g3 => ?_⟩
    obtain ⟨c3, hc3, hm3⟩ := pick (z := "ab9") d30 (by rw [len3]; exact d31)
    refine ⟨_, _, c3, rfl, rfl, by decide, hc3, ?_⟩
    refine ⟨_, _, rfl, rfl, by show 2 ≤ sizeLine; decide, ?_⟩
    refine q _ _ (KeyOk.app (by show 1 < 8; decide) (fun x hx => ?_) (sub3 c3 hm3)) ((le1.trans le2).trans le3) g3
    have e : x = c := by simpa using hx
    rw [e]
    exact sub2 c hm
  refine ⟨_, rfl, st, l, 8, rfl, g1, by decide, by decide, fun d2 H2 d20 d21 le2 g2 => ?_⟩
  refine ⟨_, _, rfl, rfl, _, rfl, by omega, by omega, for_range (lo := 0) (n := (1 + d2).toNat) (fun i σ H' => ∃ s y, σ = [some (.ref st), some (.str letS), some (.int d), some (.str s), y] ∧ s.length = i ∧ (∀ c ∈ s.cps.toList, c ∈ letS.cps.toList) ∧ Le st H H' ∧ Good st l H') ?_ ?_ ?_⟩
  · exact ⟨_, _, rfl, rfl, fun c hc => (by cases hc), le1.trans le2, g2⟩
  · rintro i σ H' hi ⟨s, y, rfl, hl, hs, le, g3⟩
    refine ⟨_, rfl, _, rfl, _, rfl, st, l, 36, rfl, g3, by decide, by decide, fun d3 H3 d30 d31 le3 g3 => ?_⟩
    obtain ⟨c, hc, hm⟩ := pick (z := letS) d30 (by rw [lenL]; exact d31)
    refine ⟨_, _, c, rfl, rfl, by decide +kernel, hc, ?_⟩
    have hl8 : s.length < 8 := by omega
    refine ⟨_, _, rfl, rfl, by show s.length + 1 ≤ sizeLine; exact small (by omega), ?_⟩
    refine ⟨_, _, rfl, ?_, (KeyOk.app hl8 hs hm).2.2, le.trans le3, g3⟩
    rw [app_len, hl]
    rfl
  · rintro σ H' ⟨s, y, rfl, hl, hs, le, g3⟩
    exact ⟨_, rfl, q _ _ ⟨by omega, by omega, hs⟩ le g3⟩
theorem ok_row (D : Def K mg "_law_row" sRow ["state"]) (DD : Def K mg "_law_draw" sDraw ["state", "limit"]) (mr : mg "range" = none) (mt : mg "tuple" = none) (GD : FnOk P w K mg base CX0 1 DD.f DD.fd ["state", "limit"] spDraw) : FnOk P w K mg base CX0 2 D.f D.fd ["state"] spRow := by
  refine D.F.ok scRow (fun vs H Q E h => ?_) (fun cdv A outer s H vs Q E hr h => ?_)
  · obtain ⟨st, l, rfl, _⟩ := h
    rfl
  obtain ⟨st, l, rfl, g, q⟩ := h
  refine ⟨_, pss_one (ps_ret (pe_callTy call_tuple_of (by rfl) mt (by decide +kernel) (pa_cons (pe_lc (own := [("k", 1)]) (g := gName 1) (by rfl) scRow.nd
      (pi_range1 (by rfl) mr (pa_cons (pe_op op_add pe_int (pe_call GD hr (by rfl) DD.m DD.F.kp DD.b .nil pass0 (pa_cons (pv 0) (pa_cons pe_int pa_nil)))) pa_nil))
      (blkOk_by (own := [("k", 1)]) (N := ["state", "k"]) (sc := defScope sRow) (by decide +kernel))
      (fun _ _ _ _ _ => pg_name (i := 1) scRow.nd rfl (Or.inl rfl)) (fun _ _ _ _ _ => pts_nil)
      (fun _ _ _ _ _ => pe_call GD hr (by rfl) DD.m DD.F.kp DD.b .nil pass0 (pa_cons (pv 0) (pa_cons (pe_ix (r := rIxL K) ix_list (pe_lst (pa_cons pe_int (pa_cons pe_int pa_nil))) (pe_call GD hr (by rfl) DD.m DD.F.kp DD.b .nil pass0 (pa_cons (pv 0) (pa_cons pe_int pa_nil))) (fun _ _ => rfl)) pa_nil)))) pa_nil))), ?_⟩
  refine ⟨_, rfl, st, l, 3, rfl, g, by decide, by decide, fun d H1 d0 d1 le1 g1 => ?_⟩
  refine ⟨_, _, rfl, rfl, _, rfl, by omega, by omega, fun D hD => ?_⟩
  refine lc_range (lo := 0) (n := (1 + d).toNat) (fun i H' => ∃ ns : List Int, H' D = some (.lst (ns.map V.int)) ∧ ns.length = i ∧ (∀ n ∈ ns, 0 ≤ n ∧ n ≤ 65535) ∧ Le st H1 H' ∧ Good st l H') ?_ ?_ ?_
  · exact ⟨[], upd_same, rfl, fun n hn => (by cases hn), Le.of (same_new hD _), g1.same (same_new hD _)⟩
  · rintro i H2 hi ⟨ns, hns, hl, hb, le2, g2⟩
    refine ⟨rfl, ?_⟩
    refine ⟨_, rfl, by show 2 ≤ sizeLine; decide, fun z hz => ?_⟩
    have nDz : D ≠ z := ne_of_none hns hz
    have g3 := g2.same (same_new hz (.lst [.int 4, .int 65536]))
    refine ⟨_, rfl, st, l, 2, rfl, g3, by decide, by decide, fun d3 H3 d30 d31 le3 g3 => ?_⟩
    have hz3 : H3 z = some (.lst [.int 4, .int 65536]) := le3 z _ (g2.ne hz).1 upd_same
    have hD3 : H3 D = some (.lst (ns.map V.int)) := le3 D _ (g1.ne hD).1 (by rw [upd_ne nDz]; exact hns)
    obtain ⟨m, hm, m0, m1⟩ : ∃ m : Int, atI [V.int 4, .int 65536] d3 = some (.int m) ∧ 0 < m ∧ m ≤ 65536 := by
      rcases (by omega : d3 = 0 ∨ d3 = 1) with e | e
      · exact ⟨4, by rw [e]; rfl, by decide, by decide⟩
      · exact ⟨65536, by rw [e]; rfl, by decide, by decide⟩
    refine ⟨z, _, d3, _, rfl, rfl, SqL.of hz3, hm, ?_⟩
    refine ⟨st, l, m, rfl, g3, m0, pow7 (by omega), fun d4 H4 d40 d41 le4 g4 => ?_⟩
    have hD4 : H4 D = some (.lst (ns.map V.int)) := le4 D _ (g1.ne hD).1 hD3
    refine ⟨_, hD4, ?_, ns ++ [d4], ?_, ?_, ?_, ?_, g4.put (g1.ne hD)⟩
    · rw [List.length_map]
      exact small1000 (by omega)
    · rw [upd_same, List.map_append]
      rfl
    · rw [List.length_append, hl]
      rfl
    · intro n hn
      rw [List.mem_append] at hn
      rcases hn with hn | hn
      · exact hb n hn
      · have e : n = d4 := by simpa using hn
        omega
    · exact (((le2.trans (Le.of (same_new hz _))).trans le3).trans le4).mut hD
  · rintro H2 ⟨ns, hns, hl, hb, le2, g2⟩
    refine ⟨D, _, rfl, .inl ⟨SqL.of hns, fun r hr2 => ?_⟩⟩
    refine q r ns _ ⟨by omega, by omega, hb⟩ ((le1.trans le2).trans (Le.of (same_new hr2 _))) (g2.same (same_new hr2 _)) upd_same
end
end RR

namespace RR
open PySem PySem.Spec PyProof.Rows L2
abbrev sTable : Stmt := topS 15
/-! ### order of keys -/
def Lt (a b : Str) : Prop := a.cps.toList < b.cps.toList
theorem tri : ∀ a b : List Nat, a < b ∨ a = b ∨ b < a
  | [], [] => .inr (.inl rfl)
  | [], _ :: _ => .inl (by simp)
  | _ :: _, [] => .inr (.inr (by simp))
  | x :: a, y :: b => by
    rcases Nat.lt_trichotomy x y with h | h | h
    · exact .inl (List.cons_lt_cons_iff.mpr (.inl h))
    · subst h
      rcases tri a b with q | q | q
      · exact .inl (List.cons_lt_cons_iff.mpr (.inr ⟨rfl, q⟩))
      · exact .inr (.inl (by rw [q]))
      · exact .inr (.inr (List.cons_lt_cons_iff.mpr (.inr ⟨rfl, q⟩)))
    · exact .inr (.inr (List.cons_lt_cons_iff.mpr (.inl h)))
theorem ltr : ∀ {a b c : List Nat}, a < b → b < c → a < c
  | _, [], _, h, _ => absurd h (by simp)
  | _, _ :: _, [], _, h => absurd h (by simp)
  | [], _ :: _, _ :: _, _, _ => by simp
  | x :: a, y :: b, z :: c, h, k => by
    rw [List.cons_lt_cons_iff] at h k ⊢
    rcases h with h | ⟨rfl, h⟩
    · rcases k with k | ⟨rfl, k⟩
      · exact .inl (Nat.lt_trans h k)
      · exact .inl h
    · rcases k with k | ⟨rfl, k⟩
      · exact .inl k
      · exact .inr ⟨rfl, ltr h k⟩
theorem lirr : ∀ {a : List Nat}, ¬ a < a
  | [], h => absurd h (by simp)
  | x :: a, h => by
    rw [List.cons_lt_cons_iff] at h
    rcases h with h | ⟨_, h⟩
    · exact Nat.lt_irrefl _ h
    · exact lirr h
theorem Lt.trans {a b c : Str} (h : Lt a b) (k : Lt b c) : Lt a c := ltr h k
theorem Lt.irrefl {a : Str} : ¬ Lt a a := lirr
theorem str_ext {a b : Str} (h : a.cps.toList = b.cps.toList) : a = b := by
  cases a
  cases b
  exact congrArg Str.mk (Array.toList_inj.mp h)
theorem Lt.tri (a b : Str) : Lt a b ∨ a = b ∨ Lt b a := by
  rcases RR.tri a.cps.toList b.cps.toList with h | h | h
  · exact .inl h
  · exact .inr (.inl (str_ext h))
  · exact .inr (.inr h)
theorem asc_of : ∀ (r : List Str) (p : Str), risingS p r = true → (p :: r).Nodup → (p :: r).Pairwise Lt
  | [], p, _, _ => List.pairwise_singleton _ _
  | x :: r, p, h, n => by
    have h1 : (!ltCps x.cps.toList p.cps.toList && risingS x r) = true := h
    rw [Bool.and_eq_true] at h1
    have h2 := h1.1
    rw [ltCps_eq] at h2
    have n2 := List.nodup_cons.mp n
    have hx : Lt p x := by
      rcases Lt.tri p x with k | k | k
      · exact k
      · exact absurd (by rw [k]; exact List.mem_cons_self) n2.1
      · rw [decide_eq_true (show x.cps.toList < p.cps.toList from k)] at h2
        cases h2
    have ih := asc_of r x h1.2 n2.2
    refine List.pairwise_cons.mpr ⟨fun y hy => ?_, ih⟩
    rcases List.mem_cons.mp hy with e | e
    · rw [e]
      exact hx
    · exact hx.trans (List.rel_of_pairwise_cons ih e)
theorem asc {ys : List Str} (h : sortedS ys = true) (n : ys.Nodup) : ys.Pairwise Lt := by
  cases ys with
  | nil => exact List.Pairwise.nil
  | cons x r => exact asc_of r x h n
def TabOk (tb : List (Str × List Int)) : Prop := (tb.map (·.1)).Pairwise Lt ∧ ∀ p ∈ tb, KeyOk p.1 ∧ RowOk p.2
/-! ### dicts -/
theorem mem_put {kvs : List (Key × V)} {k : Key} {v : V} {e : Key × V} (h : e ∈ putK kvs k v) : e = (k, v) ∨ e ∈ kvs := by
  unfold putK at h
  split at h
  · obtain ⟨a, ha, rfl⟩ := List.mem_map.mp h
    by_cases q : a.1 = k
    · rw [if_pos q, q]
      exact .inl rfl
    · rw [if_neg q]
      exact .inr ha
  · rcases List.mem_append.mp h with h | h
    · exact .inr h
    · exact .inl (by simpa using h)
theorem put_keys (kvs : List (Key × V)) (k : Key) (v : V) : (k ∈ kvs.map (·.1) ∧ (putK kvs k v).map (·.1) = kvs.map (·.1)) ∨ (k ∉ kvs.map (·.1) ∧ (putK kvs k v).map (·.1) = kvs.map (·.1) ++ [k]) := by
  have ha : (kvs.any fun kv => decide (kv.1 = k)) = true ↔ k ∈ kvs.map (·.1) := by
    rw [List.any_eq_true, List.mem_map]
    constructor
    · rintro ⟨x, hx, e⟩
      exact ⟨x, hx, of_decide_eq_true e⟩
    · rintro ⟨x, hx, e⟩
      exact ⟨x, hx, decide_eq_true e⟩
  unfold putK
  by_cases h : k ∈ kvs.map (·.1)
  · refine .inl ⟨h, ?_⟩
    rw [if_pos (ha.mpr h), List.map_map]
    refine List.map_congr_left fun x _ => ?_
    show (if x.1 = k then (x.1, v) else x).1 = x.1
    split <;> rfl
  · refine .inr ⟨h, ?_⟩
    rw [if_neg (fun z => h (ha.mp z)), List.map_append]
    rfl
theorem val_mem {kvs : List (Key × V)} {k : Key} (h : k ∈ kvs.map (·.1)) : ∃ v, valV kvs k = some v ∧ (k, v) ∈ kvs := by
  induction kvs with
  | nil => cases h
  | cons p r ih =>
    by_cases e : p.1 = k
    · exact ⟨p.2, valV_pos e, by rw [← e]; exact List.mem_cons_self⟩
    · rw [List.map_cons, List.mem_cons] at h
      rcases h with h | h
      · exact absurd h.symm e
      · obtain ⟨v, hv, hm⟩ := ih h
        exact ⟨v, by rw [valV_neg e]; exact hv, List.mem_cons_of_mem _ hm⟩
def RowsOk (H : Hp) (kvs : List (Key × V)) : Prop := (kvs.map (·.1)).Nodup ∧ ∀ e ∈ kvs, ∃ s ns, e.1 = .inr s ∧ KeyOk s ∧ RowOk ns ∧ TD H e.2 (rowD ns)
theorem RowsOk.mono {H H' : Hp} {kvs : List (Key × V)} (k : Tk H H') (h : RowsOk H kvs) : RowsOk H' kvs := ⟨h.1, fun e he => by
  obtain ⟨s, ns, h1, h2, h3, h4⟩ := h.2 e he
  exact ⟨s, ns, h1, h2, h3, TD.mono k _ _ h4⟩⟩
theorem RowsOk.put {H : Hp} {kvs : List (Key × V)} {s : Str} {v : V} {ns : List Int} (h : RowsOk H kvs) (hs : KeyOk s) (hn : RowOk ns) (hv : TD H v (rowD ns)) : RowsOk H (putK kvs (.inr s) v) := by
  refine ⟨?_, fun e he => ?_⟩
  · rcases put_keys kvs (.inr s) v with ⟨hk, q⟩ | ⟨hk, q⟩
    · rw [q]
      exact h.1
    · rw [q]
      refine List.nodup_append.mpr ⟨h.1, by simp, fun a ha b hb => ?_⟩
      have e : b = Sum.inr s := by simpa using hb
      intro z
      rw [z, e] at ha
      exact hk ha
  · rcases mem_put he with e | e
    · rw [e]
      exact ⟨s, ns, rfl, hs, hn, hv⟩
    · exact h.2 _ e
theorem put_len (kvs : List (Key × V)) (k : Key) (v : V) : (putK kvs k v).length ≤ kvs.length + 1 := by
  rcases put_keys kvs k v with ⟨hk, q⟩ | ⟨hk, q⟩
  · have h := congrArg List.length q
    rw [List.length_map, List.length_map] at h
    omega
  · have h := congrArg List.length q
    rw [List.length_map, List.length_append, List.length_map, List.length_singleton] at h
    omega
theorem RowsOk.strs {H : Hp} {kvs : List (Key × V)} (h : RowsOk H kvs) : ∃ ks : List Str, kvs.map (·.1) = ks.map Sum.inr ∧ ks.Nodup := by
  obtain ⟨h1, h2⟩ := h
  induction kvs with
  | nil => exact ⟨[], rfl, List.nodup_nil⟩
  | cons p r ih =>
    rw [List.map_cons, List.nodup_cons] at h1
    obtain ⟨ks, e, n⟩ := ih h1.2 fun e he => h2 e (List.mem_cons_of_mem _ he)
    obtain ⟨s, ns, e1, _⟩ := h2 p List.mem_cons_self
    refine ⟨s :: ks, by rw [List.map_cons, List.map_cons, e, e1], List.nodup_cons.mpr ⟨fun hs => ?_, n⟩⟩
    refine h1.1 ?_
    rw [e, e1]
    exact List.mem_map.mpr ⟨s, hs, rfl⟩
theorem Le.free {st l : Addr} {H H' : Hp} {D : Addr} (le : Le st H H') (g : Good st l H') (h : H' D = none) : H D = none := by
  cases e : H D with
  | none => rfl
  | some o =>
    rw [le D o (g.ne h).1 e] at h
    cases h
def spTable : Sp := fun vs H Q _ => ∃ (st l : Addr) (most : Int), vs = [.ref st, .int most] ∧ Good st l H ∧ 0 ≤ most ∧ most ≤ 30 ∧
  ∀ t vs tb H', TabOk tb → (tb.length : Int) ≤ most → H t = none → Le st H H' → Good st l H' → H' t = some (.lst vs) → TDs H' vs (tb.map pairD) → Q (.ref t) H'
theorem scTable : FnScope ["state", "most", "rows", "k", "key"] ["state", "most"] (defScope sTable) := ⟨rfl, rfl, rfl, by decide +kernel, rfl, by decide +kernel, by decide +kernel⟩
section
variable {P : Program} {w : World} {K : PySem.W.Frag} {mg : Str → Option Value} {base : Heap}
theorem ok_table (D : Def K mg "_law_table" sTable ["state", "most"]) (DD : Def K mg "_law_draw" sDraw ["state", "limit"]) (DK : Def K mg "_law_key" sKey ["state"]) (DR : Def K mg "_law_row" sRow ["state"]) (mr : mg "range" = none) (ms : mg "sorted" = none)
    (GD : FnOk P w K mg base CX0 1 DD.f DD.fd ["state", "limit"] spDraw) (GK : FnOk P w K mg base CX0 2 DK.f DK.fd ["state"] spKey) (GR : FnOk P w K mg base CX0 2 DR.f DR.fd ["state"] spRow) : FnOk P w K mg base CX0 3 D.f D.fd ["state", "most"] spTable := by
  refine D.F.ok scTable (fun vs H Q E h => ?_) (fun cdv A outer s H vs Q E hr h => ?_)
  · obtain ⟨st, l, most, rfl, _⟩ := h
    rfl
  obtain ⟨st, l, most, rfl, g, hm0, hm1, q⟩ := h
  refine ⟨_, pss_cons (ps_set (i := 2) scTable.nd rfl (.inr rfl) pe_dnewK)
    (pss_cons (ps_for PassesOwn.never rfl (pi_range1 (by rfl) mr (pa_cons (pe_call GD (hr.mono (by decide)) (by rfl) DD.m DD.F.kp DD.b .nil pass0 (pa_cons (pv 0) (pa_cons (pe_op op_add (pv 1) pe_int) pa_nil))) pa_nil)) (pg_name (i := 3) scTable.nd rfl (.inl rfl))
      (pss_cons (ps_set (i := 4) scTable.nd rfl (.inl rfl) (pe_call GK hr (by rfl) DK.m DK.F.kp DK.b .nil pass0 (pa_cons (pv 0) pa_nil)))
      (pss_one (ps_dput (hu_of hr) (pv 2) (pv 4) (pe_call GR hr (by rfl) DR.m DR.F.kp DR.b .nil pass0 (pa_cons (pv 0) pa_nil)) rfl))))
    (pss_one (ps_ret (pe_lc (own := [("key", 4)]) (g := gName 4) (by rfl) scTable.nd
      (pi_list (pe_callB (call_sortedD rfl) (by rfl) ms (by decide +kernel) (pa_cons (pv 2) pa_nil)))
      (blkOk_by (own := [("key", 4)]) (N := ["state", "most", "rows", "k", "key"]) (sc := defScope sTable) (by decide +kernel))
      (fun _ _ _ _ _ => pg_name (i := 4) scTable.nd rfl (Or.inl rfl)) (fun _ _ _ _ _ => pts_nil)
      (fun _ _ _ _ _ => pe_tup (pa_cons (pv 4) (pa_cons (pe_dget (hu_of hr) (pv 2) (pv 4) (fun _ _ => rfl)) pa_nil))))))), ?_⟩
  intro d hd
  have g0 := g.same (same_new hd (.dK []))
  refine ⟨_, rfl, _, rfl, _, _, rfl, rfl, st, l, most + 1, rfl, g0, by omega, pow7 (by omega), fun n H1 n0 n1 le1 g1 => ?_⟩
  have hd1 : H1 d = some (.dK []) := le1 d _ (g.ne hd).1 upd_same
  have le1' : Le st H H1 := (Le.of (same_new hd _)).trans le1
  refine ⟨n, rfl, by omega, by omega, for_range (lo := 0) (n := n.toNat) (fun i σ H' => ∃ kvs y3 y4, σ = [some (.ref st), some (.int most), some (.ref d), y3, y4] ∧ H' d = some (.dK kvs) ∧ kvs.length ≤ i ∧ RowsOk H' kvs ∧ Le st H H' ∧ Good st l H') ?_ ?_ ?_⟩
  · exact ⟨[], _, _, rfl, hd1, Nat.le_refl _, ⟨List.nodup_nil, fun e he => (by cases he)⟩, le1', g1⟩
  · rintro i σ H2 hi ⟨kvs, y3, y4, rfl, hd2, hl, hk, le2, g2⟩
    refine ⟨_, rfl, st, l, rfl, g2, fun s H3 hs le3 g3 => ?_⟩
    refine ⟨_, rfl, st, l, rfl, g3, fun r ns H4 hn le4 g4 hr4 => ?_⟩
    have hd4 : H4 d = some (.dK kvs) := le4 d _ (g.ne hd).1 (le3 d _ (g.ne hd).1 hd2)
    have hk4 : RowsOk H4 kvs := (hk.mono (Tk.le g2 le3)).mono (Tk.le g3 le4)
    refine ⟨_, rfl, _, rfl, d, _, rfl, DPut.k (k := Sum.inr s) hd4 (small1000 (by omega)), ?_⟩
    have tk : Tk H4 (upd H4 d (.dK (putK kvs (Sum.inr s) (.ref r)))) := Tk.put _ fun xs e => by
      rw [hd4] at e
      cases e
    refine ⟨putK kvs (Sum.inr s) (.ref r), _, _, rfl, upd_same, Nat.le_trans (put_len _ _ _) (by omega), (hk4.put hs hn ?_).mono tk, ((le2.trans le3).trans le4).mut hd, g4.put (g.ne hd)⟩
    exact .tup hr4 (TDs.ints ns)
  · rintro σ H2 ⟨kvs, y3, y4, rfl, hd2, hl, hk, le2, g2⟩
    obtain ⟨ks, eks, nks⟩ := hk.strs
    have lks : ks.length = kvs.length := by
      have h := congrArg List.length eks
      rw [List.length_map, List.length_map] at h
      exact h.symm
    refine ⟨_, rfl, d, kvs, ks, rfl, .inl hd2, eks, by omega, fun ys p hp hsort hpn => ?_⟩
    refine ⟨p, rfl, ⟨_, SqL.of upd_same⟩, fun D hD => ?_⟩
    have npd : d ≠ p := ne_of_none hd2 hpn
    have npD : p ≠ D := ne_of_none upd_same hD
    have hHD : H2 D = none := by
      rw [upd_ne npD.symm] at hD
      exact hD
    have ndD : d ≠ D := ne_of_none hd2 hHD
    have s3 : Same H2 (upd (upd H2 p (.lst (ys.map V.str))) D (.lst [])) := (same_new hpn _).trans (same_new hD _)
    refine lc_list (K := K) (a := p) (xs := ys.map V.str) (fun i H' => ∃ (vs : List V) (tb : List (Str × List Int)), H' D = some (.lst vs) ∧ TDs H' vs (tb.map pairD) ∧ tb.map (·.1) = ys.take i ∧ (∀ p ∈ tb, KeyOk p.1 ∧ RowOk p.2) ∧ Le st H H' ∧ Good st l H' ∧ H' d = some (.dK kvs) ∧ RowsOk H' kvs ∧ H' p = some (.lst (ys.map V.str))) ?_ ?_ ?_ ?_
    · exact ⟨[], [], upd_same, .nil, rfl, fun p hp => (by cases hp), le2.trans (Le.of s3), g2.same s3, s3 _ _ hd2, hk.mono (Tk.same s3), by rw [upd_ne npD]; exact upd_same⟩
    · rintro i H' hi ⟨vs, tb, _, _, _, _, _, _, _, _, h⟩
      exact SqL.of h
    · rintro i x H' hi ⟨vs, tb, hD', hT, et, hok, le', g', hd', hk', hp'⟩
      obtain ⟨y, hy, rfl⟩ : ∃ y, ys[i]? = some y ∧ x = .str y := by
        rw [List.getElem?_map] at hi
        cases e : ys[i]? with
        | none =>
          rw [e] at hi
          cases hi
        | some y =>
          rw [e] at hi
          exact ⟨y, rfl, (Option.some.inj hi).symm⟩
      have hyk : (Sum.inr y : Key) ∈ kvs.map (·.1) := by
        rw [eks]
        exact List.mem_map.mpr ⟨y, hp.mem_iff.mp (List.mem_of_getElem? hy), rfl⟩
      obtain ⟨v, hv, hm⟩ := val_mem hyk
      obtain ⟨s0, ns, e1, h2, h3, h4⟩ := hk'.2 _ hm
      have e1' : y = s0 := Sum.inr.inj e1
      subst e1'
      refine ⟨rfl, ?_⟩
      refine ⟨_, rfl, _, rfl, _, rfl, d, v, rfl, (by rw [← hv]; exact DGet.k (k := Sum.inr y) hd'), by show 2 ≤ sizeLine; decide, fun t ht => ?_⟩
      have nDt : D ≠ t := ne_of_none hD' ht
      have s5 := same_new ht (.tup [.str y, v])
      have hlen : vs.length = tb.length := by
        have h := TDs.length hT
        rw [List.length_map] at h
        exact h
      have htb : tb.length ≤ 30 := by
        have h := congrArg List.length et
        rw [List.length_map, List.length_take] at h
        have h9 := hp.length_eq
        omega
      refine ⟨vs, by rw [upd_ne nDt]; exact hD', small1000 (by omega), ?_⟩
      have tk : Tk H' (upd (upd H' t (.tup [.str y, v])) D (.lst (vs ++ [.ref t]))) := (Tk.same s5).trans (Tk.put _ fun xs e => by
        rw [upd_ne nDt, hD'] at e
        cases e)
      have nDst : D ≠ st ∧ D ≠ l := g2.ne hHD
      refine ⟨vs ++ [.ref t], tb ++ [(y, ns)], upd_same, ?_, ?_, ?_, (le'.trans (Le.of s5)).mut (le2.free g2 hHD), (g'.same s5).put nDst, ?_, hk'.mono tk, ?_⟩
      · rw [List.map_append]
        refine TDs.app (TDs.mono tk _ _ hT) (.cons ?_ .nil)
        refine .tup (xs := [.str y, v]) ?_ (.cons (.str y) (.cons (TD.mono tk _ _ h4) .nil))
        rw [upd_ne nDt.symm]
        exact upd_same
      · rw [List.map_append, et, List.take_add_one, hy]
        rfl
      · intro p hp
        rw [List.mem_append] at hp
        rcases hp with hp | hp
        · exact hok p hp
        · have e : p = (y, ns) := by simpa using hp
          rw [e]
          exact ⟨h2, h3⟩
      · rw [upd_ne ndD]
        exact s5 _ _ hd'
      · rw [upd_ne npD]
        exact s5 _ _ hp'
    · rintro H' ⟨vs, tb, hD', hT, et, hok, le', g', hd', hk', hp'⟩
      rw [List.length_map, List.take_length] at et
      have hlen : tb.length = ys.length := by
        have h := congrArg List.length et
        rw [List.length_map] at h
        exact h
      have h9 := hp.length_eq
      refine q D vs tb H' ⟨by rw [et]; exact asc hsort (hp.nodup_iff.mpr nks), hok⟩ (by omega) (le2.free g2 hHD) le' g' hD' hT
end
end RR

namespace RX
open PySem PySem.Spec PyProof.Rows L2
/-! ### match v: case ("word", a, b): .. -/
/-- names alone -/
inductive Caps : List Pattern → List Str → Prop
  | nil : Caps [] []
  | cons {n : Str} {pos : Pos} {ps : List Pattern} {ns : List Str} (h : Caps ps ns) : Caps (.MatchAs none (some n) pos :: ps) (n :: ns)
theorem Caps.len {ps : List Pattern} {ns : List Str} (c : Caps ps ns) : ps.length = ns.length := by
  induction c with
  | nil => rfl
  | cons _ ih => exact congrArg Nat.succ ih
/-- the slots filled, from the left -/
def fill : L2.St → List Nat → List V → L2.St
  | σ, i :: is, x :: xs => fill (σ.set i (some x)) is xs
  | σ, _, _ => σ
structure PMs (X : Cx) (cs : List MatchCase) (t : V → TS) : Prop where
  run : ∀ (pins : List (Addr × Obj)) (s : Shared) (σ : L2.St) (H : Hp) (D : Ends) (v : V) (u : Value) (first : Bool), Inv X pins σ H s → RelV v u → t v D σ H → wpAny (model X.prog X.w) X.A (matchCases cs X.env u first) (SP X pins D) X.xe s
def tMNil : V → TS := fun _ D σ H => D.nx σ H
/-- a case whose pattern is a written word and names: the value is a tuple that begins with a text -/
def tMCase (K : PySem.W.Frag) (z : Str) (is : List Nat) (tb : TS) (tr : V → TS) : V → TS := fun v D σ H => ∃ (a : Addr) (y : Str) (xs : List V), v = .ref a ∧ SqT K H a (.str y :: xs) ∧
  ((xs.length = is.length ∧ y = z ∧ tb D (fill σ is xs) H) ∨ (¬ (xs.length = is.length ∧ y = z) ∧ tr v D σ H))
section
variable {X : Cx}
theorem pms_nil : PMs X [] tMNil := ⟨fun pins s σ H D v u first I r h => wpAny_matchCases_nil ⟨σ, H, I, h⟩⟩
theorem each_caps : ∀ {ps : List Pattern} {ns : List Str}, Caps ps ns → ∀ {us : List Value} {s : Shared} {M : Model} {A : Around} {E : Value → Shared → Prop} {env : Env} {Q : Option (List (Str × Value)) → Shared → Prop}, us.length = ns.length → Q (some (ns.zip us)) s → wpAny M A (matchEach ps env us) Q E s := by
  intro ps ns c
  induction c with
  | nil =>
    intro us s M A E env Q hl h
    exact wpAny_matchEach_nil (by simpa using h)
  | @cons n pos ps ns c ih =>
    intro us s M A E env Q hl h
    cases us with
    | nil => cases hl
    | cons u us =>
      refine wpAny_matchEach_cons (wpAny_matchPattern_Capture ?_)
      refine ih (by simpa using hl) ?_
      exact h
/-- the slots of names -/
inductive Slots (X : Cx) : List Nat → List Str → Prop
  | nil : Slots X [] []
  | cons {i : Nat} {n : Str} {is : List Nat} {ns : List Str} (hi : X.N[i]? = some n) (hl : X.env.scope.names.lookup n = some .local) (h : Slots X is ns) : Slots X (i :: is) (n :: ns)
theorem Slots.len {is : List Nat} {ns : List Str} (h : Slots X is ns) : is.length = ns.length := by
  induction h with
  | nil => rfl
  | cons _ _ _ ih => exact congrArg Nat.succ ih
theorem assign_all (hN : X.N.Nodup) {is : List Nat} {ns : List Str} (S : Slots X is ns) : ∀ {xs : List V} {us : List Value} {pins : List (Addr × Obj)} {σ : L2.St} {H : Hp} {s : Shared} {Q : Unit → Shared → Prop}, xs.length = is.length → Vals xs us → Inv X pins σ H s →
    (∀ s', Inv X pins (fill σ is xs) H s' → Q () s') → wpAny (model X.prog X.w) X.A (assignInOrder ((ns.zip us).map fun (n, _) => bindName X.env n) ((ns.zip us).map (·.2))) Q X.xe s := by
  induction S with
  | nil =>
    intro xs us pins σ H s Q hl r I h
    cases xs with
    | nil =>
      cases r
      exact wpAny_assignInOrder_none (h s I)
    | cons x xs => cases hl
  | @cons i n is ns hi hl S ih =>
    intro xs us pins σ H s Q hlen r I h
    cases xs with
    | nil => cases hlen
    | cons x xs =>
      cases r with
      | cons r1 r2 =>
        refine wpAny_assignInOrder_more ?_
        refine wpAny_bindName (store_ok I hN hi (.inl hl) r1 (fun s' I' => ?_) (.inr hl))
        exact ih (by simpa using hlen) r2 I' h
theorem pms_case {z : Str} {k : Nat} {p1 p2 pos : Pos} {ps : List Pattern} {ns : List Str} {is : List Nat} {body : List Stmt} {rest : List MatchCase} {tb : TS} {tr : V → TS} (hN : X.N.Nodup) (hc : X.calm = true) (c : Caps ps ns) (S : Slots X is ns) (hb : PSs X body tb) (hr : PMs X rest tr)
    (hstar : (Pattern.MatchValue (.Constant (.str z) k p1) p2 :: ps).findIdx? (·.isStar) = none := by rfl) (hwild : ((Pattern.MatchValue (.Constant (.str z) k p1) p2 :: ps).all fun p => p.isWildcard || (p.isStar && p.names.isEmpty)) = false := by rfl) :
    PMs X (⟨.MatchSequence (.MatchValue (.Constant (.str z) k p1) p2 :: ps) pos, none, body⟩ :: rest) (tMCase X.K z is tb tr) := by
  refine ⟨fun pins s σ H D v u first I r h => ?_⟩
  obtain ⟨a, y, xs, ev, hS, h⟩ := h
  subst ev
  have eu : u = .ref a := r
  subst eu
  obtain ⟨its, rv, ht, hz⟩ := I.tuple hS
  obtain ⟨_ | ⟨u0, us⟩, rv⟩ : ∃ l, Vals (.str y :: xs) l ∧ its = l := ⟨its, rv, rfl⟩
  · obtain ⟨rv, e⟩ := rv
    cases rv
  obtain ⟨rv, e⟩ := rv
  subst e
  have hlen := rv.length
  have lps := c.len
  have lis := S.len
  refine wpAny_matchCases_cons (wpAny_matchPattern_Sequence (wpAny_collectionFlag ht.typeIs flag_seq_tuple ?_) hstar hwild)
  refine iteT ?_
  have hsz : (((u0 :: us).toArray.size : Nat) : Int) < 2 ^ 63 := by
    rw [List.size_toArray, ← hlen]
    have h1 : (sizeLine : Int) < 2 ^ 63 := by decide
    omega
  refine pyLen_tuple ht hsz ?_
  have I1 : Inv X pins σ H { s with toks := s.toks + 1 + 1 } := I.tok _
  have hlen1 : xs.length = us.length := by simpa using hlen
  by_cases hl : xs.length = is.length
  · have e1 : (Pattern.MatchValue (.Constant (.str z) k p1) p2 :: ps).length = (u0 :: us).toArray.size := by
      rw [List.size_toArray, List.length_cons, List.length_cons]
      omega
    rw [e1]
    refine ite2 (fun q => absurd q (by simp)) (fun _ => ?_)
    refine unpackItems_tuple (I.ok.hd hc) ht fun h' hx => ?_
    have I2 : Inv X pins σ H { s with heap := h', toks := s.toks + 1 + 1 } := I1.kept (t' := s.toks + 1 + 1) fun b o e => hx b o (Nat.ne_of_lt (Heap.lt_size e)) e
    show wpAny _ _ (matchEach _ _ (u0 :: us)) _ _ _
    cases rv with
    | cons r0 r1 =>
      refine wpAny_matchEach_cons (wpAny_matchPattern_Value ?_)
      have hst : PE X (.Constant (.str z) k p1) (tC (.str z)) := pe_str
      refine thn (hst.run pins _ σ H (fun x H' => x = .str z ∧ H' = H) I2 ⟨rfl, rfl⟩) fun x s3 ⟨xv, H3, I3, rx, ex, eH⟩ => ?_
      subst ex eH
      refine thn (op_eq pins s3 σ H3 (.str y) (.str z) u0 x (fun v H' => v = .bl (decide (V.str y = V.str z)) ∧ H' = H3) I3 r0 rx ⟨rfl, rfl, rfl⟩) fun cv s4 ⟨cw, H4, I4, rc, ec, eH⟩ => ?_
      subst ec eH
      have ecv : cv = .bool (decide (V.str y = V.str z)) := rc
      subst ecv
      refine wpAny_truthy_bool ?_
      by_cases hy : y = z
      · rw [decide_eq_true (show V.str y = V.str z by rw [hy])]
        refine iteT ?_
        refine each_caps c (by omega) ?_
        rcases h with ⟨_, _, h⟩ | ⟨n, _⟩
        · exact assign_all hN S hl r1 I4 fun s5 I5 => hb.run pins s5 _ _ D I5 h
        · exact absurd ⟨hl, hy⟩ n
      · have hne : ¬ (V.str y = V.str z) := fun e => hy (V.str.inj e)
        rw [decide_eq_false hne]
        refine iteF ?_
        rcases h with ⟨_, e, _⟩ | ⟨_, h⟩
        · exact absurd e hy
        · exact hr.run pins s4 σ _ D (.ref a) (.ref a) false I4 rfl h
  · refine ite2 (fun _ => ?_) (fun n => absurd ?_ n)
    · rcases h with ⟨e, _⟩ | ⟨_, h⟩
      · exact absurd e hl
      · exact hr.run pins _ σ _ D (.ref a) (.ref a) false I1 rfl h
    · have e2 : ¬ (((u0 :: us).toArray.size : Nat) : Int) = (((Pattern.MatchValue (.Constant (.str z) k p1) p2 :: ps).length : Nat) : Int) := by
        rw [List.size_toArray, List.length_cons, List.length_cons]
        omega
      simpa using e2
def tMatch (te : TE) (t : V → TS) : TS := fun D σ H => te σ H fun v H1 => t v D σ H1
theorem ps_match {e : Expr} {cs : List MatchCase} {pos : Pos} {te : TE} {t : V → TS} (he : PE X e te) (hc : PMs X cs t) : PS X (.Match e cs pos) (tMatch te t) := by
  refine ⟨fun pins s σ H D I h => ?_⟩
  refine wpAny_Match (thn (he.run pins s σ H _ I h) fun u s1 ⟨v, H1, I1, r, q⟩ => ?_)
  exact hc.run pins s1 σ H1 D v u true I1 r q
end
end RX

namespace RR
open PySem PySem.Spec PyProof.Rows L2
abbrev sBelow : Stmt := topS 5
abbrev sAbove : Stmt := topS 6
/-! ### data that can be compared -/
def Sh (n : Nat) (d : PyData) : Prop := d.canLay0 = true ∧ d.depth ≤ n
theorem all_lay : ∀ xs : List PyData, (∀ x ∈ xs, x.canLay0 = true) → PyData.canLayAll0 xs = true
  | [], _ => rfl
  | x :: xs, h => by
    show (x.canLay0 && PyData.canLayAll0 xs) = true
    rw [h x List.mem_cons_self, all_lay xs fun y hy => h y (List.mem_cons_of_mem _ hy)]
    rfl
theorem all_depth {n : Nat} : ∀ xs : List PyData, (∀ x ∈ xs, x.depth ≤ n) → PyData.depthAll xs ≤ n
  | [], _ => Nat.zero_le _
  | x :: xs, h => by
    show max x.depth (PyData.depthAll xs) ≤ n
    exact Nat.max_le.mpr ⟨h x List.mem_cons_self, all_depth xs fun y hy => h y (List.mem_cons_of_mem _ hy)⟩
theorem Sh.list {n : Nat} {xs : List PyData} (h : ∀ x ∈ xs, Sh n x) : Sh (n + 1) (.list xs) := ⟨all_lay xs fun x hx => (h x hx).1, Nat.succ_le_succ (all_depth xs fun x hx => (h x hx).2)⟩
theorem Sh.tuple {n : Nat} {xs : List PyData} (h : ∀ x ∈ xs, Sh n x) : Sh (n + 1) (.tuple xs) := ⟨all_lay xs fun x hx => (h x hx).1, Nat.succ_le_succ (all_depth xs fun x hx => (h x hx).2)⟩
theorem Sh.int {n : Nat} (i : Int) : Sh n (.int i) := ⟨rfl, Nat.zero_le _⟩
theorem Sh.non {n : Nat} : Sh n .none := ⟨rfl, Nat.zero_le _⟩
theorem let_ok : ∀ c ∈ letS.cps.toList, c < 128 := by decide +kernel
theorem Sh.str {n : Nat} {s : Str} (h : ∀ c ∈ s.cps.toList, c < 128) : Sh n (.str s) := by
  refine ⟨?_, Nat.zero_le _⟩
  show s.cps.all (· < 0x110000) = true
  rw [← Array.all_toList, List.all_eq_true]
  intro x hx
  exact decide_eq_true (Nat.lt_trans (h x hx) (by decide))
theorem Sh.key {n : Nat} {s : Str} (h : KeyOk s) : Sh n (.str s) := Sh.str fun c hc => let_ok c (h.2.2 c hc)
theorem Sh.row (n : Nat) (ns : List Int) : Sh (n + 1) (rowD ns) := Sh.tuple fun x hx => by
  obtain ⟨i, _, rfl⟩ := List.mem_map.mp hx
  exact Sh.int i
theorem Sh.pair {n : Nat} {p : Str × List Int} (h : KeyOk p.1) : Sh (n + 2) (pairD p) := Sh.tuple fun x hx => by
  rcases List.mem_cons.mp hx with e | e
  · rw [e]
    exact Sh.key h
  · have e2 : x = rowD p.2 := by simpa using e
    rw [e2]
    exact Sh.row n _
theorem Sh.tab {n : Nat} {tb : List (Str × List Int)} (h : ∀ p ∈ tb, KeyOk p.1) : Sh (n + 3) (.list (tb.map pairD)) := Sh.list fun x hx => by
  obtain ⟨p, hp, rfl⟩ := List.mem_map.mp hx
  exact Sh.pair (h p hp)
theorem Sh.mono {n m : Nat} {d : PyData} (h : Sh n d) (k : n ≤ m) : Sh m d := ⟨h.1, Nat.le_trans h.2 k⟩
theorem Sh.ok {n : Nat} {d : PyData} (h : Sh n d) (k : n ≤ 64) : SeqAt.shaped d = true := by
  unfold SeqAt.shaped
  rw [h.1, decide_eq_true (Nat.le_trans h.2 k)]
  rfl
theorem Sh.refl {n : Nat} {d : PyData} (h : Sh n d) : PyData.eqv d d = true := SeqAt.eqv_refl d h.1
/-! ### what data is like -/
theorem TD.un {H : Hp} {v : V} {ds : List PyData} (h : TD H v (.tuple ds)) : ∃ a xs, v = .ref a ∧ H a = some (.tup xs) ∧ TDs H xs ds := by
  cases h with
  | tup h1 h2 => exact ⟨_, _, rfl, h1, h2⟩
theorem TD.str_eq {H : Hp} {v : V} {s : Str} (h : TD H v (.str s)) : v = .str s := by
  cases h with
  | str => rfl
theorem TD.int_eq {H : Hp} {v : V} {i : Int} (h : TD H v (.int i)) : v = .int i := by
  cases h with
  | int => rfl
theorem TDs.un {H : Hp} {vs : List V} {d : PyData} {ds : List PyData} (h : TDs H vs (d :: ds)) : ∃ v ws, vs = v :: ws ∧ TD H v d ∧ TDs H ws ds := by
  cases h with
  | cons h1 h2 => exact ⟨_, _, rfl, h1, h2⟩
theorem TDs.un0 {H : Hp} {vs : List V} (h : TDs H vs []) : vs = [] := by
  cases h with
  | nil => rfl
theorem TD.pair {H : Hp} {v : V} {p : Str × List Int} (h : TD H v (pairD p)) : ∃ a r, v = .ref a ∧ H a = some (.tup [.str p.1, r]) ∧ TD H r (rowD p.2) := by
  obtain ⟨a, xs, rfl, h1, h2⟩ := TD.un h
  obtain ⟨x, ys, rfl, h3, h4⟩ := h2.un
  obtain ⟨r, zs, rfl, h5, h6⟩ := h4.un
  have e := h6.un0
  subst e
  have e2 := h3.str_eq
  subst e2
  exact ⟨a, r, rfl, h1, h5⟩
def below (k : Str) (tb : List (Str × List Int)) : List (Str × List Int) := tb.filter fun p => decide (p.1.cps.toList < k.cps.toList)
def above (k : Str) (tb : List (Str × List Int)) : List (Str × List Int) := tb.filter fun p => decide (k.cps.toList < p.1.cps.toList)
theorem lt_asym {a b : List Nat} (h : a < b) : ¬ b < a := fun k => lirr (ltr h k)
theorem parts_len (k : Str) : ∀ tb : List (Str × List Int), (below k tb).length + (above k tb).length ≤ tb.length
  | [] => Nat.le_refl _
  | p :: r => by
    have ih := parts_len k r
    unfold below above at ih ⊢
    rw [List.filter_cons, List.filter_cons]
    by_cases h1 : p.1.cps.toList < k.cps.toList
    · rw [if_pos (decide_eq_true h1), if_neg (by rw [decide_eq_false (lt_asym h1)]; decide)]
      simp only [List.length_cons]
      omega
    · rw [if_neg (by rw [decide_eq_false h1]; decide)]
      split <;> simp only [List.length_cons] <;> omega
/-- [x for x in xs if test]: a test that makes nothing -/
theorem lc_filt {K : PySem.W.Frag} {a D : Addr} {vs : List V} {tb : List (Str × List Int)} {i : Nat} {tt : TT} {ws : List Nat} {σ : L2.St} {H1 : Hp} {Qd : Hp → Prop} (f : Str × List Int → Bool)
    (hS : H1 a = some (.lst vs)) (hT : TDs H1 vs (tb.map pairD)) (hD : H1 D = none) (hlen : vs.length ≤ 1000)
    (hw : ∀ v, wipe ((wipe σ ws).set i (some v)) ws = wipe σ ws) (hi : ∀ v, ((wipe σ ws).set i (some v))[i]? = some (some v))
    (ht : ∀ (p : Str × List Int) (c : Addr) (r : V) (H' : Hp), p ∈ tb → H' c = some (.tup [.str p.1, r]) → TD H' r (rowD p.2) → Same H1 H' → ∀ Q : Bool → Hp → Prop, Q (f p) H' → tt ((wipe σ ws).set i (some (.ref c))) H' Q)
    (hd : ∀ us H', Same H1 H' → H' D = some (.lst us) → TDs H' us ((tb.filter f).map pairD) → Qd H') :
    ∃ W : Nat → Nat → Hp → Prop, (∃ m, W 0 m (upd H1 D (.lst []))) ∧ ∀ j m H, W j m H →
      ((Itl K a).stop j H ∧ Qd H) ∨ ((Itl K a).go j H ∧ ∃ Nx : Hp → Prop, (∀ H', Nx H' → ∃ m', m' < m ∧ W (j + 1) m' H') ∧ ∀ x H', (Itl K a).yld j H x H' → gName i x (wipe σ ws) H' fun σ2 H2 => wipe σ2 ws = wipe σ ws ∧ tt σ2 H2 fun b H3 =>
        if b = true then tVar i σ2 H3 fun y H4 => ∃ acc, H4 D = some (.lst acc) ∧ acc.length < sizeLine ∧ Nx (upd H4 D (.lst (acc ++ [y]))) else Nx H3) := by
  have hl := hT.length
  rw [List.length_map] at hl
  refine lc_list (K := K) (a := a) (xs := vs) (fun j H' => ∃ us, H' D = some (.lst us) ∧ TDs H' us (((tb.take j).filter f).map pairD) ∧ Same H1 H') ?_ ?_ ?_ ?_
  · exact ⟨[], upd_same, .nil, same_new hD _⟩
  · rintro j H' _ ⟨us, _, _, s⟩
    exact SqL.of (s _ _ hS)
  · rintro j x H' hx ⟨us, hus, hU, s⟩
    have hj : j < vs.length := (List.getElem?_eq_some_iff.mp hx).1
    obtain ⟨d, hd1, hd2⟩ := TDs.get hT j x hx
    rw [List.getElem?_map] at hd1
    obtain ⟨p, hp, rfl⟩ : ∃ p, tb[j]? = some p ∧ d = pairD p := by
      cases e : tb[j]? with
      | none =>
        rw [e] at hd1
        cases hd1
      | some p =>
        rw [e] at hd1
        exact ⟨p, rfl, (Option.some.inj hd1).symm⟩
    have hm : p ∈ tb := List.mem_of_getElem? hp
    obtain ⟨c, r, rfl, hc, hr⟩ := (TD.mono (Tk.same s) _ _ hd2).pair
    have etake : tb.take (j + 1) = tb.take j ++ [p] := by
      rw [List.take_add_one, hp]
      rfl
    refine ⟨hw _, ht p c r H' hm hc hr s _ ?_⟩
    cases e : f p with
    | true =>
      refine iteT ?_
      have hul : us.length ≤ vs.length := by
        have h := hU.length
        rw [List.length_map] at h
        have h2 := List.length_filter_le f (tb.take j)
        rw [List.length_take] at h2
        omega
      have tk : Tk H' (upd H' D (.lst (us ++ [.ref c]))) := Tk.put _ fun xs e => by
        rw [hus] at e
        cases e
      refine ⟨_, hi _, us, hus, small1000 (by omega), us ++ [.ref c], upd_same, ?_, fun b o e => ?_⟩
      · rw [etake, List.filter_append, List.filter_cons, e, if_pos rfl, List.map_append]
        exact TDs.app (TDs.mono tk _ _ hU) (.cons (TD.mono (tk) _ _ (TD.mono (Tk.same s) _ _ hd2)) .nil)
      · rw [upd_ne (ne_of_none e hD)]
        exact s _ _ e
    | false =>
      refine iteF ?_
      refine ⟨us, hus, ?_, s⟩
      rw [etake, List.filter_append, List.filter_cons, e, if_neg Bool.false_ne_true, List.filter_nil, List.append_nil]
      exact hU
  · rintro H' ⟨us, hus, hU, s⟩
    rw [hl, List.take_length] at hU
    exact hd us H' s hus hU
/-- the part of a table at t, new -/
def spPart (g : Str → List (Str × List Int) → List (Str × List Int)) : Sp := fun vs H Q _ => ∃ (t : Addr) (k : Str) (us : List V) (tb : List (Str × List Int)), vs = [.ref t, .str k] ∧ H t = some (.lst us) ∧ TDs H us (tb.map pairD) ∧ tb.length ≤ 1000 ∧
  ∀ p ws H', H p = none → Same H H' → H' p = some (.lst ws) → TDs H' ws ((g k tb).map pairD) → Q (.ref p) H'
theorem scBelow : FnScope ["table", "key", "pair"] ["table", "key"] (defScope sBelow) := ⟨rfl, rfl, rfl, by decide +kernel, rfl, by decide +kernel, by decide +kernel⟩
theorem scAbove : FnScope ["table", "key", "pair"] ["table", "key"] (defScope sAbove) := ⟨rfl, rfl, rfl, by decide +kernel, rfl, by decide +kernel, by decide +kernel⟩
section
variable {P : Program} {w : World} {K : PySem.W.Frag} {mg : Str → Option Value} {base : Heap}
theorem ok_below (D : Def K mg "pairs_below" sBelow ["table", "key"]) : FnOk P w K mg base CX0 1 D.f D.fd ["table", "key"] (spPart below) := by
  refine D.F.ok scBelow (fun vs H Q E h => ?_) (fun cdv A outer s H vs Q E hr h => ?_)
  · obtain ⟨t, k, us, tb, rfl, _⟩ := h
    rfl
  obtain ⟨t, k, us, tb, rfl, ht, hT, hlen, q⟩ := h
  refine ⟨_, pss_one (ps_ret (pe_lc (own := [("pair", 2)]) (g := gName 2) (by rfl) scBelow.nd (pi_list (pv 0))
      (blkOk_by (own := [("pair", 2)]) (N := ["table", "key", "pair"]) (sc := defScope sBelow) (by decide +kernel))
      (fun _ _ _ _ _ => pg_name (i := 2) scBelow.nd rfl (Or.inl rfl))
      (fun _ _ _ _ _ => pts_one (pt_cmpR op_lt_str (pe_ix (r := rIxT K) ix_tup (pv 2) pe_int (fun _ _ => rfl)) (pv 1) (nomark _)))
      (fun _ _ _ _ _ => pv 2))), ?_⟩
  refine ⟨_, rfl, t, rfl, ⟨_, SqL.of ht⟩, fun D hD => ?_⟩
  have hl := hT.length
  rw [List.length_map] at hl
  refine lc_filt (fun p => decide (p.1.cps.toList < k.cps.toList)) ht hT hD (by omega) (fun v => rfl) (fun v => rfl) (fun p c r H' hp hc hr s Q hQ => ?_) (fun ws H' s hw hW => q D ws H' hD s hw hW)
  exact ⟨_, rfl, c, _, 0, _, rfl, rfl, SqT.of hc, atI_nat (j := 0) rfl, _, rfl, _, _, rfl, rfl, _, rfl, hQ⟩
theorem ok_above (D : Def K mg "pairs_above" sAbove ["table", "key"]) : FnOk P w K mg base CX0 1 D.f D.fd ["table", "key"] (spPart above) := by
  refine D.F.ok scAbove (fun vs H Q E h => ?_) (fun cdv A outer s H vs Q E hr h => ?_)
  · obtain ⟨t, k, us, tb, rfl, _⟩ := h
    rfl
  obtain ⟨t, k, us, tb, rfl, ht, hT, hlen, q⟩ := h
  refine ⟨_, pss_one (ps_ret (pe_lc (own := [("pair", 2)]) (g := gName 2) (by rfl) scAbove.nd (pi_list (pv 0))
      (blkOk_by (own := [("pair", 2)]) (N := ["table", "key", "pair"]) (sc := defScope sAbove) (by decide +kernel))
      (fun _ _ _ _ _ => pg_name (i := 2) scAbove.nd rfl (Or.inl rfl))
      (fun _ _ _ _ _ => pts_one (pt_cmpR op_gt_str (pe_ix (r := rIxT K) ix_tup (pv 2) pe_int (fun _ _ => rfl)) (pv 1) (nomark _)))
      (fun _ _ _ _ _ => pv 2))), ?_⟩
  refine ⟨_, rfl, t, rfl, ⟨_, SqL.of ht⟩, fun D hD => ?_⟩
  have hl := hT.length
  rw [List.length_map] at hl
  refine lc_filt (fun p => decide (k.cps.toList < p.1.cps.toList)) ht hT hD (by omega) (fun v => rfl) (fun v => rfl) (fun p c r H' hp hc hr s Q hQ => ?_) (fun ws H' s hw hW => q D ws H' hD s hw hW)
  exact ⟨_, rfl, c, _, 0, _, rfl, rfl, SqT.of hc, atI_nat (j := 0) rfl, _, rfl, _, _, rfl, rfl, _, rfl, hQ⟩
end
end RR

namespace RR
open PySem PySem.Spec PyProof.Rows L2
abbrev sInRange : Stmt := topS 1
abbrev sColumnOf : Stmt := topS 2
abbrev sRowOf : Stmt := topS 3
abbrev sPairsIn : Stmt := topS 4
abbrev sFirst : Stmt := topS 7
abbrev sColSum : Stmt := topS 8
abbrev sPairAt : Stmt := topS 9
abbrev sAnswer : Stmt := topS 10
abbrev Tab := List (Str × List Int)
/-! ### queries and answers -/
def inR (lo hi k : Str) : Bool := !decide (k.cps.toList < lo.cps.toList) && decide (k.cps.toList < hi.cps.toList)
def within (lo hi : Str) (tb : Tab) : Tab := tb.filter fun p => inR lo hi p.1
def colOf (ns : List Int) (c : Int) : Int := if c < (ns.length : Int) then ns.getD c.toNat 0 else 0
def look (tb : Tab) (k : Str) : Option (List Int) := (tb.find? fun p => decide (p.1 = k)).map (·.2)
def optD : Option (List Int) → PyData
  | none => .none
  | some r => rowD r
def pairO : Option (Str × List Int) → PyData
  | none => .none
  | some p => pairD p
inductive Qry where
  | get (k : Str)
  | range (lo hi : Str)
  | next (k : Str) (n : Int)
  | count (lo hi : Str)
  | sum (c : Int) (lo hi : Str)
  | place (k : Str)
  | at_ (n : Int)
def qryD : Qry → PyData
  | .get k => .tuple [.str "get", .str k]
  | .range lo hi => .tuple [.str "range", .str lo, .str hi]
  | .next k n => .tuple [.str "next", .str k, .int n]
  | .count lo hi => .tuple [.str "count", .str lo, .str hi]
  | .sum c lo hi => .tuple [.str "sum", .int c, .str lo, .str hi]
  | .place k => .tuple [.str "place", .str k]
  | .at_ n => .tuple [.str "at", .int n]
def Qry.Ok : Qry → Prop
  | .next _ n => 0 ≤ n
  | .sum c _ _ => 0 ≤ c
  | .at_ n => 0 ≤ n
  | _ => True
inductive Res where
  | dat (d : PyData)
  | lst (tb : Tab)
def ansOf (tb : Tab) : Qry → Res
  | .get k => .dat (optD (look tb k))
  | .range lo hi => .lst (within lo hi tb)
  | .next k n => .lst ((above k tb).take n.toNat)
  | .count lo hi => .dat (.int ((within lo hi tb).length : Int))
  | .sum c lo hi => .dat (.int ((within lo hi tb).map fun p => colOf p.2 c).sum)
  | .place k => .dat (.int ((below k tb).length : Int))
  | .at_ n => .dat (pairO tb[n.toNat]?)
def ResAt (H H' : Hp) (v : V) : Res → Prop
  | .dat d => TD H' v d
  | .lst tb => ∃ p ws, v = .ref p ∧ H p = none ∧ H' p = some (.lst ws) ∧ TDs H' ws (tb.map pairD)
/-! ### dicts of tables -/
theorem tab_pairs {K : PySem.W.Frag} {H : Hp} : ∀ {vs : List V} {tb : Tab}, TDs H vs (tb.map pairD) → ∃ (ps : List Addr) (kvs : List (Key × V)), vs = ps.map V.ref ∧ Paired (fun p kv => SqT K H p [kV kv.1, kv.2]) ps kvs ∧ kvs.map (·.1) = tb.map (fun p => (Sum.inr p.1 : Key)) ∧ TDs H (kvs.map (·.2)) (tb.map fun p => rowD p.2)
  | vs, [], h => by
    have e := h.un0
    subst e
    exact ⟨[], [], rfl, .nil, rfl, .nil⟩
  | vs, p :: tb, h => by
    obtain ⟨v, ws, rfl, h1, h2⟩ := h.un
    obtain ⟨ps, kvs, rfl, h3, h4, h5⟩ := tab_pairs h2
    obtain ⟨a, r, rfl, h6, h7⟩ := h1.pair
    exact ⟨a :: ps, (Sum.inr p.1, r) :: kvs, rfl, .cons (SqT.of h6) h3, by rw [List.map_cons, List.map_cons, h4], .cons h7 h5⟩
theorem merge_app (acc more : List (Key × V)) (h : ((acc ++ more).map (·.1)).Nodup) : mergeK acc more = acc ++ more := by
  induction more generalizing acc with
  | nil =>
    rw [List.append_nil]
    rfl
  | cons p r ih =>
    have e : putK acc p.1 p.2 = acc ++ [p] := by
      rcases put_keys acc p.1 p.2 with ⟨hk, _⟩ | ⟨hk, _⟩
      · rw [List.map_append, List.nodup_append] at h
        exact absurd rfl (h.2.2 p.1 hk p.1 (by simp))
      · refine putK_new p.2 ?_
        cases e : valV acc p.1 with
        | none => rfl
        | some v => exact absurd (valV_in e) hk
    show mergeK (putK acc p.1 p.2) r = acc ++ p :: r
    rw [e, ih (acc ++ [p]) (by rw [List.append_assoc]; exact h), List.append_assoc]
    rfl
theorem keys_nodup {tb : Tab} (h : (tb.map (·.1)).Pairwise Lt) : (tb.map fun p => (Sum.inr p.1 : Key)).Nodup := by
  have h1 : (tb.map (·.1)).Nodup := List.Pairwise.imp (R := Lt) (fun {a b} q e => by
    rw [e] at q
    exact Lt.irrefl q) h
  have h2 : (tb.map fun p => (Sum.inr p.1 : Key)) = (tb.map (·.1)).map Sum.inr := by
    rw [List.map_map]
    rfl
  rw [h2]
  exact List.Pairwise.map _ (fun a b q e => q (Sum.inr.inj e)) h1
theorem val_look {H : Hp} (k : Str) : ∀ {tb : Tab} {kvs : List (Key × V)}, kvs.map (·.1) = tb.map (fun p => (Sum.inr p.1 : Key)) → TDs H (kvs.map (·.2)) (tb.map fun p => rowD p.2) → TD H ((valV kvs (.inr k)).getD .non) (optD (look tb k))
  | [], [], _, _ => .non
  | [], _ :: _, h, _ => by cases h
  | _ :: _, [], h, _ => by cases h
  | p :: tb, kv :: kvs, h, h2 => by
    rw [List.map_cons, List.map_cons] at h
    have e1 := (List.cons.inj h).1
    have e2 := (List.cons.inj h).2
    obtain ⟨v, ws, e3, h3, h4⟩ := h2.un
    rw [List.map_cons] at e3
    have e4 := (List.cons.inj e3).1
    have e5 := (List.cons.inj e3).2
    rw [← e5] at h4
    by_cases hk : p.1 = k
    · have hv : valV (kv :: kvs) (.inr k) = some kv.2 := valV_pos (by rw [e1, hk])
      have hl : look (p :: tb) k = some p.2 := by
        unfold look
        rw [List.find?_cons, decide_eq_true hk]
        rfl
      rw [hv, hl, e4]
      exact h3
    · have hv : valV (kv :: kvs) (.inr k) = valV kvs (.inr k) := valV_neg (by rw [e1]; exact fun e => hk (Sum.inr.inj e))
      have hl : look (p :: tb) k = look tb k := by
        unfold look
        rw [List.find?_cons, decide_eq_false hk]
      rw [hv, hl]
      exact val_look k e2 h4
/-! ### promises -/
def spInRange : Sp := fun vs H Q _ => ∃ k lo hi : Str, vs = [.str k, .str lo, .str hi] ∧ Q (.bl (inR lo hi k)) H
def spColumnOf : Sp := fun vs H Q _ => ∃ (r : Addr) (ns : List Int) (c : Int), vs = [.ref r, .int c] ∧ H r = some (.tup (ns.map V.int)) ∧ 0 ≤ c ∧ ns.length ≤ 1000 ∧ Q (.int (colOf ns c)) H
def spWithin : Sp := fun vs H Q _ => ∃ (t : Addr) (lo hi : Str) (us : List V) (tb : Tab), vs = [.ref t, .str lo, .str hi] ∧ H t = some (.lst us) ∧ TDs H us (tb.map pairD) ∧ tb.length ≤ 1000 ∧
  ∀ p ws H', H p = none → Same H H' → H' p = some (.lst ws) → TDs H' ws ((within lo hi tb).map pairD) → Q (.ref p) H'
def spRowOf : Sp := fun vs H Q _ => ∃ (t : Addr) (k : Str) (us : List V) (tb : Tab), vs = [.ref t, .str k] ∧ H t = some (.lst us) ∧ TDs H us (tb.map pairD) ∧ tb.length ≤ 1000 ∧ (tb.map (·.1)).Pairwise Lt ∧ ∀ v H', Same H H' → TD H' v (optD (look tb k)) → Q v H'
def spFirst : Sp := fun vs H Q _ => ∃ (t : Addr) (n : Int) (us : List V) (tb : Tab), vs = [.ref t, .int n] ∧ H t = some (.lst us) ∧ TDs H us (tb.map pairD) ∧ tb.length ≤ 1000 ∧ 0 ≤ n ∧
  ∀ p ws H', H p = none → Same H H' → H' p = some (.lst ws) → TDs H' ws ((tb.take n.toNat).map pairD) → Q (.ref p) H'
def spColSum : Sp := fun vs H Q _ => ∃ (t : Addr) (c : Int) (us : List V) (tb : Tab), vs = [.ref t, .int c] ∧ H t = some (.lst us) ∧ TDs H us (tb.map pairD) ∧ tb.length ≤ 1000 ∧ 0 ≤ c ∧ (∀ p ∈ tb, p.2.length ≤ 1000) ∧
  ∀ H', Same H H' → Q (.int (tb.map fun p => colOf p.2 c).sum) H'
def spPairAt : Sp := fun vs H Q _ => ∃ (t : Addr) (n : Int) (us : List V) (tb : Tab), vs = [.ref t, .int n] ∧ H t = some (.lst us) ∧ TDs H us (tb.map pairD) ∧ tb.length ≤ 1000 ∧ 0 ≤ n ∧ ∀ v, TD H v (pairO tb[n.toNat]?) → Q v H
def spAns : Sp := fun vs H Q _ => ∃ (t : Addr) (c : V) (qy : Qry) (us : List V) (tb : Tab), vs = [.ref t, c] ∧ TD H c (qryD qy) ∧ qy.Ok ∧ H t = some (.lst us) ∧ TDs H us (tb.map pairD) ∧ tb.length ≤ 100 ∧ (tb.map (·.1)).Pairwise Lt ∧ (∀ p ∈ tb, p.2.length ≤ 1000) ∧
  ∀ v H', Same H H' → ResAt H H' v (ansOf tb qy) → Q v H'
theorem scInRange : FnScope ["key", "low", "high"] ["key", "low", "high"] (defScope sInRange) := ⟨rfl, rfl, rfl, by decide +kernel, rfl, by decide +kernel, by decide +kernel⟩
theorem scColumnOf : FnScope ["row", "column"] ["row", "column"] (defScope sColumnOf) := ⟨rfl, rfl, rfl, by decide +kernel, rfl, by decide +kernel, by decide +kernel⟩
theorem scRowOf : FnScope ["table", "key", "rows"] ["table", "key"] (defScope sRowOf) := ⟨rfl, rfl, rfl, by decide +kernel, rfl, by decide +kernel, by decide +kernel⟩
theorem scPairsIn : FnScope ["table", "low", "high", "pair"] ["table", "low", "high"] (defScope sPairsIn) := ⟨rfl, rfl, rfl, by decide +kernel, rfl, by decide +kernel, by decide +kernel⟩
theorem scFirst : FnScope ["pairs", "count"] ["pairs", "count"] (defScope sFirst) := ⟨rfl, rfl, rfl, by decide +kernel, rfl, by decide +kernel, by decide +kernel⟩
theorem scColSum : FnScope ["pairs", "column", "_", "row"] ["pairs", "column"] (defScope sColSum) := ⟨rfl, rfl, rfl, by decide +kernel, rfl, by decide +kernel, by decide +kernel⟩
theorem scPairAt : FnScope ["table", "place"] ["table", "place"] (defScope sPairAt) := ⟨rfl, rfl, rfl, by decide +kernel, rfl, by decide +kernel, by decide +kernel⟩
theorem scAnswer : FnScope ["table", "query", "key", "low", "high", "count", "column", "place"] ["table", "query"] (defScope sAnswer) := ⟨rfl, rfl, rfl, by decide +kernel, rfl, by decide +kernel, by decide +kernel⟩
theorem small_len {n : Nat} (h : n ≤ 1000) : n < sizeLine := small1000 h
theorem row_un {H : Hp} {v : V} {ns : List Int} (h : TD H v (rowD ns)) : ∃ a, v = .ref a ∧ H a = some (.tup (ns.map V.int)) := by
  obtain ⟨a, xs, rfl, h1, h2⟩ := h.un
  refine ⟨a, rfl, ?_⟩
  have e : ∀ {vs : List V} {ns : List Int}, TDs H vs (ns.map PyData.int) → vs = ns.map V.int := by
    intro vs ns
    induction ns generalizing vs with
    | nil => exact fun h => h.un0
    | cons n r ih =>
      intro h
      obtain ⟨v, ws, rfl, h3, h4⟩ := h.un
      rw [h3.int_eq, ih h4]
      rfl
  rw [h1, e h2]
theorem at_of {α : Type} {xs : List α} {n : Int} (h0 : 0 ≤ n) {x : α} (h : xs[n.toNat]? = some x) : atI xs n = some x := by
  have e : ((n.toNat : Nat) : Int) = n := by omega
  have q : atI xs ((n.toNat : Nat) : Int) = some x := atI_nat h
  rw [e] at q
  exact q
section
variable {P : Program} {w : World} {K : PySem.W.Frag} {mg : Str → Option Value} {base : Heap}
theorem ok_in_range (D : Def K mg "in_range" sInRange ["key", "low", "high"]) : FnOk P w K mg base CX0 1 D.f D.fd ["key", "low", "high"] spInRange := by
  refine D.F.ok scInRange (fun vs H Q E h => ?_) (fun cdv A outer s H vs Q E hr h => ?_)
  · obtain ⟨k, lo, hi, rfl, _⟩ := h
    rfl
  obtain ⟨k, lo, hi, rfl, q⟩ := h
  refine ⟨_, pss_one (ps_ret (pe_chain op_le_str op_lt_str (pv 1) (pv 0) (pv 2))), ?_⟩
  refine ⟨_, rfl, _, rfl, _, _, rfl, rfl, _, rfl, ite2 (fun h1 => ?_) (fun h1 => ?_)⟩
  · refine ⟨_, rfl, _, _, rfl, rfl, ?_⟩
    have e : inR lo hi k = decide (k.cps.toList < hi.cps.toList) := by
      unfold inR
      rw [h1, Bool.true_and]
    rw [e] at q
    exact q
  · have e : inR lo hi k = false := by
      unfold inR
      rw [Bool.eq_false_iff.mpr h1, Bool.false_and]
    rw [e] at q
    exact q
theorem ok_column_of (D : Def K mg "column_of" sColumnOf ["row", "column"]) (ml : mg "len" = none) : FnOk P w K mg base CX0 1 D.f D.fd ["row", "column"] spColumnOf := by
  refine D.F.ok scColumnOf (fun vs H Q E h => ?_) (fun cdv A outer s H vs Q E hr h => ?_)
  · obtain ⟨r, ns, c, rfl, _⟩ := h
    rfl
  obtain ⟨r, ns, c, rfl, hR, hc, hl, q⟩ := h
  refine ⟨_, pss_one (ps_ret (pe_ifExp (pt_chain op_le op_lt pe_int (pv 1) (pe_callB call_len_seq (by rfl) ml PySem.boot_len (pa_cons (pv 0) pa_nil))) (pe_ix ix_tup (pv 0) (pv 1) (fun _ _ => rfl)) pe_int)), ?_⟩
  refine ⟨_, rfl, _, _, rfl, rfl, _, rfl, ite2 (fun _ => ?_) (fun n => absurd (decide_eq_true hc) n)⟩
  refine ⟨_, rfl, r, _, rfl, .inr (SqT.of hR), _, _, rfl, rfl, _, rfl, ite2 (fun h1 => ?_) (fun h1 => ?_)⟩
  · have h2 : c < ((ns.map V.int).length : Int) := of_decide_eq_true h1
    rw [List.length_map] at h2
    have hk : c.toNat < ns.length := by omega
    refine ⟨_, rfl, _, rfl, r, _, c, .int ns[c.toNat], rfl, rfl, SqT.of hR, at_of hc (by rw [List.getElem?_map, List.getElem?_eq_getElem hk]; rfl), ?_⟩
    unfold colOf at q
    rw [if_pos h2, List.getD_eq_getElem?_getD, List.getElem?_eq_getElem hk] at q
    exact q
  · have h2 : ¬ c < ((ns.map V.int).length : Int) := of_decide_eq_false (Bool.eq_false_iff.mpr h1)
    rw [List.length_map] at h2
    unfold colOf at q
    rw [if_neg h2] at q
    exact q
theorem ok_pairs_in (D : Def K mg "pairs_in_range" sPairsIn ["table", "low", "high"]) (DI : Def K mg "in_range" sInRange ["key", "low", "high"]) (GI : FnOk P w K mg base CX0 1 DI.f DI.fd ["key", "low", "high"] spInRange) : FnOk P w K mg base CX0 2 D.f D.fd ["table", "low", "high"] spWithin := by
  refine D.F.ok scPairsIn (fun vs H Q E h => ?_) (fun cdv A outer s H vs Q E hr h => ?_)
  · obtain ⟨t, lo, hi, us, tb, rfl, _⟩ := h
    rfl
  obtain ⟨t, lo, hi, us, tb, rfl, ht, hT, hlen, q⟩ := h
  refine ⟨_, pss_one (ps_ret (pe_lc (own := [("pair", 3)]) (g := gName 3) (by rfl) scPairsIn.nd (pi_list (pv 0))
      (blkOk_by (own := [("pair", 3)]) (N := ["table", "low", "high", "pair"]) (sc := defScope sPairsIn) (by decide +kernel))
      (fun _ _ _ _ _ => pg_name (i := 3) scPairsIn.nd rfl (Or.inl rfl))
      (fun _ _ _ _ _ => pts_one (pt_val (pe_call GI hr (by rfl) DI.m DI.F.kp DI.b .nil pass0 (pa_cons (pe_ix (r := rIxT K) ix_tup (pv 3) pe_int (fun _ _ => rfl)) (pa_cons (pv 1) (pa_cons (pv 2) pa_nil))))))
      (fun _ _ _ _ _ => pv 3))), ?_⟩
  refine ⟨_, rfl, t, rfl, ⟨_, SqL.of ht⟩, fun D hD => ?_⟩
  have hl := hT.length
  rw [List.length_map] at hl
  refine lc_filt (fun p => inR lo hi p.1) ht hT hD (by omega) (fun v => rfl) (fun v => rfl) (fun p c r H' hp hc hr s Q hQ => ?_) (fun ws H' s hw hW => q D ws H' hD s hw hW)
  exact ⟨_, rfl, c, _, 0, _, rfl, rfl, SqT.of hc, atI_nat (j := 0) rfl, _, rfl, _, rfl, p.1, lo, hi, rfl, _, rfl, hQ⟩
theorem ok_row_of (D : Def K mg "row_of" sRowOf ["table", "key"]) (mdict : mg "dict" = none) : FnOk P w K mg base CX0 1 D.f D.fd ["table", "key"] spRowOf := by
  refine D.F.ok scRowOf (fun vs H Q E h => ?_) (fun cdv A outer s H vs Q E hr h => ?_)
  · obtain ⟨t, k, us, tb, rfl, _⟩ := h
    rfl
  obtain ⟨t, k, us, tb, rfl, ht, hT, hlen, hasc, q⟩ := h
  refine ⟨_, pss_cons (ps_set (i := 2) scRowOf.nd rfl (.inl rfl) (pe_callTy (call_dictP rfl) (by rfl) mdict (by decide +kernel) (pa_cons (pv 0) pa_nil))) <|
    pss_one (ps_ret (pe_dget1 (hu_of hr) (pv 2) (pv 1) ⟨rfl, rfl, rfl, rfl⟩)), ?_⟩
  obtain ⟨ps, kvs, rfl, h3, h4, h5⟩ := tab_pairs (K := K) hT
  have hnd : (kvs.map (·.1)).Nodup := by
    rw [h4]
    exact keys_nodup hasc
  refine ⟨_, rfl, t, ps, kvs, rfl, SqL.of ht, h3, fun d hd => ?_⟩
  have e := merge_app [] kvs hnd
  have s1 := same_new hd (.dK (mergeK [] kvs))
  have hd1 : upd H d (.dK (mergeK [] kvs)) d = some (.dK kvs) := by
    rw [upd_same, e]
    rfl
  refine ⟨_, rfl, d, rfl, .inl ⟨_, .inl hd1⟩, _, rfl, _, DGet.k (k := Sum.inr k) hd1, ?_⟩
  exact q _ _ s1 (TD.mono (Tk.same s1) _ _ (val_look k h4 h5))
end
end RR

namespace RR
open PySem PySem.Spec PyProof.Rows L2
theorem TDs.take {H : Hp} : ∀ {vs : List V} {ds : List PyData} (n : Nat), TDs H vs ds → TDs H (vs.take n) (ds.take n)
  | _, _, 0, _ => .nil
  | _, _, n + 1, .nil => .nil
  | _, _, n + 1, .cons h1 h2 => .cons h1 (TDs.take n h2)
theorem cut_to (xs : List V) {m : Int} (h : 0 ≤ m) : cutV xs none (some m) = xs.take m.toNat := by
  have e : ((m.toNat : Nat) : Int) = m := by omega
  unfold cutV
  rw [HT.sIx_none, ← e, HT.sIx_nat, List.drop_zero, Nat.sub_zero]
  rw [show ((m.toNat : Nat) : Int).toNat = m.toNat by omega]
  by_cases hm : m.toNat ≤ xs.length
  · rw [Nat.min_eq_left hm]
  · rw [Nat.min_eq_right (by omega), List.take_length, List.take_of_length_le (by omega)]
section
variable {P : Program} {w : World} {K : PySem.W.Frag} {mg : Str → Option Value} {base : Heap}
theorem ok_first (D : Def K mg "first_pairs" sFirst ["pairs", "count"]) (mmax : mg "max" = none) : FnOk P w K mg base CX0 1 D.f D.fd ["pairs", "count"] spFirst := by
  refine D.F.ok scFirst (fun vs H Q E h => ?_) (fun cdv A outer s H vs Q E hr h => ?_)
  · obtain ⟨t, n, us, tb, rfl, _⟩ := h
    rfl
  obtain ⟨t, n, us, tb, rfl, ht, hT, hlen, hn, q⟩ := h
  refine ⟨_, pss_one (ps_ret (pe_slice sl_list (pv 0) po_none (po_some (pe_callB (call_max2 rfl) (by rfl) mmax (by decide +kernel) (pa_cons pe_int (pa_cons (pv 1) pa_nil)))))), ?_⟩
  refine ⟨_, rfl, _, rfl, 0, n, rfl, _, rfl, t, us, rfl, SqL.of ht, fun p hp => ?_⟩
  have s1 := same_new hp (.lst (cutV us none (some (if n > 0 then n else 0))))
  have em : (if n > 0 then n else 0) = n := by
    by_cases h : n > 0
    · rw [if_pos h]
    · rw [if_neg h]
      omega
  refine q p _ _ hp s1 upd_same ?_
  rw [em, cut_to us hn, List.map_take]
  exact TDs.mono (Tk.new hp _) _ _ (TDs.take _ hT)
theorem ok_pair_at (D : Def K mg "pair_at" sPairAt ["table", "place"]) (ml : mg "len" = none) : FnOk P w K mg base CX0 1 D.f D.fd ["table", "place"] spPairAt := by
  refine D.F.ok scPairAt (fun vs H Q E h => ?_) (fun cdv A outer s H vs Q E hr h => ?_)
  · obtain ⟨t, n, us, tb, rfl, _⟩ := h
    rfl
  obtain ⟨t, n, us, tb, rfl, ht, hT, hlen, hn, q⟩ := h
  have hl := hT.length
  rw [List.length_map] at hl
  refine ⟨_, pss_one (ps_ret (pe_ifExp (pt_chain op_le op_lt pe_int (pv 1) (pe_callB call_len_seq (by rfl) ml PySem.boot_len (pa_cons (pv 0) pa_nil))) (pe_ix ix_list (pv 0) (pv 1) (fun _ _ => rfl)) pe_non)), ?_⟩
  refine ⟨_, rfl, _, _, rfl, rfl, _, rfl, ite2 (fun _ => ?_) (fun n => absurd (decide_eq_true hn) n)⟩
  refine ⟨_, rfl, t, _, rfl, .inl (SqL.of ht), _, _, rfl, rfl, _, rfl, ite2 (fun h1 => ?_) (fun h1 => ?_)⟩
  · have h2 : n < (us.length : Int) := of_decide_eq_true h1
    have hk : n.toNat < us.length := by omega
    obtain ⟨d, hd1, hd2⟩ := TDs.get hT _ _ (List.getElem?_eq_getElem hk)
    refine ⟨_, rfl, _, rfl, t, us, n, us[n.toNat], rfl, rfl, SqL.of ht, at_of hn (List.getElem?_eq_getElem hk), q _ ?_⟩
    rw [List.getElem?_map] at hd1
    cases e : tb[n.toNat]? with
    | none =>
      rw [e] at hd1
      cases hd1
    | some p =>
      rw [e] at hd1
      have e2 : pairD p = d := Option.some.inj hd1
      rw [← e2] at hd2
      exact hd2
  · have h2 : ¬ n < (us.length : Int) := of_decide_eq_false (Bool.eq_false_iff.mpr h1)
    refine q _ ?_
    rw [List.getElem?_eq_none (by omega)]
    exact .non
theorem ok_col_sum (D : Def K mg "column_sum" sColSum ["pairs", "column"]) (DC : Def K mg "column_of" sColumnOf ["row", "column"]) (msum : mg "sum" = none) (GC : FnOk P w K mg base CX0 1 DC.f DC.fd ["row", "column"] spColumnOf) : FnOk P w K mg base CX0 2 D.f D.fd ["pairs", "column"] spColSum := by
  refine D.F.ok scColSum (fun vs H Q E h => ?_) (fun cdv A outer s H vs Q E hr h => ?_)
  · obtain ⟨t, c, us, tb, rfl, _⟩ := h
    rfl
  obtain ⟨t, c, us, tb, rfl, ht, hT, hlen, hc, hrow, q⟩ := h
  have hl := hT.length
  rw [List.length_map] at hl
  refine ⟨_, pss_one (ps_ret (pe_callB (cr_sum rfl) (by rfl) msum (by decide +kernel) (pa_cons (pe_lc (own := [("_", 2), ("row", 3)]) (g := gTup K 2 (fun vs σ H Q => ∃ x ws, vs = x :: ws ∧ gName 2 x σ H fun σ H => ∃ x2 ws2, ws = x2 :: ws2 ∧ gName 3 x2 σ H fun σ H => ws2 = [] ∧ Q σ H)) (by rfl) scColSum.nd (pi_list (pv 0))
      (blkOk_by (own := [("_", 2), ("row", 3)]) (N := ["pairs", "column", "_", "row"]) (sc := defScope sColSum) (by decide +kernel))
      (fun _ _ _ _ _ => pg_tup (by rfl) (pgs_cons (pg_name (i := 2) scColSum.nd rfl (Or.inl rfl)) (pgs_cons (pg_name (i := 3) scColSum.nd rfl (Or.inl rfl)) pgs_nil)))
      (fun _ _ _ _ _ => pts_nil)
      (fun _ _ _ _ _ => pe_call GC hr (by rfl) DC.m DC.F.kp DC.b .nil pass0 (pa_cons (pv 3) (pa_cons (pv 1) pa_nil)))) pa_nil))), ?_⟩
  refine ⟨_, rfl, t, rfl, ⟨_, SqL.of ht⟩, fun D hD => ?_⟩
  refine lc_list (K := K) (a := t) (xs := us) (fun i H' => Same H H' ∧ H' D = some (.lst (((tb.take i).map fun p => colOf p.2 c).map V.int))) ?_ ?_ ?_ ?_
  · exact ⟨same_new hD _, upd_same⟩
  · rintro i H' _ ⟨s, _⟩
    exact SqL.of (s _ _ ht)
  · rintro i x H' hx ⟨s, hD'⟩
    obtain ⟨d, hd1, hd2⟩ := TDs.get hT i x hx
    rw [List.getElem?_map] at hd1
    obtain ⟨p, hp, rfl⟩ : ∃ p, tb[i]? = some p ∧ d = pairD p := by
      cases e : tb[i]? with
      | none =>
        rw [e] at hd1
        cases hd1
      | some p =>
        rw [e] at hd1
        exact ⟨p, rfl, (Option.some.inj hd1).symm⟩
    obtain ⟨a, r, rfl, ha, hr2⟩ := (TD.mono (Tk.same s) _ _ hd2).pair
    obtain ⟨ra, rfl, hra⟩ := row_un hr2
    refine ⟨a, _, rfl, SqT.of ha, rfl, _, _, rfl, _, _, rfl, rfl, rfl, _, rfl, _, rfl, ra, p.2, c, rfl, hra, hc, hrow p (List.mem_of_getElem? hp), _, hD', ?_, fun b o e => ?_, ?_⟩
    · rw [List.length_map, List.length_map, List.length_take]
      exact small1000 (by omega)
    · rw [upd_ne (ne_of_none e hD)]
      exact s _ _ e
    · rw [upd_same, List.take_add_one, hp, List.map_append, List.map_append]
      rfl
  · rintro H' ⟨s, hD'⟩
    rw [hl, List.take_length] at hD'
    exact ⟨D, _, rfl, SqL.of hD', q _ s⟩
end
end RR

namespace RR
open PySem PySem.Spec PyProof.Rows L2
theorem q_un2 {H : Hp} {v : V} {z k : Str} (h : TD H v (.tuple [.str z, .str k])) : ∃ a, v = .ref a ∧ H a = some (.tup [.str z, .str k]) := by
  obtain ⟨a, xs, rfl, h1, h2⟩ := h.un
  obtain ⟨x, ys, rfl, h3, h4⟩ := h2.un
  obtain ⟨y, zs, rfl, h5, h6⟩ := h4.un
  rw [h3.str_eq, h5.str_eq, h6.un0] at h1
  exact ⟨a, rfl, h1⟩
theorem q_un2i {H : Hp} {v : V} {z : Str} {n : Int} (h : TD H v (.tuple [.str z, .int n])) : ∃ a, v = .ref a ∧ H a = some (.tup [.str z, .int n]) := by
  obtain ⟨a, xs, rfl, h1, h2⟩ := h.un
  obtain ⟨x, ys, rfl, h3, h4⟩ := h2.un
  obtain ⟨y, zs, rfl, h5, h6⟩ := h4.un
  rw [h3.str_eq, h5.int_eq, h6.un0] at h1
  exact ⟨a, rfl, h1⟩
theorem q_un3 {H : Hp} {v : V} {z k l : Str} (h : TD H v (.tuple [.str z, .str k, .str l])) : ∃ a, v = .ref a ∧ H a = some (.tup [.str z, .str k, .str l]) := by
  obtain ⟨a, xs, rfl, h1, h2⟩ := h.un
  obtain ⟨x, ys, rfl, h3, h4⟩ := h2.un
  obtain ⟨y, zs, rfl, h5, h6⟩ := h4.un
  obtain ⟨w, us, rfl, h7, h8⟩ := h6.un
  rw [h3.str_eq, h5.str_eq, h7.str_eq, h8.un0] at h1
  exact ⟨a, rfl, h1⟩
theorem q_un3i {H : Hp} {v : V} {z k : Str} {n : Int} (h : TD H v (.tuple [.str z, .str k, .int n])) : ∃ a, v = .ref a ∧ H a = some (.tup [.str z, .str k, .int n]) := by
  obtain ⟨a, xs, rfl, h1, h2⟩ := h.un
  obtain ⟨x, ys, rfl, h3, h4⟩ := h2.un
  obtain ⟨y, zs, rfl, h5, h6⟩ := h4.un
  obtain ⟨w, us, rfl, h7, h8⟩ := h6.un
  rw [h3.str_eq, h5.str_eq, h7.int_eq, h8.un0] at h1
  exact ⟨a, rfl, h1⟩
theorem q_un4 {H : Hp} {v : V} {z k l : Str} {n : Int} (h : TD H v (.tuple [.str z, .int n, .str k, .str l])) : ∃ a, v = .ref a ∧ H a = some (.tup [.str z, .int n, .str k, .str l]) := by
  obtain ⟨a, xs, rfl, h1, h2⟩ := h.un
  obtain ⟨x, ys, rfl, h3, h4⟩ := h2.un
  obtain ⟨y, zs, rfl, h5, h6⟩ := h4.un
  obtain ⟨w, us, rfl, h7, h8⟩ := h6.un
  obtain ⟨w2, us2, rfl, h9, h10⟩ := h8.un
  rw [h3.str_eq, h5.int_eq, h7.str_eq, h9.str_eq, h10.un0] at h1
  exact ⟨a, rfl, h1⟩
section
variable {P : Program} {w : World} {K : PySem.W.Frag} {mg : Str → Option Value} {base : Heap}
theorem ok_answer (D : Def K mg "answer" sAnswer ["table", "query"]) (DR : Def K mg "row_of" sRowOf ["table", "key"]) (DW : Def K mg "pairs_in_range" sPairsIn ["table", "low", "high"]) (DF : Def K mg "first_pairs" sFirst ["pairs", "count"]) (DA : Def K mg "pairs_above" sAbove ["table", "key"]) (DB : Def K mg "pairs_below" sBelow ["table", "key"])
    (DS : Def K mg "column_sum" sColSum ["pairs", "column"]) (DP : Def K mg "pair_at" sPairAt ["table", "place"]) (ml : mg "len" = none)
    (GR : FnOk P w K mg base CX0 1 DR.f DR.fd ["table", "key"] spRowOf) (GW : FnOk P w K mg base CX0 2 DW.f DW.fd ["table", "low", "high"] spWithin) (GF : FnOk P w K mg base CX0 1 DF.f DF.fd ["pairs", "count"] spFirst) (GA : FnOk P w K mg base CX0 1 DA.f DA.fd ["table", "key"] (spPart above)) (GB : FnOk P w K mg base CX0 1 DB.f DB.fd ["table", "key"] (spPart below))
    (GS : FnOk P w K mg base CX0 2 DS.f DS.fd ["pairs", "column"] spColSum) (GP : FnOk P w K mg base CX0 1 DP.f DP.fd ["table", "place"] spPairAt) : FnOk P w K mg base CX0 3 D.f D.fd ["table", "query"] spAns := by
  refine D.F.ok scAnswer (fun vs H Q E h => ?_) (fun cdv A outer s H vs Q E hr h => ?_)
  · obtain ⟨t, c, qy, us, tb, rfl, _⟩ := h
    rfl
  obtain ⟨t, c, qy, us, tb, rfl, hc, hok, ht, hT, hlen, hasc, hrow, q⟩ := h
  refine ⟨_, pss_one (RX.ps_match (pv 1) <|
      RX.pms_case scAnswer.nd rfl (.cons .nil) (.cons (i := 2) rfl rfl .nil) (pss_one (ps_ret (pe_call GR (hr.mono (by decide)) (by rfl) DR.m DR.F.kp DR.b .nil pass0 (pa_cons (pv 0) (pa_cons (pv 2) pa_nil))))) <|
      RX.pms_case scAnswer.nd rfl (.cons (.cons .nil)) (.cons (i := 3) rfl rfl (.cons (i := 4) rfl rfl .nil)) (pss_one (ps_ret (pe_call GW hr (by rfl) DW.m DW.F.kp DW.b .nil pass0 (pa_cons (pv 0) (pa_cons (pv 3) (pa_cons (pv 4) pa_nil)))))) <|
      RX.pms_case scAnswer.nd rfl (.cons (.cons .nil)) (.cons (i := 2) rfl rfl (.cons (i := 5) rfl rfl .nil)) (pss_one (ps_ret (pe_call GF (hr.mono (by decide)) (by rfl) DF.m DF.F.kp DF.b .nil pass0 (pa_cons (pe_call GA (hr.mono (by decide)) (by rfl) DA.m DA.F.kp DA.b .nil pass0 (pa_cons (pv 0) (pa_cons (pv 2) pa_nil))) (pa_cons (pv 5) pa_nil))))) <|
      RX.pms_case scAnswer.nd rfl (.cons (.cons .nil)) (.cons (i := 3) rfl rfl (.cons (i := 4) rfl rfl .nil)) (pss_one (ps_ret (pe_callB call_len_seq (by rfl) ml PySem.boot_len (pa_cons (pe_call GW hr (by rfl) DW.m DW.F.kp DW.b .nil pass0 (pa_cons (pv 0) (pa_cons (pv 3) (pa_cons (pv 4) pa_nil)))) pa_nil)))) <|
      RX.pms_case scAnswer.nd rfl (.cons (.cons (.cons .nil))) (.cons (i := 6) rfl rfl (.cons (i := 3) rfl rfl (.cons (i := 4) rfl rfl .nil))) (pss_one (ps_ret (pe_call GS hr (by rfl) DS.m DS.F.kp DS.b .nil pass0 (pa_cons (pe_call GW hr (by rfl) DW.m DW.F.kp DW.b .nil pass0 (pa_cons (pv 0) (pa_cons (pv 3) (pa_cons (pv 4) pa_nil)))) (pa_cons (pv 6) pa_nil))))) <|
      RX.pms_case scAnswer.nd rfl (.cons .nil) (.cons (i := 2) rfl rfl .nil) (pss_one (ps_ret (pe_callB call_len_seq (by rfl) ml PySem.boot_len (pa_cons (pe_call GB (hr.mono (by decide)) (by rfl) DB.m DB.F.kp DB.b .nil pass0 (pa_cons (pv 0) (pa_cons (pv 2) pa_nil))) pa_nil)))) <|
      RX.pms_case scAnswer.nd rfl (.cons .nil) (.cons (i := 7) rfl rfl .nil) (pss_one (ps_ret (pe_call GP (hr.mono (by decide)) (by rfl) DP.m DP.F.kp DP.b .nil pass0 (pa_cons (pv 0) (pa_cons (pv 7) pa_nil))))) <|
      RX.pms_nil), ?_⟩
  cases qy with
  | get k =>
    obtain ⟨a, rfl, ha⟩ := q_un2 hc
    refine ⟨_, rfl, a, _, _, rfl, SqT.of ha, .inl ⟨rfl, rfl, _, rfl, _, rfl, t, k, us, tb, rfl, ht, hT, by omega, hasc, fun v H' s hv => q v H' s hv⟩⟩
  | range lo hi =>
    obtain ⟨a, rfl, ha⟩ := q_un3 hc
    refine ⟨_, rfl, a, _, _, rfl, SqT.of ha, .inr ⟨(by rintro ⟨_, e⟩; exact absurd e (by decide +kernel)), a, _, _, rfl, SqT.of ha, .inl ⟨rfl, rfl, _, rfl, _, rfl, _, rfl, t, lo, hi, us, tb, rfl, ht, hT, by omega, fun p ws H' hp s hw hW => q _ H' s ⟨p, ws, rfl, hp, hw, hW⟩⟩⟩⟩
  | next k n =>
    obtain ⟨a, rfl, ha⟩ := q_un3i hc
    refine ⟨_, rfl, a, _, _, rfl, SqT.of ha, .inr ⟨(by rintro ⟨_, e⟩; exact absurd e (by decide +kernel)), a, _, _, rfl, SqT.of ha, .inr ⟨(by rintro ⟨_, e⟩; exact absurd e (by decide +kernel)), a, _, _, rfl, SqT.of ha, .inl ⟨rfl, rfl, _, rfl, _, rfl, t, k, us, tb, rfl, ht, hT, by omega, fun p ws H1 hp s1 hw hW => ?_⟩⟩⟩⟩
    have l1 := parts_len k tb
    refine ⟨_, rfl, p, n, ws, above k tb, rfl, hw, hW, by omega, hok, fun p2 ws2 H2 hp2 s2 hw2 hW2 => ?_⟩
    exact q _ H2 (s1.trans s2) ⟨p2, ws2, rfl, s1.free hp2, hw2, hW2⟩
  | count lo hi =>
    obtain ⟨a, rfl, ha⟩ := q_un3 hc
    refine ⟨_, rfl, a, _, _, rfl, SqT.of ha, .inr ⟨(by rintro ⟨_, e⟩; exact absurd e (by decide +kernel)), a, _, _, rfl, SqT.of ha, .inr ⟨(by rintro ⟨_, e⟩; exact absurd e (by decide +kernel)), a, _, _, rfl, SqT.of ha, .inr ⟨(by rintro ⟨_, e⟩; exact absurd e (by decide +kernel)), a, _, _, rfl, SqT.of ha, .inl ⟨rfl, rfl, _, rfl, _, rfl, _, rfl, t, lo, hi, us, tb, rfl, ht, hT, by omega, fun p ws H1 hp s1 hw hW => ?_⟩⟩⟩⟩⟩
    have l1 := hW.length
    rw [List.length_map] at l1
    refine ⟨p, ws, rfl, .inl (SqL.of hw), ?_⟩
    rw [l1]
    exact q _ H1 s1 (.int _)
  | sum c lo hi =>
    obtain ⟨a, rfl, ha⟩ := q_un4 hc
    refine ⟨_, rfl, a, _, _, rfl, SqT.of ha, .inr ⟨(by rintro ⟨_, e⟩; exact absurd e (by decide +kernel)), a, _, _, rfl, SqT.of ha, .inr ⟨(by rintro ⟨_, e⟩; exact absurd e (by decide +kernel)), a, _, _, rfl, SqT.of ha, .inr ⟨(by rintro ⟨_, e⟩; exact absurd e (by decide +kernel)), a, _, _, rfl, SqT.of ha, .inr ⟨(by rintro ⟨_, e⟩; exact absurd e (by decide +kernel)), a, _, _, rfl, SqT.of ha, .inl ⟨rfl, rfl, _, rfl, _, rfl, _, rfl, t, lo, hi, us, tb, rfl, ht, hT, by omega, fun p ws H1 hp s1 hw hW => ?_⟩⟩⟩⟩⟩⟩
    have l1 : (within lo hi tb).length ≤ tb.length := List.length_filter_le _ _
    refine ⟨_, rfl, p, c, ws, within lo hi tb, rfl, hw, hW, by omega, hok, fun e he => hrow e (List.mem_filter.mp he).1, fun H2 s2 => ?_⟩
    exact q _ H2 (s1.trans s2) (.int _)
  | place k =>
    obtain ⟨a, rfl, ha⟩ := q_un2 hc
    refine ⟨_, rfl, a, _, _, rfl, SqT.of ha, .inr ⟨(by rintro ⟨_, e⟩; exact absurd e (by decide +kernel)), a, _, _, rfl, SqT.of ha, .inr ⟨(by rintro ⟨_, e⟩; exact absurd e (by decide +kernel)), a, _, _, rfl, SqT.of ha, .inr ⟨(by rintro ⟨_, e⟩; exact absurd e (by decide +kernel)), a, _, _, rfl, SqT.of ha, .inr ⟨(by rintro ⟨_, e⟩; exact absurd e (by decide +kernel)), a, _, _, rfl, SqT.of ha, .inr ⟨(by rintro ⟨_, e⟩; exact absurd e (by decide +kernel)), a, _, _, rfl, SqT.of ha, .inl ⟨rfl, rfl, _, rfl, _, rfl, t, k, us, tb, rfl, ht, hT, by omega, fun p ws H1 hp s1 hw hW => ?_⟩⟩⟩⟩⟩⟩⟩
    have l1 := hW.length
    rw [List.length_map] at l1
    refine ⟨p, ws, rfl, .inl (SqL.of hw), ?_⟩
    rw [l1]
    exact q _ H1 s1 (.int _)
  | at_ n =>
    obtain ⟨a, rfl, ha⟩ := q_un2i hc
    refine ⟨_, rfl, a, _, _, rfl, SqT.of ha, .inr ⟨(by rintro ⟨_, e⟩; exact absurd e (by decide +kernel)), a, _, _, rfl, SqT.of ha, .inr ⟨(by rintro ⟨_, e⟩; exact absurd e (by decide +kernel)), a, _, _, rfl, SqT.of ha, .inr ⟨(by rintro ⟨_, e⟩; exact absurd e (by decide +kernel)), a, _, _, rfl, SqT.of ha, .inr ⟨(by rintro ⟨_, e⟩; exact absurd e (by decide +kernel)), a, _, _, rfl, SqT.of ha, .inr ⟨(by rintro ⟨_, e⟩; exact absurd e (by decide +kernel)), a, _, _, rfl, SqT.of ha, .inr ⟨(by rintro ⟨_, e⟩; exact absurd e (by decide +kernel)), a, _, _, rfl, SqT.of ha, .inl ⟨rfl, rfl, _, rfl, _, rfl, t, n, us, tb, rfl, ht, hT, by omega, hok, fun v hv => q v H (Same.refl _) hv⟩⟩⟩⟩⟩⟩⟩⟩
end
end RR

namespace RR
open PySem PySem.Spec PyProof.Rows L2
abbrev sBound : Stmt := topS 16
abbrev sSomeKey : Stmt := topS 17
abbrev sQuery : Stmt := topS 18
abbrev sLWithin : Stmt := topS 19
abbrev sCell : Stmt := topS 20
def BndOk (s : Str) : Prop := s.length ≤ 9 ∧ ∀ c ∈ s.cps.toList, c ∈ letS.cps.toList
theorem KeyOk.bnd {s : Str} (h : KeyOk s) : BndOk s := ⟨by have := h.2.1; omega, h.2.2⟩
def spSomeKey : Sp := fun vs H Q _ => ∃ (st l t : Addr) (us : List V) (tb : List (Str × List Int)), vs = [.ref st, .ref t] ∧ Good st l H ∧ t ≠ st ∧ H t = some (.lst us) ∧ TDs H us (tb.map pairD) ∧ (∀ p ∈ tb, KeyOk p.1) ∧ tb.length ≤ 100 ∧
  ∀ s H', KeyOk s → Le st H H' → Good st l H' → Q (.str s) H'
def spBound : Sp := fun vs H Q _ => ∃ (st l t : Addr) (us : List V) (tb : List (Str × List Int)), vs = [.ref st, .ref t] ∧ Good st l H ∧ t ≠ st ∧ H t = some (.lst us) ∧ TDs H us (tb.map pairD) ∧ (∀ p ∈ tb, KeyOk p.1) ∧ tb.length ≤ 100 ∧
  ∀ s H', BndOk s → Le st H H' → Good st l H' → Q (.str s) H'
def spQuery : Sp := fun vs H Q _ => ∃ (st l t : Addr) (us : List V) (tb : List (Str × List Int)), vs = [.ref st, .ref t] ∧ Good st l H ∧ t ≠ st ∧ H t = some (.lst us) ∧ TDs H us (tb.map pairD) ∧ (∀ p ∈ tb, KeyOk p.1) ∧ tb.length ≤ 100 ∧
  ∀ c qy H', Qry.Ok qy → TD H' c (qryD qy) → Le st H H' → Good st l H' → Q c H'
theorem scSomeKey : FnScope ["state", "table"] ["state", "table"] (defScope sSomeKey) := ⟨rfl, rfl, rfl, by decide +kernel, rfl, by decide +kernel, by decide +kernel⟩
theorem scBound : FnScope ["state", "table", "choice"] ["state", "table"] (defScope sBound) := ⟨rfl, rfl, rfl, by decide +kernel, rfl, by decide +kernel, by decide +kernel⟩
theorem scQuery : FnScope ["state", "table", "choice"] ["state", "table"] (defScope sQuery) := ⟨rfl, rfl, rfl, by decide +kernel, rfl, by decide +kernel, by decide +kernel⟩
theorem scLWithin : FnScope ["table", "low", "high", "pair"] ["table", "low", "high"] (defScope sLWithin) := ⟨rfl, rfl, rfl, by decide +kernel, rfl, by decide +kernel, by decide +kernel⟩
theorem scCell : FnScope ["row", "column"] ["row", "column"] (defScope sCell) := ⟨rfl, rfl, rfl, by decide +kernel, rfl, by decide +kernel, by decide +kernel⟩
/-- the pair at a drawn place -/
theorem pair_got {H : Hp} {us : List V} {tb : Tab} {d : Int} (hT : TDs H us (tb.map pairD)) (h0 : 0 ≤ d) (h1 : d < (us.length : Int)) : ∃ c r p, atI us d = some (.ref c) ∧ H c = some (.tup [.str p.1, r]) ∧ p ∈ tb := by
  have hj : d.toNat < us.length := by omega
  obtain ⟨dd, hd1, hd2⟩ := TDs.get hT _ _ (List.getElem?_eq_getElem hj)
  rw [List.getElem?_map] at hd1
  cases e : tb[d.toNat]? with
  | none =>
    rw [e] at hd1
    cases hd1
  | some p =>
    rw [e] at hd1
    have e2 : pairD p = dd := Option.some.inj hd1
    rw [← e2] at hd2
    obtain ⟨c, r, ec, hc, _⟩ := hd2.pair
    refine ⟨c, r, p, ?_, hc, List.mem_of_getElem? e⟩
    rw [← ec]
    exact at_of h0 (List.getElem?_eq_getElem hj)
section
variable {P : Program} {w : World} {K : PySem.W.Frag} {mg : Str → Option Value} {base : Heap}
theorem ok_some_key (D : Def K mg "_law_some_key" sSomeKey ["state", "table"]) (DD : Def K mg "_law_draw" sDraw ["state", "limit"]) (DK : Def K mg "_law_key" sKey ["state"]) (ml : mg "len" = none)
    (GD : FnOk P w K mg base CX0 1 DD.f DD.fd ["state", "limit"] spDraw) (GK : FnOk P w K mg base CX0 2 DK.f DK.fd ["state"] spKey) : FnOk P w K mg base CX0 3 D.f D.fd ["state", "table"] spSomeKey := by
  refine D.F.ok scSomeKey (fun vs H Q E h => ?_) (fun cdv A outer s H vs Q E hr h => ?_)
  · obtain ⟨st, l, t, us, tb, rfl, _⟩ := h
    rfl
  obtain ⟨st, l, t, us, tb, rfl, g, nt, ht, hT, hk, hlen, q⟩ := h
  have hl := hT.length
  rw [List.length_map] at hl
  refine ⟨_, C8.pss_cut (ps_if (PW.pt (pw_and (pt_cmpR op_gt (pe_callB call_len_seq (by rfl) ml PySem.boot_len (pa_cons (pv 1) pa_nil)) pe_int (nomark _))
      (pw_and1 (pt_cmpR op_gt (pe_call GD (hr.mono (by decide)) (by rfl) DD.m DD.F.kp DD.b .nil pass0 (pa_cons (pv 0) (pa_cons pe_int pa_nil))) pe_int (nomark _)))))
    (pss_one (ps_ret (pe_ix ix_tup (pe_ix ix_list (pv 1) (pe_call GD (hr.mono (by decide)) (by rfl) DD.m DD.F.kp DD.b .nil pass0 (pa_cons (pv 0) (pa_cons (pe_callB call_len_seq (by rfl) ml PySem.boot_len (pa_cons (pv 1) pa_nil)) pa_nil))) (fun _ _ => rfl)) pe_int (fun _ _ => rfl)))) pss_nil)
    (pss_one (ps_ret (pe_call GK hr (by rfl) DK.m DK.F.kp DK.b .nil pass0 (pa_cons (pv 0) pa_nil)))), ?_⟩
  refine ⟨fun σ' H' => σ' = [some (.ref st), some (.ref t)] ∧ Le st H H' ∧ Good st l H', ?_, ?_⟩
  · refine ⟨_, rfl, t, us, rfl, .inl (SqL.of ht), _, _, rfl, rfl, _, rfl, ite2 (fun h0 => ?_) (fun _ => ?_)⟩
    · have h0' : 0 < (us.length : Int) := of_decide_eq_true h0
      refine ⟨_, rfl, st, l, 3, rfl, g, by decide, by decide, fun d H1 d0 d1 le1 g1 => ?_⟩
      refine ⟨_, _, rfl, rfl, _, rfl, ite2 (fun _ => ?_) (fun _ => ?_)⟩
      · have ht1 := le1 t _ nt ht
        refine ⟨_, rfl, _, rfl, _, rfl, t, us, rfl, .inl (SqL.of ht1), st, l, _, rfl, g1, h0', pow7 (by omega), fun d2 H2 d20 d21 le2 g2 => ?_⟩
        have ht2 := le2 t _ nt ht1
        have hj : d2.toNat < us.length := by omega
        have hat : atI us d2 = some us[d2.toNat] := by
          have e : ((d2.toNat : Nat) : Int) = d2 := by omega
          have z : atI us ((d2.toNat : Nat) : Int) = some us[d2.toNat] := atI_nat (List.getElem?_eq_getElem hj)
          rw [e] at z
          exact z
        obtain ⟨dd, hd1, hd2⟩ := TDs.get hT _ _ (List.getElem?_eq_getElem hj)
        rw [List.getElem?_map] at hd1
        obtain ⟨p, hp, rfl⟩ : ∃ p, tb[d2.toNat]? = some p ∧ dd = pairD p := by
          cases e : tb[d2.toNat]? with
          | none =>
            rw [e] at hd1
            cases hd1
          | some p =>
            rw [e] at hd1
            exact ⟨p, rfl, (Option.some.inj hd1).symm⟩
        obtain ⟨c, r, ec, hc, _⟩ := (TD.mono ((Tk.le g le1).trans (Tk.le g1 le2)) _ _ hd2).pair
        refine ⟨t, us, d2, _, rfl, rfl, SqL.of ht2, hat, ?_⟩
        refine ⟨c, _, 0, _, ec, rfl, SqT.of hc, atI_nat (j := 0) rfl, ?_⟩
        exact q _ _ (hk p (List.mem_of_getElem? hp)) (le1.trans le2) g2
      · exact ⟨rfl, le1, g1⟩
    · exact ⟨rfl, Le.refl _ _, g⟩
  · rintro σ' H1 ⟨rfl, le1, g1⟩
    exact ⟨_, rfl, st, l, rfl, g1, fun s H2 hs le2 g2 => q s H2 hs (le1.trans le2) g2⟩
theorem ok_bound (D : Def K mg "_law_bound" sBound ["state", "table"]) (DD : Def K mg "_law_draw" sDraw ["state", "limit"]) (DK : Def K mg "_law_key" sKey ["state"]) (ml : mg "len" = none)
    (GD : FnOk P w K mg base CX0 1 DD.f DD.fd ["state", "limit"] spDraw) (GK : FnOk P w K mg base CX0 2 DK.f DK.fd ["state"] spKey) : FnOk P w K mg base CX0 3 D.f D.fd ["state", "table"] spBound := by
  refine D.F.ok scBound (fun vs H Q E h => ?_) (fun cdv A outer s H vs Q E hr h => ?_)
  · obtain ⟨st, l, t, us, tb, rfl, _⟩ := h
    rfl
  obtain ⟨st, l, t, us, tb, rfl, g, nt, ht, hT, hk, hlen, q⟩ := h
  have hl := hT.length
  rw [List.length_map] at hl
  refine ⟨_, pss_cons (ps_set (i := 2) scBound.nd rfl (.inl rfl) (pe_call GD (hr.mono (by decide)) (by rfl) DD.m DD.F.kp DD.b .nil pass0 (pa_cons (pv 0) (pa_cons pe_int pa_nil)))) <|
    pss_cons (ps_if (pt_cmpR op_eq (pv 2) pe_int (nomark _)) (pss_one (ps_ret pe_str)) pss_nil) <|
    pss_cons (ps_if (PW.pt (pw_and (pt_cmpR op_lt (pv 2) pe_int (nomark _)) (pw_and1 (pt_cmpR op_gt (pe_callB call_len_seq (by rfl) ml PySem.boot_len (pa_cons (pv 1) pa_nil)) pe_int (nomark _)))))
      (pss_one (ps_ret (pe_op op_add_str (pe_ix ix_tup (pe_ix ix_list (pv 1) (pe_call GD (hr.mono (by decide)) (by rfl) DD.m DD.F.kp DD.b .nil pass0 (pa_cons (pv 0) (pa_cons (pe_callB call_len_seq (by rfl) ml PySem.boot_len (pa_cons (pv 1) pa_nil)) pa_nil))) (fun _ _ => rfl)) pe_int (fun _ _ => rfl)) (pe_ix ix_list (pe_lst (pa_cons pe_str (pa_cons pe_str (pa_cons pe_str pa_nil)))) (pe_call GD (hr.mono (by decide)) (by rfl) DD.m DD.F.kp DD.b .nil pass0 (pa_cons (pv 0) (pa_cons pe_int pa_nil))) (fun _ _ => rfl))))) pss_nil) <|
    pss_one (ps_ret (pe_call GK hr (by rfl) DK.m DK.F.kp DK.b .nil pass0 (pa_cons (pv 0) pa_nil))), ?_⟩
  refine ⟨_, rfl, st, l, 4, rfl, g, by decide, by decide, fun d H1 d0 d1 le1 g1 => ?_⟩
  refine ⟨_, rfl, rfl, _, rfl, ite2 (fun _ => q _ _ ⟨by decide, fun c hc => by cases hc⟩ le1 g1) (fun _ => ?_)⟩
  have ht1 := le1 t _ nt ht
  have last : ∀ s H', KeyOk s → Le st H1 H' → Good st l H' → Q (.str s) H' := fun s H' hs le g => q s H' hs.bnd (le1.trans le) g
  refine ⟨_, rfl, _, _, rfl, rfl, _, rfl, ite2 (fun _ => ?_) (fun _ => ?_)⟩
  · refine ⟨_, rfl, t, us, rfl, .inl (SqL.of ht1), _, _, rfl, rfl, _, rfl, ite2 (fun h0 => ?_) (fun _ => ?_)⟩
    · have h0' : 0 < (us.length : Int) := of_decide_eq_true h0
      refine ⟨_, rfl, _, rfl, _, rfl, t, us, rfl, .inl (SqL.of ht1), st, l, _, rfl, g1, h0', pow7 (by omega), fun d2 H2 d20 d21 le2 g2 => ?_⟩
      have ht2 := le2 t _ nt ht1
      have hT2 := TDs.mono ((Tk.le g le1).trans (Tk.le g1 le2)) _ _ hT
      obtain ⟨c, r, p, hat, hc, hm⟩ := pair_got hT2 d20 d21
      refine ⟨t, us, d2, _, rfl, rfl, SqL.of ht2, hat, c, _, 0, _, rfl, rfl, SqT.of hc, atI_nat (j := 0) rfl, ?_⟩
      refine ⟨by show 3 ≤ sizeLine; decide, fun z hz => ?_⟩
      have s3 := same_new hz (.lst [.str "", .str "", .str "0"])
      have z3 : upd H2 z (.lst [.str "", .str "", .str "0"]) z = some (.lst [.str "", .str "", .str "0"]) := upd_same
      have hzn := g2.ne hz
      refine ⟨_, rfl, st, l, 3, rfl, g2.same s3, by decide, by decide, fun d4 H4 d40 d41 le4 g4 => ?_⟩
      obtain ⟨x, hx, hxo⟩ : ∃ x : Str, atI [V.str "", .str "", .str "0"] d4 = some (.str x) ∧ x.length ≤ 1 ∧ ∀ c ∈ x.cps.toList, c ∈ letS.cps.toList := by
        rcases (by omega : d4 = 0 ∨ d4 = 1 ∨ d4 = 2) with e | e | e
        · exact ⟨"", by rw [e]; rfl, by decide, fun c hc => by cases hc⟩
        · exact ⟨"", by rw [e]; rfl, by decide, fun c hc => by cases hc⟩
        · exact ⟨"0", by rw [e]; rfl, by decide +kernel, by decide +kernel⟩
      refine ⟨z, _, d4, _, rfl, rfl, SqL.of (le4 z _ hzn.1 z3), hx, ?_⟩
      have hk1 := hk p hm
      have hk2 := hk1.2.1
      have hx1 := hxo.1
      refine ⟨_, _, rfl, rfl, small (by omega), q _ _ ⟨by rw [app_len]; omega, fun c hc => ?_⟩ (((le1.trans le2).trans (Le.of s3)).trans le4) g4⟩
      rw [app_list, List.mem_append] at hc
      rcases hc with hc | hc
      · exact hk1.2.2 c hc
      · exact hxo.2 c hc
    · exact ⟨_, rfl, st, l, rfl, g1, last⟩
  · exact ⟨_, rfl, st, l, rfl, g1, last⟩
theorem ok_query (D : Def K mg "_law_query" sQuery ["state", "table"]) (DD : Def K mg "_law_draw" sDraw ["state", "limit"]) (DS : Def K mg "_law_some_key" sSomeKey ["state", "table"]) (DB : Def K mg "_law_bound" sBound ["state", "table"]) (ml : mg "len" = none)
    (GD : FnOk P w K mg base CX0 1 DD.f DD.fd ["state", "limit"] spDraw) (GS : FnOk P w K mg base CX0 3 DS.f DS.fd ["state", "table"] spSomeKey) (GB : FnOk P w K mg base CX0 3 DB.f DB.fd ["state", "table"] spBound) : FnOk P w K mg base CX0 4 D.f D.fd ["state", "table"] spQuery := by
  refine D.F.ok scQuery (fun vs H Q E h => ?_) (fun cdv A outer s H vs Q E hr h => ?_)
  · obtain ⟨st, l, t, us, tb, rfl, _⟩ := h
    rfl
  obtain ⟨st, l, t, us, tb, rfl, g, nt, ht, hT, hk, hlen, q⟩ := h
  have hl := hT.length
  rw [List.length_map] at hl
  refine ⟨_, pss_cons (ps_set (i := 2) scQuery.nd rfl (.inl rfl) (pe_call GD (hr.mono (by decide)) (by rfl) DD.m DD.F.kp DD.b .nil pass0 (pa_cons (pv 0) (pa_cons pe_int pa_nil)))) <|
    pss_cons (ps_if (pt_cmpR op_eq (pv 2) pe_int (nomark _)) (pss_one (ps_ret (pe_tup (pa_cons (pe_str) (pa_cons (pe_call GS hr (by rfl) DS.m DS.F.kp DS.b .nil pass0 (pa_cons (pv 0) (pa_cons (pv 1) pa_nil))) pa_nil))))) pss_nil) <|
    pss_cons (ps_if (pt_cmpR op_eq (pv 2) pe_int (nomark _)) (pss_one (ps_ret (pe_tup (pa_cons (pe_str) (pa_cons (pe_call GB (hr.mono (by decide)) (by rfl) DB.m DB.F.kp DB.b .nil pass0 (pa_cons (pv 0) (pa_cons (pv 1) pa_nil))) (pa_cons (pe_call GB (hr.mono (by decide)) (by rfl) DB.m DB.F.kp DB.b .nil pass0 (pa_cons (pv 0) (pa_cons (pv 1) pa_nil))) pa_nil)))))) pss_nil) <|
    pss_cons (ps_if (pt_cmpR op_eq (pv 2) pe_int (nomark _)) (pss_one (ps_ret (pe_tup (pa_cons (pe_str) (pa_cons (pe_call GB (hr.mono (by decide)) (by rfl) DB.m DB.F.kp DB.b .nil pass0 (pa_cons (pv 0) (pa_cons (pv 1) pa_nil))) (pa_cons (pe_ix ix_list (pe_lst (pa_cons (pe_call GD (hr.mono (by decide)) (by rfl) DD.m DD.F.kp DD.b .nil pass0 (pa_cons (pv 0) (pa_cons pe_int pa_nil))) (pa_cons (pe_call GD (hr.mono (by decide)) (by rfl) DD.m DD.F.kp DD.b .nil pass0 (pa_cons (pv 0) (pa_cons pe_int pa_nil))) pa_nil))) (pe_call GD (hr.mono (by decide)) (by rfl) DD.m DD.F.kp DD.b .nil pass0 (pa_cons (pv 0) (pa_cons pe_int pa_nil))) (fun _ _ => rfl)) pa_nil)))))) pss_nil) <|
    pss_cons (ps_if (pt_cmpR op_eq (pv 2) pe_int (nomark _)) (pss_one (ps_ret (pe_tup (pa_cons (pe_str) (pa_cons (pe_call GB (hr.mono (by decide)) (by rfl) DB.m DB.F.kp DB.b .nil pass0 (pa_cons (pv 0) (pa_cons (pv 1) pa_nil))) (pa_cons (pe_call GB (hr.mono (by decide)) (by rfl) DB.m DB.F.kp DB.b .nil pass0 (pa_cons (pv 0) (pa_cons (pv 1) pa_nil))) pa_nil)))))) pss_nil) <|
    pss_cons (ps_if (pt_cmpR op_eq (pv 2) pe_int (nomark _)) (pss_one (ps_ret (pe_tup (pa_cons (pe_str) (pa_cons (pe_call GD (hr.mono (by decide)) (by rfl) DD.m DD.F.kp DD.b .nil pass0 (pa_cons (pv 0) (pa_cons pe_int pa_nil))) (pa_cons (pe_call GB (hr.mono (by decide)) (by rfl) DB.m DB.F.kp DB.b .nil pass0 (pa_cons (pv 0) (pa_cons (pv 1) pa_nil))) (pa_cons (pe_call GB (hr.mono (by decide)) (by rfl) DB.m DB.F.kp DB.b .nil pass0 (pa_cons (pv 0) (pa_cons (pv 1) pa_nil))) pa_nil))))))) pss_nil) <|
    pss_cons (ps_if (pt_cmpR op_eq (pv 2) pe_int (nomark _)) (pss_one (ps_ret (pe_tup (pa_cons (pe_str) (pa_cons (pe_call GB (hr.mono (by decide)) (by rfl) DB.m DB.F.kp DB.b .nil pass0 (pa_cons (pv 0) (pa_cons (pv 1) pa_nil))) pa_nil))))) pss_nil) <|
    pss_one (ps_ret (pe_tup (pa_cons (pe_str) (pa_cons (pe_call GD (hr.mono (by decide)) (by rfl) DD.m DD.F.kp DD.b .nil pass0 (pa_cons (pv 0) (pa_cons (pe_op op_add (pe_callB call_len_seq (by rfl) ml PySem.boot_len (pa_cons (pv 1) pa_nil)) pe_int) pa_nil))) pa_nil)))), ?_⟩
  refine ⟨_, rfl, st, l, 7, rfl, g, by decide, by decide, fun d H1 d0 d1 le1 g1 => ?_⟩
  have ht1 := le1 t _ nt ht
  have hT1 := TDs.mono (Tk.le g le1) _ _ hT
  refine ⟨_, rfl, rfl, _, rfl, ite2 (fun _ => ?_) (fun _ => ?_)⟩
  · refine ⟨_, rfl, _, rfl, st, l, t, us, tb, rfl, g1, nt, ht1, hT1, hk, hlen, fun z1 H2 hz1 le2 g2 => ?_⟩
    refine ⟨by show 2 ≤ sizeLine; decide, fun p hp => ?_⟩
    have s4 := same_new hp (.tup [.str "get", .str z1])
    exact q _ (.get z1) _ trivial (.tup upd_same (.cons (.str _) (.cons (.str _) .nil))) ((le1.trans le2).trans (Le.of s4)) (g2.same s4)
  refine ⟨_, rfl, rfl, _, rfl, ite2 (fun _ => ?_) (fun _ => ?_)⟩
  · refine ⟨_, rfl, _, rfl, st, l, t, us, tb, rfl, g1, nt, ht1, hT1, hk, hlen, fun z1 H2 hz1 le2 g2 => ?_⟩
    have ht2 := le2 t _ nt ht1
    have hT2 := TDs.mono (Tk.le g1 le2) _ _ hT1
    refine ⟨_, rfl, _, rfl, st, l, t, us, tb, rfl, g2, nt, ht2, hT2, hk, hlen, fun z2 H3 hz2 le3 g3 => ?_⟩
    refine ⟨by show 3 ≤ sizeLine; decide, fun p hp => ?_⟩
    have s4 := same_new hp (.tup [.str "range", .str z1, .str z2])
    exact q _ (.range z1 z2) _ trivial (.tup upd_same (.cons (.str _) (.cons (.str _) (.cons (.str _) .nil)))) (((le1.trans le2).trans le3).trans (Le.of s4)) (g3.same s4)
  refine ⟨_, rfl, rfl, _, rfl, ite2 (fun _ => ?_) (fun _ => ?_)⟩
  · refine ⟨_, rfl, _, rfl, st, l, t, us, tb, rfl, g1, nt, ht1, hT1, hk, hlen, fun z1 H2 hz1 le2 g2 => ?_⟩
    refine ⟨_, rfl, st, l, 4, rfl, g2, by decide, by decide, fun d3 H3 d30 d31 le3 g3 => ?_⟩
    refine ⟨_, rfl, st, l, 101, rfl, g3, by decide, by decide, fun d4 H4 d40 d41 le4 g4 => ?_⟩
    refine ⟨by show 2 ≤ sizeLine; decide, fun z hz => ?_⟩
    have s5 := same_new hz (.lst [.int d3, .int d4])
    have z5 : upd H4 z (.lst [.int d3, .int d4]) z = some (.lst [.int d3, .int d4]) := upd_same
    refine ⟨_, rfl, st, l, 2, rfl, g4.same s5, by decide, by decide, fun d6 H6 d60 d61 le6 g6 => ?_⟩
    obtain ⟨m, hm, m0⟩ : ∃ m : Int, atI [V.int d3, .int d4] d6 = some (.int m) ∧ 0 ≤ m := by
      rcases (by omega : d6 = 0 ∨ d6 = 1) with e | e
      · exact ⟨d3, by rw [e]; rfl, d30⟩
      · exact ⟨d4, by rw [e]; rfl, d40⟩
    refine ⟨z, _, d6, _, rfl, rfl, SqL.of (le6 z _ (g4.ne hz).1 z5), hm, by show 3 ≤ sizeLine; decide, fun p hp => ?_⟩
    have s7 := same_new hp (.tup [.str "next", .str z1, .int m])
    exact q _ (.next z1 m) _ m0 (.tup upd_same (.cons (.str _) (.cons (.str _) (.cons (.int _) .nil)))) ((((((le1.trans le2).trans le3).trans le4).trans (Le.of s5)).trans le6).trans (Le.of s7)) (g6.same s7)
  refine ⟨_, rfl, rfl, _, rfl, ite2 (fun _ => ?_) (fun _ => ?_)⟩
  · refine ⟨_, rfl, _, rfl, st, l, t, us, tb, rfl, g1, nt, ht1, hT1, hk, hlen, fun z1 H2 hz1 le2 g2 => ?_⟩
    have ht2 := le2 t _ nt ht1
    have hT2 := TDs.mono (Tk.le g1 le2) _ _ hT1
    refine ⟨_, rfl, _, rfl, st, l, t, us, tb, rfl, g2, nt, ht2, hT2, hk, hlen, fun z2 H3 hz2 le3 g3 => ?_⟩
    refine ⟨by show 3 ≤ sizeLine; decide, fun p hp => ?_⟩
    have s4 := same_new hp (.tup [.str "count", .str z1, .str z2])
    exact q _ (.count z1 z2) _ trivial (.tup upd_same (.cons (.str _) (.cons (.str _) (.cons (.str _) .nil)))) (((le1.trans le2).trans le3).trans (Le.of s4)) (g3.same s4)
  refine ⟨_, rfl, rfl, _, rfl, ite2 (fun _ => ?_) (fun _ => ?_)⟩
  · refine ⟨_, rfl, st, l, 3, rfl, g1, by decide, by decide, fun d2 H2 d20 d21 le2 g2 => ?_⟩
    have ht2 := le2 t _ nt ht1
    have hT2 := TDs.mono (Tk.le g1 le2) _ _ hT1
    refine ⟨_, rfl, _, rfl, st, l, t, us, tb, rfl, g2, nt, ht2, hT2, hk, hlen, fun z1 H3 hz1 le3 g3 => ?_⟩
    have ht3 := le3 t _ nt ht2
    have hT3 := TDs.mono (Tk.le g2 le3) _ _ hT2
    refine ⟨_, rfl, _, rfl, st, l, t, us, tb, rfl, g3, nt, ht3, hT3, hk, hlen, fun z2 H4 hz2 le4 g4 => ?_⟩
    refine ⟨by show 4 ≤ sizeLine; decide, fun p hp => ?_⟩
    have s5 := same_new hp (.tup [.str "sum", .int d2, .str z1, .str z2])
    exact q _ (.sum d2 z1 z2) _ d20 (.tup upd_same (.cons (.str _) (.cons (.int _) (.cons (.str _) (.cons (.str _) .nil))))) ((((le1.trans le2).trans le3).trans le4).trans (Le.of s5)) (g4.same s5)
  refine ⟨_, rfl, rfl, _, rfl, ite2 (fun _ => ?_) (fun _ => ?_)⟩
  · refine ⟨_, rfl, _, rfl, st, l, t, us, tb, rfl, g1, nt, ht1, hT1, hk, hlen, fun z1 H2 hz1 le2 g2 => ?_⟩
    refine ⟨by show 2 ≤ sizeLine; decide, fun p hp => ?_⟩
    have s4 := same_new hp (.tup [.str "place", .str z1])
    exact q _ (.place z1) _ trivial (.tup upd_same (.cons (.str _) (.cons (.str _) .nil))) ((le1.trans le2).trans (Le.of s4)) (g2.same s4)
  refine ⟨_, rfl, _, rfl, t, us, rfl, .inl (SqL.of ht1), _, _, rfl, rfl, st, l, _, rfl, g1, by omega, pow7 (by omega), fun d2 H2 d20 d21 le2 g2 => ?_⟩
  refine ⟨by show 2 ≤ sizeLine; decide, fun p hp => ?_⟩
  have s3 := same_new hp (.tup [.str "at", .int d2])
  exact q _ (.at_ d2) _ d20 (.tup upd_same (.cons (.str _) (.cons (.int _) .nil))) ((le1.trans le2).trans (Le.of s3)) (g2.same s3)
theorem ok_lwithin (D : Def K mg "_law_within" sLWithin ["table", "low", "high"]) : FnOk P w K mg base CX0 1 D.f D.fd ["table", "low", "high"] spWithin := by
  refine D.F.ok scLWithin (fun vs H Q E h => ?_) (fun cdv A outer s H vs Q E hr h => ?_)
  · obtain ⟨t, lo, hi, us, tb, rfl, _⟩ := h
    rfl
  obtain ⟨t, lo, hi, us, tb, rfl, ht, hT, hlen, q⟩ := h
  refine ⟨_, pss_one (ps_ret (pe_lc (own := [("pair", 3)]) (g := gName 3) (by rfl) scLWithin.nd (pi_list (pv 0))
      (blkOk_by (own := [("pair", 3)]) (N := ["table", "low", "high", "pair"]) (sc := defScope sLWithin) (by decide +kernel))
      (fun _ _ _ _ _ => pg_name (i := 3) scLWithin.nd rfl (Or.inl rfl))
      (fun _ _ _ _ _ => pts_one (PW.pt (pw_and (pt_cmpR op_le_str (pv 1) (pe_ix (r := rIxT K) ix_tup (pv 3) pe_int (fun _ _ => rfl)) (nomark _)) (pw_and1 (pt_cmpR op_lt_str (pe_ix (r := rIxT K) ix_tup (pv 3) pe_int (fun _ _ => rfl)) (pv 2) (nomark _))))))
      (fun _ _ _ _ _ => pv 3))), ?_⟩
  refine ⟨_, rfl, t, rfl, ⟨_, SqL.of ht⟩, fun D hD => ?_⟩
  have hl := hT.length
  rw [List.length_map] at hl
  refine lc_filt (fun p => inR lo hi p.1) ht hT hD (by omega) (fun v => rfl) (fun v => rfl) (fun p c r H' hp hc hr s Q hQ => ?_) (fun ws H' s hw hW => q D ws H' hD s hw hW)
  refine ⟨_, rfl, _, rfl, c, _, 0, _, rfl, rfl, SqT.of hc, atI_nat (j := 0) rfl, _, _, rfl, rfl, _, rfl, ite2 (fun h1 => ?_) (fun h1 => ?_)⟩
  · have e : inR lo hi p.1 = decide (p.1.cps.toList < hi.cps.toList) := by
      unfold inR
      rw [h1, Bool.true_and]
    rw [e] at hQ
    exact ⟨_, rfl, c, _, 0, _, rfl, rfl, SqT.of hc, atI_nat (j := 0) rfl, _, rfl, _, _, rfl, rfl, _, rfl, hQ⟩
  · have e : inR lo hi p.1 = false := by
      unfold inR
      rw [Bool.eq_false_iff.mpr h1, Bool.false_and]
    rw [e] at hQ
    exact hQ
theorem ok_cell (D : Def K mg "_law_cell" sCell ["row", "column"]) (ml : mg "len" = none) : FnOk P w K mg base CX0 1 D.f D.fd ["row", "column"] spColumnOf := by
  refine D.F.ok scCell (fun vs H Q E h => ?_) (fun cdv A outer s H vs Q E hr h => ?_)
  · obtain ⟨r, ns, c, rfl, _⟩ := h
    rfl
  obtain ⟨r, ns, c, rfl, hR, hc, hl, q⟩ := h
  refine ⟨_, pss_cons (ps_if (pt_cmpR op_lt (pv 1) (pe_callB call_len_seq (by rfl) ml PySem.boot_len (pa_cons (pv 0) pa_nil)) (nomark _)) (pss_one (ps_ret (pe_ix ix_tup (pv 0) (pv 1) (fun _ _ => rfl)))) pss_nil) <| pss_one (ps_ret pe_int), ?_⟩
  refine ⟨_, rfl, _, rfl, r, _, rfl, .inr (SqT.of hR), _, _, rfl, rfl, _, rfl, ite2 (fun h1 => ?_) (fun h1 => ?_)⟩
  · have h2 : c < ((ns.map V.int).length : Int) := of_decide_eq_true h1
    rw [List.length_map] at h2
    have hk : c.toNat < ns.length := by omega
    refine ⟨_, rfl, _, rfl, r, _, c, .int ns[c.toNat], rfl, rfl, SqT.of hR, at_of hc (by rw [List.getElem?_map, List.getElem?_eq_getElem hk]; rfl), ?_⟩
    unfold colOf at q
    rw [if_pos h2, List.getD_eq_getElem?_getD, List.getElem?_eq_getElem hk] at q
    exact q
  · have h2 : ¬ c < ((ns.map V.int).length : Int) := of_decide_eq_false (Bool.eq_false_iff.mpr h1)
    rw [List.length_map] at h2
    unfold colOf at q
    rw [if_neg h2] at q
    exact q
end
end RR

namespace RR
open PySem PySem.Spec PyProof.Rows L2
abbrev sLAns : Stmt := topS 21
theorem scLAns : FnScope ["table", "query", "name", "pair", "found"] ["table", "query"] (defScope sLAns) := ⟨rfl, rfl, rfl, by decide +kernel, rfl, by decide +kernel, by decide +kernel⟩
section
variable {P : Program} {w : World} {K : PySem.W.Frag} {mg : Str → Option Value} {base : Heap}
theorem ok_lanswer (D : Def K mg "_law_answer" sLAns ["table", "query"]) (DW : Def K mg "_law_within" sLWithin ["table", "low", "high"]) (DC : Def K mg "_law_cell" sCell ["row", "column"]) (ml : mg "len" = none) (msum : mg "sum" = none)
    (GW : FnOk P w K mg base CX0 1 DW.f DW.fd ["table", "low", "high"] spWithin) (GC : FnOk P w K mg base CX0 1 DC.f DC.fd ["row", "column"] spColumnOf) : FnOk P w K mg base CX0 2 D.f D.fd ["table", "query"] spAns := by
  refine D.F.ok scLAns (fun vs H Q E h => ?_) (fun cdv A outer s H vs Q E hr h => ?_)
  · obtain ⟨t, c, qy, us, tb, rfl, _⟩ := h
    rfl
  obtain ⟨t, c, qy, us, tb, rfl, hc, hok, ht, hT, hlen, hasc, hrow, q⟩ := h
  have hl := hT.length
  rw [List.length_map] at hl
  refine ⟨_, pss_cons (ps_set (i := 2) scLAns.nd rfl (.inl rfl) (pe_ix ix_tup (pv 1) pe_int (fun _ _ => rfl))) <|
    pss_cons (ps_if (pt_cmpR op_eq (pv 2) pe_str (nomark _))
      (pss_cons (ps_for PassesOwn.never rfl (pi_list (pv 0)) (pg_name (i := 3) scLAns.nd rfl (.inl rfl))
        (pss_one (ps_if (pt_cmpR op_eq (pe_ix ix_tup (pv 3) pe_int (fun _ _ => rfl)) (pe_ix ix_tup (pv 1) pe_int (fun _ _ => rfl)) (nomark _)) (pss_one (ps_ret (pe_ix ix_tup (pv 3) pe_int (fun _ _ => rfl)))) pss_nil))) <|
      pss_one (ps_ret pe_non)) pss_nil) <|
    pss_cons (ps_if (pt_cmpR op_eq (pv 2) pe_str (nomark _)) (pss_one (ps_ret (pe_call GW hr (by rfl) DW.m DW.F.kp DW.b .nil pass0 (pa_cons (pv 0) (pa_cons (pe_ix ix_tup (pv 1) pe_int (fun _ _ => rfl)) (pa_cons (pe_ix ix_tup (pv 1) pe_int (fun _ _ => rfl)) pa_nil)))))) pss_nil) <|
    pss_cons (ps_if (pt_cmpR op_eq (pv 2) pe_str (nomark _))
      (pss_cons (ps_setLc (i := 4) (own := [("pair", 3)]) (g := gName 3) (by rfl) scLAns.nd rfl rfl (sw_true rfl rfl rfl (by decide +kernel)) (pi_list (pv 0))
        (blkOk_by (own := [("pair", 3)]) (N := ["table", "query", "name", "pair", "found"]) (sc := defScope sLAns) (by decide +kernel))
        (fun _ _ _ _ _ => pg_name (i := 3) scLAns.nd rfl (Or.inl rfl)) (fun _ _ _ _ _ => pts_one (pt_cmpR op_gt_str (pe_ix (r := rIxT K) ix_tup (pv 3) pe_int (fun _ _ => rfl)) (pe_ix (r := rIxT K) ix_tup (pv 1) pe_int (fun _ _ => rfl)) (nomark _)))
        (fun _ _ _ _ _ => pv 3)) <|
      pss_one (ps_ret (pe_slice sl_list (pv 4) po_none (po_some (pe_ix ix_tup (pv 1) pe_int (fun _ _ => rfl)))))) pss_nil) <|
    pss_cons (ps_if (pt_cmpR op_eq (pv 2) pe_str (nomark _)) (pss_one (ps_ret (pe_callB call_len_seq (by rfl) ml PySem.boot_len (pa_cons (pe_call GW hr (by rfl) DW.m DW.F.kp DW.b .nil pass0 (pa_cons (pv 0) (pa_cons (pe_ix ix_tup (pv 1) pe_int (fun _ _ => rfl)) (pa_cons (pe_ix ix_tup (pv 1) pe_int (fun _ _ => rfl)) pa_nil)))) pa_nil)))) pss_nil) <|
    pss_cons (ps_if (pt_cmpR op_eq (pv 2) pe_str (nomark _)) (pss_one (ps_ret (pe_callB (cr_sum rfl) (by rfl) msum (by decide +kernel) (pa_cons (pe_lc (own := [("pair", 3)]) (g := gName 3) (by rfl) scLAns.nd (pi_list (pe_call GW hr (by rfl) DW.m DW.F.kp DW.b .nil pass0 (pa_cons (pv 0) (pa_cons (pe_ix ix_tup (pv 1) pe_int (fun _ _ => rfl)) (pa_cons (pe_ix ix_tup (pv 1) pe_int (fun _ _ => rfl)) pa_nil)))))
        (blkOk_by (own := [("pair", 3)]) (N := ["table", "query", "name", "pair", "found"]) (sc := defScope sLAns) (by decide +kernel))
        (fun _ _ _ _ _ => pg_name (i := 3) scLAns.nd rfl (Or.inl rfl)) (fun _ _ _ _ _ => pts_nil)
        (fun _ _ _ _ _ => pe_call GC hr (by rfl) DC.m DC.F.kp DC.b .nil pass0 (pa_cons (pe_ix (r := rIxT K) ix_tup (pv 3) pe_int (fun _ _ => rfl)) (pa_cons (pe_ix (r := rIxT K) ix_tup (pv 1) pe_int (fun _ _ => rfl)) pa_nil)))) pa_nil)))) pss_nil) <|
    pss_cons (ps_if (pt_cmpR op_eq (pv 2) pe_str (nomark _)) (pss_one (ps_ret (pe_callB call_len_seq (by rfl) ml PySem.boot_len (pa_cons (pe_lc (own := [("pair", 3)]) (g := gName 3) (by rfl) scLAns.nd (pi_list (pv 0))
        (blkOk_by (own := [("pair", 3)]) (N := ["table", "query", "name", "pair", "found"]) (sc := defScope sLAns) (by decide +kernel))
        (fun _ _ _ _ _ => pg_name (i := 3) scLAns.nd rfl (Or.inl rfl)) (fun _ _ _ _ _ => pts_one (pt_cmpR op_lt_str (pe_ix (r := rIxT K) ix_tup (pv 3) pe_int (fun _ _ => rfl)) (pe_ix (r := rIxT K) ix_tup (pv 1) pe_int (fun _ _ => rfl)) (nomark _)))
        (fun _ _ _ _ _ => pv 3)) pa_nil)))) pss_nil) <|
    pss_cons (ps_if (pt_cmpR op_lt (pe_ix ix_tup (pv 1) pe_int (fun _ _ => rfl)) (pe_callB call_len_seq (by rfl) ml PySem.boot_len (pa_cons (pv 0) pa_nil)) (nomark _)) (pss_one (ps_ret (pe_ix ix_list (pv 0) (pe_ix ix_tup (pv 1) pe_int (fun _ _ => rfl)) (fun _ _ => rfl)))) pss_nil) <|
    pss_one (ps_ret pe_non), ?_⟩
  cases qy with
  | get k =>
    obtain ⟨a, rfl, ha⟩ := q_un2 hc
    refine ⟨_, rfl, a, _, 0, _, rfl, rfl, SqT.of ha, atI_nat (j := 0) rfl, ?_⟩
    refine ⟨_, rfl, rfl, _, rfl, ite2 (fun _ => ?_) (fun n => absurd (decide_eq_true rfl) n)⟩
    refine ⟨_, rfl, t, rfl, ⟨us, SqL.of ht⟩, for_list (K := K) (a := t) (xs := us) (fun i σ H' => ∃ y3, σ = [some (.ref t), some (.ref a), some (.str "get"), y3, none] ∧ H' = H ∧ ∀ p ∈ tb.take i, ¬ p.1 = k) ?_ ?_ ?_ ?_⟩
    · exact ⟨_, rfl, rfl, fun p hp => by cases hp⟩
    · rintro i σ H' _ ⟨y3, rfl, rfl, _⟩
      exact SqL.of ht
    · rintro i x σ H' hx ⟨y3, rfl, rfl, hno⟩
      obtain ⟨d, hd1, hd2⟩ := TDs.get hT i x hx
      rw [List.getElem?_map] at hd1
      obtain ⟨p, hp, rfl⟩ : ∃ p, tb[i]? = some p ∧ d = pairD p := by
        cases e : tb[i]? with
        | none =>
          rw [e] at hd1
          cases hd1
        | some p =>
          rw [e] at hd1
          exact ⟨p, rfl, (Option.some.inj hd1).symm⟩
      obtain ⟨ca, r, rfl, hca, hr2⟩ := hd2.pair
      have etake : tb.take (i + 1) = tb.take i ++ [p] := by
        rw [List.take_add_one, hp]
        rfl
      refine ⟨_, rfl, ca, _, 0, _, rfl, rfl, SqT.of hca, atI_nat (j := 0) rfl, _, rfl, a, _, 1, _, rfl, rfl, SqT.of ha, atI_nat (j := 1) rfl, rfl, _, rfl, ite2 (fun e => ?_) (fun ne => ?_)⟩
      · have e2 : p.1 = k := V.str.inj (of_decide_eq_true e)
        refine ⟨_, rfl, ca, _, 1, _, rfl, rfl, SqT.of hca, atI_nat (j := 1) rfl, q r _ (Same.refl _) ?_⟩
        show TD H' r (optD (look tb k))
        have el : look tb k = some p.2 := by
          unfold look
          have hsplit : tb = tb.take i ++ p :: tb.drop (i + 1) := by
            have h1 := List.take_append_drop (i + 1) tb
            rw [etake, List.append_assoc] at h1
            exact h1.symm
          rw [hsplit, List.find?_append]
          have h2 : (tb.take i).find? (fun p => decide (p.1 = k)) = none := List.find?_eq_none.mpr fun x hx => by
            rw [decide_eq_false (hno x hx)]
            decide
          rw [h2, List.find?_cons, decide_eq_true e2]
          rfl
        rw [el]
        exact hr2
      · refine ⟨_, rfl, rfl, fun x hx2 => ?_⟩
        rw [etake, List.mem_append] at hx2
        rcases hx2 with hx2 | hx2
        · exact hno x hx2
        · have e3 : x = p := by simpa using hx2
          rw [e3]
          intro e4
          exact ne (decide_eq_true (by rw [e4]))
    · rintro σ H' ⟨y3, rfl, rfl, hno⟩
      refine q .non _ (Same.refl _) ?_
      show TD H' .non (optD (look tb k))
      have el : look tb k = none := by
        unfold look
        rw [hl, List.take_length] at hno
        rw [List.find?_eq_none.mpr fun x hx => by rw [decide_eq_false (hno x hx)]; decide]
        rfl
      rw [el]
      exact .non
  | range lo hi =>
    obtain ⟨a, rfl, ha⟩ := q_un3 hc
    refine ⟨_, rfl, a, _, 0, _, rfl, rfl, SqT.of ha, atI_nat (j := 0) rfl, ?_⟩
    refine ⟨_, rfl, rfl, _, rfl, ite2 (fun e => absurd (V.str.inj (of_decide_eq_true e)) (by decide +kernel)) (fun _ => ?_)⟩
    refine ⟨_, rfl, rfl, _, rfl, ite2 (fun _ => ?_) (fun n => absurd (decide_eq_true rfl) n)⟩
    exact ⟨_, rfl, _, rfl, a, _, 1, _, rfl, rfl, SqT.of ha, atI_nat (j := 1) rfl, _, rfl, a, _, 2, _, rfl, rfl, SqT.of ha, atI_nat (j := 2) rfl, t, lo, hi, us, tb, rfl, ht, hT, by omega, fun p ws H' hp s hw hW => q _ H' s ⟨p, ws, rfl, hp, hw, hW⟩⟩
  | next k n =>
    obtain ⟨a, rfl, ha⟩ := q_un3i hc
    refine ⟨_, rfl, a, _, 0, _, rfl, rfl, SqT.of ha, atI_nat (j := 0) rfl, ?_⟩
    refine ⟨_, rfl, rfl, _, rfl, ite2 (fun e => absurd (V.str.inj (of_decide_eq_true e)) (by decide +kernel)) (fun _ => ?_)⟩
    refine ⟨_, rfl, rfl, _, rfl, ite2 (fun e => absurd (V.str.inj (of_decide_eq_true e)) (by decide +kernel)) (fun _ => ?_)⟩
    refine ⟨_, rfl, rfl, _, rfl, ite2 (fun _ => ?_) (fun n => absurd (decide_eq_true rfl) n)⟩
    refine ⟨_, rfl, t, rfl, ⟨_, SqL.of ht⟩, fun D hD => ?_⟩
    refine lc_filt (fun p => decide (k.cps.toList < p.1.cps.toList)) ht hT hD (by omega) (fun v => rfl) (fun v => rfl) (fun p c r H' hp hc hr s Q hQ => ?_) (fun ws H1 s1 hw hW => ?_)
    · exact ⟨_, rfl, c, _, 0, _, rfl, rfl, SqT.of hc, atI_nat (j := 0) rfl, _, rfl, a, _, 1, _, rfl, rfl, SqT.of (s _ _ ha), atI_nat (j := 1) rfl, _, _, rfl, rfl, _, rfl, hQ⟩
    refine ⟨_, rfl, _, rfl, a, _, 2, _, rfl, rfl, SqT.of (s1 _ _ ha), atI_nat (j := 2) rfl, n, rfl, D, ws, rfl, SqL.of hw, fun p hp => ?_⟩
    refine q _ _ (s1.trans (same_new hp _)) ⟨p, _, rfl, s1.free hp, upd_same, ?_⟩
    rw [cut_to ws hok, List.map_take]
    exact TDs.mono (Tk.new hp _) _ _ (TDs.take _ hW)
  | count lo hi =>
    obtain ⟨a, rfl, ha⟩ := q_un3 hc
    refine ⟨_, rfl, a, _, 0, _, rfl, rfl, SqT.of ha, atI_nat (j := 0) rfl, ?_⟩
    refine ⟨_, rfl, rfl, _, rfl, ite2 (fun e => absurd (V.str.inj (of_decide_eq_true e)) (by decide +kernel)) (fun _ => ?_)⟩
    refine ⟨_, rfl, rfl, _, rfl, ite2 (fun e => absurd (V.str.inj (of_decide_eq_true e)) (by decide +kernel)) (fun _ => ?_)⟩
    refine ⟨_, rfl, rfl, _, rfl, ite2 (fun e => absurd (V.str.inj (of_decide_eq_true e)) (by decide +kernel)) (fun _ => ?_)⟩
    refine ⟨_, rfl, rfl, _, rfl, ite2 (fun _ => ?_) (fun n => absurd (decide_eq_true rfl) n)⟩
    refine ⟨_, rfl, _, rfl, a, _, 1, _, rfl, rfl, SqT.of ha, atI_nat (j := 1) rfl, _, rfl, a, _, 2, _, rfl, rfl, SqT.of ha, atI_nat (j := 2) rfl, t, lo, hi, us, tb, rfl, ht, hT, by omega, fun p ws H1 hp s1 hw hW => ?_⟩
    have l1 := hW.length
    rw [List.length_map] at l1
    refine ⟨p, ws, rfl, .inl (SqL.of hw), ?_⟩
    rw [l1]
    exact q _ H1 s1 (.int _)
  | sum c lo hi =>
    obtain ⟨a, rfl, ha⟩ := q_un4 hc
    refine ⟨_, rfl, a, _, 0, _, rfl, rfl, SqT.of ha, atI_nat (j := 0) rfl, ?_⟩
    refine ⟨_, rfl, rfl, _, rfl, ite2 (fun e => absurd (V.str.inj (of_decide_eq_true e)) (by decide +kernel)) (fun _ => ?_)⟩
    refine ⟨_, rfl, rfl, _, rfl, ite2 (fun e => absurd (V.str.inj (of_decide_eq_true e)) (by decide +kernel)) (fun _ => ?_)⟩
    refine ⟨_, rfl, rfl, _, rfl, ite2 (fun e => absurd (V.str.inj (of_decide_eq_true e)) (by decide +kernel)) (fun _ => ?_)⟩
    refine ⟨_, rfl, rfl, _, rfl, ite2 (fun e => absurd (V.str.inj (of_decide_eq_true e)) (by decide +kernel)) (fun _ => ?_)⟩
    refine ⟨_, rfl, rfl, _, rfl, ite2 (fun _ => ?_) (fun n => absurd (decide_eq_true rfl) n)⟩
    refine ⟨_, rfl, _, rfl, a, _, 2, _, rfl, rfl, SqT.of ha, atI_nat (j := 2) rfl, _, rfl, a, _, 3, _, rfl, rfl, SqT.of ha, atI_nat (j := 3) rfl, t, lo, hi, us, tb, rfl, ht, hT, by omega, fun p ws H1 hp s1 hw hW => ?_⟩
    have l1 : (within lo hi tb).length ≤ tb.length := List.length_filter_le _ _
    have l2 := hW.length
    rw [List.length_map] at l2
    refine ⟨p, rfl, ⟨_, SqL.of hw⟩, fun D hD => ?_⟩
    refine lc_list (K := K) (a := p) (xs := ws) (fun i H' => Same H1 H' ∧ H' D = some (.lst ((((within lo hi tb).take i).map fun p => colOf p.2 c).map V.int))) ?_ ?_ ?_ ?_
    · exact ⟨same_new hD _, upd_same⟩
    · rintro i H' _ ⟨s, _⟩
      exact SqL.of (s _ _ hw)
    · rintro i x H' hx ⟨s, hD'⟩
      obtain ⟨d, hd1, hd2⟩ := TDs.get hW i x hx
      rw [List.getElem?_map] at hd1
      obtain ⟨p2, hp2, rfl⟩ : ∃ p, (within lo hi tb)[i]? = some p ∧ d = pairD p := by
        cases e : (within lo hi tb)[i]? with
        | none =>
          rw [e] at hd1
          cases hd1
        | some p =>
          rw [e] at hd1
          exact ⟨p, rfl, (Option.some.inj hd1).symm⟩
      obtain ⟨a2, r, rfl, ha2, hr2⟩ := (TD.mono (Tk.same s) _ _ hd2).pair
      obtain ⟨ra, rfl, hra⟩ := row_un hr2
      have hm : p2 ∈ tb := (List.mem_filter.mp (List.mem_of_getElem? hp2)).1
      refine ⟨rfl, _, rfl, a2, _, 1, _, rfl, rfl, SqT.of ha2, atI_nat (j := 1) rfl, _, rfl, a, _, 1, _, rfl, rfl, SqT.of (s _ _ (s1 _ _ ha)), atI_nat (j := 1) rfl, ra, p2.2, c, rfl, hra, hok, hrow p2 hm, _, hD', ?_, fun b o e => ?_, ?_⟩
      · rw [List.length_map, List.length_map, List.length_take]
        exact small1000 (by omega)
      · rw [upd_ne (ne_of_none e hD)]
        exact s _ _ e
      · rw [upd_same, List.take_add_one, hp2, List.map_append, List.map_append]
        rfl
    · rintro H' ⟨s, hD'⟩
      rw [l2, List.take_length] at hD'
      exact ⟨D, _, rfl, SqL.of hD', q _ _ (s1.trans s) (.int _)⟩
  | place k =>
    obtain ⟨a, rfl, ha⟩ := q_un2 hc
    refine ⟨_, rfl, a, _, 0, _, rfl, rfl, SqT.of ha, atI_nat (j := 0) rfl, ?_⟩
    refine ⟨_, rfl, rfl, _, rfl, ite2 (fun e => absurd (V.str.inj (of_decide_eq_true e)) (by decide +kernel)) (fun _ => ?_)⟩
    refine ⟨_, rfl, rfl, _, rfl, ite2 (fun e => absurd (V.str.inj (of_decide_eq_true e)) (by decide +kernel)) (fun _ => ?_)⟩
    refine ⟨_, rfl, rfl, _, rfl, ite2 (fun e => absurd (V.str.inj (of_decide_eq_true e)) (by decide +kernel)) (fun _ => ?_)⟩
    refine ⟨_, rfl, rfl, _, rfl, ite2 (fun e => absurd (V.str.inj (of_decide_eq_true e)) (by decide +kernel)) (fun _ => ?_)⟩
    refine ⟨_, rfl, rfl, _, rfl, ite2 (fun e => absurd (V.str.inj (of_decide_eq_true e)) (by decide +kernel)) (fun _ => ?_)⟩
    refine ⟨_, rfl, rfl, _, rfl, ite2 (fun _ => ?_) (fun n => absurd (decide_eq_true rfl) n)⟩
    refine ⟨_, rfl, t, rfl, ⟨_, SqL.of ht⟩, fun D hD => ?_⟩
    refine lc_filt (fun p => decide (p.1.cps.toList < k.cps.toList)) ht hT hD (by omega) (fun v => rfl) (fun v => rfl) (fun p c r H' hp hc hr s Q hQ => ?_) (fun ws H1 s1 hw hW => ?_)
    · exact ⟨_, rfl, c, _, 0, _, rfl, rfl, SqT.of hc, atI_nat (j := 0) rfl, _, rfl, a, _, 1, _, rfl, rfl, SqT.of (s _ _ ha), atI_nat (j := 1) rfl, _, _, rfl, rfl, _, rfl, hQ⟩
    have hW : TDs H1 ws ((below k tb).map pairD) := hW
    have l1 := hW.length
    rw [List.length_map] at l1
    refine ⟨D, ws, rfl, .inl (SqL.of hw), ?_⟩
    rw [l1]
    exact q _ H1 s1 (.int _)
  | at_ n =>
    obtain ⟨a, rfl, ha⟩ := q_un2i hc
    refine ⟨_, rfl, a, _, 0, _, rfl, rfl, SqT.of ha, atI_nat (j := 0) rfl, ?_⟩
    refine ⟨_, rfl, rfl, _, rfl, ite2 (fun e => absurd (V.str.inj (of_decide_eq_true e)) (by decide +kernel)) (fun _ => ?_)⟩
    refine ⟨_, rfl, rfl, _, rfl, ite2 (fun e => absurd (V.str.inj (of_decide_eq_true e)) (by decide +kernel)) (fun _ => ?_)⟩
    refine ⟨_, rfl, rfl, _, rfl, ite2 (fun e => absurd (V.str.inj (of_decide_eq_true e)) (by decide +kernel)) (fun _ => ?_)⟩
    refine ⟨_, rfl, rfl, _, rfl, ite2 (fun e => absurd (V.str.inj (of_decide_eq_true e)) (by decide +kernel)) (fun _ => ?_)⟩
    refine ⟨_, rfl, rfl, _, rfl, ite2 (fun e => absurd (V.str.inj (of_decide_eq_true e)) (by decide +kernel)) (fun _ => ?_)⟩
    refine ⟨_, rfl, rfl, _, rfl, ite2 (fun e => absurd (V.str.inj (of_decide_eq_true e)) (by decide +kernel)) (fun _ => ?_)⟩
    refine ⟨_, rfl, a, _, 1, _, rfl, rfl, SqT.of ha, atI_nat (j := 1) rfl, _, rfl, t, us, rfl, .inl (SqL.of ht), _, _, rfl, rfl, _, rfl, ite2 (fun h1 => ?_) (fun h1 => ?_)⟩
    · have h2 : n < (us.length : Int) := of_decide_eq_true h1
      have hk : n.toNat < us.length := by
        have h3 : 0 ≤ n := hok
        omega
      obtain ⟨d, hd1, hd2⟩ := TDs.get hT _ _ (List.getElem?_eq_getElem hk)
      refine ⟨_, rfl, _, rfl, a, _, 1, _, rfl, rfl, SqT.of ha, atI_nat (j := 1) rfl, t, us, n, us[n.toNat], rfl, rfl, SqL.of ht, at_of hok (List.getElem?_eq_getElem hk), q _ _ (Same.refl _) ?_⟩
      show TD H us[n.toNat] (pairO tb[n.toNat]?)
      rw [List.getElem?_map] at hd1
      cases e : tb[n.toNat]? with
      | none =>
        rw [e] at hd1
        cases hd1
      | some p =>
        rw [e] at hd1
        have e2 : pairD p = d := Option.some.inj hd1
        rw [← e2] at hd2
        exact hd2
    · have h2 : ¬ n < (us.length : Int) := of_decide_eq_false (Bool.eq_false_iff.mpr h1)
      refine q _ _ (Same.refl _) ?_
      show TD H .non (pairO tb[n.toNat]?)
      have h3 : 0 ≤ n := hok
      rw [List.getElem?_eq_none (by omega)]
      exact .non
end
end RR

namespace RR
open PySem PySem.Spec PyProof.Rows L2
abbrev sLaw : Stmt := topS 22
def spLaw (K : PySem.W.Frag) : Sp := fun vs H Q _ => ∃ (a : Addr) (ns : List Int), vs = [.ref a] ∧ SqL K H a (ns.map V.int) ∧ ns.length ≤ 63 ∧ ∀ H', Q (.bl true) H'
theorem scLaw : FnScope ["script", "state", "table", "k", "query", "copy", "actual"] ["script"] (defScope sLaw) := ⟨rfl, rfl, rfl, by decide +kernel, rfl, by decide +kernel, by decide +kernel⟩
def qName : Qry → Str
  | .get _ => "get"
  | .range _ _ => "range"
  | .next _ _ => "next"
  | .count _ _ => "count"
  | .sum _ _ _ => "sum"
  | .place _ => "place"
  | .at_ _ => "at"
def isLst : Qry → Bool
  | .range _ _ => true
  | .next _ _ => true
  | _ => false
theorem q_in (qy : Qry) : inV (.str (qName qy)) [.str "range", .str "next"] = isLst qy := by
  have h : ∀ (z : Str) (b : Bool), inV (.str z) [.str "range", .str "next"] = b → qName qy = z → isLst qy = b → inV (.str (qName qy)) [.str "range", .str "next"] = isLst qy := fun z b h1 h2 h3 => by rw [h2, h3]; exact h1
  cases qy with
  | get k => exact h "get" false (by decide +kernel) rfl rfl
  | range lo hi => exact h "range" true (by decide +kernel) rfl rfl
  | next k n => exact h "next" true (by decide +kernel) rfl rfl
  | count lo hi => exact h "count" false (by decide +kernel) rfl rfl
  | sum c lo hi => exact h "sum" false (by decide +kernel) rfl rfl
  | place k => exact h "place" false (by decide +kernel) rfl rfl
  | at_ n => exact h "at" false (by decide +kernel) rfl rfl
theorem q_head {H : Hp} {v : V} {qy : Qry} (h : TD H v (qryD qy)) : ∃ a ys, v = .ref a ∧ H a = some (.tup (.str (qName qy) :: ys)) := by
  cases qy with
  | get k => obtain ⟨a, e, h⟩ := q_un2 h; exact ⟨a, _, e, h⟩
  | range lo hi => obtain ⟨a, e, h⟩ := q_un3 h; exact ⟨a, _, e, h⟩
  | next k n => obtain ⟨a, e, h⟩ := q_un3i h; exact ⟨a, _, e, h⟩
  | count lo hi => obtain ⟨a, e, h⟩ := q_un3 h; exact ⟨a, _, e, h⟩
  | sum c lo hi => obtain ⟨a, e, h⟩ := q_un4 h; exact ⟨a, _, e, h⟩
  | place k => obtain ⟨a, e, h⟩ := q_un2 h; exact ⟨a, _, e, h⟩
  | at_ n => obtain ⟨a, e, h⟩ := q_un2i h; exact ⟨a, _, e, h⟩
def resD : Res → PyData
  | .dat d => d
  | .lst tb => .list (tb.map pairD)
theorem ResAt.mono {H H' H'' : Hp} {v : V} {r : Res} (h : ResAt H H' v r) (s : Same H' H'') : ResAt H H'' v r := by
  cases r with
  | dat d => exact TD.mono (Tk.same s) _ _ h
  | lst tb =>
    obtain ⟨p, ws, e, h1, h2, h3⟩ := h
    exact ⟨p, ws, e, h1, s _ _ h2, TDs.mono (Tk.same s) _ _ h3⟩
theorem ResAt.dp {K : PySem.W.Frag} {H H' : Hp} {v : V} {r : Res} (h : ResAt H H' v r) : Dp K H' v (resD r) := by
  cases r with
  | dat d => exact TD.dp _ _ h
  | lst tb =>
    obtain ⟨p, ws, rfl, h1, h2, h3⟩ := h
    exact .lst (SqL.of h2) (TDs.dp _ _ h3)
theorem Sh.ans {tb : Tab} (hk : ∀ p ∈ tb, KeyOk p.1) (qy : Qry) : Sh 3 (resD (ansOf tb qy)) := by
  cases qy with
  | get k =>
    show Sh 3 (optD (look tb k))
    cases look tb k with
    | none => exact Sh.non
    | some r => exact Sh.row 2 r
  | range lo hi => exact Sh.tab fun p hp => hk p (List.mem_filter.mp hp).1
  | next k n => exact Sh.tab fun p hp => hk p (List.mem_filter.mp (List.mem_of_mem_take hp)).1
  | count lo hi => exact Sh.int _
  | sum c lo hi => exact Sh.int _
  | place k => exact Sh.int _
  | at_ n =>
    show Sh 3 (pairO tb[n.toNat]?)
    cases e : tb[n.toNat]? with
    | none => exact Sh.non
    | some p => exact Sh.pair (n := 1) (hk p (List.mem_of_getElem? e))
theorem isb {K : PySem.W.Frag} {H H' : Hp} {v : V} {r : Res} (h : ResAt H H' v r) : ∃ t : String, TyX K H' v (.type t) ∧ PySem.W.kitOne K (.type t) (.type "bool") = some false := by
  cases r with
  | dat d =>
    cases (show TD H' v d from h) with
    | non => exact ⟨_, .base .non, kit_ty (by decide +kernel)⟩
    | int i => exact ⟨_, .base (.int i), kit_ty (by decide +kernel)⟩
    | str z => exact ⟨_, .base (.str z), kit_ty (by decide +kernel)⟩
    | tup h1 h2 => exact ⟨_, .base (.tup h1), kit_ty (by decide +kernel)⟩
  | lst tb =>
    obtain ⟨p, ws, rfl, h1, h2, h3⟩ := h
    exact ⟨_, .base (.lst h2), kit_ty (by decide +kernel)⟩
theorem res_eq {K : PySem.W.Frag} {H1 H2 H : Hp} {x y : V} {r : Res} (hx : ResAt H1 H x r) (hy : ResAt H2 H y r) (sh : Sh 3 (resD r)) {Q : VK} (q : Q (.bl false) H) : rNeD K x y H Q := by
  refine ⟨_, _, hx.dp, hy.dp, sh.ok (by decide), sh.ok (by decide), ?_⟩
  rw [sh.refl]
  exact q
theorem tab_eq {K : PySem.W.Frag} {H : Hp} {a b : Addr} {us vs : List V} {tb : Tab} (ha : H a = some (.lst us)) (hb : H b = some (.lst vs)) (hu : TDs H us (tb.map pairD)) (hv : TDs H vs (tb.map pairD)) (hk : ∀ p ∈ tb, KeyOk p.1) {Q : VK} (q : Q (.bl false) H) : rNeD K (.ref a) (.ref b) H Q := by
  have sh := Sh.tab (n := 0) hk
  refine ⟨_, _, .lst (SqL.of ha) (TDs.dp _ _ hu), .lst (SqL.of hb) (TDs.dp _ _ hv), sh.ok (by decide), sh.ok (by decide), ?_⟩
  rw [sh.refl]
  exact q
theorem isl_res {tb : Tab} {qy : Qry} (h : isLst qy = true) : ∃ tb', ansOf tb qy = .lst tb' ∧ tb'.length ≤ tb.length := by
  cases qy with
  | range lo hi => exact ⟨_, rfl, List.length_filter_le _ _⟩
  | next k n =>
    refine ⟨_, rfl, Nat.le_trans ?_ (List.length_filter_le (fun p => decide (k.cps.toList < p.1.cps.toList)) tb)⟩
    rw [List.length_take]
    exact Nat.min_le_right _ _
  | get k => cases h
  | count lo hi => cases h
  | sum c lo hi => cases h
  | place k => cases h
  | at_ n => cases h
section
variable {P : Program} {w : World} {K : PySem.W.Frag} {mg : Str → Option Value} {base : Heap}
theorem ok_law (D : Def K mg "law" sLaw ["script"]) (DT : Def K mg "_law_table" sTable ["state", "most"]) (DQ : Def K mg "_law_query" sQuery ["state", "table"]) (DP : Def K mg "answer" sAnswer ["table", "query"]) (DL : Def K mg "_law_answer" sLAns ["table", "query"])
    (mlist : mg "list" = none) (mr : mg "range" = none) (mii : mg "isinstance" = none) (mbool : mg "bool" = none)
    (GT : FnOk P w K mg base CX0 3 DT.f DT.fd ["state", "most"] spTable) (GQ : FnOk P w K mg base CX0 4 DQ.f DQ.fd ["state", "table"] spQuery) (GP : FnOk P w K mg base CX0 3 DP.f DP.fd ["table", "query"] spAns) (GL : FnOk P w K mg base CX0 2 DL.f DL.fd ["table", "query"] spAns) :
    FnOk P w K mg base CX0 5 D.f D.fd ["script"] (spLaw K) := by
  refine D.F.ok scLaw (fun vs H Q E h => ?_) (fun cdv A outer s H vs Q E hr h => ?_)
  · obtain ⟨a, ns, rfl, _⟩ := h
    rfl
  obtain ⟨a, ns, rfl, hS, hlen, q⟩ := h
  refine ⟨_, pss_cons (ps_set (i := 1) scLaw.nd rfl (.inl rfl) (pe_lst (pa_cons pe_int (pa_cons pe_int (pa_cons (pe_callTy call_list_of (by rfl) mlist (by decide +kernel) (pa_cons (pv 0) pa_nil)) (pa_cons pe_int pa_nil)))))) <|
    pss_cons (ps_set (i := 2) scLaw.nd rfl (.inl rfl) (pe_call GT (hr.mono (by decide)) (by rfl) DT.m DT.F.kp DT.b .nil pass0 (pa_cons (pv 1) (pa_cons pe_int pa_nil)))) <|
    pss_cons (ps_for PassesOwn.never rfl (pi_range1 (by rfl) mr (pa_cons pe_int pa_nil)) (pg_name (i := 3) scLaw.nd rfl (.inl rfl))
      (pss_cons (ps_set (i := 4) scLaw.nd rfl (.inl rfl) (pe_call GQ hr (by rfl) DQ.m DQ.F.kp DQ.b .nil pass0 (pa_cons (pv 1) (pa_cons (pv 2) pa_nil)))) <|
      pss_cons (ps_set (i := 5) scLaw.nd rfl (.inl rfl) (pe_callTy call_list_of (by rfl) mlist (by decide +kernel) (pa_cons (pv 2) pa_nil))) <|
      pss_cons (ps_set (i := 6) scLaw.nd rfl (.inl rfl) (pe_call GP (hr.mono (by decide)) (by rfl) DP.m DP.F.kp DP.b .nil pass0 (pa_cons (pv 5) (pa_cons (pv 4) pa_nil)))) <|
      pss_cons (ps_if (PW.pt (pw_or (pt_cmpR (op_neD hr.units) (pv 6) (pe_call GL (hr.mono (by decide)) (by rfl) DL.m DL.F.kp DL.b .nil pass0 (pa_cons (pv 2) (pa_cons (pv 4) pa_nil))) (nomark _))
          (pw_or (pt_cmpR (op_neD hr.units) (pv 5) (pv 2) (nomark _))
          (pw_or1 (pt_val (pe_callB call_isi (by rfl) mii (by decide +kernel) (pa_cons (pv 6) (pa_cons (pe_bltn (v := .ty "bool") (by rfl) mbool (by decide +kernel) rfl) pa_nil)))))))) (pss_one (ps_ret pe_bl)) pss_nil) <|
      pss_one (ps_if (pt_cmpR op_in_seq (pe_ix ix_tup (pv 4) pe_int (fun _ _ => rfl)) (pe_lst (pa_cons pe_str (pa_cons pe_str pa_nil))) (by rfl))
        (pss_cons (ps_if (pt_not (pt_val (pe_callB call_isi (by rfl) mii (by decide +kernel) (pa_cons (pv 6) (pa_cons (pe_bltn (v := .ty "list") (by rfl) mlist (by decide +kernel) rfl) pa_nil))))) (pss_one (ps_ret pe_bl)) pss_nil) <|
        pss_cons (ps_expr (pe_bm PySem.F.plainAttrs_list PySem.F.slot_list_append PySem.F.type_list_append mt_append (pv 6) (pa_cons pe_non pa_nil))) <|
        pss_one (ps_if (PW.pt (pw_or (pt_cmpR (op_neD hr.units) (pv 5) (pv 2) (nomark _))
          (pw_or1 (pt_cmpR (op_neD hr.units) (pe_call GP (hr.mono (by decide)) (by rfl) DP.m DP.F.kp DP.b .nil pass0 (pa_cons (pv 5) (pa_cons (pv 4) pa_nil))) (pe_call GL (hr.mono (by decide)) (by rfl) DL.m DL.F.kp DL.b .nil pass0 (pa_cons (pv 2) (pa_cons (pv 4) pa_nil))) (nomark _))))) (pss_one (ps_ret pe_bl)) pss_nil)) pss_nil))) <|
    pss_one (ps_ret pe_bl), ?_⟩
  refine ⟨_, rfl, a, _, rfl, .inl hS, fun l hl => ?_⟩
  refine ⟨by show 4 ≤ sizeLine; decide, fun st hst => ?_⟩
  have nls : l ≠ st := ne_of_none upd_same hst
  have g0 : Good st l (upd (upd H l (.lst (ns.map V.int))) st (.lst [.int 0, .int 0, .ref l, .int 1])) := ⟨0, 0, 1, ns, upd_same, by decide, by decide, by decide, by decide, nls, by rw [upd_ne nls]; exact upd_same⟩
  generalize upd (upd H l (.lst (ns.map V.int))) st (.lst [.int 0, .int 0, .ref l, .int 1]) = H0 at g0
  refine ⟨_, rfl, st, l, 12, rfl, g0, by decide, by decide, fun t us tb H1 hok htb htn le1 g1 ht hT => ?_⟩
  have nt : t ≠ st := (g0.ne htn).1
  have hk : ∀ p ∈ tb, KeyOk p.1 := fun p hp => (hok.2 p hp).1
  have hrow : ∀ p ∈ tb, p.2.length ≤ 1000 := fun p hp => by
    have h1 := (hok.2 p hp).2.2.1
    omega
  have htb2 : tb.length ≤ 100 := by omega
  have hlu := hT.length
  rw [List.length_map] at hlu
  refine ⟨12, rfl, by decide, by decide, for_range (lo := 0) (n := 12) (fun i σ H' => ∃ (y3 y4 y5 y6 : Option V), σ = [some (.ref a), some (.ref st), some (.ref t), y3, y4, y5, y6] ∧ Good st l H' ∧ H' t = some (.lst us) ∧ TDs H' us (tb.map pairD)) ?_ ?_ ?_⟩
  · exact ⟨_, _, _, _, rfl, g1, ht, hT⟩
  · rintro i σ H2 hi ⟨y3, y4, y5, y6, rfl, g2, ht, hT⟩
    refine ⟨_, rfl, _, rfl, st, l, t, us, tb, rfl, g2, nt, ht, hT, hk, htb2, fun c qy H3 hqo hc le3 g3 => ?_⟩
    have ht3 := le3 t _ nt ht
    have hT3 := TDs.mono (Tk.le g2 le3) _ _ hT
    have sh := Sh.ans hk qy
    -- copy
    refine ⟨_, rfl, t, us, rfl, .inl (SqL.of ht3), fun cp hcp => ?_⟩
    have s4 := same_new hcp (.lst us)
    have hcp4 : upd H3 cp (.lst us) cp = some (.lst us) := upd_same
    generalize upd H3 cp (.lst us) = H4 at s4 hcp4
    have tk4 := Tk.same s4
    -- actual
    refine ⟨_, rfl, _, rfl, cp, c, qy, us, tb, rfl, TD.mono tk4 _ _ hc, hqo, hcp4, TDs.mono tk4 _ _ hT3, htb2, hok.1, hrow, fun v5 H5 s5 r5 => ?_⟩
    have s45 := s4.trans s5
    refine ⟨_, rfl, _, rfl, _, rfl, t, c, qy, us, tb, rfl, TD.mono (Tk.same s45) _ _ hc, hqo, s45 _ _ ht3, TDs.mono (Tk.same s45) _ _ hT3, htb2, hok.1, hrow, fun v6 H6 s6 r6 => ?_⟩
    have r56 := r5.mono s6
    refine res_eq r56 r6 sh ⟨_, rfl, iteF ?_⟩
    have s456 := s45.trans s6
    refine ⟨_, rfl, _, rfl, tab_eq (s6 _ _ (s5 _ _ hcp4)) (s456 _ _ ht3) (TDs.mono (Tk.same s456) _ _ hT3) (TDs.mono (Tk.same s456) _ _ hT3) hk ⟨_, rfl, iteF ?_⟩⟩
    obtain ⟨ty, hty, hkit⟩ := isb (K := K) r56
    refine ⟨_, rfl, _, _, _, _, false, rfl, .ty "bool", hty, hkit, ⟨_, rfl, iteF ?_⟩⟩
    -- query[0] in [..]
    obtain ⟨qa, ys, rfl, hqa⟩ := q_head hc
    refine ⟨_, rfl, qa, _, 0, _, rfl, rfl, SqT.of (s456 _ _ hqa), atI_nat (j := 0) rfl, by show 2 ≤ sizeLine; decide, fun z hz => ?_⟩
    have s7 := same_new hz (.lst [.str "range", .str "next"])
    have z7 : upd H6 z (.lst [.str "range", .str "next"]) z = some (.lst [.str "range", .str "next"]) := upd_same
    generalize upd H6 z (.lst [.str "range", .str "next"]) = H7 at s7 z7
    refine ⟨z, _, rfl, .inl (SqL.of z7), rfl, rfl, inV (.str (qName qy)) [.str "range", .str "next"], rfl, ?_⟩
    rw [q_in]
    have s37 := s456.trans s7
    cases hL : isLst qy with
    | false =>
      refine iteF ?_
      exact ⟨_, _, _, _, rfl, g3.same s37, s37 _ _ ht3, TDs.mono (Tk.same s37) _ _ hT3⟩
    | true =>
      refine iteT ?_
      obtain ⟨tb', er, hl'⟩ := isl_res (tb := tb) hL
      have r57 := r56.mono s7
      rw [er] at r57
      obtain ⟨p, ws, rfl, hp, hw, hW⟩ := r57
      have l1 := hW.length
      rw [List.length_map] at l1
      refine ⟨_, rfl, _, _, _, _, true, rfl, .ty "list", .base (.lst hw), kit_ty (by decide +kernel), ⟨_, rfl, iteF ?_⟩⟩
      refine ⟨_, rfl, .inl ⟨rfl, _, SqL.of hw⟩, p, ws, _, rfl, rfl, hw, small1000 (by omega), ?_⟩
      have tk8 : Tk H7 (upd H7 p (.lst (ws ++ [.non]))) := Tk.put _ fun xs e => by
        rw [hw] at e
        cases e
      have k8 : ∀ b o, H4 b = some o → upd H7 p (.lst (ws ++ [.non])) b = some o := fun b o e => by
        rw [upd_ne (ne_of_none e hp)]
        exact s7 _ _ (s6 _ _ (s5 _ _ e))
      generalize upd H7 p (.lst (ws ++ [.non])) = H8 at tk8 k8
      have s8 : Same H3 H8 := fun b o e => k8 b o (s4 _ _ e)
      have hT8 := TDs.mono (Tk.same s8) _ _ hT3
      refine ⟨_, rfl, _, rfl, tab_eq (k8 _ _ hcp4) (s8 _ _ ht3) hT8 hT8 hk ⟨_, rfl, iteF ?_⟩⟩
      refine ⟨_, rfl, _, rfl, cp, .ref qa, qy, us, tb, rfl, TD.mono (Tk.same s8) _ _ hc, hqo, k8 _ _ hcp4, hT8, htb2, hok.1, hrow, fun v9 H9 s9 r9 => ?_⟩
      have s89 := s8.trans s9
      refine ⟨_, rfl, _, rfl, t, .ref qa, qy, us, tb, rfl, TD.mono (Tk.same s89) _ _ hc, hqo, s89 _ _ ht3, TDs.mono (Tk.same s89) _ _ hT3, htb2, hok.1, hrow, fun v10 H10 s10 r10 => ?_⟩
      refine res_eq (r9.mono s10) r10 sh ⟨_, rfl, iteF ?_⟩
      have s810 := s89.trans s10
      exact ⟨_, _, _, _, rfl, g3.same s810, s810 _ _ ht3, TDs.mono (Tk.same s810) _ _ hT3⟩
  · rintro σ H2 _
    exact q _
end
end RR

namespace RR
open PySem PySem.Spec PyProof.Rows L2
theorem all_mk {l : PySem.W.OpenLaw} {w : World} {K : PySem.W.Frag} {h : Heap} {mg : Str → Option Value} {fa f1 f2 f3 f4 f5 f6 f7 f8 f9 f10 f11 f12 f13 f14 f15 f16 f17 f18 f19 f20 f21 : Addr} (X : K.In h) (G : h.Ns mainGlobals mg) (hfa : mg "law" = some (.ref fa))
    {od1 an1 od2 an2 od3 an3 od4 an4 od5 an5 od6 an6 od7 an7 od8 an8 od9 an9 od10 an10 od11 an11 od12 an12 od13 an13 od14 an14 od15 an15 od16 an16 od17 an17 od18 an18 od19 an19 od20 an20 od21 an21 : Option Addr} {sl1 sl2 sl3 sl4 sl5 sl6 sl7 sl8 sl9 sl10 sl11 sl12 sl13 sl14 sl15 sl16 sl17 sl18 sl19 sl20 sl21 : Array (Option Value)} {oc1 kV1 dc1 pm1 cd1 ct1 oc2 kV2 dc2 pm2 cd2 ct2 oc3 kV3 dc3 pm3 cd3 ct3 oc4 kV4 dc4 pm4 cd4 ct4 oc5 kV5 dc5 pm5 cd5 ct5 oc6 kV6 dc6 pm6 cd6 ct6 oc7 kV7 dc7 pm7 cd7 ct7 oc8 kV8 dc8 pm8 cd8 ct8 oc9 kV9 dc9 pm9 cd9 ct9 oc10 kV10 dc10 pm10 cd10 ct10 oc11 kV11 dc11 pm11 cd11 ct11 oc12 kV12 dc12 pm12 cd12 ct12 oc13 kV13 dc13 pm13 cd13 ct13 oc14 kV14 dc14 pm14 cd14 ct14 oc15 kV15 dc15 pm15 cd15 ct15 oc16 kV16 dc16 pm16 cd16 ct16 oc17 kV17 dc17 pm17 cd17 ct17 oc18 kV18 dc18 pm18 cd18 ct18 oc19 kV19 dc19 pm19 cd19 ct19 oc20 kV20 dc20 pm20 cd20 ct20 oc21 kV21 dc21 pm21 cd21 ct21 : Value}
    (a1 : PySem.W.nsIn K mainGlobals "in_range" = some (some (.ref f1))) (l1 : K.lookup f1 = some ⟨oc1, od1, .func (PySem.W.fnOf "in_range" "in_range" (defArgs sInRange) (defBody sInRange) (defScope sInRange) .none kV1 dc1 pm1 an1 cd1 ct1), sl1⟩) (c1 : PySem.W.codeIn K cd1 "in_range" = true) (k1 : PySem.W.keepIn K (.ref f1) = true)
    (a2 : PySem.W.nsIn K mainGlobals "column_of" = some (some (.ref f2))) (l2 : K.lookup f2 = some ⟨oc2, od2, .func (PySem.W.fnOf "column_of" "column_of" (defArgs sColumnOf) (defBody sColumnOf) (defScope sColumnOf) .none kV2 dc2 pm2 an2 cd2 ct2), sl2⟩) (c2 : PySem.W.codeIn K cd2 "column_of" = true) (k2 : PySem.W.keepIn K (.ref f2) = true)
    (a3 : PySem.W.nsIn K mainGlobals "row_of" = some (some (.ref f3))) (l3 : K.lookup f3 = some ⟨oc3, od3, .func (PySem.W.fnOf "row_of" "row_of" (defArgs sRowOf) (defBody sRowOf) (defScope sRowOf) .none kV3 dc3 pm3 an3 cd3 ct3), sl3⟩) (c3 : PySem.W.codeIn K cd3 "row_of" = true) (k3 : PySem.W.keepIn K (.ref f3) = true)
    (a4 : PySem.W.nsIn K mainGlobals "pairs_in_range" = some (some (.ref f4))) (l4 : K.lookup f4 = some ⟨oc4, od4, .func (PySem.W.fnOf "pairs_in_range" "pairs_in_range" (defArgs sPairsIn) (defBody sPairsIn) (defScope sPairsIn) .none kV4 dc4 pm4 an4 cd4 ct4), sl4⟩) (c4 : PySem.W.codeIn K cd4 "pairs_in_range" = true) (k4 : PySem.W.keepIn K (.ref f4) = true)
    (a5 : PySem.W.nsIn K mainGlobals "pairs_below" = some (some (.ref f5))) (l5 : K.lookup f5 = some ⟨oc5, od5, .func (PySem.W.fnOf "pairs_below" "pairs_below" (defArgs sBelow) (defBody sBelow) (defScope sBelow) .none kV5 dc5 pm5 an5 cd5 ct5), sl5⟩) (c5 : PySem.W.codeIn K cd5 "pairs_below" = true) (k5 : PySem.W.keepIn K (.ref f5) = true)
    (a6 : PySem.W.nsIn K mainGlobals "pairs_above" = some (some (.ref f6))) (l6 : K.lookup f6 = some ⟨oc6, od6, .func (PySem.W.fnOf "pairs_above" "pairs_above" (defArgs sAbove) (defBody sAbove) (defScope sAbove) .none kV6 dc6 pm6 an6 cd6 ct6), sl6⟩) (c6 : PySem.W.codeIn K cd6 "pairs_above" = true) (k6 : PySem.W.keepIn K (.ref f6) = true)
    (a7 : PySem.W.nsIn K mainGlobals "first_pairs" = some (some (.ref f7))) (l7 : K.lookup f7 = some ⟨oc7, od7, .func (PySem.W.fnOf "first_pairs" "first_pairs" (defArgs sFirst) (defBody sFirst) (defScope sFirst) .none kV7 dc7 pm7 an7 cd7 ct7), sl7⟩) (c7 : PySem.W.codeIn K cd7 "first_pairs" = true) (k7 : PySem.W.keepIn K (.ref f7) = true)
    (a8 : PySem.W.nsIn K mainGlobals "column_sum" = some (some (.ref f8))) (l8 : K.lookup f8 = some ⟨oc8, od8, .func (PySem.W.fnOf "column_sum" "column_sum" (defArgs sColSum) (defBody sColSum) (defScope sColSum) .none kV8 dc8 pm8 an8 cd8 ct8), sl8⟩) (c8 : PySem.W.codeIn K cd8 "column_sum" = true) (k8 : PySem.W.keepIn K (.ref f8) = true)
    (a9 : PySem.W.nsIn K mainGlobals "pair_at" = some (some (.ref f9))) (l9 : K.lookup f9 = some ⟨oc9, od9, .func (PySem.W.fnOf "pair_at" "pair_at" (defArgs sPairAt) (defBody sPairAt) (defScope sPairAt) .none kV9 dc9 pm9 an9 cd9 ct9), sl9⟩) (c9 : PySem.W.codeIn K cd9 "pair_at" = true) (k9 : PySem.W.keepIn K (.ref f9) = true)
    (a10 : PySem.W.nsIn K mainGlobals "answer" = some (some (.ref f10))) (l10 : K.lookup f10 = some ⟨oc10, od10, .func (PySem.W.fnOf "answer" "answer" (defArgs sAnswer) (defBody sAnswer) (defScope sAnswer) .none kV10 dc10 pm10 an10 cd10 ct10), sl10⟩) (c10 : PySem.W.codeIn K cd10 "answer" = true) (k10 : PySem.W.keepIn K (.ref f10) = true)
    (a11 : PySem.W.nsIn K mainGlobals "_law_draw" = some (some (.ref f11))) (l11 : K.lookup f11 = some ⟨oc11, od11, .func (PySem.W.fnOf "_law_draw" "_law_draw" (defArgs sDraw) (defBody sDraw) (defScope sDraw) .none kV11 dc11 pm11 an11 cd11 ct11), sl11⟩) (c11 : PySem.W.codeIn K cd11 "_law_draw" = true) (k11 : PySem.W.keepIn K (.ref f11) = true)
    (a12 : PySem.W.nsIn K mainGlobals "_law_key" = some (some (.ref f12))) (l12 : K.lookup f12 = some ⟨oc12, od12, .func (PySem.W.fnOf "_law_key" "_law_key" (defArgs sKey) (defBody sKey) (defScope sKey) .none kV12 dc12 pm12 an12 cd12 ct12), sl12⟩) (c12 : PySem.W.codeIn K cd12 "_law_key" = true) (k12 : PySem.W.keepIn K (.ref f12) = true)
    (a13 : PySem.W.nsIn K mainGlobals "_law_row" = some (some (.ref f13))) (l13 : K.lookup f13 = some ⟨oc13, od13, .func (PySem.W.fnOf "_law_row" "_law_row" (defArgs sRow) (defBody sRow) (defScope sRow) .none kV13 dc13 pm13 an13 cd13 ct13), sl13⟩) (c13 : PySem.W.codeIn K cd13 "_law_row" = true) (k13 : PySem.W.keepIn K (.ref f13) = true)
    (a14 : PySem.W.nsIn K mainGlobals "_law_table" = some (some (.ref f14))) (l14 : K.lookup f14 = some ⟨oc14, od14, .func (PySem.W.fnOf "_law_table" "_law_table" (defArgs sTable) (defBody sTable) (defScope sTable) .none kV14 dc14 pm14 an14 cd14 ct14), sl14⟩) (c14 : PySem.W.codeIn K cd14 "_law_table" = true) (k14 : PySem.W.keepIn K (.ref f14) = true)
    (a15 : PySem.W.nsIn K mainGlobals "_law_bound" = some (some (.ref f15))) (l15 : K.lookup f15 = some ⟨oc15, od15, .func (PySem.W.fnOf "_law_bound" "_law_bound" (defArgs sBound) (defBody sBound) (defScope sBound) .none kV15 dc15 pm15 an15 cd15 ct15), sl15⟩) (c15 : PySem.W.codeIn K cd15 "_law_bound" = true) (k15 : PySem.W.keepIn K (.ref f15) = true)
    (a16 : PySem.W.nsIn K mainGlobals "_law_some_key" = some (some (.ref f16))) (l16 : K.lookup f16 = some ⟨oc16, od16, .func (PySem.W.fnOf "_law_some_key" "_law_some_key" (defArgs sSomeKey) (defBody sSomeKey) (defScope sSomeKey) .none kV16 dc16 pm16 an16 cd16 ct16), sl16⟩) (c16 : PySem.W.codeIn K cd16 "_law_some_key" = true) (k16 : PySem.W.keepIn K (.ref f16) = true)
    (a17 : PySem.W.nsIn K mainGlobals "_law_query" = some (some (.ref f17))) (l17 : K.lookup f17 = some ⟨oc17, od17, .func (PySem.W.fnOf "_law_query" "_law_query" (defArgs sQuery) (defBody sQuery) (defScope sQuery) .none kV17 dc17 pm17 an17 cd17 ct17), sl17⟩) (c17 : PySem.W.codeIn K cd17 "_law_query" = true) (k17 : PySem.W.keepIn K (.ref f17) = true)
    (a18 : PySem.W.nsIn K mainGlobals "_law_within" = some (some (.ref f18))) (l18 : K.lookup f18 = some ⟨oc18, od18, .func (PySem.W.fnOf "_law_within" "_law_within" (defArgs sLWithin) (defBody sLWithin) (defScope sLWithin) .none kV18 dc18 pm18 an18 cd18 ct18), sl18⟩) (c18 : PySem.W.codeIn K cd18 "_law_within" = true) (k18 : PySem.W.keepIn K (.ref f18) = true)
    (a19 : PySem.W.nsIn K mainGlobals "_law_cell" = some (some (.ref f19))) (l19 : K.lookup f19 = some ⟨oc19, od19, .func (PySem.W.fnOf "_law_cell" "_law_cell" (defArgs sCell) (defBody sCell) (defScope sCell) .none kV19 dc19 pm19 an19 cd19 ct19), sl19⟩) (c19 : PySem.W.codeIn K cd19 "_law_cell" = true) (k19 : PySem.W.keepIn K (.ref f19) = true)
    (a20 : PySem.W.nsIn K mainGlobals "_law_answer" = some (some (.ref f20))) (l20 : K.lookup f20 = some ⟨oc20, od20, .func (PySem.W.fnOf "_law_answer" "_law_answer" (defArgs sLAns) (defBody sLAns) (defScope sLAns) .none kV20 dc20 pm20 an20 cd20 ct20), sl20⟩) (c20 : PySem.W.codeIn K cd20 "_law_answer" = true) (k20 : PySem.W.keepIn K (.ref f20) = true)
    (a21 : PySem.W.nsIn K mainGlobals "law" = some (some (.ref f21))) (l21 : K.lookup f21 = some ⟨oc21, od21, .func (PySem.W.fnOf "law" "law" (defArgs sLaw) (defBody sLaw) (defScope sLaw) .none kV21 dc21 pm21 an21 cd21 ct21), sl21⟩) (c21 : PySem.W.codeIn K cd21 "law" = true) (k21 : PySem.W.keepIn K (.ref f21) = true)
    (z1 : PySem.W.nsIn K mainGlobals "len" = some none) (z2 : PySem.W.nsIn K mainGlobals "int" = some none) (z3 : PySem.W.nsIn K mainGlobals "range" = some none) (z4 : PySem.W.nsIn K mainGlobals "tuple" = some none) (z5 : PySem.W.nsIn K mainGlobals "sorted" = some none) (z6 : PySem.W.nsIn K mainGlobals "list" = some none) (z7 : PySem.W.nsIn K mainGlobals "isinstance" = some none) (z8 : PySem.W.nsIn K mainGlobals "dict" = some none) (z9 : PySem.W.nsIn K mainGlobals "max" = some none) (z10 : PySem.W.nsIn K mainGlobals "sum" = some none) (z11 : PySem.W.nsIn K mainGlobals "bool" = some none) :
    ∃ fd : FuncData, (∀ (s : Shared) (v : Value), BindsTo s fd ⟨[v], []⟩ [("script", v)]) ∧ ∀ base : Heap, K.In base → base.Ns mainGlobals mg → FnOk l.prog w K mg base CX0 5 fa fd ["script"] (spLaw K) := by
  have e := hfa.symm.trans (PySem.W.mg_of X G a21)
  cases e
  have F1 := fun_mk (st := sInRange) l1 c1 k1
  have b1 := F1.binds (ps := ["key", "low", "high"]) fun _ _ _ _ _ _ us hl => match us, hl with | [_, _, _], _ => rfl
  let d1 : Def K mg "in_range" sInRange ["key", "low", "high"] := ⟨_, _, F1, b1, PySem.W.mg_of X G a1⟩
  have F2 := fun_mk (st := sColumnOf) l2 c2 k2
  have b2 := F2.binds (ps := ["row", "column"]) fun _ _ _ _ _ _ us hl => match us, hl with | [_, _], _ => rfl
  let d2 : Def K mg "column_of" sColumnOf ["row", "column"] := ⟨_, _, F2, b2, PySem.W.mg_of X G a2⟩
  have F3 := fun_mk (st := sRowOf) l3 c3 k3
  have b3 := F3.binds (ps := ["table", "key"]) fun _ _ _ _ _ _ us hl => match us, hl with | [_, _], _ => rfl
  let d3 : Def K mg "row_of" sRowOf ["table", "key"] := ⟨_, _, F3, b3, PySem.W.mg_of X G a3⟩
  have F4 := fun_mk (st := sPairsIn) l4 c4 k4
  have b4 := F4.binds (ps := ["table", "low", "high"]) fun _ _ _ _ _ _ us hl => match us, hl with | [_, _, _], _ => rfl
  let d4 : Def K mg "pairs_in_range" sPairsIn ["table", "low", "high"] := ⟨_, _, F4, b4, PySem.W.mg_of X G a4⟩
  have F5 := fun_mk (st := sBelow) l5 c5 k5
  have b5 := F5.binds (ps := ["table", "key"]) fun _ _ _ _ _ _ us hl => match us, hl with | [_, _], _ => rfl
  let d5 : Def K mg "pairs_below" sBelow ["table", "key"] := ⟨_, _, F5, b5, PySem.W.mg_of X G a5⟩
  have F6 := fun_mk (st := sAbove) l6 c6 k6
  have b6 := F6.binds (ps := ["table", "key"]) fun _ _ _ _ _ _ us hl => match us, hl with | [_, _], _ => rfl
  let d6 : Def K mg "pairs_above" sAbove ["table", "key"] := ⟨_, _, F6, b6, PySem.W.mg_of X G a6⟩
  have F7 := fun_mk (st := sFirst) l7 c7 k7
  have b7 := F7.binds (ps := ["pairs", "count"]) fun _ _ _ _ _ _ us hl => match us, hl with | [_, _], _ => rfl
  let d7 : Def K mg "first_pairs" sFirst ["pairs", "count"] := ⟨_, _, F7, b7, PySem.W.mg_of X G a7⟩
  have F8 := fun_mk (st := sColSum) l8 c8 k8
  have b8 := F8.binds (ps := ["pairs", "column"]) fun _ _ _ _ _ _ us hl => match us, hl with | [_, _], _ => rfl
  let d8 : Def K mg "column_sum" sColSum ["pairs", "column"] := ⟨_, _, F8, b8, PySem.W.mg_of X G a8⟩
  have F9 := fun_mk (st := sPairAt) l9 c9 k9
  have b9 := F9.binds (ps := ["table", "place"]) fun _ _ _ _ _ _ us hl => match us, hl with | [_, _], _ => rfl
  let d9 : Def K mg "pair_at" sPairAt ["table", "place"] := ⟨_, _, F9, b9, PySem.W.mg_of X G a9⟩
  have F10 := fun_mk (st := sAnswer) l10 c10 k10
  have b10 := F10.binds (ps := ["table", "query"]) fun _ _ _ _ _ _ us hl => match us, hl with | [_, _], _ => rfl
  let d10 : Def K mg "answer" sAnswer ["table", "query"] := ⟨_, _, F10, b10, PySem.W.mg_of X G a10⟩
  have F11 := fun_mk (st := sDraw) l11 c11 k11
  have b11 := F11.binds (ps := ["state", "limit"]) fun _ _ _ _ _ _ us hl => match us, hl with | [_, _], _ => rfl
  let dD : Def K mg "_law_draw" sDraw ["state", "limit"] := ⟨_, _, F11, b11, PySem.W.mg_of X G a11⟩
  have F12 := fun_mk (st := sKey) l12 c12 k12
  have b12 := F12.binds (ps := ["state"]) fun _ _ _ _ _ _ us hl => match us, hl with | [_], _ => rfl
  let dK : Def K mg "_law_key" sKey ["state"] := ⟨_, _, F12, b12, PySem.W.mg_of X G a12⟩
  have F13 := fun_mk (st := sRow) l13 c13 k13
  have b13 := F13.binds (ps := ["state"]) fun _ _ _ _ _ _ us hl => match us, hl with | [_], _ => rfl
  let dR : Def K mg "_law_row" sRow ["state"] := ⟨_, _, F13, b13, PySem.W.mg_of X G a13⟩
  have F14 := fun_mk (st := sTable) l14 c14 k14
  have b14 := F14.binds (ps := ["state", "most"]) fun _ _ _ _ _ _ us hl => match us, hl with | [_, _], _ => rfl
  let dT : Def K mg "_law_table" sTable ["state", "most"] := ⟨_, _, F14, b14, PySem.W.mg_of X G a14⟩
  have F15 := fun_mk (st := sBound) l15 c15 k15
  have b15 := F15.binds (ps := ["state", "table"]) fun _ _ _ _ _ _ us hl => match us, hl with | [_, _], _ => rfl
  let dB : Def K mg "_law_bound" sBound ["state", "table"] := ⟨_, _, F15, b15, PySem.W.mg_of X G a15⟩
  have F16 := fun_mk (st := sSomeKey) l16 c16 k16
  have b16 := F16.binds (ps := ["state", "table"]) fun _ _ _ _ _ _ us hl => match us, hl with | [_, _], _ => rfl
  let dS : Def K mg "_law_some_key" sSomeKey ["state", "table"] := ⟨_, _, F16, b16, PySem.W.mg_of X G a16⟩
  have F17 := fun_mk (st := sQuery) l17 c17 k17
  have b17 := F17.binds (ps := ["state", "table"]) fun _ _ _ _ _ _ us hl => match us, hl with | [_, _], _ => rfl
  let dQ : Def K mg "_law_query" sQuery ["state", "table"] := ⟨_, _, F17, b17, PySem.W.mg_of X G a17⟩
  have F18 := fun_mk (st := sLWithin) l18 c18 k18
  have b18 := F18.binds (ps := ["table", "low", "high"]) fun _ _ _ _ _ _ us hl => match us, hl with | [_, _, _], _ => rfl
  let dI : Def K mg "_law_within" sLWithin ["table", "low", "high"] := ⟨_, _, F18, b18, PySem.W.mg_of X G a18⟩
  have F19 := fun_mk (st := sCell) l19 c19 k19
  have b19 := F19.binds (ps := ["row", "column"]) fun _ _ _ _ _ _ us hl => match us, hl with | [_, _], _ => rfl
  let dC : Def K mg "_law_cell" sCell ["row", "column"] := ⟨_, _, F19, b19, PySem.W.mg_of X G a19⟩
  have F20 := fun_mk (st := sLAns) l20 c20 k20
  have b20 := F20.binds (ps := ["table", "query"]) fun _ _ _ _ _ _ us hl => match us, hl with | [_, _], _ => rfl
  let dA : Def K mg "_law_answer" sLAns ["table", "query"] := ⟨_, _, F20, b20, PySem.W.mg_of X G a20⟩
  have F21 := fun_mk (st := sLaw) l21 c21 k21
  have b21 := F21.binds (ps := ["script"]) fun _ _ _ _ _ _ us hl => match us, hl with | [_], _ => rfl
  let dW : Def K mg "law" sLaw ["script"] := ⟨_, _, F21, b21, PySem.W.mg_of X G a21⟩
  have m_len := PySem.W.mg_none_of X G z1
  have m_int := PySem.W.mg_none_of X G z2
  have m_range := PySem.W.mg_none_of X G z3
  have m_tuple := PySem.W.mg_none_of X G z4
  have m_sorted := PySem.W.mg_none_of X G z5
  have m_list := PySem.W.mg_none_of X G z6
  have m_isinstance := PySem.W.mg_none_of X G z7
  have m_dict := PySem.W.mg_none_of X G z8
  have m_max := PySem.W.mg_none_of X G z9
  have m_sum := PySem.W.mg_none_of X G z10
  have m_bool := PySem.W.mg_none_of X G z11
  refine ⟨PySem.W.fnOf "law" "law" (defArgs sLaw) (defBody sLaw) (defScope sLaw) .none kV21 dc21 pm21 an21 cd21 ct21, fun s v => .of_eq rfl, fun base _ _ => ?_⟩
  have GD := ok_draw (P := l.prog) (w := w) (base := base) dD m_len m_int
  have GK := ok_key dK dD m_range GD
  have GR := ok_row dR dD m_range m_tuple GD
  have GT := ok_table dT dD dK dR m_range m_sorted GD GK GR
  have GS := ok_some_key dS dD dK m_len GD GK
  have GB := ok_bound dB dD dK m_len GD GK
  have GQ := ok_query dQ dD dS dB m_len GD GS GB
  have G1 := ok_in_range (P := l.prog) (w := w) (base := base) d1
  have G2 := ok_column_of (P := l.prog) (w := w) (base := base) d2 m_len
  have G3 := ok_row_of (P := l.prog) (w := w) (base := base) d3 m_dict
  have G4 := ok_pairs_in d4 d1 G1
  have G5 := ok_below (P := l.prog) (w := w) (base := base) d5
  have G6 := ok_above (P := l.prog) (w := w) (base := base) d6
  have G7 := ok_first (P := l.prog) (w := w) (base := base) d7 m_max
  have G8 := ok_col_sum d8 d2 m_sum G2
  have G9 := ok_pair_at (P := l.prog) (w := w) (base := base) d9 m_len
  have GP := ok_answer d10 d3 d4 d7 d6 d5 d8 d9 m_len G3 G4 G7 G6 G5 G8 G9
  have GI := ok_lwithin (P := l.prog) (w := w) (base := base) dI
  have GC := ok_cell (P := l.prog) (w := w) (base := base) dC m_len
  have GL := ok_lanswer dA dI dC m_len m_sum GI GC
  exact ok_law dW dT dQ d10 dA m_list m_range m_isinstance m_bool GT GQ GP GL
end RR
open PySem PySem.W PyProof.Rows
set_option maxRecDepth 100000 in
set_option maxHeartbeats 0 in
theorem PySem.Challenge.cw_rightrows_k04_answers_holds : PySem.Challenge.rw_rightrows_k04_answers.Holds := by
  w_on; o_law; k_head; (case hw => w_witness2)
  k_fill
  refine L2.walk_of (l := PySem.Challenge.rw_rightrows_k04_answers) (n := 63) (k := 5) (x := "script") (CX := fun _ => L2.CX0) (sp := fun w => RR.spLaw _) rfl (by decide) rfl ⟨rfl, by decide, by decide⟩ (fun w h Y => PySem.W.kIn_of Y) ?F (fun _ _ a ns hl _ hS => ⟨a, ns, rfl, hS, hl, fun _ => rfl⟩) (fun _ _ _ _ _ h => h)
  case F =>
    intro w mg fa h KX G hmg
    refine' RR.all_mk KX G hmg ?a1 ?l1 ?c1 ?k1 ?a2 ?l2 ?c2 ?k2 ?a3 ?l3 ?c3 ?k3 ?a4 ?l4 ?c4 ?k4 ?a5 ?l5 ?c5 ?k5 ?a6 ?l6 ?c6 ?k6 ?a7 ?l7 ?c7 ?k7 ?a8 ?l8 ?c8 ?k8 ?a9 ?l9 ?c9 ?k9 ?a10 ?l10 ?c10 ?k10 ?a11 ?l11 ?c11 ?k11 ?a12 ?l12 ?c12 ?k12 ?a13 ?l13 ?c13 ?k13 ?a14 ?l14 ?c14 ?k14 ?a15 ?l15 ?c15 ?k15 ?a16 ?l16 ?c16 ?k16 ?a17 ?l17 ?c17 ?k17 ?a18 ?l18 ?c18 ?k18 ?a19 ?l19 ?c19 ?k19 ?a20 ?l20 ?c20 ?k20 ?a21 ?l21 ?c21 ?k21 ?z1 ?z2 ?z3 ?z4 ?z5 ?z6 ?z7 ?z8 ?z9 ?z10 ?z11
    (case a1 => k_is); (case l1 => k_is); (case c1 => k_is); (case k1 => k_is); (case a2 => k_is); (case l2 => k_is)
    (case c2 => k_is); (case k2 => k_is); (case a3 => k_is); (case l3 => k_is); (case c3 => k_is); (case k3 => k_is)
    (case a4 => k_is); (case l4 => k_is); (case c4 => k_is); (case k4 => k_is); (case a5 => k_is); (case l5 => k_is)
    (case c5 => k_is); (case k5 => k_is); (case a6 => k_is); (case l6 => k_is); (case c6 => k_is); (case k6 => k_is)
    (case a7 => k_is); (case l7 => k_is); (case c7 => k_is); (case k7 => k_is); (case a8 => k_is); (case l8 => k_is)
    (case c8 => k_is); (case k8 => k_is); (case a9 => k_is); (case l9 => k_is); (case c9 => k_is); (case k9 => k_is)
    (case a10 => k_is); (case l10 => k_is); (case c10 => k_is); (case k10 => k_is); (case a11 => k_is); (case l11 => k_is)
    (case c11 => k_is); (case k11 => k_is); (case a12 => k_is); (case l12 => k_is); (case c12 => k_is); (case k12 => k_is)
    (case a13 => k_is); (case l13 => k_is); (case c13 => k_is); (case k13 => k_is); (case a14 => k_is); (case l14 => k_is)
    (case c14 => k_is); (case k14 => k_is); (case a15 => k_is); (case l15 => k_is); (case c15 => k_is); (case k15 => k_is)
    (case a16 => k_is); (case l16 => k_is); (case c16 => k_is); (case k16 => k_is); (case a17 => k_is); (case l17 => k_is)
    (case c17 => k_is); (case k17 => k_is); (case a18 => k_is); (case l18 => k_is); (case c18 => k_is); (case k18 => k_is)
    (case a19 => k_is); (case l19 => k_is); (case c19 => k_is); (case k19 => k_is); (case a20 => k_is); (case l20 => k_is)
    (case c20 => k_is); (case k20 => k_is); (case a21 => k_is); (case l21 => k_is); (case c21 => k_is); (case k21 => k_is)
    (case z1 => k_is); (case z2 => k_is); (case z3 => k_is); (case z4 => k_is); (case z5 => k_is); (case z6 => k_is)
    (case z7 => k_is); (case z8 => k_is); (case z9 => k_is); (case z10 => k_is); (case z11 => k_is)
