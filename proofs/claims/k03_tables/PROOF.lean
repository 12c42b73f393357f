import PyProof.Rows.All
import Wide.All
import OpenK.AllK
import Wide.FinOn
import HandS.ForMost
import HandS.Wide
import HandS.Codes
import HandS.More
import HandS.IsInst
import PySem.Challenge.RW_rightrows_k03_tables
import HandS.Walk
import HandS.TupAny
import HandS.TupLe
set_option Elab.async false
set_option linter.all false
set_option maxRecDepth 100000
namespace RR
open PySem PySem.Spec PyProof.Rows L2
def topS (i : Nat) : Stmt := PySem.Challenge.pw_rightrows_k03_tables.main.body.getD i (.Pass ⟨0, 0, 0, 0⟩)
abbrev sDraw : Stmt := topS 11
/-! ### heaps -/
theorem same_new {H : Hp} {p : Addr} (h : H p = none) (o : HO) : Same H (upd H p o) := fun b u q => by
  rw [upd_ne (ne_of_none q h)]
  exact q
/-- all but the drawer's list stands as it was -/
def Le (st : Addr) (H H' : Hp) : Prop := ∀ b o, b ≠ st → H b = some o → H' b = some o
theorem Le.refl (st : Addr) (H : Hp) : Le st H H := fun _ _ _ h => h
theorem Le.trans {st : Addr} {H H1 H2 : Hp} (a : Le st H H1) (b : Le st H1 H2) : Le st H H2 := fun c o n h => b c o n (a c o n h)
theorem Le.of {st : Addr} {H H' : Hp} (a : Same H H') : Le st H H' := fun b o _ h => a b o h
theorem Le.st {st : Addr} {H : Hp} (o : HO) : Le st H (upd H st o) := fun b u n h => by
  rw [upd_ne n]
  exact h
/-- the drawer's list -/
def Good (st l : Addr) (H : Hp) : Prop := ∃ (a p c : Int) (ns : List Int), H st = some (.lst [.int a, .int p, .ref l, .int c]) ∧ 0 ≤ a ∧ 0 ≤ p ∧ 0 ≤ c ∧ c < 2147483647 ∧ l ≠ st ∧ H l = some (.lst (ns.map V.int))
theorem Good.same {st l : Addr} {H H' : Hp} (g : Good st l H) (s : Same H H') : Good st l H' := by
  obtain ⟨a, p, c, ns, h, h1, h2, h3, h4, h5, h6⟩ := g
  exact ⟨a, p, c, ns, s _ _ h, h1, h2, h3, h4, h5, s _ _ h6⟩
theorem Good.ne {st l D : Addr} {H : Hp} (g : Good st l H) (h : H D = none) : D ≠ st ∧ D ≠ l := by
  obtain ⟨a, p, c, ns, h1, _, _, _, _, _, h6⟩ := g
  refine ⟨fun e => ?_, fun e => ?_⟩
  · rw [e, h1] at h
    cases h
  · rw [e, h6] at h
    cases h
theorem Good.put {st l D : Addr} {H : Hp} {o : HO} (g : Good st l H) (h : D ≠ st ∧ D ≠ l) : Good st l (upd H D o) := by
  obtain ⟨a, p, c, ns, h1, h2, h3, h4, h5, h6, h7⟩ := g
  exact ⟨a, p, c, ns, by rw [upd_ne h.1.symm]; exact h1, h2, h3, h4, h5, h6, by rw [upd_ne h.2.symm]; exact h7⟩
theorem Le.mut {st D : Addr} {H H' : Hp} {o : HO} (le : Le st H H') (h : H D = none) : Le st H (upd H' D o) := fun b u n e => by
  rw [upd_ne (ne_of_none e h)]
  exact le b u n e
theorem small {n : Nat} (h : n ≤ 1000) : n ≤ sizeLine := Nat.le_of_lt (small1000 h)
/-- a def of the text as it stands behind the top -/
structure Def (K : PySem.W.Frag) (mg : Str → Option Value) (x : Str) (st : Stmt) (ps : List Str) where
  f : Addr
  fd : FuncData
  F : Fun K x x st f fd
  b : Binds K fd ps []
  m : mg x = some (.ref f)
def spDraw : Sp := fun vs H Q _ => ∃ (st l : Addr) (n : Int), vs = [.ref st, .int n] ∧ Good st l H ∧ 0 < n ∧ n.natAbs < 2 ^ 200 ∧ ∀ d H', 0 ≤ d → d < n → Le st H H' → Good st l H' → Q (.int d) H'
theorem scDraw : FnScope ["state", "limit", "position", "cell", "mixed", "digit"] ["state", "limit"] (defScope sDraw) := ⟨rfl, rfl, rfl, by decide +kernel, rfl, by decide +kernel, by decide +kernel⟩
section
variable {P : Program} {w : World} {K : PySem.W.Frag} {mg : Str → Option Value} {base : Heap}
theorem ok_draw (D : Def K mg "_law_draw" sDraw ["state", "limit"]) (ml : mg "len" = none) (mi : mg "int" = none) : FnOk P w K mg base CX0 1 D.f D.fd ["state", "limit"] spDraw := by
  refine D.F.ok scDraw (fun vs H Q E h => ?_) (fun cdv A outer s H vs Q E hr h => ?_)
  · obtain ⟨st, l, n, rfl, _⟩ := h
    rfl
  obtain ⟨st, l, n, rfl, g, hn0, hn, q⟩ := h
  refine ⟨_, C8.pss_cut (ps_if (pt_cmpR op_lt (pe_ix ix_list (pv 0) pe_int (fun _ _ => rfl)) (pv 1) (nomark _))
      (pss_cons (ps_set (i := 2) scDraw.nd rfl (.inl rfl) (pe_ix ix_list (pv 0) pe_int (fun _ _ => rfl)))
      (pss_cons (ps_asg (pe_op op_add (pv 2) pe_int) (pg_sub (pv 0) pe_int set_list))
      (pss_cons (ps_set (i := 3) scDraw.nd rfl (.inl rfl) pe_int)
      (C8.pss_cut (ps_if (pt_cmpR op_lt (pv 2) (pe_callB call_len_seq (by rfl) ml PySem.boot_len (pa_cons (pe_ix ix_list (pv 0) pe_int (fun _ _ => rfl)) pa_nil)) (nomark _))
        (pss_one (ps_set (i := 3) scDraw.nd rfl (.inl rfl) (pe_ix ix_list (pe_ix ix_list (pv 0) pe_int (fun _ _ => rfl)) (pv 2) (fun _ _ => rfl)))) pss_nil)
      (pss_one (ps_if (pt_cmpR op_ge (pv 3) (pe_op op_pow pe_int pe_int) (nomark _))
        (pss_one (ps_asg (pv 3) (pg_sub (pv 0) pe_int set_list)))
        (C8.pss_cut (ps_asg (pe_op op_modN (pe_callTy call_int1 (by rfl) mi (by decide +kernel) (pa_cons (pe_op op_mul (pe_op op_add (pe_op op_add (pe_op op_add (pe_ix ix_list (pv 0) pe_int (fun _ _ => rfl)) (pe_op op_modN (pe_callTy call_int1 (by rfl) mi (by decide +kernel) (pa_cons (pv 3) pa_nil)) pe_int)) (pv 2)) pe_int) pe_int) pa_nil)) pe_int) (pg_sub (pv 0) pe_int set_list))
        (C8.pss_cut (ps_set (i := 4) scDraw.nd rfl (.inl rfl) (pe_op op_modN (pe_callTy call_int1 (by rfl) mi (by decide +kernel) (pa_cons (pe_op op_add (pe_op op_mul (pe_ix ix_list (pv 0) pe_int (fun _ _ => rfl)) pe_int) pe_int) pa_nil)) pe_int))
        (pss_one (ps_asg (pe_op op_add (pe_op op_mul (pv 4) pe_int) (pe_op op_modN (pe_callTy call_int1 (by rfl) mi (by decide +kernel) (pa_cons (pe_op op_add (pe_op op_mul (pv 4) pe_int) (pe_ix ix_list (pv 0) pe_int (fun _ _ => rfl))) pa_nil)) pe_int)) (pg_sub (pv 0) pe_int set_list))))))))))) pss_nil)
    (pss_cons (ps_set (i := 5) scDraw.nd rfl (.inl rfl) (pe_op op_modN (pe_callTy call_int1 (by rfl) mi (by decide +kernel) (pa_cons (pe_ix ix_list (pv 0) pe_int (fun _ _ => rfl)) pa_nil)) (pv 1)))
    (pss_cons (ps_asg (pe_op op_fdivW (pe_ix ix_list (pv 0) pe_int (fun _ _ => rfl)) (pv 1)) (pg_sub (pv 0) pe_int set_list))
    (pss_one (ps_ret (pv 5))))), ?_⟩
  obtain ⟨a, p, c, ns, h, ha, hp, hc, hc2, hl, hns⟩ := g
  refine ⟨fun σ' H' => ∃ y2 y3 y4 y5, σ' = [some (.ref st), some (.int n), y2, y3, y4, y5] ∧ Le st H H' ∧ Good st l H', ?_, ?_⟩
  · refine ⟨_, rfl, st, _, 0, _, rfl, rfl, SqL.of h, atI_nat (j := 0) rfl, _, rfl, _, _, rfl, rfl, _, rfl, ite2 (fun _ => ?_) (fun _ => ?_)⟩
    · refine ⟨_, rfl, st, _, 1, _, rfl, rfl, SqL.of h, atI_nat (j := 1) rfl, ?_⟩
      refine ⟨_, rfl, _, _, rfl, rfl, _, rfl, st, _, 1, 1, rfl, rfl, h, rfl, ?_⟩
      have h1 : upd H st (.lst ([.int a, .int p, .ref l, .int c].set 1 (.int (p + 1)))) st = some (.lst [.int a, .int (p + 1), .ref l, .int c]) := upd_same
      have hns1 : upd H st (.lst ([.int a, .int p, .ref l, .int c].set 1 (.int (p + 1)))) l = some (.lst (ns.map V.int)) := by
        rw [upd_ne hl]
        exact hns
      refine ⟨fun σ' H' => ∃ cell : Int, σ' = [some (.ref st), some (.int n), some (.int p), some (.int cell), none, none] ∧ H' = upd H st (.lst ([.int a, .int p, .ref l, .int c].set 1 (.int (p + 1)))), ?_, ?_⟩
      · refine ⟨_, rfl, _, rfl, st, _, 2, _, rfl, rfl, SqL.of h1, atI_nat (j := 2) rfl, l, _, rfl, .inl (SqL.of hns1), _, _, rfl, rfl, _, rfl, ite2 (fun hlt => ?_) (fun _ => ?_)⟩
        · have hlt2 : p < (((ns.map V.int).length : Nat) : Int) := of_decide_eq_true hlt
          rw [List.length_map] at hlt2
          have hk : p.toNat < ns.length := by omega
          have hg : atI (ns.map V.int) p = some (.int ns[p.toNat]) := by
            have e : ((p.toNat : Nat) : Int) = p := by omega
            have z : atI (ns.map V.int) ((p.toNat : Nat) : Int) = some (.int ns[p.toNat]) := atI_nat (by rw [List.getElem?_map, List.getElem?_eq_getElem hk]; rfl)
            rw [e] at z
            exact z
          refine ⟨_, rfl, st, _, 2, _, rfl, rfl, SqL.of h1, atI_nat (j := 2) rfl, _, rfl, l, _, p, _, rfl, rfl, SqL.of hns1, hg, ?_⟩
          exact ⟨_, rfl, rfl⟩
        · exact ⟨_, rfl, rfl⟩
      · rintro σ' H' ⟨cell, rfl, rfl⟩
        refine ⟨_, rfl, 10, 18, rfl, rfl, ⟨by decide, by decide, by decide⟩, _, _, rfl, rfl, _, rfl, ite2 (fun hge => ?_) (fun _ => ?_)⟩
        · have hge2 : cell ≥ 10 ^ 18 := of_decide_eq_true hge
          refine ⟨_, rfl, _, rfl, st, _, 0, 0, rfl, rfl, h1, rfl, ?_⟩
          refine ⟨_, _, _, _, rfl, fun b o nb e => by rw [upd_ne nb, upd_ne nb]; exact e, cell, p + 1, c, ns, upd_same, by omega, by omega, hc, hc2, hl, ?_⟩
          rw [upd_ne hl]
          exact hns1
        · have le1 : Le st H (upd H st (.lst ([.int a, .int p, .ref l, .int c].set 1 (.int (p + 1))))) := Le.st _
          refine ⟨fun σ' H' => ∃ x : Int, σ' = [some (.ref st), some (.int n), some (.int p), some (.int cell), none, none] ∧ 0 ≤ x ∧ x < 2147483647 ∧ H' st = some (.lst [.int a, .int (p + 1), .ref l, .int x]) ∧ H' l = some (.lst (ns.map V.int)) ∧ Le st H H', ?_, ?_⟩
          · refine ⟨_, rfl, st, _, 3, _, rfl, rfl, SqL.of h1, atI_nat (j := 3) rfl, _, rfl, .inl ⟨_, rfl, _, _, rfl, rfl, (by show (2147483629 : Int) ≠ 0; decide), _, _, rfl, rfl, ?_⟩⟩
            refine ⟨_, rfl, _, _, rfl, rfl, _, _, rfl, rfl, _, _, rfl, rfl, .inr (by decide), .inl ⟨_, rfl, _, _, rfl, rfl, (by show (2147483647 : Int) ≠ 0; decide), ?_⟩⟩
            refine ⟨_, rfl, st, _, 3, 3, rfl, rfl, h1, rfl, ?_⟩
            exact ⟨_, rfl, Int.fmod_nonneg_of_pos _ (by decide), Int.fmod_lt_of_pos _ (by decide), upd_same, by rw [upd_ne hl]; exact hns1, le1.trans (Le.st _)⟩
          · rintro σ' H2 ⟨x, rfl, hx0, hx1, h2, hns2, le2⟩
            refine ⟨fun σ' H' => ∃ m : Int, σ' = [some (.ref st), some (.int n), some (.int p), some (.int cell), some (.int m), none] ∧ 0 ≤ m ∧ H' = H2, ?_, ?_⟩
            · refine ⟨_, rfl, st, _, 3, _, rfl, rfl, SqL.of h2, atI_nat (j := 3) rfl, _, _, rfl, rfl, .inr (by decide), _, _, rfl, rfl, .inl ⟨_, rfl, _, _, rfl, rfl, (by show (2147483629 : Int) ≠ 0; decide), ?_⟩⟩
              exact ⟨_, rfl, Int.fmod_nonneg_of_pos _ (by decide), rfl⟩
            · rintro σ' H3 ⟨m, rfl, hm0, rfl⟩
              refine ⟨_, rfl, _, _, rfl, rfl, .inr (by decide), _, rfl, _, _, rfl, rfl, .inr (by decide), _, rfl, st, _, 3, _, rfl, rfl, SqL.of h2, atI_nat (j := 3) rfl, _, _, rfl, rfl, .inl ⟨_, rfl, _, _, rfl, rfl, (by show (2147483587 : Int) ≠ 0; decide), _, _, rfl, rfl, ?_⟩⟩
              refine ⟨_, rfl, st, _, 0, 0, rfl, rfl, h2, rfl, ?_⟩
              have hk0 : 0 ≤ Int.fmod (m * 30011 + x) 2147483587 := Int.fmod_nonneg_of_pos _ (by decide)
              refine ⟨_, _, _, _, rfl, le2.trans (Le.st _), m * 2147483647 + Int.fmod (m * 30011 + x) 2147483587, p + 1, x, ns, upd_same, by omega, by omega, hx0, hx1, hl, ?_⟩
              rw [upd_ne hl]
              exact hns2
    · exact ⟨_, _, _, _, rfl, Le.refl _ _, a, p, c, ns, h, ha, hp, hc, hc2, hl, hns⟩
  · rintro σ' H' ⟨y2, y3, y4, y5, rfl, le, a, p, c, ns, h, ha, hp, hc, hc2, hl, hns⟩
    refine ⟨_, rfl, st, _, 0, _, rfl, rfl, SqL.of h, atI_nat (j := 0) rfl, .inl ⟨_, rfl, ?_⟩⟩
    refine ⟨_, rfl, _, _, rfl, rfl, (by omega), ?_⟩
    refine ⟨_, rfl, st, _, 0, _, rfl, rfl, SqL.of h, atI_nat (j := 0) rfl, _, rfl, _, _, rfl, rfl, wide_div hn0 hn (by decide) (by decide), ?_⟩
    refine ⟨_, rfl, st, _, 0, 0, rfl, rfl, h, rfl, ?_⟩
    refine ⟨_, rfl, ?_⟩
    refine q _ _ (Int.fmod_nonneg_of_pos _ hn0) (Int.fmod_lt_of_pos _ hn0) (fun b o nb e => by rw [upd_ne nb]; exact le _ _ nb e) ⟨a / n, p, c, ns, upd_same, Int.ediv_nonneg ha (by omega), hp, hc, hc2, hl, by rw [upd_ne hl]; exact hns⟩
end
end RR

namespace RR
open PySem PySem.Spec PyProof.Rows L2
abbrev sKey : Stmt := topS 12
abbrev sRow : Stmt := topS 13
/-! ### data that never changes -/
/-- tuples stand as they stood -/
def Tk (H H' : Hp) : Prop := ∀ a xs, H a = some (.tup xs) → H' a = some (.tup xs)
theorem Tk.refl (H : Hp) : Tk H H := fun _ _ h => h
theorem Tk.trans {H H1 H2 : Hp} (a : Tk H H1) (b : Tk H1 H2) : Tk H H2 := fun c o h => b c o (a c o h)
theorem Tk.same {H H' : Hp} (s : Same H H') : Tk H H' := fun _ _ h => s _ _ h
theorem Tk.le {st l : Addr} {H H' : Hp} (g : Good st l H) (s : Le st H H') : Tk H H' := fun a xs h => s a _ (fun e => by
  obtain ⟨i, p, c, ns, h2, _⟩ := g
  rw [e, h2] at h
  cases h) h
/-- a store to what is no tuple -/
theorem Tk.put {H : Hp} {p : Addr} (o : HO) (h : ∀ xs, H p ≠ some (.tup xs)) : Tk H (upd H p o) := fun a xs e => by
  rw [upd_ne (fun z => h xs (by rw [← z]; exact e))]
  exact e
theorem Tk.new {H : Hp} {p : Addr} (h : H p = none) (o : HO) : Tk H (upd H p o) := Tk.same (same_new h o)
mutual
inductive TD (H : Hp) : V → PyData → Prop
  | non : TD H .non .none
  | int (i : Int) : TD H (.int i) (.int i)
  | str (x : Str) : TD H (.str x) (.str x)
  | tup {a : Addr} {xs : List V} {ds : List PyData} : H a = some (.tup xs) → TDs H xs ds → TD H (.ref a) (.tuple ds)
inductive TDs (H : Hp) : List V → List PyData → Prop
  | nil : TDs H [] []
  | cons {v : V} {vs : List V} {d : PyData} {ds : List PyData} : TD H v d → TDs H vs ds → TDs H (v :: vs) (d :: ds)
end
mutual
theorem TD.mono {H H' : Hp} (k : Tk H H') : ∀ (d : PyData) (v : V), TD H v d → TD H' v d
  | _, _, .non => .non
  | _, _, .int i => .int i
  | _, _, .str x => .str x
  | .tuple ds, .ref a, .tup (xs := xs) h hs => .tup (k _ _ h) (TDs.mono k ds xs hs)
theorem TDs.mono {H H' : Hp} (k : Tk H H') : ∀ (ds : List PyData) (vs : List V), TDs H vs ds → TDs H' vs ds
  | _, _, .nil => .nil
  | d :: ds, v :: vs, .cons h hs => .cons (TD.mono k d v h) (TDs.mono k ds vs hs)
end
mutual
theorem TD.dp {K : PySem.W.Frag} {H : Hp} : ∀ (d : PyData) (v : V), TD H v d → Dp K H v d
  | _, _, .non => .non
  | _, _, .int i => .int i
  | _, _, .str x => .str x
  | .tuple ds, .ref a, .tup (xs := xs) h hs => .tup (SqT.of h) (TDs.dp ds xs hs)
theorem TDs.dp {K : PySem.W.Frag} {H : Hp} : ∀ (ds : List PyData) (vs : List V), TDs H vs ds → DpAll K H vs ds
  | _, _, .nil => .nil
  | d :: ds, v :: vs, .cons h hs => .cons (TD.dp d v h) (TDs.dp ds vs hs)
end
theorem TDs.length {H : Hp} : ∀ {vs : List V} {ds : List PyData}, TDs H vs ds → vs.length = ds.length
  | _, _, .nil => rfl
  | _, _, .cons _ h => congrArg Nat.succ (TDs.length h)
theorem TDs.get {H : Hp} : ∀ {vs : List V} {ds : List PyData}, TDs H vs ds → ∀ (i : Nat) (v : V), vs[i]? = some v → ∃ d, ds[i]? = some d ∧ TD H v d
  | _, _, .nil, i, v, h => by simp at h
  | _, _, .cons h1 h, 0, v, e => ⟨_, rfl, by
      have e2 := Option.some.inj e
      rw [← e2]
      exact h1⟩
  | _, _, .cons h1 h, i + 1, v, e => TDs.get h i v e
theorem TDs.app {H : Hp} : ∀ {vs ws : List V} {ds es : List PyData}, TDs H vs ds → TDs H ws es → TDs H (vs ++ ws) (ds ++ es)
  | _, _, _, _, .nil, h => h
  | _, _, _, _, .cons h1 h2, h => .cons h1 (TDs.app h2 h)
theorem TDs.ints {H : Hp} : ∀ ns : List Int, TDs H (ns.map V.int) (ns.map PyData.int)
  | [] => .nil
  | n :: r => .cons (.int n) (TDs.ints r)
def rowD (ns : List Int) : PyData := .tuple (ns.map PyData.int)
def pairD (p : Str × List Int) : PyData := .tuple [.str p.1, rowD p.2]
/-! ### keys, rows -/
def letS : Str := "abcdefghijklmnopqrstuvwxyz0123456789"
def KeyOk (s : Str) : Prop := 1 ≤ s.length ∧ s.length ≤ 8 ∧ ∀ c ∈ s.cps.toList, c ∈ letS.cps.toList
def RowOk (ns : List Int) : Prop := 1 ≤ ns.length ∧ ns.length ≤ 3 ∧ ∀ n ∈ ns, 0 ≤ n ∧ n ≤ 65535
theorem pick {z : Str} {d : Int} (h0 : 0 ≤ d) (h1 : d < (z.cps.toList.length : Int)) : ∃ c, atI z.cps.toList d = some c ∧ c ∈ z.cps.toList := by
  have hk : d.toNat < z.cps.toList.length := by omega
  have e : ((d.toNat : Nat) : Int) = d := by omega
  have q : atI z.cps.toList ((d.toNat : Nat) : Int) = some z.cps.toList[d.toNat] := atI_nat (List.getElem?_eq_getElem hk)
  rw [e] at q
  exact ⟨_, q, List.getElem_mem hk⟩
def spKey : Sp := fun vs H Q _ => ∃ st l : Addr, vs = [.ref st] ∧ Good st l H ∧ ∀ s H', KeyOk s → Le st H H' → Good st l H' → Q (.str s) H'
def spRow : Sp := fun vs H Q _ => ∃ st l : Addr, vs = [.ref st] ∧ Good st l H ∧ ∀ r ns H', RowOk ns → Le st H H' → Good st l H' → H' r = some (.tup (ns.map V.int)) → Q (.ref r) H'
theorem scKey : FnScope ["state", "letters", "choice", "key", "k"] ["state"] (defScope sKey) := ⟨rfl, rfl, rfl, by decide +kernel, rfl, by decide +kernel, by decide +kernel⟩
theorem scRow : FnScope ["state", "k"] ["state"] (defScope sRow) := ⟨rfl, rfl, rfl, by decide +kernel, rfl, by decide +kernel, by decide +kernel⟩
theorem sub1 : ∀ c ∈ ("abcdefghij" : Str).cps.toList, c ∈ letS.cps.toList := by decide +kernel
theorem sub2 : ∀ c ∈ ("ab0z" : Str).cps.toList, c ∈ letS.cps.toList := by decide +kernel
theorem sub3 : ∀ c ∈ ("ab9" : Str).cps.toList, c ∈ letS.cps.toList := by decide +kernel
theorem len1 : (("abcdefghij" : Str).cps.toList.length : Int) = 10 := by decide +kernel
theorem len2 : (("ab0z" : Str).cps.toList.length : Int) = 4 := by decide +kernel
theorem len3 : (("ab9" : Str).cps.toList.length : Int) = 3 := by decide +kernel
theorem lenL : (letS.cps.toList.length : Int) = 36 := by decide +kernel
theorem app_list (a b : Str) : (a ++ b).cps.toList = a.cps.toList ++ b.cps.toList := Array.toList_append
theorem str_len (a : Str) : a.length = a.cps.toList.length := (Array.length_toList).symm
theorem app_len (a b : Str) : (a ++ b).length = a.length + b.length := by
  rw [str_len, str_len, str_len, app_list, List.length_append]
theorem KeyOk.app {s : Str} {c : Nat} (h : s.length < 8) (hs : ∀ c ∈ s.cps.toList, c ∈ letS.cps.toList) (hc : c ∈ letS.cps.toList) : KeyOk (s ++ ⟨#[c]⟩) := by
  refine ⟨?_, ?_, fun x hx => ?_⟩
  · rw [app_len]
    show 1 ≤ s.length + 1
    omega
  · rw [app_len]
    show s.length + 1 ≤ 8
    omega
  · rw [app_list, List.mem_append] at hx
    rcases hx with hx | hx
    · exact hs x hx
    · have e : x = c := by simpa using hx
      rw [e]
      exact hc
theorem pow7 {n : Nat} (h : n ≤ 100000) : n < 2 ^ 200 := Nat.lt_of_le_of_lt h (by decide)
section
variable {P : Program} {w : World} {K : PySem.W.Frag} {mg : Str → Option Value} {base : Heap}
theorem ok_key (D : Def K mg "_law_key" sKey ["state"]) (DD : Def K mg "_law_draw" sDraw ["state", "limit"]) (mr : mg "range" = none) (GD : FnOk P w K mg base CX0 1 DD.f DD.fd ["state", "limit"] spDraw) : FnOk P w K mg base CX0 2 D.f D.fd ["state"] spKey := by
  refine D.F.ok scKey (fun vs H Q E h => ?_) (fun cdv A outer s H vs Q E hr h => ?_)
  · obtain ⟨st, l, rfl, _⟩ := h
    rfl
  obtain ⟨st, l, rfl, g, q⟩ := h
  refine ⟨_, pss_cons (ps_set (i := 1) scKey.nd rfl (.inl rfl) pe_str)
    (pss_cons (ps_set (i := 2) scKey.nd rfl (.inl rfl) (pe_call GD hr (by rfl) DD.m DD.F.kp DD.b .nil pass0 (pa_cons (pv 0) (pa_cons pe_int pa_nil))))
    (pss_cons (ps_if (pt_cmpR op_eq (pv 2) pe_int (nomark _))
      (pss_one (ps_ret (pe_ix ix_str pe_str (pe_call GD hr (by rfl) DD.m DD.F.kp DD.b .nil pass0 (pa_cons (pv 0) (pa_cons pe_int pa_nil))) (fun _ _ => rfl)))) pss_nil)
    (pss_cons (ps_if (pt_cmpR op_eq (pv 2) pe_int (nomark _))
      (pss_one (ps_ret (pe_op op_add_str (pe_ix ix_str pe_str (pe_call GD hr (by rfl) DD.m DD.F.kp DD.b .nil pass0 (pa_cons (pv 0) (pa_cons pe_int pa_nil))) (fun _ _ => rfl)) (pe_ix ix_str pe_str (pe_call GD hr (by rfl) DD.m DD.F.kp DD.b .nil pass0 (pa_cons (pv 0) (pa_cons pe_int pa_nil))) (fun _ _ => rfl))))) pss_nil)
    (pss_cons (ps_set (i := 3) scKey.nd rfl (.inl rfl) pe_str)
    (pss_cons (ps_for PassesOwn.never rfl (pi_range1 (by rfl) mr (pa_cons (pe_op op_add pe_int (pe_call GD hr (by rfl) DD.m DD.F.kp DD.b .nil pass0 (pa_cons (pv 0) (pa_cons pe_int pa_nil)))) pa_nil)) (pg_name (i := 4) scKey.nd rfl (.inl rfl))
      (pss_one (ps_set (i := 3) scKey.nd rfl (.inl rfl) (pe_op op_add_str (pv 3) (pe_ix ix_str (pv 1) (pe_call GD hr (by rfl) DD.m DD.F.kp DD.b .nil pass0 (pa_cons (pv 0) (pa_cons pe_int pa_nil))) (fun _ _ => rfl))))))
    (pss_one (ps_ret (pv 3)))))))), ?_⟩
  refine ⟨_, rfl, st, l, 3, rfl, g, by decide, by decide, fun d H1 d0 d1 le1 g1 => ?_⟩
  refine ⟨_, rfl, rfl, _, rfl, ite2 (fun _ => ?_) (fun _ => ?_)⟩
  · refine ⟨_, rfl, st, l, 10, rfl, g1, by decide, by decide, fun d2 H2 d20 d21 le2 g2 => ?_⟩
    obtain ⟨c, hc, hm⟩ := pick (z := "abcdefghij") d20 (by rw [len1]; exact d21)
    refine ⟨_, _, c, rfl, rfl, by decide, hc, ?_⟩
    refine q _ _ ⟨by show 1 ≤ 1; decide, by show 1 ≤ 8; decide, fun x hx => ?_⟩ (le1.trans le2) g2
    have e : x = c := by simpa using hx
    rw [e]
    exact sub1 c hm
  refine ⟨_, rfl, rfl, _, rfl, ite2 (fun _ => ?_) (fun _ => ?_)⟩
  · refine ⟨_, rfl, st, l, 4, rfl, g1, by decide, by decide, fun d2 H2 d20 d21 le2 g2 => ?_⟩
    obtain ⟨c, hc, hm⟩ := pick (z := "ab0z") d20 (by rw [len2]; exact d21)
    refine ⟨_, _, c, rfl, rfl, by decide, hc, ?_⟩
    refine ⟨_, rfl, st, l, 3, rfl, g2, by decide, by decide, fun d3 H3 d30 d31 le3 g3 => ?_⟩
    obtain ⟨c3, hc3, hm3⟩ := pick (z := "ab9") d30 (by rw [len3]; exact d31)
    refine ⟨_, _, c3, rfl, rfl, by decide, hc3, ?_⟩
    refine ⟨_, _, rfl, rfl, by show 2 ≤ sizeLine; decide, ?_⟩
    refine q _ _ (KeyOk.app (by show 1 < 8; decide) (fun x hx => ?_) (sub3 c3 hm3)) ((le1.trans le2).trans le3) g3
    have e : x = c := by simpa using hx
    rw [e]
    exact sub2 c hm
  refine ⟨_, rfl, st, l, 8, rfl, g1, by decide, by decide, fun d2 H2 d20 d21 le2 g2 => ?_⟩
  refine ⟨_, _, rfl, rfl, _, rfl, by omega, by omega, for_range (lo := 0) (n := (1 + d2).toNat) (fun i σ H' => ∃ s y, σ = [some (.ref st), some (.str letS), some (.int d), some (.str s), y] ∧ s.length = i ∧ (∀ c ∈ s.cps.toList, c ∈ letS.cps.toList) ∧ Le st H H' ∧ Good st l H') ?_ ?_ ?_⟩
  · exact ⟨_, _, rfl, rfl, fun c hc => (by cases hc), le1.trans le2, g2⟩
  · rintro i σ H' hi ⟨s, y, rfl, hl, hs, le, g3⟩
    refine ⟨_, rfl, _, rfl, _, rfl, st, l, 36, rfl, g3, by decide, by decide, fun d3 H3 d30 d31 le3 g3 => ?_⟩
    obtain ⟨c, hc, hm⟩ := pick (z := letS) d30 (by rw [lenL]; exact d31)
    refine ⟨_, _, c, rfl, rfl, by decide +kernel, hc, ?_⟩
    have hl8 : s.length < 8 := by omega
    refine ⟨_, _, rfl, rfl, by show s.length + 1 ≤ sizeLine; exact small (by omega), ?_⟩
    refine ⟨_, _, rfl, ?_, (KeyOk.app hl8 hs hm).2.2, le.trans le3, g3⟩
    rw [app_len, hl]
    rfl
  · rintro σ H' ⟨s, y, rfl, hl, hs, le, g3⟩
    exact ⟨_, rfl, q _ _ ⟨by omega, by omega, hs⟩ le g3⟩
theorem ok_row (D : Def K mg "_law_row" sRow ["state"]) (DD : Def K mg "_law_draw" sDraw ["state", "limit"]) (mr : mg "range" = none) (mt : mg "tuple" = none) (GD : FnOk P w K mg base CX0 1 DD.f DD.fd ["state", "limit"] spDraw) : FnOk P w K mg base CX0 2 D.f D.fd ["state"] spRow := by
  refine D.F.ok scRow (fun vs H Q E h => ?_) (fun cdv A outer s H vs Q E hr h => ?_)
  · obtain ⟨st, l, rfl, _⟩ := h
    rfl
  obtain ⟨st, l, rfl, g, q⟩ := h
  refine ⟨_, pss_one (ps_ret (pe_callTy call_tuple_of (by rfl) mt (by decide +kernel) (pa_cons (pe_lc (own := [("k", 1)]) (g := gName 1) (by rfl) scRow.nd
      (pi_range1 (by rfl) mr (pa_cons (pe_op op_add pe_int (pe_call GD hr (by rfl) DD.m DD.F.kp DD.b .nil pass0 (pa_cons (pv 0) (pa_cons pe_int pa_nil)))) pa_nil))
      (blkOk_by (own := [("k", 1)]) (N := ["state", "k"]) (sc := defScope sRow) (by decide +kernel))
      (fun _ _ _ _ _ => pg_name (i := 1) scRow.nd rfl (Or.inl rfl)) (fun _ _ _ _ _ => pts_nil)
      (fun _ _ _ _ _ => pe_call GD hr (by rfl) DD.m DD.F.kp DD.b .nil pass0 (pa_cons (pv 0) (pa_cons (pe_ix (r := rIxL K) ix_list (pe_lst (pa_cons pe_int (pa_cons pe_int pa_nil))) (pe_call GD hr (by rfl) DD.m DD.F.kp DD.b .nil pass0 (pa_cons (pv 0) (pa_cons pe_int pa_nil))) (fun _ _ => rfl)) pa_nil)))) pa_nil))), ?_⟩
  refine ⟨_, rfl, st, l, 3, rfl, g, by decide, by decide, fun d H1 d0 d1 le1 g1 => ?_⟩
  refine ⟨_, _, rfl, rfl, _, rfl, by omega, by omega, fun D hD => ?_⟩
  refine lc_range (lo := 0) (n := (1 + d).toNat) (fun i H' => ∃ ns : List Int, H' D = some (.lst (ns.map V.int)) ∧ ns.length = i ∧ (∀ n ∈ ns, 0 ≤ n ∧ n ≤ 65535) ∧ Le st H1 H' ∧ Good st l H') ?_ ?_ ?_
  · exact ⟨[], upd_same, rfl, fun n hn => (by cases hn), Le.of (same_new hD _), g1.same (same_new hD _)⟩
  · rintro i H2 hi ⟨ns, hns, hl, hb, le2, g2⟩
    refine ⟨rfl, ?_⟩
    refine ⟨_, rfl, by show 2 ≤ sizeLine; decide, fun z hz => ?_⟩
    have nDz : D ≠ z := ne_of_none hns hz
    have g3 := g2.same (same_new hz (.lst [.int 4, .int 65536]))
    refine ⟨_, rfl, st, l, 2, rfl, g3, by decide, by decide, fun d3 H3 d30 d31 le3 g3 => ?_⟩
    have hz3 : H3 z = some (.lst [.int 4, .int 65536]) := le3 z _ (g2.ne hz).1 upd_same
    have hD3 : H3 D = some (.lst (ns.map V.int)) := le3 D _ (g1.ne hD).1 (by rw [upd_ne nDz]; exact hns)
    obtain ⟨m, hm, m0, m1⟩ : ∃ m : Int, atI [V.int 4, .int 65536] d3 = some (.int m) ∧ 0 < m ∧ m ≤ 65536 := by
      rcases (by omega : d3 = 0 ∨ d3 = 1) with e | e
      · exact ⟨4, by rw [e]; rfl, by decide, by decide⟩
      · exact ⟨65536, by rw [e]; rfl, by decide, by decide⟩
    refine ⟨z, _, d3, _, rfl, rfl, SqL.of hz3, hm, ?_⟩
    refine ⟨st, l, m, rfl, g3, m0, pow7 (by omega), fun d4 H4 d40 d41 le4 g4 => ?_⟩
    have hD4 : H4 D = some (.lst (ns.map V.int)) := le4 D _ (g1.ne hD).1 hD3
    refine ⟨_, hD4, ?_, ns ++ [d4], ?_, ?_, ?_, ?_, g4.put (g1.ne hD)⟩
    · rw [List.length_map]
      exact small1000 (by omega)
    · rw [upd_same, List.map_append]
      rfl
    · rw [List.length_append, hl]
      rfl
    · intro n hn
      rw [List.mem_append] at hn
      rcases hn with hn | hn
      · exact hb n hn
      · have e : n = d4 := by simpa using hn
        omega
    · exact (((le2.trans (Le.of (same_new hz _))).trans le3).trans le4).mut hD
  · rintro H2 ⟨ns, hns, hl, hb, le2, g2⟩
    refine ⟨D, _, rfl, .inl ⟨SqL.of hns, fun r hr2 => ?_⟩⟩
    refine q r ns _ ⟨by omega, by omega, hb⟩ ((le1.trans le2).trans (Le.of (same_new hr2 _))) (g2.same (same_new hr2 _)) upd_same
end
end RR

namespace RR
open PySem PySem.Spec PyProof.Rows L2
abbrev sTable : Stmt := topS 14
/-! ### order of keys -/
def Lt (a b : Str) : Prop := a.cps.toList < b.cps.toList
theorem tri : ∀ a b : List Nat, a < b ∨ a = b ∨ b < a
  | [], [] => .inr (.inl rfl)
  | [], _ :: _ => .inl (by simp)
  | _ :: _, [] => .inr (.inr (by simp))
  | x :: a, y :: b => by
    rcases Nat.lt_trichotomy x y with h | h | h
    · exact .inl (List.cons_lt_cons_iff.mpr (.inl h))
    · subst h
      rcases tri a b with q | q | q
      · exact .inl (List.cons_lt_cons_iff.mpr (.inr ⟨rfl, q⟩))
      · exact .inr (.inl (by rw [q]))
      · exact .inr (.inr (List.cons_lt_cons_iff.mpr (.inr ⟨rfl, q⟩)))
    · exact .inr (.inr (List.cons_lt_cons_iff.mpr (.inl h)))
theorem ltr : ∀ {a b c : List Nat}, a < b → b < c → a < c
  | _, [], _, h, _ => absurd h (by simp)
  | _, _ :: _, [], _, h => absurd h (by simp)
  | [], _ :: _, _ :: _, _, _ => by simp
  | x :: a, y :: b, z :: c, h, k => by
    rw [List.cons_lt_cons_iff] at h k ⊢
    rcases h with h | ⟨rfl, h⟩
    · rcases k with k | ⟨rfl, k⟩
      · exact .inl (Nat.lt_trans h k)
      · exact .inl h
    · rcases k with k | ⟨rfl, k⟩
      · exact .inl k
      · exact .inr ⟨rfl, ltr h k⟩
theorem lirr : ∀ {a : List Nat}, ¬ a < a
  | [], h => absurd h (by simp)
  | x :: a, h => by
    rw [List.cons_lt_cons_iff] at h
    rcases h with h | ⟨_, h⟩
    · exact Nat.lt_irrefl _ h
    · exact lirr h
theorem Lt.trans {a b c : Str} (h : Lt a b) (k : Lt b c) : Lt a c := ltr h k
theorem Lt.irrefl {a : Str} : ¬ Lt a a := lirr
theorem str_ext {a b : Str} (h : a.cps.toList = b.cps.toList) : a = b := by
  cases a
  cases b
  exact congrArg Str.mk (Array.toList_inj.mp h)
theorem Lt.tri (a b : Str) : Lt a b ∨ a = b ∨ Lt b a := by
  rcases RR.tri a.cps.toList b.cps.toList with h | h | h
  · exact .inl h
  · exact .inr (.inl (str_ext h))
  · exact .inr (.inr h)
theorem asc_of : ∀ (r : List Str) (p : Str), risingS p r = true → (p :: r).Nodup → (p :: r).Pairwise Lt
  | [], p, _, _ => List.pairwise_singleton _ _
  | x :: r, p, h, n => by
    have h1 : (!ltCps x.cps.toList p.cps.toList && risingS x r) = true := h
    rw [Bool.and_eq_true] at h1
    have h2 := h1.1
    rw [ltCps_eq] at h2
    have n2 := List.nodup_cons.mp n
    have hx : Lt p x := by
      rcases Lt.tri p x with k | k | k
      · exact k
      · exact absurd (by rw [k]; exact List.mem_cons_self) n2.1
      · rw [decide_eq_true (show x.cps.toList < p.cps.toList from k)] at h2
        cases h2
    have ih := asc_of r x h1.2 n2.2
    refine List.pairwise_cons.mpr ⟨fun y hy => ?_, ih⟩
    rcases List.mem_cons.mp hy with e | e
    · rw [e]
      exact hx
    · exact hx.trans (List.rel_of_pairwise_cons ih e)
theorem asc {ys : List Str} (h : sortedS ys = true) (n : ys.Nodup) : ys.Pairwise Lt := by
  cases ys with
  | nil => exact List.Pairwise.nil
  | cons x r => exact asc_of r x h n
def TabOk (tb : List (Str × List Int)) : Prop := (tb.map (·.1)).Pairwise Lt ∧ ∀ p ∈ tb, KeyOk p.1 ∧ RowOk p.2
/-! ### dicts -/
theorem mem_put {kvs : List (Key × V)} {k : Key} {v : V} {e : Key × V} (h : e ∈ putK kvs k v) : e = (k, v) ∨ e ∈ kvs := by
  unfold putK at h
  split at h
  · obtain ⟨a, ha, rfl⟩ := List.mem_map.mp h
    by_cases q : a.1 = k
    · rw [if_pos q, q]
      exact .inl rfl
    · rw [if_neg q]
      exact .inr ha
  · rcases List.mem_append.mp h with h | h
    · exact .inr h
    · exact .inl (by simpa using h)
theorem put_keys (kvs : List (Key × V)) (k : Key) (v : V) : (k ∈ kvs.map (·.1) ∧ (putK kvs k v).map (·.1) = kvs.map (·.1)) ∨ (k ∉ kvs.map (·.1) ∧ (putK kvs k v).map (·.1) = kvs.map (·.1) ++ [k]) := by
  have ha : (kvs.any fun kv => decide (kv.1 = k)) = true ↔ k ∈ kvs.map (·.1) := by
    rw [List.any_eq_true, List.mem_map]
    constructor
    · rintro ⟨x, hx, e⟩
      exact ⟨x, hx, of_decide_eq_true e⟩
    · rintro ⟨x, hx, e⟩
      exact ⟨x, hx, decide_eq_true e⟩
  unfold putK
  by_cases h : k ∈ kvs.map (·.1)
  · refine .inl ⟨h, ?_⟩
    rw [if_pos (ha.mpr h), List.map_map]
    refine List.map_congr_left fun x _ => ?_
    show (if x.1 = k then (x.1, v) else x).1 = x.1
    split <;> rfl
  · refine .inr ⟨h, ?_⟩
    rw [if_neg (fun z => h (ha.mp z)), List.map_append]
    rfl
theorem val_mem {kvs : List (Key × V)} {k : Key} (h : k ∈ kvs.map (·.1)) : ∃ v, valV kvs k = some v ∧ (k, v) ∈ kvs := by
  induction kvs with
  | nil => cases h
  | cons p r ih =>
    by_cases e : p.1 = k
    · exact ⟨p.2, valV_pos e, by rw [← e]; exact List.mem_cons_self⟩
    · rw [List.map_cons, List.mem_cons] at h
      rcases h with h | h
      · exact absurd h.symm e
      · obtain ⟨v, hv, hm⟩ := ih h
        exact ⟨v, by rw [valV_neg e]; exact hv, List.mem_cons_of_mem _ hm⟩
def RowsOk (H : Hp) (kvs : List (Key × V)) : Prop := (kvs.map (·.1)).Nodup ∧ ∀ e ∈ kvs, ∃ s ns, e.1 = .inr s ∧ KeyOk s ∧ RowOk ns ∧ TD H e.2 (rowD ns)
theorem RowsOk.mono {H H' : Hp} {kvs : List (Key × V)} (k : Tk H H') (h : RowsOk H kvs) : RowsOk H' kvs := ⟨h.1, fun e he => by
  obtain ⟨s, ns, h1, h2, h3, h4⟩ := h.2 e he
  exact ⟨s, ns, h1, h2, h3, TD.mono k _ _ h4⟩⟩
theorem RowsOk.put {H : Hp} {kvs : List (Key × V)} {s : Str} {v : V} {ns : List Int} (h : RowsOk H kvs) (hs : KeyOk s) (hn : RowOk ns) (hv : TD H v (rowD ns)) : RowsOk H (putK kvs (.inr s) v) := by
  refine ⟨?_, fun e he => ?_⟩
  · rcases put_keys kvs (.inr s) v with ⟨hk, q⟩ | ⟨hk, q⟩
    · rw [q]
      exact h.1
    · rw [q]
      refine List.nodup_append.mpr ⟨h.1, by simp, fun a ha b hb => ?_⟩
      have e : b = Sum.inr s := by simpa using hb
      intro z
      rw [z, e] at ha
      exact hk ha
  · rcases mem_put he with e | e
    · rw [e]
      exact ⟨s, ns, rfl, hs, hn, hv⟩
    · exact h.2 _ e
theorem put_len (kvs : List (Key × V)) (k : Key) (v : V) : (putK kvs k v).length ≤ kvs.length + 1 := by
  rcases put_keys kvs k v with ⟨hk, q⟩ | ⟨hk, q⟩
  · have h := congrArg List.length q
    rw [List.length_map, List.length_map] at h
    omega
  · have h := congrArg List.length q
    rw [List.length_map, List.length_append, List.length_map, List.length_singleton] at h
    omega
theorem RowsOk.strs {H : Hp} {kvs : List (Key × V)} (h : RowsOk H kvs) : ∃ ks : List Str, kvs.map (·.1) = ks.map Sum.inr ∧ ks.Nodup := by
  obtain ⟨h1, h2⟩ := h
  induction kvs with
  | nil => exact ⟨[], rfl, List.nodup_nil⟩
  | cons p r ih =>
    rw [List.map_cons, List.nodup_cons] at h1
    obtain ⟨ks, e, n⟩ := ih h1.2 fun e he => h2 e (List.mem_cons_of_mem _ he)
    obtain ⟨s, ns, e1, _⟩ := h2 p List.mem_cons_self
    refine ⟨s :: ks, by rw [List.map_cons, List.map_cons, e, e1], List.nodup_cons.mpr ⟨fun hs => ?_, n⟩⟩
    refine h1.1 ?_
    rw [e, e1]
    exact List.mem_map.mpr ⟨s, hs, rfl⟩
theorem Le.free {st l : Addr} {H H' : Hp} {D : Addr} (le : Le st H H') (g : Good st l H') (h : H' D = none) : H D = none := by
  cases e : H D with
  | none => rfl
  | some o =>
    rw [le D o (g.ne h).1 e] at h
    cases h
def spTable : Sp := fun vs H Q _ => ∃ (st l : Addr) (most : Int), vs = [.ref st, .int most] ∧ Good st l H ∧ 0 ≤ most ∧ most ≤ 30 ∧
  ∀ t vs tb H', TabOk tb → (tb.length : Int) ≤ most → H t = none → Le st H H' → Good st l H' → H' t = some (.lst vs) → TDs H' vs (tb.map pairD) → Q (.ref t) H'
theorem scTable : FnScope ["state", "most", "rows", "k", "key"] ["state", "most"] (defScope sTable) := ⟨rfl, rfl, rfl, by decide +kernel, rfl, by decide +kernel, by decide +kernel⟩
section
variable {P : Program} {w : World} {K : PySem.W.Frag} {mg : Str → Option Value} {base : Heap}
theorem ok_table (D : Def K mg "_law_table" sTable ["state", "most"]) (DD : Def K mg "_law_draw" sDraw ["state", "limit"]) (DK : Def K mg "_law_key" sKey ["state"]) (DR : Def K mg "_law_row" sRow ["state"]) (mr : mg "range" = none) (ms : mg "sorted" = none)
    (GD : FnOk P w K mg base CX0 1 DD.f DD.fd ["state", "limit"] spDraw) (GK : FnOk P w K mg base CX0 2 DK.f DK.fd ["state"] spKey) (GR : FnOk P w K mg base CX0 2 DR.f DR.fd ["state"] spRow) : FnOk P w K mg base CX0 3 D.f D.fd ["state", "most"] spTable := by
  refine D.F.ok scTable (fun vs H Q E h => ?_) (fun cdv A outer s H vs Q E hr h => ?_)
  · obtain ⟨st, l, most, rfl, _⟩ := h
    rfl
  obtain ⟨st, l, most, rfl, g, hm0, hm1, q⟩ := h
  refine ⟨_, pss_cons (ps_set (i := 2) scTable.nd rfl (.inr rfl) pe_dnewK)
    (pss_cons (ps_for PassesOwn.never rfl (pi_range1 (by rfl) mr (pa_cons (pe_call GD (hr.mono (by decide)) (by rfl) DD.m DD.F.kp DD.b .nil pass0 (pa_cons (pv 0) (pa_cons (pe_op op_add (pv 1) pe_int) pa_nil))) pa_nil)) (pg_name (i := 3) scTable.nd rfl (.inl rfl))
      (pss_cons (ps_set (i := 4) scTable.nd rfl (.inl rfl) (pe_call GK hr (by rfl) DK.m DK.F.kp DK.b .nil pass0 (pa_cons (pv 0) pa_nil)))
      (pss_one (ps_dput (hu_of hr) (pv 2) (pv 4) (pe_call GR hr (by rfl) DR.m DR.F.kp DR.b .nil pass0 (pa_cons (pv 0) pa_nil)) rfl))))
    (pss_one (ps_ret (pe_lc (own := [("key", 4)]) (g := gName 4) (by rfl) scTable.nd
      (pi_list (pe_callB (call_sortedD rfl) (by rfl) ms (by decide +kernel) (pa_cons (pv 2) pa_nil)))
      (blkOk_by (own := [("key", 4)]) (N := ["state", "most", "rows", "k", "key"]) (sc := defScope sTable) (by decide +kernel))
      (fun _ _ _ _ _ => pg_name (i := 4) scTable.nd rfl (Or.inl rfl)) (fun _ _ _ _ _ => pts_nil)
      (fun _ _ _ _ _ => pe_tup (pa_cons (pv 4) (pa_cons (pe_dget (hu_of hr) (pv 2) (pv 4) (fun _ _ => rfl)) pa_nil))))))), ?_⟩
  intro d hd
  have g0 := g.same (same_new hd (.dK []))
  refine ⟨_, rfl, _, rfl, _, _, rfl, rfl, st, l, most + 1, rfl, g0, by omega, pow7 (by omega), fun n H1 n0 n1 le1 g1 => ?_⟩
  have hd1 : H1 d = some (.dK []) := le1 d _ (g.ne hd).1 upd_same
  have le1' : Le st H H1 := (Le.of (same_new hd _)).trans le1
  refine ⟨n, rfl, by omega, by omega, for_range (lo := 0) (n := n.toNat) (fun i σ H' => ∃ kvs y3 y4, σ = [some (.ref st), some (.int most), some (.ref d), y3, y4] ∧ H' d = some (.dK kvs) ∧ kvs.length ≤ i ∧ RowsOk H' kvs ∧ Le st H H' ∧ Good st l H') ?_ ?_ ?_⟩
  · exact ⟨[], _, _, rfl, hd1, Nat.le_refl _, ⟨List.nodup_nil, fun e he => (by cases he)⟩, le1', g1⟩
  · rintro i σ H2 hi ⟨kvs, y3, y4, rfl, hd2, hl, hk, le2, g2⟩
    refine ⟨_, rfl, st, l, rfl, g2, fun s H3 hs le3 g3 => ?_⟩
    refine ⟨_, rfl, st, l, rfl, g3, fun r ns H4 hn le4 g4 hr4 => ?_⟩
    have hd4 : H4 d = some (.dK kvs) := le4 d _ (g.ne hd).1 (le3 d _ (g.ne hd).1 hd2)
    have hk4 : RowsOk H4 kvs := (hk.mono (Tk.le g2 le3)).mono (Tk.le g3 le4)
    refine ⟨_, rfl, _, rfl, d, _, rfl, DPut.k (k := Sum.inr s) hd4 (small1000 (by omega)), ?_⟩
    have tk : Tk H4 (upd H4 d (.dK (putK kvs (Sum.inr s) (.ref r)))) := Tk.put _ fun xs e => by
      rw [hd4] at e
      cases e
    refine ⟨putK kvs (Sum.inr s) (.ref r), _, _, rfl, upd_same, Nat.le_trans (put_len _ _ _) (by omega), (hk4.put hs hn ?_).mono tk, ((le2.trans le3).trans le4).mut hd, g4.put (g.ne hd)⟩
    exact .tup hr4 (TDs.ints ns)
  · rintro σ H2 ⟨kvs, y3, y4, rfl, hd2, hl, hk, le2, g2⟩
    obtain ⟨ks, eks, nks⟩ := hk.strs
    have lks : ks.length = kvs.length := by
      have h := congrArg List.length eks
      rw [List.length_map, List.length_map] at h
      exact h.symm
    refine ⟨_, rfl, d, kvs, ks, rfl, .inl hd2, eks, by omega, fun ys p hp hsort hpn => ?_⟩
    refine ⟨p, rfl, ⟨_, SqL.of upd_same⟩, fun D hD => ?_⟩
    have npd : d ≠ p := ne_of_none hd2 hpn
    have npD : p ≠ D := ne_of_none upd_same hD
    have hHD : H2 D = none := by
      rw [upd_ne npD.symm] at hD
      exact hD
    have ndD : d ≠ D := ne_of_none hd2 hHD
    have s3 : Same H2 (upd (upd H2 p (.lst (ys.map V.str))) D (.lst [])) := (same_new hpn _).trans (same_new hD _)
    refine lc_list (K := K) (a := p) (xs := ys.map V.str) (fun i H' => ∃ (vs : List V) (tb : List (Str × List Int)), H' D = some (.lst vs) ∧ TDs H' vs (tb.map pairD) ∧ tb.map (·.1) = ys.take i ∧ (∀ p ∈ tb, KeyOk p.1 ∧ RowOk p.2) ∧ Le st H H' ∧ Good st l H' ∧ H' d = some (.dK kvs) ∧ RowsOk H' kvs ∧ H' p = some (.lst (ys.map V.str))) ?_ ?_ ?_ ?_
    · exact ⟨[], [], upd_same, .nil, rfl, fun p hp => (by cases hp), le2.trans (Le.of s3), g2.same s3, s3 _ _ hd2, hk.mono (Tk.same s3), by rw [upd_ne npD]; exact upd_same⟩
    · rintro i H' hi ⟨vs, tb, _, _, _, _, _, _, _, _, h⟩
      exact SqL.of h
    · rintro i x H' hi ⟨vs, tb, hD', hT, et, hok, le', g', hd', hk', hp'⟩
      obtain ⟨y, hy, rfl⟩ : ∃ y, ys[i]? = some y ∧ x = .str y := by
        rw [List.getElem?_map] at hi
        cases e : ys[i]? with
        | none =>
          rw [e] at hi
          cases hi
        | some y =>
          rw [e] at hi
          exact ⟨y, rfl, (Option.some.inj hi).symm⟩
      have hyk : (Sum.inr y : Key) ∈ kvs.map (·.1) := by
        rw [eks]
        exact List.mem_map.mpr ⟨y, hp.mem_iff.mp (List.mem_of_getElem? hy), rfl⟩
      obtain ⟨v, hv, hm⟩ := val_mem hyk
      obtain ⟨s0, ns, e1, h2, h3, h4⟩ := hk'.2 _ hm
      have e1' : y = s0 := Sum.inr.inj e1
      subst e1'
      refine ⟨rfl, ?_⟩
      refine ⟨_, rfl, _, rfl, _, rfl, d, v, rfl, (by rw [← hv]; exact DGet.k (k := Sum.inr y) hd'), by show 2 ≤ sizeLine; decide, fun t ht => ?_⟩
      have nDt : D ≠ t := ne_of_none hD' ht
      have s5 := same_new ht (.tup [.str y, v])
      have hlen : vs.length = tb.length := by
        have h := TDs.length hT
        rw [List.length_map] at h
        exact h
      have htb : tb.length ≤ 30 := by
        have h := congrArg List.length et
        rw [List.length_map, List.length_take] at h
        have h9 := hp.length_eq
        omega
      refine ⟨vs, by rw [upd_ne nDt]; exact hD', small1000 (by omega), ?_⟩
      have tk : Tk H' (upd (upd H' t (.tup [.str y, v])) D (.lst (vs ++ [.ref t]))) := (Tk.same s5).trans (Tk.put _ fun xs e => by
        rw [upd_ne nDt, hD'] at e
        cases e)
      have nDst : D ≠ st ∧ D ≠ l := g2.ne hHD
      refine ⟨vs ++ [.ref t], tb ++ [(y, ns)], upd_same, ?_, ?_, ?_, (le'.trans (Le.of s5)).mut (le2.free g2 hHD), (g'.same s5).put nDst, ?_, hk'.mono tk, ?_⟩
      · rw [List.map_append]
        refine TDs.app (TDs.mono tk _ _ hT) (.cons ?_ .nil)
        refine .tup (xs := [.str y, v]) ?_ (.cons (.str y) (.cons (TD.mono tk _ _ h4) .nil))
        rw [upd_ne nDt.symm]
        exact upd_same
      · rw [List.map_append, et, List.take_add_one, hy]
        rfl
      · intro p hp
        rw [List.mem_append] at hp
        rcases hp with hp | hp
        · exact hok p hp
        · have e : p = (y, ns) := by simpa using hp
          rw [e]
          exact ⟨h2, h3⟩
      · rw [upd_ne ndD]
        exact s5 _ _ hd'
      · rw [upd_ne npD]
        exact s5 _ _ hp'
    · rintro H' ⟨vs, tb, hD', hT, et, hok, le', g', hd', hk', hp'⟩
      rw [List.length_map, List.take_length] at et
      have hlen : tb.length = ys.length := by
        have h := congrArg List.length et
        rw [List.length_map] at h
        exact h
      have h9 := hp.length_eq
      refine q D vs tb H' ⟨by rw [et]; exact asc hsort (hp.nodup_iff.mpr nks), hok⟩ (by omega) (le2.free g2 hHD) le' g' hD' hT
end
end RR

namespace RR
open PySem PySem.Spec PyProof.Rows L2
abbrev sHasSigns : Stmt := topS 6
abbrev sIsKey : Stmt := topS 7
abbrev sIsRow : Stmt := topS 8
abbrev sIsTable : Stmt := topS 9
abbrev Tab := List (Str × List Int)
/-! ### data that can be compared -/
def Sh (n : Nat) (d : PyData) : Prop := d.canLay0 = true ∧ d.depth ≤ n
theorem all_lay : ∀ xs : List PyData, (∀ x ∈ xs, x.canLay0 = true) → PyData.canLayAll0 xs = true
  | [], _ => rfl
  | x :: xs, h => by
    show (x.canLay0 && PyData.canLayAll0 xs) = true
    rw [h x List.mem_cons_self, all_lay xs fun y hy => h y (List.mem_cons_of_mem _ hy)]
    rfl
theorem all_depth {n : Nat} : ∀ xs : List PyData, (∀ x ∈ xs, x.depth ≤ n) → PyData.depthAll xs ≤ n
  | [], _ => Nat.zero_le _
  | x :: xs, h => by
    show max x.depth (PyData.depthAll xs) ≤ n
    exact Nat.max_le.mpr ⟨h x List.mem_cons_self, all_depth xs fun y hy => h y (List.mem_cons_of_mem _ hy)⟩
theorem Sh.list {n : Nat} {xs : List PyData} (h : ∀ x ∈ xs, Sh n x) : Sh (n + 1) (.list xs) := ⟨all_lay xs fun x hx => (h x hx).1, Nat.succ_le_succ (all_depth xs fun x hx => (h x hx).2)⟩
theorem Sh.tuple {n : Nat} {xs : List PyData} (h : ∀ x ∈ xs, Sh n x) : Sh (n + 1) (.tuple xs) := ⟨all_lay xs fun x hx => (h x hx).1, Nat.succ_le_succ (all_depth xs fun x hx => (h x hx).2)⟩
theorem Sh.int {n : Nat} (i : Int) : Sh n (.int i) := ⟨rfl, Nat.zero_le _⟩
theorem Sh.non {n : Nat} : Sh n .none := ⟨rfl, Nat.zero_le _⟩
theorem let_ok : ∀ c ∈ letS.cps.toList, c < 128 := by decide +kernel
theorem Sh.str {n : Nat} {s : Str} (h : ∀ c ∈ s.cps.toList, c < 128) : Sh n (.str s) := by
  refine ⟨?_, Nat.zero_le _⟩
  show s.cps.all (· < 0x110000) = true
  rw [← Array.all_toList, List.all_eq_true]
  intro x hx
  exact decide_eq_true (Nat.lt_trans (h x hx) (by decide))
theorem Sh.key {n : Nat} {s : Str} (h : KeyOk s) : Sh n (.str s) := Sh.str fun c hc => let_ok c (h.2.2 c hc)
theorem Sh.row (n : Nat) (ns : List Int) : Sh (n + 1) (rowD ns) := Sh.tuple fun x hx => by
  obtain ⟨i, _, rfl⟩ := List.mem_map.mp hx
  exact Sh.int i
theorem Sh.pair {n : Nat} {p : Str × List Int} (h : KeyOk p.1) : Sh (n + 2) (pairD p) := Sh.tuple fun x hx => by
  rcases List.mem_cons.mp hx with e | e
  · rw [e]
    exact Sh.key h
  · have e2 : x = rowD p.2 := by simpa using e
    rw [e2]
    exact Sh.row n _
theorem Sh.tab {n : Nat} {tb : List (Str × List Int)} (h : ∀ p ∈ tb, KeyOk p.1) : Sh (n + 3) (.list (tb.map pairD)) := Sh.list fun x hx => by
  obtain ⟨p, hp, rfl⟩ := List.mem_map.mp hx
  exact Sh.pair (h p hp)
theorem Sh.mono {n m : Nat} {d : PyData} (h : Sh n d) (k : n ≤ m) : Sh m d := ⟨h.1, Nat.le_trans h.2 k⟩
theorem Sh.ok {n : Nat} {d : PyData} (h : Sh n d) (k : n ≤ 64) : SeqAt.shaped d = true := by
  unfold SeqAt.shaped
  rw [h.1, decide_eq_true (Nat.le_trans h.2 k)]
  rfl
theorem Sh.refl {n : Nat} {d : PyData} (h : Sh n d) : PyData.eqv d d = true := SeqAt.eqv_refl d h.1
/-! ### what data is like -/
theorem TD.un {H : Hp} {v : V} {ds : List PyData} (h : TD H v (.tuple ds)) : ∃ a xs, v = .ref a ∧ H a = some (.tup xs) ∧ TDs H xs ds := by
  cases h with
  | tup h1 h2 => exact ⟨_, _, rfl, h1, h2⟩
theorem TD.str_eq {H : Hp} {v : V} {s : Str} (h : TD H v (.str s)) : v = .str s := by
  cases h with
  | str => rfl
theorem TD.int_eq {H : Hp} {v : V} {i : Int} (h : TD H v (.int i)) : v = .int i := by
  cases h with
  | int => rfl
theorem TDs.un {H : Hp} {vs : List V} {d : PyData} {ds : List PyData} (h : TDs H vs (d :: ds)) : ∃ v ws, vs = v :: ws ∧ TD H v d ∧ TDs H ws ds := by
  cases h with
  | cons h1 h2 => exact ⟨_, _, rfl, h1, h2⟩
theorem TDs.un0 {H : Hp} {vs : List V} (h : TDs H vs []) : vs = [] := by
  cases h with
  | nil => rfl
theorem TD.pair {H : Hp} {v : V} {p : Str × List Int} (h : TD H v (pairD p)) : ∃ a r, v = .ref a ∧ H a = some (.tup [.str p.1, r]) ∧ TD H r (rowD p.2) := by
  obtain ⟨a, xs, rfl, h1, h2⟩ := TD.un h
  obtain ⟨x, ys, rfl, h3, h4⟩ := h2.un
  obtain ⟨r, zs, rfl, h5, h6⟩ := h4.un
  have e := h6.un0
  subst e
  have e2 := h3.str_eq
  subst e2
  exact ⟨a, r, rfl, h1, h5⟩
theorem row_un {H : Hp} {v : V} {ns : List Int} (h : TD H v (rowD ns)) : ∃ a, v = .ref a ∧ H a = some (.tup (ns.map V.int)) := by
  obtain ⟨a, xs, rfl, h1, h2⟩ := h.un
  refine ⟨a, rfl, ?_⟩
  have e : ∀ {vs : List V} {ns : List Int}, TDs H vs (ns.map PyData.int) → vs = ns.map V.int := by
    intro vs ns
    induction ns generalizing vs with
    | nil => exact fun h => h.un0
    | cons n r ih =>
      intro h
      obtain ⟨v, ws, rfl, h3, h4⟩ := h.un
      rw [h3.int_eq, ih h4]
      rfl
  rw [h1, e h2]
theorem at_of {α : Type} {xs : List α} {n : Int} (h0 : 0 ≤ n) {x : α} (h : xs[n.toNat]? = some x) : atI xs n = some x := by
  have e : ((n.toNat : Nat) : Int) = n := by omega
  have q : atI xs ((n.toNat : Nat) : Int) = some x := atI_nat h
  rw [e] at q
  exact q
/-! ### what a table is -/
def keyB (s : Str) : Bool := (decide (1 ≤ s.length) && decide (s.length ≤ 8)) && s.cps.toList.all fun c => decide (c ∈ letS.cps.toList)
def rowB (ns : List Int) : Bool := (decide (1 ≤ ns.length) && decide (ns.length ≤ 3)) && ns.all fun n => decide (0 ≤ n) && decide (n ≤ 65535)
def pairsUp : List Str → List Bool
  | x :: y :: r => decide (x.cps.toList < y.cps.toList) :: pairsUp (y :: r)
  | _ => []
def ascB (ks : List Str) : Bool := (pairsUp ks).all id
def tabB (tb : Tab) : Bool := decide (tb.length ≤ 100) && ((tb.all fun p => keyB p.1 && rowB p.2) && ascB (tb.map (·.1)))
theorem pairsUp_len : ∀ ks : List Str, (pairsUp ks).length = ks.length - 1
  | [] => rfl
  | [_] => rfl
  | x :: y :: r => by
    show (pairsUp (y :: r)).length + 1 = (y :: r).length + 1 - 1
    rw [pairsUp_len (y :: r)]
    show (r.length + 1 - 1) + 1 = r.length + 1 + 1 - 1
    omega
theorem pairsUp_get : ∀ (ks : List Str) (i : Nat) (x y : Str), ks[i]? = some x → ks[i + 1]? = some y → (pairsUp ks)[i]? = some (decide (x.cps.toList < y.cps.toList))
  | [], _, _, _, h, _ => by simp at h
  | [_], 0, _, _, _, h => by simp at h
  | [_], i + 1, _, _, h, _ => by simp at h
  | a :: b :: r, 0, x, y, h, h2 => by
    have e1 : a = x := Option.some.inj h
    have e2 : b = y := Option.some.inj h2
    rw [← e1, ← e2]
    rfl
  | a :: b :: r, i + 1, x, y, h, h2 => pairsUp_get (b :: r) i x y h h2
theorem ascB_iff : ∀ ks : List Str, ascB ks = true ↔ ks.Pairwise Lt
  | [] => ⟨fun _ => .nil, fun _ => rfl⟩
  | [x] => ⟨fun _ => List.pairwise_singleton _ _, fun _ => rfl⟩
  | x :: y :: r => by
    have ih := ascB_iff (y :: r)
    have e : ascB (x :: y :: r) = (decide (x.cps.toList < y.cps.toList) && ascB (y :: r)) := rfl
    rw [e, Bool.and_eq_true, ih]
    constructor
    · rintro ⟨h1, h2⟩
      have h3' : x.cps.toList < y.cps.toList := of_decide_eq_true h1
      have h3 : Lt x y := h3'
      refine List.pairwise_cons.mpr ⟨fun z hz => ?_, h2⟩
      rcases List.mem_cons.mp hz with e | e
      · rw [e]
        exact h3
      · exact h3.trans (List.rel_of_pairwise_cons h2 e)
    · intro h
      have h3 : x.cps.toList < y.cps.toList := List.rel_of_pairwise_cons h List.mem_cons_self
      exact ⟨decide_eq_true h3, (List.pairwise_cons.mp h).2⟩
theorem keyB_ok {s : Str} (h : KeyOk s) : keyB s = true := by
  unfold keyB
  rw [decide_eq_true h.1, decide_eq_true h.2.1, List.all_eq_true.mpr fun c hc => decide_eq_true (h.2.2 c hc)]
  rfl
theorem rowB_ok {ns : List Int} (h : RowOk ns) : rowB ns = true := by
  unfold rowB
  rw [decide_eq_true h.1, decide_eq_true h.2.1, List.all_eq_true.mpr fun c hc => by rw [decide_eq_true (h.2.2 c hc).1, decide_eq_true (h.2.2 c hc).2]; rfl]
  rfl
theorem tabB_ok {tb : Tab} (h : TabOk tb) (hl : tb.length ≤ 100) : tabB tb = true := by
  unfold tabB
  rw [decide_eq_true hl, (ascB_iff _).mpr h.1, List.all_eq_true.mpr fun p hp => by rw [keyB_ok (h.2 p hp).1, rowB_ok (h.2 p hp).2]; rfl]
  rfl
theorem tabB_asc {tb : Tab} (h : ¬ (tb.map (·.1)).Pairwise Lt) : tabB tb = false := by
  unfold tabB
  rw [show ascB (tb.map (·.1)) = false from Bool.eq_false_iff.mpr fun q => h ((ascB_iff _).mp q), Bool.and_false, Bool.and_false]
theorem tabB_key {tb : Tab} {p : Str × List Int} (hm : p ∈ tb) (h : keyB p.1 = false) : tabB tb = false := by
  unfold tabB
  have e : (tb.all fun p => keyB p.1 && rowB p.2) = false := List.all_eq_false.mpr ⟨p, hm, by rw [h, Bool.false_and]; decide⟩
  rw [e, Bool.false_and, Bool.and_false]
theorem tabB_row {tb : Tab} {p : Str × List Int} (hm : p ∈ tb) (h : rowB p.2 = false) : tabB tb = false := by
  unfold tabB
  have e : (tb.all fun p => keyB p.1 && rowB p.2) = false := List.all_eq_false.mpr ⟨p, hm, by rw [h, Bool.and_false]; decide⟩
  rw [e, Bool.false_and, Bool.and_false]
theorem tabB_len {tb : Tab} (h : ¬ tb.length ≤ 100) : tabB tb = false := by
  unfold tabB
  rw [decide_eq_false h, Bool.false_and]
/-! ### promises -/
def TabSz (tb : Tab) : Prop := tb.length ≤ 1000 ∧ ∀ p ∈ tb, p.1.length ≤ 1000 ∧ p.2.length ≤ 1000
def spIsKey : Sp := fun vs H Q _ => ∃ s : Str, vs = [.str s] ∧ s.length ≤ 1000 ∧ ∀ H', Same H H' → Q (.bl (keyB s)) H'
def spIsRow : Sp := fun vs H Q _ => ∃ (r : Addr) (ns : List Int), vs = [.ref r] ∧ H r = some (.tup (ns.map V.int)) ∧ ns.length ≤ 1000 ∧ ∀ H', Same H H' → Q (.bl (rowB ns)) H'
def spIsTable : Sp := fun vs H Q _ => ∃ (t : Addr) (us : List V) (tb : Tab), vs = [.ref t] ∧ H t = some (.lst us) ∧ TDs H us (tb.map pairD) ∧ TabSz tb ∧ ∀ H', Same H H' → Q (.bl (tabB tb)) H'
def signsB (z : Str) : Bool := z.cps.toList.all fun c => decide (c ∈ letS.cps.toList)
def spHasSigns : Sp := fun vs H Q _ => ∃ s : Str, vs = [.str s] ∧ s.length ≤ 1000 ∧ ∀ H', Same H H' → Q (.bl (signsB s)) H'
theorem scHasSigns : FnScope ["text", "sign"] ["text"] (defScope sHasSigns) := ⟨rfl, rfl, rfl, by decide +kernel, rfl, by decide +kernel, by decide +kernel⟩
theorem scIsKey : FnScope ["text"] ["text"] (defScope sIsKey) := ⟨rfl, rfl, rfl, by decide +kernel, rfl, by decide +kernel, by decide +kernel⟩
theorem scIsRow : FnScope ["numbers", "number"] ["numbers"] (defScope sIsRow) := ⟨rfl, rfl, rfl, by decide +kernel, rfl, by decide +kernel, by decide +kernel⟩
theorem scIsTable : FnScope ["table", "keys", "key", "row", "pair", "following"] ["table"] (defScope sIsTable) := ⟨rfl, rfl, rfl, by decide +kernel, rfl, by decide +kernel, by decide +kernel⟩
section
variable {P : Program} {w : World} {K : PySem.W.Frag} {mg : Str → Option Value} {base : Heap}
theorem ok_has_signs (D : Def K mg "has_key_signs" sHasSigns ["text"]) (mall : mg "all" = none) {t2 : Nat} (mS : mg "KEY_SIGNS" = some (.str letS t2)) : FnOk P w K mg base CX0 1 D.f D.fd ["text"] spHasSigns := by
  refine D.F.ok scHasSigns (fun vs H Q E h => ?_) (fun cdv A outer s H vs Q E hr h => ?_)
  · obtain ⟨z, rfl, _⟩ := h
    rfl
  obtain ⟨z, rfl, hz, q⟩ := h
  refine ⟨_, pss_one (ps_ret (pe_callB (cr_all rfl) (by rfl) mall (by decide +kernel) (pa_cons (pe_lc (own := [("sign", 1)]) (g := gName 1) (by rfl) scHasSigns.nd (pi_str (pv 0))
      (blkOk_by (own := [("sign", 1)]) (N := ["text", "sign"]) (sc := defScope sHasSigns) (by decide +kernel))
      (fun _ _ _ _ _ => pg_name (i := 1) scHasSigns.nd rfl (Or.inl rfl)) (fun _ _ _ _ _ => pts_nil)
      (fun _ _ _ _ _ => pe_cmpR op_in_sign (pv 1) (pe_glob (v := .str letS) rfl mS ⟨_, rfl⟩) rfl)) pa_nil))), ?_⟩
  refine ⟨_, rfl, z, rfl, fun D2 hD => ?_⟩
  refine lc_it walk_str (fun i H' => Same H H' ∧ H' D2 = some (.lst (((z.cps.toList.take i).map fun c => decide (c ∈ letS.cps.toList)).map V.bl))) ⟨same_new hD _, by rw [upd_same]; rfl⟩ (fun _ _ _ _ => trivial) ?_ ?_
  · rintro i x H5 H6 hi ⟨s5, h5⟩ ⟨rfl, c, hc, rfl⟩
    refine ⟨rfl, _, rfl, c, letS, rfl, rfl, _, h5, ?_, ?_⟩
    · rw [List.length_map, List.length_map, List.length_take]
      have := str_len z
      exact small1000 (by omega)
    have hc2 : z.cps.toList[i]? = some c := by
      rw [Array.getElem?_toList]
      exact hc
    refine ⟨fun b o e => ?_, ?_⟩
    · rw [upd_ne (ne_of_none e hD)]
      exact s5 _ _ e
    · rw [upd_same, List.take_add_one, hc2, List.map_append, List.map_append]
      rfl
  · rintro H5 ⟨s5, h5⟩
    have htake : z.cps.toList.take z.cps.size = z.cps.toList := by
      rw [← Array.length_toList, List.take_length]
    rw [htake] at h5
    refine ⟨D2, _, rfl, SqL.of h5, ?_⟩
    have e : signsB z = ((z.cps.toList.map fun c => decide (c ∈ letS.cps.toList)).all id) := by
      rw [List.all_map]
      rfl
    rw [← e]
    exact q _ s5
theorem ok_is_key (D : Def K mg "is_key" sIsKey ["text"]) (DS : Def K mg "has_key_signs" sHasSigns ["text"]) (ml : mg "len" = none) {t1 : Nat} (mL : mg "LONGEST_KEY" = some (.int 8 t1)) (GS : FnOk P w K mg base CX0 1 DS.f DS.fd ["text"] spHasSigns) : FnOk P w K mg base CX0 2 D.f D.fd ["text"] spIsKey := by
  refine D.F.ok scIsKey (fun vs H Q E h => ?_) (fun cdv A outer s H vs Q E hr h => ?_)
  · obtain ⟨z, rfl, _⟩ := h
    rfl
  obtain ⟨z, rfl, hz, q⟩ := h
  refine ⟨_, pss_one (ps_ret (pe_and (pe_chain op_le op_le pe_int (pe_callB call_len_str (by rfl) ml PySem.boot_len (pa_cons (pv 0) pa_nil)) (pe_glob (v := .int 8) rfl mL ⟨_, rfl⟩)) (pe_one (pe_call GS hr (by rfl) DS.m DS.F.kp DS.b .nil pass0 (pa_cons (pv 0) pa_nil))))), ?_⟩
  have hunf : keyB z = ((decide (1 ≤ z.length) && decide (z.length ≤ 8)) && signsB z) := rfl
  refine ⟨_, rfl, z, rfl, small hz, _, _, rfl, rfl, _, rfl, ite2 (fun h1 => ?_) (fun h1 => ?_)⟩
  · have h1' : 1 ≤ z.length := by
      have h2 : (1 : Int) ≤ (z.length : Int) := of_decide_eq_true h1
      omega
    refine ⟨_, _, rfl, rfl, _, rfl, ite2 (fun h2 => ?_) (fun h2 => ?_)⟩
    · have h2' : z.length ≤ 8 := by
        have h3 : (z.length : Int) ≤ 8 := of_decide_eq_true h2
        omega
      refine ⟨_, rfl, z, rfl, hz, fun H' s5 => ?_⟩
      have e : keyB z = signsB z := by
        rw [hunf, decide_eq_true h1', decide_eq_true h2', Bool.true_and, Bool.true_and]
      rw [← e]
      exact q _ s5
    · have e : keyB z = false := by
        have h2' : ¬ z.length ≤ 8 := fun h => h2 (decide_eq_true (by omega))
        rw [hunf, decide_eq_false h2', Bool.and_false, Bool.false_and]
      have h2 : (decide ((z.length : Int) ≤ 8)) = false := Bool.eq_false_iff.mpr h2
      rw [← e]
      exact q _ (Same.refl _)
  · have e : keyB z = false := by
      have h1' : ¬ 1 ≤ z.length := fun h => h1 (decide_eq_true (by omega))
      rw [hunf, decide_eq_false h1', Bool.false_and, Bool.false_and]
    refine ⟨false, rfl, ?_⟩
    show Q (.bl false) H
    rw [← e]
    exact q _ (Same.refl _)
end
end RR

namespace RR
open PySem PySem.Spec PyProof.Rows L2
theorem cut_1 (xs : List V) : cutV xs (some 1) none = xs.drop 1 := by
  unfold cutV
  rw [show HT.sIx xs.length 0 (some 1) = min 1 xs.length from HT.sIx_nat xs.length 0 1, HT.sIx_none]
  cases xs with
  | nil => rfl
  | cons x r =>
    rw [show min 1 (x :: r).length = 1 by
      rw [List.length_cons]
      omega]
    show (List.take ((x :: r).length - 1) r) = r
    rw [List.length_cons, Nat.add_sub_cancel]
    exact List.take_length
/-- two names of a pair -/
abbrev gTwo (K : PySem.W.Frag) (i j : Nat) : TG := gTup K 2 (fun vs σ H Q => ∃ x ws, vs = x :: ws ∧ gName i x σ H fun σ H => ∃ x2 ws2, ws = x2 :: ws2 ∧ gName j x2 σ H fun σ H => ws2 = [] ∧ Q σ H)
theorem TDs.at_pair {H : Hp} {us : List V} {tb : Tab} (hT : TDs H us (tb.map pairD)) {i : Nat} {x : V} (hx : us[i]? = some x) : ∃ p a r, tb[i]? = some p ∧ x = .ref a ∧ H a = some (.tup [.str p.1, .ref r]) ∧ H r = some (.tup (p.2.map V.int)) := by
  obtain ⟨d, hd1, hd2⟩ := TDs.get hT i x hx
  rw [List.getElem?_map] at hd1
  cases e : tb[i]? with
  | none =>
    rw [e] at hd1
    cases hd1
  | some p =>
    rw [e] at hd1
    have e2 : pairD p = d := Option.some.inj hd1
    rw [← e2] at hd2
    obtain ⟨a, r, rfl, ha, hr⟩ := hd2.pair
    obtain ⟨ra, rfl, hra⟩ := row_un hr
    exact ⟨p, a, ra, rfl, rfl, ha, hra⟩
section
variable {P : Program} {w : World} {K : PySem.W.Frag} {mg : Str → Option Value} {base : Heap}
theorem ok_is_row (D : Def K mg "is_row" sIsRow ["numbers"]) (ml : mg "len" = none) (mall : mg "all" = none) {t1 t2 : Nat} (mW : mg "WIDEST_ROW" = some (.int 3 t1)) (mG : mg "GREATEST_NUMBER" = some (.int 65535 t2)) : FnOk P w K mg base CX0 1 D.f D.fd ["numbers"] spIsRow := by
  refine D.F.ok scIsRow (fun vs H Q E h => ?_) (fun cdv A outer s H vs Q E hr h => ?_)
  · obtain ⟨r, ns, rfl, _⟩ := h
    rfl
  obtain ⟨r, ns, rfl, hR, hz, q⟩ := h
  refine ⟨_, pss_one (ps_ret (pe_and (pe_chain op_le op_le pe_int (pe_callB call_len_seq (by rfl) ml PySem.boot_len (pa_cons (pv 0) pa_nil)) (pe_glob (v := .int 3) rfl mW ⟨_, rfl⟩)) (pe_one (pe_callB (cr_all rfl) (by rfl) mall (by decide +kernel) (pa_cons (pe_lc (own := [("number", 1)]) (g := gName 1) (by rfl) scIsRow.nd (pi_tup (pv 0))
      (blkOk_by (own := [("number", 1)]) (N := ["numbers", "number"]) (sc := defScope sIsRow) (by decide +kernel))
      (fun _ _ _ _ _ => pg_name (i := 1) scIsRow.nd rfl (Or.inl rfl)) (fun _ _ _ _ _ => pts_nil)
      (fun _ _ _ _ _ => pe_chain op_le op_le pe_int (pv 1) (pe_glob (v := .int 65535) rfl mG ⟨_, rfl⟩))) pa_nil))))), ?_⟩
  have hunf : rowB ns = ((decide (1 ≤ ns.length) && decide (ns.length ≤ 3)) && ns.all fun n => decide (0 ≤ n) && decide (n ≤ 65535)) := rfl
  have hl : (ns.map V.int).length = ns.length := List.length_map _
  refine ⟨_, rfl, r, _, rfl, .inr (SqT.of hR), _, _, rfl, rfl, _, rfl, ite2 (fun h1 => ?_) (fun h1 => ?_)⟩
  · have h1' : 1 ≤ ns.length := by
      have h2 : (1 : Int) ≤ ((ns.map V.int).length : Int) := of_decide_eq_true h1
      omega
    refine ⟨_, _, rfl, rfl, _, rfl, ite2 (fun h2 => ?_) (fun h2 => ?_)⟩
    · have h2' : ns.length ≤ 3 := by
        have h3 : ((ns.map V.int).length : Int) ≤ 3 := of_decide_eq_true h2
        omega
      refine ⟨_, rfl, r, rfl, ⟨_, SqT.of hR⟩, fun D2 hD => ?_⟩
      refine lc_tup (K := K) (a := r) (xs := ns.map V.int) (fun i H' => Same H H' ∧ H' D2 = some (.lst (((ns.take i).map fun n => decide (0 ≤ n) && decide (n ≤ 65535)).map V.bl))) ⟨same_new hD _, by rw [upd_same]; rfl⟩ ?_ ?_ ?_
      · rintro i H5 _ ⟨s5, _⟩
        exact SqT.of (s5 _ _ hR)
      · rintro i x H5 hx ⟨s5, h5⟩
        rw [List.getElem?_map] at hx
        obtain ⟨n, hn, rfl⟩ : ∃ n, ns[i]? = some n ∧ x = .int n := by
          cases e : ns[i]? with
          | none =>
            rw [e] at hx
            cases hx
          | some n =>
            rw [e] at hx
            exact ⟨n, rfl, (Option.some.inj hx).symm⟩
        have fin : ∀ b : Bool, b = (decide (0 ≤ n) && decide (n ≤ 65535)) → ∃ acc, H5 D2 = some (.lst acc) ∧ acc.length < sizeLine ∧ (Same H (upd H5 D2 (.lst (acc ++ [.bl b]))) ∧ upd H5 D2 (.lst (acc ++ [.bl b])) D2 = some (.lst (((ns.take (i + 1)).map fun n => decide (0 ≤ n) && decide (n ≤ 65535)).map V.bl))) := fun b hb => by
          refine ⟨_, h5, ?_, fun b o e => ?_, ?_⟩
          · rw [List.length_map, List.length_map, List.length_take]
            exact small1000 (by omega)
          · rw [upd_ne (ne_of_none e hD)]
            exact s5 _ _ e
          · rw [upd_same, List.take_add_one, hn, List.map_append, List.map_append, hb]
            rfl
        refine ⟨rfl, _, rfl, _, _, rfl, rfl, _, rfl, ite2 (fun h3 => ?_) (fun h3 => ?_)⟩
        · refine ⟨_, _, rfl, rfl, fin _ ?_⟩
          have h3' : decide (0 ≤ n) = true := h3
          rw [h3', Bool.true_and]
        · refine fin _ ?_
          have h3' : decide (0 ≤ n) = false := Bool.eq_false_iff.mpr h3
          rw [h3', Bool.false_and]
      · rintro H5 ⟨s5, h5⟩
        rw [hl, List.take_length] at h5
        refine ⟨D2, _, rfl, SqL.of h5, ?_⟩
        have e : rowB ns = ((ns.map fun n => decide (0 ≤ n) && decide (n ≤ 65535)).all id) := by
          rw [hunf, decide_eq_true h1', decide_eq_true h2', List.all_map]
          rfl
        rw [← e]
        exact q _ s5
    · have e : rowB ns = false := by
        have h2' : ¬ ns.length ≤ 3 := fun h => h2 (decide_eq_true (by omega))
        rw [hunf, decide_eq_false h2', Bool.and_false, Bool.false_and]
      rw [← e]
      exact q _ (Same.refl _)
  · have e : rowB ns = false := by
      have h1' : ¬ 1 ≤ ns.length := fun h => h1 (decide_eq_true (by omega))
      rw [hunf, decide_eq_false h1', Bool.false_and, Bool.false_and]
    refine ⟨false, rfl, ?_⟩
    show Q (.bl false) H
    rw [← e]
    exact q _ (Same.refl _)
theorem ok_is_table (D : Def K mg "is_table" sIsTable ["table"]) (DK : Def K mg "is_key" sIsKey ["text"]) (DR : Def K mg "is_row" sIsRow ["numbers"]) (ml : mg "len" = none) (mall : mg "all" = none) (mz : mg "zip" = none) {t1 : Nat} (mM : mg "MOST_PAIRS" = some (.int 100 t1))
    (GK : FnOk P w K mg base CX0 2 DK.f DK.fd ["text"] spIsKey) (GR : FnOk P w K mg base CX0 1 DR.f DR.fd ["numbers"] spIsRow) : FnOk P w K mg base CX0 3 D.f D.fd ["table"] spIsTable := by
  refine D.F.ok scIsTable (fun vs H Q E h => ?_) (fun cdv A outer s H vs Q E hr h => ?_)
  · obtain ⟨t, us, tb, rfl, _⟩ := h
    rfl
  obtain ⟨t, us, tb, rfl, ht, hT, hsz, q⟩ := h
  have hl := hT.length
  rw [List.length_map] at hl
  have h1000 := hsz.1
  refine ⟨_, pss_cons (ps_if (pt_cmpR op_gt (pe_callB call_len_seq (by rfl) ml PySem.boot_len (pa_cons (pv 0) pa_nil)) (pe_glob (v := .int 100) rfl mM ⟨_, rfl⟩) (nomark _)) (pss_one (ps_ret pe_bl)) pss_nil) <|
    pss_cons (ps_if (pt_not (pt_val (pe_callB (cr_all rfl) (by rfl) mall (by decide +kernel) (pa_cons (pe_lc (own := [("key", 2), ("row", 3)]) (g := gTwo K 2 3) (by rfl) scIsTable.nd (pi_list (pv 0))
      (blkOk_by (own := [("key", 2), ("row", 3)]) (N := ["table", "keys", "key", "row", "pair", "following"]) (sc := defScope sIsTable) (by decide +kernel))
      (fun _ _ _ _ _ => pg_tup (by rfl) (pgs_cons (pg_name (i := 2) scIsTable.nd rfl (Or.inl rfl)) (pgs_cons (pg_name (i := 3) scIsTable.nd rfl (Or.inl rfl)) pgs_nil))) (fun _ _ _ _ _ => pts_nil)
      (fun _ _ _ _ _ => pe_and (pe_call GK hr (by rfl) DK.m DK.F.kp DK.b .nil pass0 (pa_cons (pv 2) pa_nil)) (pe_one (pe_call GR (hr.mono (by decide)) (by rfl) DR.m DR.F.kp DR.b .nil pass0 (pa_cons (pv 3) pa_nil))))) pa_nil)))) (pss_one (ps_ret pe_bl)) pss_nil) <|
    pss_cons (ps_setLc (i := 1) (own := [("pair", 4)]) (g := gName 4) (by rfl) scIsTable.nd rfl rfl (sw_true rfl rfl rfl (by decide +kernel)) (pi_list (pv 0))
      (blkOk_by (own := [("pair", 4)]) (N := ["table", "keys", "key", "row", "pair", "following"]) (sc := defScope sIsTable) (by decide +kernel))
      (fun _ _ _ _ _ => pg_name (i := 4) scIsTable.nd rfl (Or.inl rfl)) (fun _ _ _ _ _ => pts_nil)
      (fun _ _ _ _ _ => pe_ix (r := rIxT K) ix_tup (pv 4) pe_int (fun _ _ => rfl))) <|
    pss_one (ps_ret (pe_callB (cr_all rfl) (by rfl) mall (by decide +kernel) (pa_cons (pe_lc (own := [("key", 2), ("following", 5)]) (g := gTwo K 2 5) (by rfl) scIsTable.nd (pi_zip (by rfl) mz (pa_cons (pv 1) (pa_cons (pe_slice sl_list (pv 1) (po_some pe_int) po_none) pa_nil)))
      (blkOk_by (own := [("key", 2), ("following", 5)]) (N := ["table", "keys", "key", "row", "pair", "following"]) (sc := defScope sIsTable) (by decide +kernel))
      (fun _ _ _ _ _ => pg_tup (by rfl) (pgs_cons (pg_name (i := 2) scIsTable.nd rfl (Or.inl rfl)) (pgs_cons (pg_name (i := 5) scIsTable.nd rfl (Or.inl rfl)) pgs_nil))) (fun _ _ _ _ _ => pts_nil)
      (fun _ _ _ _ _ => pe_cmpR op_lt_str (pv 2) (pv 5) (nomark _))) pa_nil))), ?_⟩
  have hunf : tabB tb = (decide (tb.length ≤ 100) && ((tb.all fun p => keyB p.1 && rowB p.2) && ascB (tb.map (·.1)))) := rfl
  refine ⟨_, rfl, t, us, rfl, .inl (SqL.of ht), _, _, rfl, rfl, _, rfl, ite2 (fun h1 => ?_) (fun h1 => ?_)⟩
  · have h1' : ¬ tb.length ≤ 100 := by
      have h2 : (100 : Int) < (us.length : Int) := of_decide_eq_true h1
      omega
    have e : tabB tb = false := tabB_len h1'
    show Q (.bl false) H
    rw [← e]
    exact q _ (Same.refl _)
  have h100 : tb.length ≤ 100 := by
    have h2 : ¬ (100 : Int) < (us.length : Int) := of_decide_eq_false (Bool.eq_false_iff.mpr h1)
    omega
  -- all keys and rows
  refine ⟨_, rfl, t, rfl, ⟨_, SqL.of ht⟩, fun D1 hD1 => ?_⟩
  refine lc_list (K := K) (a := t) (xs := us) (fun i H' => Same H H' ∧ H' D1 = some (.lst (((tb.take i).map fun p => keyB p.1 && rowB p.2).map V.bl))) ⟨same_new hD1 _, by rw [upd_same]; rfl⟩ ?_ ?_ ?_
  · rintro i H5 _ ⟨s5, _⟩
    exact SqL.of (s5 _ _ ht)
  · rintro i x H5 hx ⟨s5, h5⟩
    obtain ⟨p, a, r, hp, rfl, ha, hra⟩ := TDs.at_pair hT hx
    have hpm := hsz.2 p (List.mem_of_getElem? hp)
    have fin : ∀ (b : Bool) (H6 : Hp), Same H5 H6 → b = (keyB p.1 && rowB p.2) → ∃ acc, H6 D1 = some (.lst acc) ∧ acc.length < sizeLine ∧ (Same H (upd H6 D1 (.lst (acc ++ [.bl b]))) ∧ upd H6 D1 (.lst (acc ++ [.bl b])) D1 = some (.lst (((tb.take (i + 1)).map fun p => keyB p.1 && rowB p.2).map V.bl))) := fun b H6 s6 hb => by
      refine ⟨_, s6 _ _ h5, ?_, fun b o e => ?_, ?_⟩
      · rw [List.length_map, List.length_map, List.length_take]
        exact small1000 (by omega)
      · rw [upd_ne (ne_of_none e hD1)]
        exact s6 _ _ (s5 _ _ e)
      · rw [upd_same, List.take_add_one, hp, List.map_append, List.map_append, hb]
        rfl
    refine ⟨a, _, rfl, SqT.of (s5 _ _ ha), rfl, _, _, rfl, _, _, rfl, rfl, rfl, _, rfl, p.1, rfl, hpm.1, fun H6 s6 => ⟨keyB p.1, rfl, ?_⟩⟩
    cases ek : keyB p.1 with
    | true =>
      refine iteT ?_
      refine ⟨_, rfl, r, p.2, rfl, s6 _ _ (s5 _ _ hra), hpm.2, fun H7 s7 => fin _ H7 (s6.trans s7) ?_⟩
      rw [ek, Bool.true_and]
    | false =>
      refine iteF ?_
      exact fin false H6 s6 (by rw [ek, Bool.false_and])
  rintro H5 ⟨s5, h5⟩
  rw [hl, List.take_length] at h5
  refine ⟨D1, _, rfl, SqL.of h5, _, rfl, ?_⟩
  have eall : ((tb.map fun p => keyB p.1 && rowB p.2).all id) = (tb.all fun p => keyB p.1 && rowB p.2) := by
    rw [List.all_map]
    rfl
  rw [eall]
  cases ea : (tb.all fun p => keyB p.1 && rowB p.2) with
  | false =>
    refine iteT ?_
    have e : tabB tb = false := by rw [hunf, ea, Bool.false_and, Bool.and_false]
    show Q (.bl false) H5
    rw [← e]
    exact q _ s5
  | true =>
  refine iteF ?_
  have hT5 := TDs.mono (Tk.same s5) _ _ hT
  -- keys
  refine ⟨_, rfl, t, rfl, ⟨_, SqL.of (s5 _ _ ht)⟩, fun D2 hD2 => ?_⟩
  refine lc_list (K := K) (a := t) (xs := us) (fun i H' => Same H5 H' ∧ H' D2 = some (.lst (((tb.take i).map (·.1)).map V.str))) ⟨same_new hD2 _, by rw [upd_same]; rfl⟩ ?_ ?_ ?_
  · rintro i H6 _ ⟨s6, _⟩
    exact SqL.of (s6 _ _ (s5 _ _ ht))
  · rintro i x H6 hx ⟨s6, h6⟩
    obtain ⟨p, a, r, hp, rfl, ha, hra⟩ := TDs.at_pair hT5 hx
    refine ⟨rfl, _, rfl, a, _, 0, _, rfl, rfl, SqT.of (s6 _ _ ha), atI_nat (j := 0) rfl, _, h6, ?_, fun b o e => ?_, ?_⟩
    · rw [List.length_map, List.length_map, List.length_take]
      exact small1000 (by omega)
    · rw [upd_ne (ne_of_none e hD2)]
      exact s6 _ _ e
    · rw [upd_same, List.take_add_one, hp, List.map_append, List.map_append]
      rfl
  rintro H6 ⟨s6, h6⟩
  rw [hl, List.take_length] at h6
  -- zip(keys, keys[1:])
  refine ⟨_, rfl, _, rfl, 1, rfl, D2, _, rfl, SqL.of h6, fun D3 hD3 => ?_⟩
  have s7 := same_new hD3 (.lst (cutV ((tb.map (·.1)).map V.str) (some 1) none))
  have h7 : upd H6 D3 (.lst (cutV ((tb.map (·.1)).map V.str) (some 1) none)) D3 = some (.lst (((tb.map (·.1)).drop 1).map V.str)) := by
    rw [upd_same, cut_1, List.map_drop]
  have h67 := s7 _ _ h6
  generalize upd H6 D3 (.lst (cutV ((tb.map (·.1)).map V.str) (some 1) none)) = H7 at s7 h7 h67
  refine ⟨D2, D3, _, _, rfl, SqL.of h67, SqL.of h7, fun D4 hD4 => ?_⟩
  have s57 := s6.trans s7
  refine lc_it (walk_zip (n := tb.length - 1) (xs := (tb.map (·.1)).map V.str) (ys := ((tb.map (·.1)).drop 1).map V.str) (by simp only [List.length_map, List.length_drop]; omega)) (fun i H' => Same H7 H' ∧ H' D4 = some (.lst (((pairsUp (tb.map (·.1))).take i).map V.bl))) ⟨same_new hD4 _, by rw [upd_same]; rfl⟩ (fun i H' _ ⟨s, _⟩ => ⟨SqL.of (s _ _ h67), SqL.of (s _ _ h7)⟩) ?_ ?_
  · rintro i v H8 H9 hi ⟨s8, h8⟩ ⟨T, x, y, rfl, hTn, rfl, hx, hy⟩
    have g1 : i < (tb.map (·.1)).length := by
      rw [List.length_map]
      omega
    have g2 : i + 1 < (tb.map (·.1)).length := by
      rw [List.length_map]
      omega
    have ex : x = .str (tb.map (·.1))[i] := by
      have hx2 : ((tb.map (·.1)).map V.str)[i]? = some x := hx
      rw [List.getElem?_map, List.getElem?_eq_getElem g1] at hx2
      exact (Option.some.inj hx2).symm
    have ey : y = .str (tb.map (·.1))[i + 1] := by
      have hy2 : (((tb.map (·.1)).drop 1).map V.str)[i]? = some y := hy
      rw [List.getElem?_map, List.getElem?_drop, Nat.add_comm 1 i, List.getElem?_eq_getElem g2] at hy2
      exact (Option.some.inj hy2).symm
    subst ex ey
    have nD : D4 ≠ T := ne_of_none h8 hTn
    have s9 := same_new hTn (.tup [.str (tb.map (·.1))[i], .str (tb.map (·.1))[i + 1]])
    refine ⟨T, _, rfl, SqT.of upd_same, rfl, _, _, rfl, _, _, rfl, rfl, rfl, _, rfl, _, rfl, _, _, rfl, rfl, _, s9 _ _ h8, ?_, fun b o e => ?_, ?_⟩
    · rw [List.length_map, List.length_take, pairsUp_len, List.length_map]
      exact small1000 (by omega)
    · rw [upd_ne (ne_of_none e hD4)]
      exact s9 _ _ (s8 _ _ e)
    · rw [upd_same, List.take_add_one, pairsUp_get _ i _ _ (List.getElem?_eq_getElem g1) (List.getElem?_eq_getElem g2), List.map_append]
      rfl
  · rintro H8 ⟨s8, h8⟩
    have e8 : (pairsUp (tb.map (·.1))).take (tb.length - 1) = pairsUp (tb.map (·.1)) := List.take_of_length_le (by rw [pairsUp_len, List.length_map]; exact Nat.le_refl _)
    rw [e8] at h8
    refine ⟨D4, _, rfl, SqL.of h8, ?_⟩
    have e : tabB tb = (pairsUp (tb.map (·.1))).all id := by
      rw [hunf, ea, decide_eq_true h100, Bool.true_and, Bool.true_and]
      rfl
    rw [← e]
    exact q _ (s5.trans (s57.trans s8))
end
end RR

namespace RR
open PySem PySem.Spec PyProof.Rows L2
/-! ### parts of lists -/
def cutL {α : Type} (xs : List α) (lo hi : Option Int) : List α := (xs.drop (HT.sIx xs.length 0 lo)).take (HT.sIx xs.length xs.length hi - HT.sIx xs.length 0 lo)
theorem cutL_map {α β : Type} (f : α → β) (xs : List α) (lo hi : Option Int) : cutL (xs.map f) lo hi = (cutL xs lo hi).map f := by
  unfold cutL
  rw [List.length_map, List.map_take, List.map_drop]
theorem cutV_L (xs : List V) (lo hi : Option Int) : cutV xs lo hi = cutL xs lo hi := rfl
theorem cutL_mem {α : Type} {xs : List α} {lo hi : Option Int} {x : α} (h : x ∈ cutL xs lo hi) : x ∈ xs := List.mem_of_mem_drop (List.mem_of_mem_take h)
theorem cutL_len {α : Type} (xs : List α) (lo hi : Option Int) : (cutL xs lo hi).length ≤ xs.length := by
  unfold cutL
  rw [List.length_take, List.length_drop]
  omega
theorem six_int (n d : Nat) {v : Int} (h : 0 ≤ v) : HT.sIx n d (some v) = min v.toNat n := by
  have e : ((v.toNat : Nat) : Int) = v := by omega
  rw [← e, HT.sIx_nat, e]
theorem cutL_to {α : Type} (xs : List α) {v : Int} (h : 0 ≤ v) : cutL xs none (some v) = xs.take v.toNat := by
  unfold cutL
  rw [HT.sIx_none, six_int _ _ h, List.drop_zero, Nat.sub_zero]
  by_cases hm : v.toNat ≤ xs.length
  · rw [Nat.min_eq_left hm]
  · rw [Nat.min_eq_right (by omega), List.take_length, List.take_of_length_le (by omega)]
theorem cutL_from {α : Type} (xs : List α) {v : Int} (h : 0 ≤ v) : cutL xs (some v) none = xs.drop v.toNat := by
  unfold cutL
  rw [HT.sIx_none, six_int _ _ h]
  by_cases hm : v.toNat ≤ xs.length
  · rw [Nat.min_eq_left hm, List.take_of_length_le (by rw [List.length_drop]; exact Nat.le_refl _)]
  · rw [Nat.min_eq_right (by omega), List.drop_eq_nil_of_le (Nat.le_refl _), List.drop_eq_nil_of_le (by omega), List.take_nil]
theorem cutL_one {α : Type} (xs : List α) {v : Int} (h : 1 ≤ v) (hv : v ≤ xs.length) : cutL xs (some (v - 1)) (some v) = (xs.drop (v - 1).toNat).take 1 := by
  unfold cutL
  rw [six_int _ _ (by omega), six_int _ _ (by omega), Nat.min_eq_left (by omega), Nat.min_eq_left (by omega)]
  congr 1
  omega
theorem TDs.cut {H : Hp} {us : List V} {ds : List PyData} (h : TDs H us ds) (lo hi : Option Int) : TDs H (cutL us lo hi) (cutL ds lo hi) := by
  have dr : ∀ {us : List V} {ds : List PyData} (n : Nat), TDs H us ds → TDs H (us.drop n) (ds.drop n) := by
    intro us ds n h
    induction n generalizing us ds with
    | zero => exact h
    | succ n ih =>
      cases h with
      | nil => exact .nil
      | cons h1 h2 => exact ih h2
  have tk : ∀ {us : List V} {ds : List PyData} (n : Nat), TDs H us ds → TDs H (us.take n) (ds.take n) := by
    intro us ds n h
    induction n generalizing us ds with
    | zero => exact .nil
    | succ n ih =>
      cases h with
      | nil => exact .nil
      | cons h1 h2 => exact .cons h1 (ih h2)
  unfold cutL
  rw [h.length]
  exact tk _ (dr _ h)
/-! ### tables that stand, and wrong ones -/
def TA (st : Addr) (H : Hp) (p : Addr) (tb : Tab) : Prop := p ≠ st ∧ ∃ us, H p = some (.lst us) ∧ TDs H us (tb.map pairD)
theorem TA.same {st p : Addr} {H H' : Hp} {tb : Tab} (h : TA st H p tb) (s : Same H H') : TA st H' p tb := by
  obtain ⟨h1, us, h2, h3⟩ := h
  exact ⟨h1, us, s _ _ h2, TDs.mono (Tk.same s) _ _ h3⟩
theorem TA.le {st l p : Addr} {H H' : Hp} {tb : Tab} (h : TA st H p tb) (g : Good st l H) (s : Le st H H') : TA st H' p tb := by
  obtain ⟨h1, us, h2, h3⟩ := h
  exact ⟨h1, us, s _ _ h1 h2, TDs.mono (Tk.le g s) _ _ h3⟩
def Fine (tb : Tab) : Prop := tb.length ≤ 100 ∧ ∀ p ∈ tb, (p.1.length ≤ 100 ∧ ∀ c ∈ p.1.cps.toList, c < 128) ∧ p.2.length ≤ 100
theorem Fine.sz {tb : Tab} (h : Fine tb) : TabSz tb := ⟨by have := h.1; omega, fun p hp => ⟨by have := (h.2 p hp).1.1; omega, by have := (h.2 p hp).2; omega⟩⟩
theorem Fine.sh {tb : Tab} (h : Fine tb) : Sh 3 (.list (tb.map pairD)) := Sh.list fun x hx => by
  obtain ⟨p, hp, rfl⟩ := List.mem_map.mp hx
  refine Sh.tuple fun y hy => ?_
  rcases List.mem_cons.mp hy with e | e
  · rw [e]
    exact Sh.str (h.2 p hp).1.2
  · have e2 : y = rowD p.2 := by simpa using e
    rw [e2]
    exact Sh.row 0 _
def Wr (tb rows : Tab) : Prop := rows = tb ∨ tabB rows = false
theorem lt_head {tb : Tab} {x : Str × List Int} (h : x ∈ tb.take 1) : x ∈ tb := List.mem_of_mem_take h
theorem not_asc_dup {A B : Tab} {x : Str × List Int} (ha : x ∈ A) (hb : x ∈ B) : ¬ ((A ++ B).map (·.1)).Pairwise Lt := by
  intro h
  rw [List.map_append, List.pairwise_append] at h
  exact Lt.irrefl (h.2.2 x.1 (List.mem_map.mpr ⟨x, ha, rfl⟩) x.1 (List.mem_map.mpr ⟨x, hb, rfl⟩))
theorem wr3 {tb : Tab} (h : tb ≠ []) : Wr tb (tb ++ tb.take 1) := by
  refine .inr (tabB_asc ?_)
  cases tb with
  | nil => exact absurd rfl h
  | cons x r => exact not_asc_dup (x := x) List.mem_cons_self (by simp)
theorem wr4 {tb : Tab} {v : Int} (h0 : 0 ≤ v) (h1 : v ≤ tb.length) : Wr tb (cutL tb none (some v) ++ cutL tb (some (if v - 1 > 0 then v - 1 else 0)) (some v) ++ cutL tb (some (if v - 1 > 0 then v - 1 else 0)) none) := by
  by_cases hv : v = 0
  · subst hv
    refine .inl ?_
    rw [cutL_to _ (by omega)]
    have e : (if (0 : Int) - 1 > 0 then (0 : Int) - 1 else 0) = 0 := by decide
    rw [e, cutL_from _ (by omega)]
    have e2 : cutL tb (some 0) (some 0) = [] := by
      unfold cutL
      rw [six_int _ _ (by omega), six_int _ _ (by omega)]
      simp
    rw [e2]
    simp
  · have e : (if v - 1 > 0 then v - 1 else 0) = v - 1 := by
      by_cases h : v - 1 > 0
      · rw [if_pos h]
      · rw [if_neg h]
        omega
    rw [e, cutL_to _ h0, cutL_from _ (by omega), cutL_one _ (by omega) h1]
    refine .inr (tabB_asc ?_)
    have hk : (v - 1).toNat < tb.length := by omega
    have m1 : tb[(v - 1).toNat] ∈ tb.take v.toNat := by
      have h2 : (tb.take v.toNat)[(v - 1).toNat]? = some tb[(v - 1).toNat] := by
        rw [List.getElem?_take_of_lt (by omega), List.getElem?_eq_getElem hk]
      exact List.mem_of_getElem? h2
    have m2 : tb[(v - 1).toNat] ∈ tb.drop (v - 1).toNat := by
      rw [List.drop_eq_getElem_cons hk]
      exact List.mem_cons_self
    exact not_asc_dup (x := tb[(v - 1).toNat]) (List.mem_append_left _ m1) m2
theorem wr5 {tb : Tab} (hT : (tb.map (·.1)).Pairwise Lt) {i : Nat} (h : i + 1 < tb.length) (A B : Tab) : Wr tb (A ++ [tb[i + 1], tb[i]] ++ B) := by
  refine .inr (tabB_asc fun q => ?_)
  have h1 : Lt tb[i].1 tb[i + 1].1 := by
    have h2 := List.pairwise_iff_getElem.mp hT i (i + 1) (by rw [List.length_map]; omega) (by rw [List.length_map]; omega) (by omega)
    rw [List.getElem_map, List.getElem_map] at h2
    exact h2
  rw [List.map_append, List.map_append, List.append_assoc, List.pairwise_append] at q
  have h3 := q.2.1
  rw [List.pairwise_append] at h3
  have h4 : Lt tb[i + 1].1 tb[i].1 := List.rel_of_pairwise_cons h3.1 (by simp)
  exact Lt.irrefl (h1.trans h4)
theorem wr6 {tb : Tab} (hT : (tb.map (·.1)).Pairwise Lt) (h : 1 < tb.length) : Wr tb (tb.drop 1 ++ tb.take 1) := by
  refine .inr (tabB_asc fun q => ?_)
  cases tb with
  | nil => cases h
  | cons x r =>
    cases r with
    | nil => exact absurd h (Nat.lt_irrefl 1)
    | cons y r =>
      have h1 : Lt x.1 y.1 := List.rel_of_pairwise_cons hT (by simp)
      rw [List.map_append, List.pairwise_append] at q
      have h2 : Lt y.1 x.1 := q.2.2 y.1 (by simp) x.1 (by simp)
      exact Lt.irrefl (h1.trans h2)
theorem wr1 {tb A B : Tab} {p : Str × List Int} (h : keyB p.1 = false ∨ rowB p.2 = false) : Wr tb (A ++ [p] ++ B) := by
  have hm : p ∈ A ++ [p] ++ B := by simp
  rcases h with h | h
  · exact .inr (tabB_key hm h)
  · exact .inr (tabB_row hm h)
theorem Fine.app {A B : Tab} (ha : Fine A) (hb : Fine B) (h : A.length + B.length ≤ 100) : Fine (A ++ B) := by
  refine ⟨by rw [List.length_append]; exact h, fun p hp => ?_⟩
  rcases List.mem_append.mp hp with hp | hp
  · exact ha.2 p hp
  · exact hb.2 p hp
theorem Fine.cut {A : Tab} (ha : Fine A) (lo hi : Option Int) : Fine (cutL A lo hi) := ⟨Nat.le_trans (cutL_len _ _ _) ha.1, fun p hp => ha.2 p (cutL_mem hp)⟩
theorem Fine.of {tb : Tab} (h : TabOk tb) (hl : tb.length ≤ 100) : Fine tb := ⟨hl, fun p hp => ⟨⟨by have := (h.2 p hp).1.2.1; omega, fun c hc => let_ok c ((h.2 p hp).1.2.2 c hc)⟩, by have := (h.2 p hp).2.2.1; omega⟩⟩
/-! ### the operations, by promises -/
section
variable {K : PySem.W.Frag} {H : Hp} {st l : Addr}
theorem do_slice {t : Addr} {tb : Tab} {lo hi : Option Int} {Q : VK} (g : Good st l H) (h : TA st H t tb) (q : ∀ p H', H p = none → Same H H' → TA st H' p (cutL tb lo hi) → Q (.ref p) H') : rSlL K (.ref t) lo hi H Q := by
  obtain ⟨h1, us, h2, h3⟩ := h
  refine ⟨t, us, rfl, SqL.of h2, fun p hp => q p _ hp (same_new hp _) ⟨(g.ne hp).1, _, upd_same, ?_⟩⟩
  have h4 := TDs.cut h3 lo hi
  rw [cutL_map] at h4
  exact TDs.mono (Tk.new hp _) _ _ h4
theorem do_cat {a b : Addr} {t1 t2 : Tab} {Q : VK} (g : Good st l H) (h1 : TA st H a t1) (h2 : TA st H b t2) (hl : t1.length + t2.length ≤ 1000) (q : ∀ p H', H p = none → Same H H' → TA st H' p (t1 ++ t2) → Q (.ref p) H') : rCat (.ref a) (.ref b) H Q := by
  obtain ⟨_, us, h3, h4⟩ := h1
  obtain ⟨_, vs, h5, h6⟩ := h2
  have l1 := h4.length
  have l2 := h6.length
  rw [List.length_map] at l1 l2
  refine ⟨a, b, us, vs, rfl, rfl, h3, h5, small (by omega), fun p hp => q p _ hp (same_new hp _) ⟨(g.ne hp).1, _, upd_same, ?_⟩⟩
  rw [List.map_append]
  exact TDs.mono (Tk.new hp _) _ _ (h4.app h6)
theorem do_slT {a : Addr} {xs : List V} {lo hi : Option Int} {Q : VK} (h : H a = some (.tup xs)) (q : ∀ r H', Same H H' → H' r = some (.tup (cutL xs lo hi)) → Q (.ref r) H') : rSlA K (.ref a) lo hi H Q := by
  refine ⟨a, xs, rfl, SqT.of h, fun e => q a H (Same.refl _) ?_, fun _ p hp => q p _ (same_new hp _) upd_same⟩
  rw [h]
  unfold cutL
  rw [e.1, e.2, List.drop_zero, Nat.sub_zero, List.take_length]
theorem do_catT {a b : Addr} {xs ys : List V} {Q : VK} (h1 : H a = some (.tup xs)) (h2 : H b = some (.tup ys)) (hl : xs.length + ys.length ≤ 1000) (q : ∀ r H', Same H H' → H' r = some (.tup (xs ++ ys)) → Q (.ref r) H') : rCatA K (.ref a) (.ref b) H Q := by
  refine ⟨a, b, xs, ys, rfl, rfl, SqT.of h1, SqT.of h2, small hl, fun e => q b H (Same.refl _) ?_, fun _ e => q a H (Same.refl _) ?_, fun _ _ p hp => q p _ (same_new hp _) upd_same⟩
  · rw [e]
    exact h2
  · rw [e, List.append_nil]
    exact h1
end
/-! ### the wrong key, the wrong row -/
def sgnS : Str := "ABZ -_.$:,;!?#&*+/<=>\x40[]^{}~"
theorem sgn_no : ∀ c ∈ sgnS.cps.toList, c ∉ letS.cps.toList ∧ c < 128 := by decide +kernel
theorem sgn_len : (sgnS.length : Int) = 28 := by decide +kernel
theorem sgn_len2 : sgnS.length ≤ 100 := by decide +kernel
theorem sgn_lst : (sgnS.cps.toList.length : Int) = 28 := by decide +kernel
def BadK (s : Str) : Prop := keyB s = false ∧ s.length ≤ 100 ∧ ∀ c ∈ s.cps.toList, c < 128
theorem cutS_mem {z : Str} {lo hi : Option Int} {c : Nat} (h : c ∈ (cutS z lo hi).cps.toList) : c ∈ z.cps.toList := by
  have h2 : c ∈ (z.cps.toList.drop (HT.sIx z.length 0 lo)).take (HT.sIx z.length z.length hi - HT.sIx z.length 0 lo) := h
  exact List.mem_of_mem_drop (List.mem_of_mem_take h2)
theorem badK_mid {w : Str} (hw : ∀ c ∈ w.cps.toList, c < 128) (hl : w.length ≤ 8) {c : Nat} (hc : c ∈ sgnS.cps.toList) (a b d e : Option Int) : BadK (cutS w a b ++ ⟨#[c]⟩ ++ cutS w d e) := by
  have hm : c ∈ (cutS w a b ++ ⟨#[c]⟩ ++ cutS w d e).cps.toList := by
    rw [app_list, app_list]
    simp
  have l1 := cutS_length w a b
  have l2 := cutS_length w d e
  refine ⟨?_, ?_, fun x hx => ?_⟩
  · unfold keyB
    have e : ((cutS w a b ++ ⟨#[c]⟩ ++ cutS w d e).cps.toList.all fun c => decide (c ∈ letS.cps.toList)) = false := List.all_eq_false.mpr ⟨c, hm, by rw [decide_eq_false (sgn_no c hc).1]; decide⟩
    rw [e, Bool.and_false]
  · rw [app_len, app_len]
    show (cutS w a b).length + 1 + (cutS w d e).length ≤ 100
    omega
  · rw [app_list, app_list, List.mem_append, List.mem_append] at hx
    rcases hx with (hx | hx) | hx
    · exact hw x (cutS_mem hx)
    · have e2 : x = c := by simpa using hx
      rw [e2]
      exact (sgn_no c hc).2
    · exact hw x (cutS_mem hx)
theorem badR_mid {A B : List Int} {b : Int} (h : ¬ (0 ≤ b ∧ b ≤ 65535)) : rowB (A ++ [b] ++ B) = false := by
  unfold rowB
  have e : ((A ++ [b] ++ B).all fun n => decide (0 ≤ n) && decide (n ≤ 65535)) = false := List.all_eq_false.mpr ⟨b, by simp, fun q => by
    rw [Bool.and_eq_true] at q
    exact h ⟨of_decide_eq_true q.1, of_decide_eq_true q.2⟩⟩
  rw [e, Bool.and_false]
def manyT (n : Nat) : Tab := (List.range n).map fun (k : Nat) => ((("k" : Str) ++ (toString (100 + (0 + ((k : Nat) : Int))) : Str)), [0 + ((k : Nat) : Int)])
theorem many100 : tabB (manyT 100) = true := by decide +kernel
theorem many_key : ∀ k ∈ List.range 101, ((toString (100 + (0 + ((k : Nat) : Int))) : Str).length ≤ 10) ∧ (∀ c ∈ (toString (100 + (0 + ((k : Nat) : Int))) : Str).cps.toList, c < 128) ∧ (100 + (0 + ((k : Nat) : Int))).natAbs.log2 < 1920 := by decide +kernel
theorem kS_ok : ("k" : Str).length ≤ 100 ∧ ∀ c ∈ ("k" : Str).cps.toList, c < 128 := by decide +kernel
theorem right_ok : tabB [("abcdefgh", [0, 65535, 7]), ("b", [1])] = true := by decide +kernel
theorem right_sz : TabSz [("abcdefgh", [0, 65535, 7]), ("b", [1])] := ⟨by decide, fun p hp => by
  have hp2 : p = (("abcdefgh" : Str), ([0, 65535, 7] : List Int)) ∨ p = (("b" : Str), ([1] : List Int)) := by simpa using hp
  rcases hp2 with e | e
  · rw [e]
    exact ⟨by decide +kernel, by decide⟩
  · rw [e]
    exact ⟨by decide +kernel, by decide⟩⟩
end RR

namespace RR
open PySem PySem.Spec PyProof.Rows L2
abbrev sLaw : Stmt := topS 15
abbrev lawN : List Str := ["script", "state", "table", "at", "signs", "word", "place", "bad", "row", "wrong", "many", "rows", "k"]
def spLaw (K : PySem.W.Frag) : Sp := fun vs H Q _ => ∃ (a : Addr) (ns : List Int), vs = [.ref a] ∧ SqL K H a (ns.map V.int) ∧ ns.length ≤ 63 ∧ ∀ H', Q (.bl true) H'
theorem scLaw : FnScope lawN ["script"] (defScope sLaw) := ⟨rfl, rfl, rfl, by decide +kernel, rfl, by decide +kernel, by decide +kernel⟩
theorem no_part {σ : L2.St} {H : Hp} {Q : Option Int → Hp → Prop} (h : Q none H) : tNoPart σ H Q := h
theorem TA.of {st l p : Addr} {H : Hp} {us : List V} {tb : Tab} (g : Good st l H) (h : p ≠ st) (h2 : H p = some (.lst us)) (h3 : TDs H us (tb.map pairD)) : TA st H p tb := ⟨h, us, h2, h3⟩
/-- what stands in the list of wrong tables -/
def WItem (st wr : Addr) (H : Hp) (tb : Tab) (x : V) : Prop := ∃ p rows, x = .ref p ∧ p ≠ wr ∧ TA st H p rows ∧ Fine rows ∧ Wr tb rows
def WAt (st wr : Addr) (H : Hp) (tb : Tab) (ps : List V) : Prop := wr ≠ st ∧ H wr = some (.lst ps) ∧ ps.length ≤ 10 ∧ ∀ x ∈ ps, WItem st wr H tb x
theorem WAt.same {st wr : Addr} {H H' : Hp} {tb : Tab} {ps : List V} (h : WAt st wr H tb ps) (s : Same H H') : WAt st wr H' tb ps := ⟨h.1, s _ _ h.2.1, h.2.2.1, fun x hx => by
  obtain ⟨p, rows, e, h1, h2, h3⟩ := h.2.2.2 x hx
  exact ⟨p, rows, e, h1, h2.same s, h3⟩⟩
theorem WAt.le {st l wr : Addr} {H H' : Hp} {tb : Tab} {ps : List V} (h : WAt st wr H tb ps) (g : Good st l H) (s : Le st H H') : WAt st wr H' tb ps := ⟨h.1, s _ _ h.1 h.2.1, h.2.2.1, fun x hx => by
  obtain ⟨p, rows, e, h1, h2, h3⟩ := h.2.2.2 x hx
  exact ⟨p, rows, e, h1, h2.le g s, h3⟩⟩
theorem TA.put {st p wr : Addr} {H : Hp} {tb : Tab} {ps qs : List V} (h : TA st H p tb) (hw : H wr = some (.lst ps)) (hn : p ≠ wr) : TA st (upd H wr (.lst qs)) p tb := by
  obtain ⟨h1, us, h2, h3⟩ := h
  refine ⟨h1, us, by rw [upd_ne hn]; exact h2, TDs.mono (Tk.put _ fun xs e => ?_) _ _ h3⟩
  rw [hw] at e
  cases e
theorem WAt.put {st wr p : Addr} {H : Hp} {tb rows : Tab} {ps : List V} (h : WAt st wr H tb ps) (hl : ps.length ≤ 9) (hp : p ≠ wr) (h1 : TA st H p rows) (h2 : Fine rows) (h3 : Wr tb rows) : WAt st wr (upd H wr (.lst (ps ++ [.ref p]))) tb (ps ++ [.ref p]) := by
  refine ⟨h.1, upd_same, by rw [List.length_append]; show ps.length + 1 ≤ 10; omega, fun x hx => ?_⟩
  rcases List.mem_append.mp hx with hx | hx
  · obtain ⟨p2, r2, e, h4, h5, h6⟩ := h.2.2.2 x hx
    exact ⟨p2, r2, e, h4, h5.put h.2.1 h4, h6⟩
  · have e : x = .ref p := by simpa using hx
    exact ⟨p, rows, e, hp, h1.put h.2.1 hp, h2, h3⟩
section
variable {P : Program} {w : World} {K : PySem.W.Frag} {mg : Str → Option Value} {base : Heap}
theorem tab_true {H : Hp} {t : Addr} {us : List V} {tb : Tab} {Q : VK} {E : XK} (h : H t = some (.lst us)) (hT : TDs H us (tb.map pairD)) (hs : TabSz tb) {b : Bool} (hb : tabB tb = b) (q : ∀ H', Same H H' → Q (.bl b) H') : spIsTable [.ref t] H Q E :=
  ⟨t, us, tb, rfl, h, hT, hs, fun H' s => by
    rw [hb]
    exact q H' s⟩
set_option maxHeartbeats 2000000 in
theorem ok_law (D : Def K mg "law" sLaw ["script"]) (DD : Def K mg "_law_draw" sDraw ["state", "limit"]) (DK : Def K mg "_law_key" sKey ["state"]) (DR : Def K mg "_law_row" sRow ["state"]) (DT : Def K mg "_law_table" sTable ["state", "most"]) (DI : Def K mg "is_table" sIsTable ["table"])
    (mlist : mg "list" = none) (ml : mg "len" = none) (mr : mg "range" = none) (mmax : mg "max" = none) (mstr : mg "str" = none)
    (GD : FnOk P w K mg base CX0 1 DD.f DD.fd ["state", "limit"] spDraw) (GK : FnOk P w K mg base CX0 2 DK.f DK.fd ["state"] spKey) (GR : FnOk P w K mg base CX0 2 DR.f DR.fd ["state"] spRow) (GT : FnOk P w K mg base CX0 3 DT.f DT.fd ["state", "most"] spTable) (GI : FnOk P w K mg base CX0 3 DI.f DI.fd ["table"] spIsTable) :
    FnOk P w K mg base CX0 4 D.f D.fd ["script"] (spLaw K) := by
  refine D.F.ok scLaw (fun vs H Q E h => ?_) (fun cdv A outer s H vs Q E hr h => ?_)
  · obtain ⟨a, ns, rfl, _⟩ := h
    rfl
  obtain ⟨a, ns, rfl, hS, hlen, q⟩ := h
  refine ⟨_, pss_cons (ps_set (i := 1) scLaw.nd rfl (.inl rfl) (pe_lst (pa_cons pe_int (pa_cons pe_int (pa_cons (pe_callTy call_list_of (by rfl) mlist (by decide +kernel) (pa_cons (pv 0) pa_nil)) (pa_cons pe_int pa_nil)))))) <|
    pss_cons (ps_set (i := 2) scLaw.nd rfl (.inl rfl) (pe_call GT hr (by rfl) DT.m DT.F.kp DT.b .nil pass0 (pa_cons (pv 1) (pa_cons pe_int pa_nil)))) <|
    pss_cons (ps_if (PW.pt (pw_or (pt_cmpR op_isnot_bl (pe_call GI (hr.mono (by decide)) (by rfl) DI.m DI.F.kp DI.b .nil pass0 (pa_cons (pe_callTy call_list_of (by rfl) mlist (by decide +kernel) (pa_cons (pv 2) pa_nil)) pa_nil)) pe_bl (nomark _)) (pw_or1 (pt_cmpR op_isnot_bl (pe_call GI (hr.mono (by decide)) (by rfl) DI.m DI.F.kp DI.b .nil pass0 (pa_cons (pe_lst pa_nil) pa_nil)) pe_bl (nomark _))))) (pss_one (ps_ret pe_bl)) pss_nil) <|
    pss_cons (ps_set (i := 3) scLaw.nd rfl (.inl rfl) (pe_call GD (hr.mono (by decide)) (by rfl) DD.m DD.F.kp DD.b .nil pass0 (pa_cons (pv 1) (pa_cons (pe_op op_add (pe_callB call_len_seq (by rfl) ml PySem.boot_len (pa_cons (pv 2) pa_nil)) pe_int) pa_nil)))) <|
    pss_cons (ps_set (i := 4) scLaw.nd rfl (.inl rfl) pe_str) <|
    pss_cons (ps_set (i := 5) scLaw.nd rfl (.inl rfl) (pe_slice sl_str (pe_call GK (hr.mono (by decide)) (by rfl) DK.m DK.F.kp DK.b .nil pass0 (pa_cons (pv 1) pa_nil)) po_none (po_some pe_int))) <|
    pss_cons (ps_set (i := 6) scLaw.nd rfl (.inl rfl) (pe_call GD (hr.mono (by decide)) (by rfl) DD.m DD.F.kp DD.b .nil pass0 (pa_cons (pv 1) (pa_cons (pe_op op_add (pe_callB call_len_str (by rfl) ml PySem.boot_len (pa_cons (pv 5) pa_nil)) pe_int) pa_nil)))) <|
    C8.pss_cut (ps_set (i := 7) scLaw.nd rfl (.inl rfl) (pe_ix ix_list (pe_lst (pa_cons (pe_op op_add_str (pe_op op_add_str (pe_slice sl_str (pv 5) po_none (po_some (pv 6))) (pe_ix ix_str (pv 4) (pe_call GD (hr.mono (by decide)) (by rfl) DD.m DD.F.kp DD.b .nil pass0 (pa_cons (pv 1) (pa_cons (pe_callB call_len_str (by rfl) ml PySem.boot_len (pa_cons (pv 4) pa_nil)) pa_nil))) (fun _ _ => rfl))) (pe_slice sl_str (pv 5) (po_some (pv 6)) po_none)) (pa_cons pe_str (pa_cons pe_str pa_nil)))) (pe_call GD (hr.mono (by decide)) (by rfl) DD.m DD.F.kp DD.b .nil pass0 (pa_cons (pv 1) (pa_cons pe_int pa_nil))) (fun _ _ => rfl))) <|
    pss_cons (ps_set (i := 8) scLaw.nd rfl (.inl rfl) (pe_call GR (hr.mono (by decide)) (by rfl) DR.m DR.F.kp DR.b .nil pass0 (pa_cons (pv 1) pa_nil))) <|
    pss_cons (ps_set (i := 6) scLaw.nd rfl (.inl rfl) (pe_call GD (hr.mono (by decide)) (by rfl) DD.m DD.F.kp DD.b .nil pass0 (pa_cons (pv 1) (pa_cons (pe_callB call_len_seq (by rfl) ml PySem.boot_len (pa_cons (pv 8) pa_nil)) pa_nil)))) <|
    C8.pss_cut (ps_set (i := 8) scLaw.nd rfl (.inl rfl) (pe_ix ix_list (pe_lst (pa_cons (pe_tup pa_nil) (pa_cons (pe_tup (pa_cons pe_int (pa_cons pe_int (pa_cons pe_int (pa_cons pe_int pa_nil))))) (pa_cons (pe_op op_catA (pe_op op_catA (pe_slice sl_tupA (pv 8) po_none (po_some (pv 6))) (pe_tup (pa_cons (pe_ix ix_list (pe_lst (pa_cons pe_int (pa_cons (pe_op op_sub pe_int pe_int) (pa_cons pe_int pa_nil)))) (pe_call GD (hr.mono (by decide)) (by rfl) DD.m DD.F.kp DD.b .nil pass0 (pa_cons (pv 1) (pa_cons pe_int pa_nil))) (fun _ _ => rfl)) pa_nil))) (pe_slice sl_tupA (pv 8) (po_some (pe_op op_add (pv 6) pe_int)) po_none)) pa_nil)))) (pe_call GD (hr.mono (by decide)) (by rfl) DD.m DD.F.kp DD.b .nil pass0 (pa_cons (pv 1) (pa_cons pe_int pa_nil))) (fun _ _ => rfl))) <|
    C8.pss_cut (ps_set (i := 9) scLaw.nd rfl (.inl rfl) (pe_lst (pa_cons (pe_op op_cat (pe_op op_cat (pe_slice sl_list (pv 2) po_none (po_some (pv 3))) (pe_lst (pa_cons (pe_tup (pa_cons (pv 7) (pa_cons (pe_tup (pa_cons pe_int pa_nil)) pa_nil))) pa_nil))) (pe_slice sl_list (pv 2) (po_some (pv 3)) po_none)) (pa_cons (pe_op op_cat (pe_op op_cat (pe_slice sl_list (pv 2) po_none (po_some (pv 3))) (pe_lst (pa_cons (pe_tup (pa_cons pe_str (pa_cons (pv 8) pa_nil))) pa_nil))) (pe_slice sl_list (pv 2) (po_some (pv 3)) po_none)) pa_nil)))) <|
    C8.pss_cut (ps_if (pt_cmpR op_gt (pe_callB call_len_seq (by rfl) ml PySem.boot_len (pa_cons (pv 2) pa_nil)) pe_int (nomark _)) (pss_cons (ps_expr (pe_bm PySem.F.plainAttrs_list PySem.F.slot_list_append PySem.F.type_list_append mt_append (pv 9) (pa_cons (pe_op op_cat (pv 2) (pe_slice sl_list (pv 2) po_none (po_some pe_int))) pa_nil))) <| pss_one (ps_expr (pe_bm PySem.F.plainAttrs_list PySem.F.slot_list_append PySem.F.type_list_append mt_append (pv 9) (pa_cons (pe_op op_cat (pe_op op_cat (pe_slice sl_list (pv 2) po_none (po_some (pv 3))) (pe_slice sl_list (pv 2) (po_some (pe_callB (call_max2 rfl) (by rfl) mmax (by decide +kernel) (pa_cons pe_int (pa_cons (pe_op op_sub (pv 3) pe_int) pa_nil)))) (po_some (pv 3)))) (pe_slice sl_list (pv 2) (po_some (pe_callB (call_max2 rfl) (by rfl) mmax (by decide +kernel) (pa_cons pe_int (pa_cons (pe_op op_sub (pv 3) pe_int) pa_nil)))) po_none)) pa_nil)))) pss_nil) <|
    pss_cons (ps_if (pt_cmpR op_isnot_bl (pe_call GI (hr.mono (by decide)) (by rfl) DI.m DI.F.kp DI.b .nil pass0 (pa_cons (pe_lst (pa_cons (pe_tup (pa_cons pe_str (pa_cons (pe_tup (pa_cons pe_int (pa_cons pe_int (pa_cons pe_int pa_nil)))) pa_nil))) (pa_cons (pe_tup (pa_cons pe_str (pa_cons (pe_tup (pa_cons pe_int pa_nil)) pa_nil))) pa_nil))) pa_nil)) pe_bl (nomark _)) (pss_one (ps_ret pe_bl)) pss_nil) <|
    C8.pss_cut (ps_if (pt_cmpR op_gt (pe_callB call_len_seq (by rfl) ml PySem.boot_len (pa_cons (pv 2) pa_nil)) pe_int (nomark _)) (pss_cons (ps_set (i := 6) scLaw.nd rfl (.inl rfl) (pe_call GD (hr.mono (by decide)) (by rfl) DD.m DD.F.kp DD.b .nil pass0 (pa_cons (pv 1) (pa_cons (pe_op op_sub (pe_callB call_len_seq (by rfl) ml PySem.boot_len (pa_cons (pv 2) pa_nil)) pe_int) pa_nil)))) <| pss_cons (ps_expr (pe_bm PySem.F.plainAttrs_list PySem.F.slot_list_append PySem.F.type_list_append mt_append (pv 9) (pa_cons (pe_op op_cat (pe_op op_cat (pe_slice sl_list (pv 2) po_none (po_some (pv 6))) (pe_lst (pa_cons (pe_ix ix_list (pv 2) (pe_op op_add (pv 6) pe_int) (fun _ _ => rfl)) (pa_cons (pe_ix ix_list (pv 2) (pv 6) (fun _ _ => rfl)) pa_nil)))) (pe_slice sl_list (pv 2) (po_some (pe_op op_add (pv 6) pe_int)) po_none)) pa_nil))) <| pss_one (ps_expr (pe_bm PySem.F.plainAttrs_list PySem.F.slot_list_append PySem.F.type_list_append mt_append (pv 9) (pa_cons (pe_op op_cat (pe_slice sl_list (pv 2) (po_some pe_int) po_none) (pe_slice sl_list (pv 2) po_none (po_some pe_int))) pa_nil)))) pss_nil) <|
    pss_cons (ps_setLc (i := 10) (own := [("k", 12)]) (g := gName 12) (by rfl) scLaw.nd rfl rfl (sw_true rfl rfl rfl (by decide +kernel)) (pi_range1 (by rfl) mr (pa_cons pe_int pa_nil))
      (blkOk_by (own := [("k", 12)]) (N := lawN) (sc := defScope sLaw) (by decide +kernel))
      (fun _ _ _ _ _ => pg_name (i := 12) scLaw.nd rfl (Or.inl rfl)) (fun _ _ _ _ _ => pts_nil)
      (fun _ _ _ _ _ => pe_tup (pa_cons (pe_op op_add_str pe_str (pe_callTy call_str_int (by rfl) mstr (by decide +kernel) (pa_cons (pe_op op_add pe_int (pv 12)) pa_nil))) (pa_cons (pe_tup (pa_cons (pv 12) pa_nil)) pa_nil)))) <|
    pss_cons (ps_if (PW.pt (pw_or (pt_cmpR op_isnot_bl (pe_call GI (hr.mono (by decide)) (by rfl) DI.m DI.F.kp DI.b .nil pass0 (pa_cons (pv 10) pa_nil)) pe_bl (nomark _)) (pw_or1 (pt_cmpR op_isnot_bl (pe_call GI (hr.mono (by decide)) (by rfl) DI.m DI.F.kp DI.b .nil pass0 (pa_cons (pe_slice sl_list (pv 10) po_none (po_some pe_int)) pa_nil)) pe_bl (nomark _))))) (pss_one (ps_ret pe_bl)) pss_nil) <|
    pss_cons (ps_for PassesOwn.never rfl (pi_list (pv 9)) (pg_name (i := 11) scLaw.nd rfl (.inl rfl)) (pss_one (ps_if (PW.pt (pw_and (pt_cmpR (op_neD hr.units) (pv 11) (pv 2) (nomark _)) (pw_and1 (pt_cmpR op_isnot_bl (pe_call GI (hr.mono (by decide)) (by rfl) DI.m DI.F.kp DI.b .nil pass0 (pa_cons (pe_callTy call_list_of (by rfl) mlist (by decide +kernel) (pa_cons (pv 11) pa_nil)) pa_nil)) pe_bl (nomark _))))) (pss_one (ps_ret pe_bl)) pss_nil))) <|
    pss_one (ps_ret pe_bl), ?_⟩
  refine ⟨_, rfl, a, _, rfl, .inl hS, fun l hl => ?_⟩
  refine ⟨by show 4 ≤ sizeLine; decide, fun st hst => ?_⟩
  have nls : l ≠ st := ne_of_none upd_same hst
  have g0 : Good st l (upd (upd H l (.lst (ns.map V.int))) st (.lst [.int 0, .int 0, .ref l, .int 1])) := ⟨0, 0, 1, ns, upd_same, by decide, by decide, by decide, by decide, nls, by rw [upd_ne nls]; exact upd_same⟩
  generalize upd (upd H l (.lst (ns.map V.int))) st (.lst [.int 0, .int 0, .ref l, .int 1]) = H0 at g0
  refine ⟨_, rfl, st, l, 9, rfl, g0, by decide, by decide, fun t us tb H1 hok htb htn le1 g1 ht hT => ?_⟩
  have nt : t ≠ st := (g0.ne htn).1
  have htb2 : tb.length ≤ 9 := by omega
  have hF : Fine tb := Fine.of hok (by omega)
  have hta1 : TA st H1 t tb := ⟨nt, us, ht, hT⟩
  have hlu := hT.length
  rw [List.length_map] at hlu
  -- is_table(list(table)), is_table([])
  refine ⟨_, rfl, t, us, rfl, .inl (SqL.of ht), fun cp hcp => ?_⟩
  have s2 := same_new hcp (.lst us)
  refine ⟨cp, us, tb, rfl, upd_same, TDs.mono (Tk.same s2) _ _ hT, hF.sz, fun H3 s3 => ⟨tabB tb, true, rfl, rfl, _, rfl, iteNS (tabB_ok hok (by omega)) ?_⟩⟩
  refine ⟨Nat.zero_le _, fun e0 he0 => ?_⟩
  have s4 := same_new he0 (.lst [])
  refine ⟨e0, [], [], rfl, upd_same, .nil, ⟨Nat.zero_le _, fun p hp => by cases hp⟩, fun H5 s5 => ⟨tabB [], true, rfl, rfl, _, rfl, iteNS rfl ?_⟩⟩
  have s15 := s2.trans (s3.trans (s4.trans s5))
  have g5 := g1.same s15
  have hta5 := hta1.same s15
  -- at
  refine ⟨_, rfl, _, rfl, t, us, rfl, .inl (SqL.of (s15 _ _ ht)), _, _, rfl, rfl, st, l, _, rfl, g5, by omega, pow7 (by omega), fun at_ H6 at0 at1 le6 g6 => ?_⟩
  have hta6 := hta5.le g5 le6
  have hat : at_ ≤ tb.length := by omega
  -- word
  refine ⟨_, rfl, st, l, rfl, g6, fun wd H7 hwd le7 g7 => ?_⟩
  have hta7 := hta6.le g6 le7
  refine ⟨7, rfl, wd, rfl, small (by have := hwd.2.1; omega), ?_⟩
  have hw1 : ∀ c ∈ (cutS wd none (some 7)).cps.toList, c < 128 := fun c hc => let_ok c (hwd.2.2 c (cutS_mem hc))
  have hw2 : (cutS wd none (some 7)).length ≤ 8 := Nat.le_trans (cutS_length _ _ _) hwd.2.1
  -- place
  refine ⟨_, rfl, _, rfl, _, rfl, small (by omega), _, _, rfl, rfl, st, l, _, rfl, g7, by omega, pow7 (by omega), fun pl H8 pl0 pl1 le8 g8 => ?_⟩
  have hta8 := hta7.le g7 le8
  refine ⟨fun σ' H' => ∃ bad : Str, σ' = [some (.ref a), some (.ref st), some (.ref t), some (.int at_), some (.str sgnS), some (.str (cutS wd none (some 7))), some (.int pl), some (.str bad), none, none, none, none, none] ∧ BadK bad ∧ Good st l H' ∧ TA st H' t tb, ?_, ?_⟩
  · refine ⟨_, rfl, _, rfl, pl, rfl, _, rfl, small (by omega), ?_⟩
    refine ⟨_, rfl, _, rfl, _, rfl, _, rfl, small (show sgnS.length ≤ 1000 from Nat.le_trans sgn_len2 (by decide)), st, l, _, rfl, g8, ?_, ?_, fun d9 H9 d90 d91 le9 g9 => ?_⟩
    · show (0 : Int) < (sgnS.length : Int)
      rw [sgn_len]
      decide
    · show (sgnS.length : Int).natAbs < 2 ^ 200
      rw [sgn_len]
      decide
    have d91' : d9 < (sgnS.cps.toList.length : Int) := by
      have h2 : d9 < (sgnS.length : Int) := d91
      rw [sgn_lst]
      rw [sgn_len] at h2
      exact h2
    obtain ⟨c, hc, hcm⟩ := pick (z := sgnS) d90 d91'
    refine ⟨_, _, c, rfl, rfl, small (show sgnS.length ≤ 1000 from Nat.le_trans sgn_len2 (by decide)), hc, ?_⟩
    have la := cutS_length (cutS wd none (some 7)) none (some pl)
    have lb := cutS_length (cutS wd none (some 7)) (some pl) none
    refine ⟨_, _, rfl, rfl, by show _ + 1 ≤ sizeLine; exact small (by omega), ?_⟩
    refine ⟨_, rfl, _, rfl, pl, rfl, _, rfl, small (by omega), ?_⟩
    refine ⟨_, _, rfl, rfl, ?_, ?_⟩
    · rw [app_len]
      show _ + 1 + _ ≤ sizeLine
      exact small (by omega)
    refine ⟨by show 3 ≤ sizeLine; decide, fun z hz => ?_⟩
    have s10 := same_new hz (.lst [.str (cutS (cutS wd none (some 7)) none (some pl) ++ ⟨#[c]⟩ ++ cutS (cutS wd none (some 7)) (some pl) none), .str "", .str "abcdefghi"])
    have z10 := upd_same (H := H9) (a := z) (o := .lst [.str (cutS (cutS wd none (some 7)) none (some pl) ++ ⟨#[c]⟩ ++ cutS (cutS wd none (some 7)) (some pl) none), .str "", .str "abcdefghi"])
    have hb := badK_mid hw1 hw2 hcm none (some pl) (some pl) none
    generalize cutS (cutS wd none (some 7)) none (some pl) ++ ⟨#[c]⟩ ++ cutS (cutS wd none (some 7)) (some pl) none = b0 at s10 z10 hb ⊢
    have hta10 := (hta8.le g8 le9).same s10
    have hzn := g9.ne hz
    refine ⟨_, rfl, st, l, 3, rfl, g9.same s10, by decide, by decide, fun d11 H11 d110 d111 le11 g11 => ?_⟩
    obtain ⟨x, hx, hxo⟩ : ∃ x : Str, atI [V.str b0, .str "", .str "abcdefghi"] d11 = some (.str x) ∧ BadK x := by
      rcases (by omega : d11 = 0 ∨ d11 = 1 ∨ d11 = 2) with e | e | e
      · exact ⟨b0, by rw [e]; rfl, hb⟩
      · exact ⟨"", by rw [e]; rfl, by decide, by decide, fun c hc => by cases hc⟩
      · exact ⟨"abcdefghi", by rw [e]; rfl, by decide +kernel, by decide +kernel, by decide +kernel⟩
    refine ⟨z, _, d11, _, rfl, rfl, SqL.of (le11 z _ hzn.1 z10), hx, ?_⟩
    exact ⟨x, rfl, hxo, g11, hta10.le (g9.same s10) le11⟩
  rintro σ' H9 ⟨bad, rfl, hbad, g9, hta9⟩
  refine ⟨_, rfl, st, l, rfl, g9, fun ro ns2 H10 hns le10 g10 hro => ?_⟩
  have hta10 := hta9.le g9 le10
  have hn1 := hns.1
  have hn3 := hns.2.1
  have hlen2 : (ns2.map V.int).length = ns2.length := List.length_map _
  refine ⟨_, rfl, _, rfl, ro, _, rfl, .inr (SqT.of hro), st, l, _, rfl, g10, by omega, pow7 (by omega), fun pl2 H11 p20 p21 le11 g11 => ?_⟩
  have hta11 := hta10.le g10 le11
  have hro11 := Tk.le g10 le11 _ _ hro
  refine ⟨fun σ' H' => ∃ (x : Addr) (ms : List Int), σ' = [some (.ref a), some (.ref st), some (.ref t), some (.int at_), some (.str sgnS), some (.str (cutS wd none (some 7))), some (.int pl2), some (.str bad), some (.ref x), none, none, none, none] ∧ H' x = some (.tup (ms.map V.int)) ∧ rowB ms = false ∧ ms.length ≤ 100 ∧ Good st l H' ∧ TA st H' t tb, ?_, ?_⟩
  · refine ⟨Nat.zero_le _, fun e1 he1 => ⟨by show 4 ≤ sizeLine; decide, fun e2 he2 => ?_⟩⟩
    have s12 := (same_new he1 (.tup [])).trans (same_new he2 (.tup [.int 1, .int 2, .int 3, .int 4]))
    have x1 := (same_new he2 (.tup [.int 1, .int 2, .int 3, .int 4])) _ _ (upd_same (H := H11) (a := e1) (o := .tup []))
    have x2 := upd_same (H := upd H11 e1 (.tup [])) (a := e2) (o := .tup [.int 1, .int 2, .int 3, .int 4])
    generalize upd (upd H11 e1 (.tup [])) e2 (.tup [.int 1, .int 2, .int 3, .int 4]) = H12 at s12 x1 x2
    have g12 := g11.same s12
    refine ⟨_, rfl, _, rfl, pl2, rfl, do_slT (s12 _ _ hro11) fun r1 H13 s13 hr1 => ?_⟩
    have g13 := g12.same s13
    refine ⟨_, _, rfl, rfl, by show 3 ≤ sizeLine; decide, fun z hz => ?_⟩
    have s14 := same_new hz (.lst [.int 65536, .int (0 - 1), .int 70000])
    have z14 := upd_same (H := H13) (a := z) (o := .lst [.int 65536, .int (0 - 1), .int 70000])
    have hzn := g13.ne hz
    refine ⟨_, rfl, st, l, 3, rfl, g13.same s14, by decide, by decide, fun d15 H15 d150 d151 le15 g15 => ?_⟩
    obtain ⟨b, hb, hbo⟩ : ∃ b : Int, atI [V.int 65536, .int (0 - 1), .int 70000] d15 = some (.int b) ∧ ¬ (0 ≤ b ∧ b ≤ 65535) := by
      rcases (by omega : d15 = 0 ∨ d15 = 1 ∨ d15 = 2) with e | e | e
      · exact ⟨65536, by rw [e]; rfl, by omega⟩
      · exact ⟨0 - 1, by rw [e]; rfl, by omega⟩
      · exact ⟨70000, by rw [e]; rfl, by omega⟩
    have tk1315 : Tk H13 H15 := (Tk.same s14).trans (Tk.le (g13.same s14) le15)
    refine ⟨z, _, d15, _, rfl, rfl, SqL.of (le15 z _ hzn.1 z14), hb, by show 1 ≤ sizeLine; decide, fun e3 he3 => ?_⟩
    have s16 := same_new he3 (.tup [.int b])
    have lcut : ∀ lo hi : Option Int, (cutL (ns2.map V.int) lo hi).length ≤ 3 := fun lo hi => by
      have h1 := cutL_len (ns2.map V.int) lo hi
      omega
    have lc1 := lcut none (some pl2)
    have lc2 := lcut (some (pl2 + 1)) none
    refine do_catT (s16 _ _ (tk1315 _ _ hr1)) upd_same (by show _ + 1 ≤ 1000; omega) fun r2 H17 s17 hr2 => ?_
    have tk1217 : Tk H12 H17 := (Tk.same s13).trans (tk1315.trans ((Tk.same s16).trans (Tk.same s17)))
    refine ⟨_, rfl, _, rfl, _, _, rfl, rfl, _, rfl, no_part (do_slT (tk1217 _ _ (s12 _ _ hro11)) fun r3 H18 s18 hr3 => ?_)⟩
    refine do_catT (s18 _ _ hr2) hr3 (by rw [List.length_append]; show _ + 1 + _ ≤ 1000; omega) fun r4 H19 s19 hr4 => ?_
    have hr4' : H19 r4 = some (.tup ((cutL ns2 none (some pl2) ++ [b] ++ cutL ns2 (some (pl2 + 1)) none).map V.int)) := by
      rw [hr4, cutL_map, cutL_map, List.map_append, List.map_append]
      rfl
    have hbad2 := badR_mid (A := cutL ns2 none (some pl2)) (B := cutL ns2 (some (pl2 + 1)) none) hbo
    have lA := cutL_len ns2 none (some pl2)
    have lB := cutL_len ns2 (some (pl2 + 1)) none
    have hlm : (cutL ns2 none (some pl2) ++ [b] ++ cutL ns2 (some (pl2 + 1)) none).length ≤ 100 := by
      rw [List.length_append, List.length_append]
      show _ + 1 + _ ≤ 100
      omega
    generalize cutL ns2 none (some pl2) ++ [b] ++ cutL ns2 (some (pl2 + 1)) none = ms at hr4' hbad2 hlm
    have g19 : Good st l H19 := (((g15.same s16).same s17).same s18).same s19
    have hta19 : TA st H19 t tb := (((((((hta11.same s12).same s13).same s14).le (g13.same s14) le15).same s16).same s17).same s18).same s19
    have tk1219 : Tk H12 H19 := tk1217.trans ((Tk.same s18).trans (Tk.same s19))
    refine ⟨by show 3 ≤ sizeLine; decide, fun y hy => ?_⟩
    have s20 := same_new hy (.lst [.ref e1, .ref e2, .ref r4])
    have y20 := upd_same (H := H19) (a := y) (o := .lst [.ref e1, .ref e2, .ref r4])
    have hyn := g19.ne hy
    refine ⟨_, rfl, st, l, 3, rfl, g19.same s20, by decide, by decide, fun d21 H21 d210 d211 le21 g21 => ?_⟩
    have tk1921 : Tk H19 H21 := (Tk.same s20).trans (Tk.le (g19.same s20) le21)
    have tk1221 := tk1219.trans tk1921
    obtain ⟨x, ms', hx, hxm, hxb, hxl⟩ : ∃ (x : Addr) (ms' : List Int), atI [V.ref e1, .ref e2, .ref r4] d21 = some (.ref x) ∧ H21 x = some (.tup (ms'.map V.int)) ∧ rowB ms' = false ∧ ms'.length ≤ 100 := by
      rcases (by omega : d21 = 0 ∨ d21 = 1 ∨ d21 = 2) with e | e | e
      · exact ⟨e1, [], by rw [e]; rfl, tk1221 _ _ x1, by decide, by decide⟩
      · exact ⟨e2, [1, 2, 3, 4], by rw [e]; rfl, tk1221 _ _ x2, by decide, by decide⟩
      · exact ⟨r4, ms, by rw [e]; rfl, tk1921 _ _ hr4', hbad2, hlm⟩
    refine ⟨y, _, d21, _, rfl, rfl, SqL.of (le21 y _ hyn.1 y20), hx, ?_⟩
    exact ⟨x, ms', rfl, hxm, hxb, hxl, g21, (hta19.same s20).le (g19.same s20) le21⟩
  rintro σ' H12 ⟨x, ms, rfl, hxm, hxb, hxl, g12, hta12⟩
  -- wrong
  refine ⟨fun σ' H' => ∃ (wr : Addr) (ps : List V), σ' = [some (.ref a), some (.ref st), some (.ref t), some (.int at_), some (.str sgnS), some (.str (cutS wd none (some 7))), some (.int pl2), some (.str bad), some (.ref x), some (.ref wr), none, none, none] ∧ Good st l H' ∧ TA st H' t tb ∧ WAt st wr H' tb ps ∧ ps.length ≤ 2 ∧ wr ≠ l ∧ t ≠ wr, ?_, ?_⟩
  · have lA := cutL_len tb none (some at_)
    have lB := cutL_len tb (some at_) none
    refine ⟨_, rfl, _, rfl, at_, rfl, do_slice g12 hta12 fun p1 H13 hp1 s13 h13 => ?_⟩
    have g13 := g12.same s13
    refine ⟨_, rfl, by show 1 ≤ sizeLine; decide, fun t1 ht1 => ⟨by show 2 ≤ sizeLine; decide, fun t2 ht2 => ⟨by show 1 ≤ sizeLine; decide, fun p2 hp2 => ?_⟩⟩⟩
    have sa := same_new ht1 (.tup [.int 1])
    have sb := same_new ht2 (.tup [.str bad, .ref t1])
    have sc := same_new hp2 (.lst [.ref t2])
    have s14 := sa.trans (sb.trans sc)
    have h14 : TA st (upd (upd (upd H13 t1 (.tup [.int 1])) t2 (.tup [.str bad, .ref t1])) p2 (.lst [.ref t2])) p2 [(bad, [1])] :=
      ⟨(((g13.same sa).same sb).ne hp2).1, _, upd_same, .cons (.tup (sc _ _ upd_same) (.cons (.str _) (.cons (.tup (sc _ _ (sb _ _ upd_same)) (.cons (.int _) .nil)) .nil))) .nil⟩
    generalize upd (upd (upd H13 t1 (.tup [.int 1])) t2 (.tup [.str bad, .ref t1])) p2 (.lst [.ref t2]) = H14 at s14 h14
    have g14 := g13.same s14
    refine do_cat g14 (h13.same s14) h14 (by show _ + 1 ≤ 1000; omega) fun p3 H15 hp3 s15 h15 => ?_
    have g15 := g14.same s15
    have s1215 := s13.trans (s14.trans s15)
    refine ⟨_, rfl, _, rfl, at_, rfl, no_part (do_slice g15 (hta12.same s1215) fun p4 H16 hp4 s16 h16 => ?_)⟩
    have g16 := g15.same s16
    refine do_cat g16 (h15.same s16) h16 (by rw [List.length_append]; show _ + 1 + _ ≤ 1000; omega) fun w1 H17 hw1n s17 hw1' => ?_
    have g17 := g16.same s17
    have s1217 := s1215.trans (s16.trans s17)
    have f1 : Fine (cutL tb none (some at_) ++ [(bad, [1])] ++ cutL tb (some at_) none) := Fine.app (Fine.app (hF.cut _ _) ⟨by show 1 ≤ 100; decide, fun p hp => by
      have e : p = (bad, [1]) := by simpa using hp
      rw [e]
      exact ⟨⟨hbad.2.1, hbad.2.2⟩, by show 1 ≤ 100; decide⟩⟩ (by show _ + 1 ≤ 100; omega)) (hF.cut _ _) (by rw [List.length_append]; show _ + 1 + _ ≤ 100; omega)
    have r1 : Wr tb (cutL tb none (some at_) ++ [(bad, [1])] ++ cutL tb (some at_) none) := wr1 (.inl hbad.1)
    -- the second
    refine ⟨_, rfl, _, rfl, at_, rfl, do_slice g17 (hta12.same s1217) fun p5 H18 hp5 s18 h18 => ?_⟩
    have g18 := g17.same s18
    refine ⟨_, rfl, by show 2 ≤ sizeLine; decide, fun t3 ht3 => ⟨by show 1 ≤ sizeLine; decide, fun p6 hp6 => ?_⟩⟩
    have sd := same_new ht3 (.tup [.str "k", .ref x])
    have se := same_new hp6 (.lst [.ref t3])
    have s19 := sd.trans se
    have h19 : TA st (upd (upd H18 t3 (.tup [.str "k", .ref x])) p6 (.lst [.ref t3])) p6 [("k", ms)] :=
      ⟨((g18.same sd).ne hp6).1, _, upd_same, .cons (.tup (se _ _ upd_same) (.cons (.str _) (.cons (.tup (s19 _ _ (s18 _ _ (s1217 _ _ hxm))) (TDs.ints ms)) .nil))) .nil⟩
    generalize upd (upd H18 t3 (.tup [.str "k", .ref x])) p6 (.lst [.ref t3]) = H19 at s19 h19
    have g19 := g18.same s19
    refine do_cat g19 (h18.same s19) h19 (by show _ + 1 ≤ 1000; omega) fun p7 H20 hp7 s20 h20 => ?_
    have g20 := g19.same s20
    have s1720 := s18.trans (s19.trans s20)
    refine ⟨_, rfl, _, rfl, at_, rfl, no_part (do_slice g20 (hta12.same (s1217.trans s1720)) fun p8 H21 hp8 s21 h21 => ?_)⟩
    have g21 := g20.same s21
    refine do_cat g21 (h20.same s21) h21 (by rw [List.length_append]; show _ + 1 + _ ≤ 1000; omega) fun w2 H22 hw2n s22 hw2' => ?_
    have g22 := g21.same s22
    have s1722 := s1720.trans (s21.trans s22)
    have f2 : Fine (cutL tb none (some at_) ++ [(("k" : Str), ms)] ++ cutL tb (some at_) none) := Fine.app (Fine.app (hF.cut _ _) ⟨by show 1 ≤ 100; decide, fun p hp => by
      have e : p = (("k" : Str), ms) := by simpa using hp
      rw [e]
      exact ⟨⟨kS_ok.1, kS_ok.2⟩, hxl⟩⟩ (by show _ + 1 ≤ 100; omega)) (hF.cut _ _) (by rw [List.length_append]; show _ + 1 + _ ≤ 100; omega)
    have r2 : Wr tb (cutL tb none (some at_) ++ [(("k" : Str), ms)] ++ cutL tb (some at_) none) := wr1 (.inr hxb)
    refine ⟨by show 2 ≤ sizeLine; decide, fun wr hwr => ?_⟩
    have s23 := same_new hwr (.lst [.ref w1, .ref w2])
    have nw : ∀ {p : Addr} {tb : Tab}, TA st H22 p tb → p ≠ wr := fun {p tb} ⟨_, us, h, _⟩ => ne_of_none h hwr
    refine ⟨wr, _, rfl, g22.same s23, (hta12.same (s1217.trans s1722)).same s23, ⟨(g22.ne hwr).1, upd_same, by show 2 ≤ 10; decide, fun y hy => ?_⟩, Nat.le_refl _, (g22.ne hwr).2, nw (hta12.same (s1217.trans s1722))⟩
    have hy2 : y = .ref w1 ∨ y = .ref w2 := by simpa using hy
    rcases hy2 with e | e
    · exact ⟨w1, _, e, nw (hw1'.same s1722), (hw1'.same s1722).same s23, f1, r1⟩
    · exact ⟨w2, _, e, nw hw2', hw2'.same s23, f2, r2⟩
  rintro σ' H13 ⟨wr, ps, rfl, g13, hta13, hw13, hps, nwl, hntw⟩
  have nwr : ∀ {H H2 : Hp} {p : Addr} {qs : List V}, H wr = some (.lst qs) → H p = none → p ≠ wr := fun {H H2 p qs} h hp e => by
    rw [e, h] at hp
    cases hp
  refine ⟨fun σ' H' => ∃ ps : List V, σ' = [some (.ref a), some (.ref st), some (.ref t), some (.int at_), some (.str sgnS), some (.str (cutS wd none (some 7))), some (.int pl2), some (.str bad), some (.ref x), some (.ref wr), none, none, none] ∧ Good st l H' ∧ TA st H' t tb ∧ WAt st wr H' tb ps ∧ ps.length ≤ 4, ?_, ?_⟩
  · obtain ⟨_, us13, hu13, hU13⟩ := id hta13
    have lu := hU13.length
    rw [List.length_map] at lu
    refine ⟨_, rfl, t, us13, rfl, .inl (SqL.of hu13), _, _, rfl, rfl, _, rfl, ite2 (fun h0 => ?_) (fun _ => ?_)⟩
    · have h0' : (0 : Int) < (us13.length : Int) := of_decide_eq_true h0
      have hne : tb ≠ [] := fun e => by
        rw [e] at lu
        have lu2 : us13.length = 0 := lu
        omega
      refine ⟨_, rfl, .inl ⟨rfl, _, SqL.of hw13.2.1⟩, _, rfl, _, rfl, 1, rfl, do_slice g13 hta13 fun p1 H14 hp1 s14 h14 => ?_⟩
      have g14 := g13.same s14
      have l1 := cutL_len tb none (some 1)
      refine do_cat g14 (hta13.same s14) h14 (by omega) fun w3 H15 hw3 s15 h15 => ?_
      have g15 := g14.same s15
      have s1315 := s14.trans s15
      have hw15 := hw13.same s1315
      have n3 : w3 ≠ wr := nwr (H2 := H15) (hw13.same s14).2.1 hw3
      have e3 : cutL tb none (some 1) = tb.take 1 := cutL_to _ (by omega)
      refine ⟨wr, ps, _, rfl, rfl, hw15.2.1, small1000 (by omega), ?_⟩
      have hw16 := hw15.put (by omega) n3 h15 (Fine.app hF (hF.cut _ _) (by omega)) (by rw [e3]; exact wr3 hne)
      have g16 : Good st l (upd H15 wr (.lst (ps ++ [.ref w3]))) := g15.put ⟨hw15.1, nwl⟩
      have nt' : t ≠ wr := hntw
      have hta16 : TA st (upd H15 wr (.lst (ps ++ [.ref w3]))) t tb := (hta13.same s1315).put hw15.2.1 nt'
      generalize upd H15 wr (.lst (ps ++ [.ref w3])) = H16 at hw16 g16 hta16
      have l2 := cutL_len tb none (some at_)
      have l3 := cutL_len tb (some (if at_ - 1 > 0 then at_ - 1 else 0)) (some at_)
      have l4 := cutL_len tb (some (if at_ - 1 > 0 then at_ - 1 else 0)) none
      refine ⟨_, rfl, .inl ⟨rfl, _, SqL.of hw16.2.1⟩, _, rfl, _, rfl, at_, rfl, do_slice g16 hta16 fun q1 H17 hq1 s17 h17 => ?_⟩
      have g17 := g16.same s17
      refine ⟨_, rfl, _, rfl, _, _, rfl, rfl, 0, at_ - 1, rfl, _, rfl, _, rfl, at_, rfl, do_slice g17 (hta16.same s17) fun q2 H18 hq2 s18 h18 => ?_⟩
      have g18 := g17.same s18
      refine do_cat g18 (h17.same s18) h18 (by omega) fun q3 H19 hq3 s19 h19 => ?_
      have g19 := g18.same s19
      refine ⟨_, rfl, _, rfl, _, _, rfl, rfl, 0, at_ - 1, rfl, _, rfl, no_part (do_slice g19 (((hta16.same s17).same s18).same s19) fun q4 H20 hq4 s20 h20 => ?_)⟩
      have g20 := g19.same s20
      refine do_cat g20 (h19.same s20) h20 (by rw [List.length_append]; omega) fun w4 H21 hw4 s21 h21 => ?_
      have s1621 := s17.trans (s18.trans (s19.trans (s20.trans s21)))
      have hw21 := hw16.same s1621
      have n4 : w4 ≠ wr := nwr (H2 := H21) (hw16.same (s17.trans (s18.trans (s19.trans s20)))).2.1 hw4
      have g21 := g20.same s21
      refine ⟨wr, _, _, rfl, rfl, hw21.2.1, small1000 (by rw [List.length_append]; show ps.length + 1 ≤ 1000; omega), ?_⟩
      exact ⟨_, rfl, g21.put ⟨hw21.1, nwl⟩, (hta16.same s1621).put hw21.2.1 nt', hw21.put (by rw [List.length_append]; show ps.length + 1 ≤ 9; omega) n4 h21 (Fine.app (Fine.app (hF.cut _ _) (hF.cut _ _) (by omega)) (hF.cut _ _) (by rw [List.length_append]; omega)) (wr4 at0 hat), by rw [List.length_append, List.length_append]; show ps.length + 1 + 1 ≤ 4; omega⟩
    · exact ⟨ps, rfl, g13, hta13, hw13, by omega⟩
  clear hw13 hta13 g13 hps
  rintro σ' H13 ⟨ps, rfl, g13, hta13, hw13, hps⟩
  -- a right table
  refine ⟨by show 3 ≤ sizeLine; decide, fun t1 ht1 => ⟨by show 2 ≤ sizeLine; decide, fun t2 ht2 => ⟨by show 1 ≤ sizeLine; decide, fun t3 ht3 => ⟨by show 2 ≤ sizeLine; decide, fun t4 ht4 => ⟨by show 2 ≤ sizeLine; decide, fun t5 ht5 => ?_⟩⟩⟩⟩⟩
  have sa := same_new ht1 (.tup [.int 0, .int 65535, .int 7])
  have sb := same_new ht2 (.tup [.str "abcdefgh", .ref t1])
  have sc := same_new ht3 (.tup [.int 1])
  have sd := same_new ht4 (.tup [.str "b", .ref t3])
  have se := same_new ht5 (.lst [.ref t2, .ref t4])
  have x1 := se _ _ (sd _ _ (sc _ _ (sb _ _ (upd_same (H := H13) (a := t1) (o := .tup [.int 0, .int 65535, .int 7])))))
  have x2 := se _ _ (sd _ _ (sc _ _ (upd_same (H := upd H13 t1 (.tup [.int 0, .int 65535, .int 7])) (a := t2) (o := .tup [.str "abcdefgh", .ref t1]))))
  have x3 := se _ _ (sd _ _ (upd_same (H := upd (upd H13 t1 (.tup [.int 0, .int 65535, .int 7])) t2 (.tup [.str "abcdefgh", .ref t1])) (a := t3) (o := .tup [.int 1])))
  have x4 := se _ _ (upd_same (H := upd (upd (upd H13 t1 (.tup [.int 0, .int 65535, .int 7])) t2 (.tup [.str "abcdefgh", .ref t1])) t3 (.tup [.int 1])) (a := t4) (o := .tup [.str "b", .ref t3]))
  have x5 := upd_same (H := upd (upd (upd (upd H13 t1 (.tup [.int 0, .int 65535, .int 7])) t2 (.tup [.str "abcdefgh", .ref t1])) t3 (.tup [.int 1])) t4 (.tup [.str "b", .ref t3])) (a := t5) (o := .lst [.ref t2, .ref t4])
  have s14 := sa.trans (sb.trans (sc.trans (sd.trans se)))
  generalize upd (upd (upd (upd (upd H13 t1 (.tup [.int 0, .int 65535, .int 7])) t2 (.tup [.str "abcdefgh", .ref t1])) t3 (.tup [.int 1])) t4 (.tup [.str "b", .ref t3])) t5 (.lst [.ref t2, .ref t4]) = H14 at x1 x2 x3 x4 x5 s14
  refine ⟨t5, [.ref t2, .ref t4], [("abcdefgh", [0, 65535, 7]), ("b", [1])], rfl, x5, .cons (.tup x2 (.cons (.str _) (.cons (.tup x1 (TDs.ints [0, 65535, 7])) .nil))) (.cons (.tup x4 (.cons (.str _) (.cons (.tup x3 (TDs.ints [1])) .nil))) .nil), right_sz, fun H15 s15 => ⟨tabB [("abcdefgh", [0, 65535, 7]), ("b", [1])], true, rfl, rfl, _, rfl, iteNS right_ok ?_⟩⟩
  have s1315 := s14.trans s15
  have g15 := g13.same s1315
  have hta15 := hta13.same s1315
  have hw15 := hw13.same s1315
  refine ⟨fun σ' H' => ∃ (ps : List V) (pl3 : Int), σ' = [some (.ref a), some (.ref st), some (.ref t), some (.int at_), some (.str sgnS), some (.str (cutS wd none (some 7))), some (.int pl3), some (.str bad), some (.ref x), some (.ref wr), none, none, none] ∧ Good st l H' ∧ TA st H' t tb ∧ WAt st wr H' tb ps, ?_, ?_⟩
  · obtain ⟨_, us15, hu15, hU15⟩ := id hta15
    have lu := hU15.length
    rw [List.length_map] at lu
    refine ⟨_, rfl, t, us15, rfl, .inl (SqL.of hu15), _, _, rfl, rfl, _, rfl, ite2 (fun h0 => ?_) (fun _ => ?_)⟩
    · have h0' : (1 : Int) < (us15.length : Int) := of_decide_eq_true h0
      refine ⟨_, rfl, _, rfl, t, us15, rfl, .inl (SqL.of hu15), _, _, rfl, rfl, st, l, _, rfl, g15, by omega, pow7 (by omega), fun pl3 H16 p30 p31 le16 g16 => ?_⟩
      have hta16 := hta15.le g15 le16
      have hw16 := hw15.le g15 le16
      have l2 := cutL_len tb none (some pl3)
      have l4 := cutL_len tb (some (pl3 + 2)) none
      have l5 := cutL_len tb (some 1) none
      have l6 := cutL_len tb none (some 1)
      refine ⟨_, rfl, .inl ⟨rfl, _, SqL.of hw16.2.1⟩, _, rfl, _, rfl, pl3, rfl, do_slice g16 hta16 fun q1 H17 hq1 s17 h17 => ?_⟩
      have g17 := g16.same s17
      obtain ⟨_, us17, hu17, hU17⟩ := id (hta16.same s17)
      have lu17 := hU17.length
      rw [List.length_map] at lu17
      have hi0 : pl3.toNat < us17.length := by omega
      have hi1 : pl3.toNat + 1 < us17.length := by omega
      have hj1 : pl3.toNat + 1 < tb.length := by omega
      have et : (pl3 + 1).toNat = pl3.toNat + 1 := by omega
      refine ⟨_, rfl, _, rfl, _, _, rfl, rfl, t, us17, pl3 + 1, us17[pl3.toNat + 1], rfl, rfl, SqL.of hu17, at_of (by omega) (by rw [et]; exact List.getElem?_eq_getElem hi1), ?_⟩
      refine ⟨_, rfl, _, rfl, t, us17, pl3, us17[pl3.toNat], rfl, rfl, SqL.of hu17, at_of p30 (List.getElem?_eq_getElem hi0), by show 2 ≤ sizeLine; decide, fun q2 hq2 => ?_⟩
      have s18 := same_new hq2 (.lst [us17[pl3.toNat + 1], us17[pl3.toNat]])
      have dat : ∀ (i : Nat) (h : i < us17.length) (h2 : i < tb.length), TD H17 us17[i] (pairD tb[i]) := fun i h h2 => by
        obtain ⟨d, hd1, hd2⟩ := TDs.get hU17 i _ (List.getElem?_eq_getElem h)
        rw [List.getElem?_map, List.getElem?_eq_getElem h2] at hd1
        have e2 : pairD tb[i] = d := Option.some.inj hd1
        rw [e2]
        exact hd2
      have h18 : TA st (upd H17 q2 (.lst [us17[pl3.toNat + 1], us17[pl3.toNat]])) q2 [tb[pl3.toNat + 1], tb[pl3.toNat]] := ⟨(g17.ne hq2).1, _, upd_same, TDs.mono (Tk.same s18) _ _ (.cons (dat _ hi1 hj1) (.cons (dat _ hi0 (by omega)) .nil))⟩
      generalize upd H17 q2 (.lst [us17[pl3.toNat + 1], us17[pl3.toNat]]) = H18 at s18 h18
      have g18 := g17.same s18
      refine do_cat g18 (h17.same s18) h18 (by show _ + 2 ≤ 1000; omega) fun q3 H19 hq3 s19 h19 => ?_
      have g19 := g18.same s19
      refine ⟨_, rfl, _, rfl, _, _, rfl, rfl, _, rfl, no_part (do_slice g19 (((hta16.same s17).same s18).same s19) fun q4 H20 hq4 s20 h20 => ?_)⟩
      have g20 := g19.same s20
      refine do_cat g20 (h19.same s20) h20 (by rw [List.length_append]; show _ + 2 + _ ≤ 1000; omega) fun w5 H21 hw5 s21 h21 => ?_
      have s1621 := s17.trans (s18.trans (s19.trans (s20.trans s21)))
      have hw21 := hw16.same s1621
      have n5 : w5 ≠ wr := nwr (H2 := H21) (hw16.same (s17.trans (s18.trans (s19.trans s20)))).2.1 hw5
      have g21 := g20.same s21
      refine ⟨wr, _, _, rfl, rfl, hw21.2.1, small1000 (by omega), ?_⟩
      have m0 : tb[pl3.toNat + 1] ∈ tb := List.getElem_mem hj1
      have m1 : tb[pl3.toNat] ∈ tb := List.getElem_mem (by omega)
      have fmid : Fine [tb[pl3.toNat + 1], tb[pl3.toNat]] := ⟨by show 2 ≤ 100; decide, fun p hp => by
        have hp2 : p = tb[pl3.toNat + 1] ∨ p = tb[pl3.toNat] := by simpa using hp
        rcases hp2 with e | e
        · rw [e]
          exact hF.2 _ m0
        · rw [e]
          exact hF.2 _ m1⟩
      have hw22 := hw21.put (by omega) n5 h21 (Fine.app (Fine.app (hF.cut _ _) fmid (by show _ + 2 ≤ 100; omega)) (hF.cut _ _) (by rw [List.length_append]; show _ + 2 + _ ≤ 100; omega)) (wr5 hok.1 hj1 _ _)
      have g22 := g21.put (o := .lst (ps ++ [.ref w5])) ⟨hw21.1, nwl⟩
      have hta22 : TA st (upd H21 wr (.lst (ps ++ [.ref w5]))) t tb := (hta16.same s1621).put hw21.2.1 hntw
      generalize upd H21 wr (.lst (ps ++ [.ref w5])) = H22 at hw22 g22 hta22
      -- the last
      refine ⟨_, rfl, .inl ⟨rfl, _, SqL.of hw22.2.1⟩, _, rfl, 1, rfl, no_part (do_slice g22 hta22 fun q5 H23 hq5 s23 h23 => ?_)⟩
      have g23 := g22.same s23
      refine ⟨_, rfl, 1, rfl, do_slice g23 (hta22.same s23) fun q6 H24 hq6 s24 h24 => ?_⟩
      have g24 := g23.same s24
      refine do_cat g24 (h23.same s24) h24 (by omega) fun w6 H25 hw6 s25 h25 => ?_
      have s2225 := s23.trans (s24.trans s25)
      have hw25 := hw22.same s2225
      have n6 : w6 ≠ wr := nwr (H2 := H25) (hw22.same (s23.trans s24)).2.1 hw6
      refine ⟨wr, _, _, rfl, rfl, hw25.2.1, small1000 (by rw [List.length_append]; show ps.length + 1 ≤ 1000; omega), ?_⟩
      have e1 : cutL tb (some 1) none = tb.drop 1 := cutL_from _ (by omega)
      have e2 : cutL tb none (some 1) = tb.take 1 := cutL_to _ (by omega)
      exact ⟨_, pl3, rfl, (g24.same s25).put ⟨hw25.1, nwl⟩, (hta22.same s2225).put hw25.2.1 hntw, hw25.put (by rw [List.length_append]; show ps.length + 1 ≤ 9; omega) n6 h25 (Fine.app (hF.cut _ _) (hF.cut _ _) (by omega)) (by rw [e1, e2]; exact wr6 hok.1 (by omega))⟩
    · exact ⟨ps, pl2, rfl, g15, hta15, hw15⟩
  clear hw13 hta13 g13 hps hw15 hta15 g15 s1315
  rintro σ' H16 ⟨ps, pl3, rfl, g16, hta16, hw16⟩
  -- many
  refine ⟨101, rfl, by decide, by decide, fun mD hmD => ?_⟩
  have many_s : ∀ n, manyT (n + 1) = manyT n ++ [((("k" : Str) ++ (toString (100 + (0 + ((n : Nat) : Int))) : Str)), [0 + ((n : Nat) : Int)])] := fun n => by
    unfold manyT
    rw [List.range_succ, List.map_append]
    rfl
  refine lc_range (lo := 0) (n := 101) (fun i H' => Same H16 H' ∧ ∃ vs, H' mD = some (.lst vs) ∧ TDs H' vs ((manyT i).map pairD)) ⟨same_new hmD _, [], upd_same, .nil⟩ ?_ ?_
  · rintro i H17 hi ⟨s17, vs, hvs, hV⟩
    have hk := many_key i (List.mem_range.mpr hi)
    have lv := hV.length
    rw [List.length_map] at lv
    have lm : (manyT i).length = i := by
      unfold manyT
      rw [List.length_map, List.length_range]
    refine ⟨rfl, ?_⟩
    refine ⟨_, rfl, _, _, rfl, rfl, _, rfl, hk.2.2, _, _, rfl, rfl, ?_, ?_⟩
    · have h1 := hk.1
      have h2 := kS_ok.1
      exact small (by omega)
    refine ⟨_, rfl, by show 1 ≤ sizeLine; decide, fun u1 hu1 => ⟨by show 2 ≤ sizeLine; decide, fun u2 hu2 => ?_⟩⟩
    have n1 : mD ≠ u1 := ne_of_none hvs hu1
    have sa := same_new hu1 (.tup [.int (0 + (i : Int))])
    have n2 : mD ≠ u2 := ne_of_none (sa _ _ hvs) hu2
    have sb := same_new hu2 (.tup [.str (("k" : Str) ++ (toString (100 + (0 + ((i : Nat) : Int))) : Str)), .ref u1])
    have sab := sa.trans sb
    refine ⟨vs, sab _ _ hvs, small1000 (by omega), fun b o e => ?_, vs ++ [.ref u2], upd_same, ?_⟩
    · rw [upd_ne (ne_of_none e hmD)]
      exact sab _ _ (s17 _ _ e)
    · rw [many_s, List.map_append]
      have tk : Tk (upd (upd H17 u1 (.tup [.int (0 + (i : Int))])) u2 (.tup [.str (("k" : Str) ++ (toString (100 + (0 + ((i : Nat) : Int))) : Str)), .ref u1])) (upd (upd (upd H17 u1 (.tup [.int (0 + (i : Int))])) u2 (.tup [.str (("k" : Str) ++ (toString (100 + (0 + ((i : Nat) : Int))) : Str)), .ref u1])) mD (.lst (vs ++ [.ref u2]))) := Tk.put _ fun xs e => by
        rw [sab _ _ hvs] at e
        cases e
      exact TDs.app (TDs.mono ((Tk.same sab).trans tk) _ _ hV) (.cons (.tup (tk _ _ upd_same) (.cons (.str _) (.cons (.tup (tk _ _ (sb _ _ upd_same)) (.cons (.int _) .nil)) .nil))) .nil)
  rintro H17 ⟨s17, vs, hvs, hV⟩
  have hsz : TabSz (manyT 101) := by
    refine ⟨by decide, fun p hp => ?_⟩
    obtain ⟨k, hk, rfl⟩ := List.mem_map.mp hp
    have h1 := (many_key k hk).1
    have h2 := kS_ok.1
    refine ⟨?_, by show 1 ≤ 1000; decide⟩
    show (("k" : Str) ++ (toString (100 + (0 + ((k : Nat) : Int))) : Str)).length ≤ 1000
    rw [app_len]
    omega
  have g17 := g16.same s17
  have hm17 : TA st H17 mD (manyT 101) := ⟨(g16.ne hmD).1, vs, hvs, hV⟩
  refine ⟨_, rfl, mD, vs, manyT 101, rfl, hvs, hV, hsz, fun H18 s18 => ⟨tabB (manyT 101), false, rfl, rfl, _, rfl, iteNS (tabB_len (by decide)) ?_⟩⟩
  have g18 := g17.same s18
  refine ⟨_, rfl, 100, rfl, do_slice g18 (hm17.same s18) fun q1 H19 hq1 s19 h19 => ?_⟩
  obtain ⟨_, vs2, hv1, hv2⟩ := h19
  have ecut : cutL (manyT 101) none (some 100) = manyT 100 := by
    rw [cutL_to _ (by omega)]
    unfold manyT
    rw [← List.map_take, List.take_range]
    rfl
  rw [ecut] at hv2
  refine ⟨q1, vs2, manyT 100, rfl, hv1, hv2, ⟨by decide, fun p hp => hsz.2 p (by rw [many_s 100]; exact List.mem_append_left _ hp)⟩, fun H20 s20 => ⟨tabB (manyT 100), true, rfl, rfl, _, rfl, iteNS many100 ?_⟩⟩
  have s1620 := s17.trans (s18.trans (s19.trans s20))
  have hta20 := hta16.same s1620
  have hw20 := hw16.same s1620
  -- the wrong ones
  refine ⟨_, rfl, wr, rfl, ⟨_, SqL.of hw20.2.1⟩, for_list (K := K) (a := wr) (xs := ps) (fun _ σ H' => ∃ y11, σ = [some (.ref a), some (.ref st), some (.ref t), some (.int at_), some (.str sgnS), some (.str (cutS wd none (some 7))), some (.int pl3), some (.str bad), some (.ref x), some (.ref wr), some (.ref mD), y11, none] ∧ Same H20 H') ?_ ?_ ?_ ?_⟩
  · exact ⟨_, rfl, Same.refl _⟩
  · rintro i σ H' _ ⟨y11, rfl, s⟩
    exact SqL.of (s _ _ hw20.2.1)
  · rintro i y σ H21 hy ⟨y11, rfl, s21⟩
    obtain ⟨p, rows, rfl, _, hr1, hr2, hr3⟩ := hw20.2.2.2 y (List.mem_of_getElem? hy)
    obtain ⟨_, us1, hu1, hU1⟩ := hr1.same s21
    obtain ⟨_, us2, hu2, hU2⟩ := hta20.same s21
    refine ⟨_, rfl, _, rfl, _, _, .lst (SqL.of hu1) (TDs.dp _ _ hU1), .lst (SqL.of hu2) (TDs.dp _ _ hU2), hr2.sh.ok (by decide), hF.sh.ok (by decide), _, rfl, ?_⟩
    rcases hr3 with e | e
    · subst e
      rw [hF.sh.refl]
      refine iteF (iteF ?_)
      exact ⟨_, rfl, s21⟩
    · refine ite2 (fun _ => ?_) (fun _ => ?_)
      · refine ⟨_, rfl, p, us1, rfl, .inl (SqL.of hu1), fun cp2 hcp2 => ?_⟩
        have s22 := same_new hcp2 (.lst us1)
        refine ⟨cp2, us1, rows, rfl, upd_same, TDs.mono (Tk.same s22) _ _ hU1, hr2.sz, fun H23 s23 => ⟨tabB rows, false, rfl, rfl, _, rfl, iteNS e ?_⟩⟩
        exact ⟨_, rfl, s21.trans (s22.trans s23)⟩
      · refine iteF ?_
        exact ⟨_, rfl, s21⟩
  · rintro σ H' _
    exact q _

end
end RR

namespace RR
open PySem PySem.Spec PyProof.Rows L2
theorem all_mk {l : PySem.W.OpenLaw} {w : World} {K : PySem.W.Frag} {h : Heap} {mg : Str → Option Value} {fa f1 f2 f3 f4 f5 f6 f7 f8 f9 : Addr} (X : K.In h) (G : h.Ns mainGlobals mg) (hfa : mg "law" = some (.ref fa))
    {od1 an1 od2 an2 od3 an3 od4 an4 od5 an5 od6 an6 od7 an7 od8 an8 od9 an9 : Option Addr} {sl1 sl2 sl3 sl4 sl5 sl6 sl7 sl8 sl9 : Array (Option Value)} {oc1 kV1 dc1 pm1 cd1 ct1 oc2 kV2 dc2 pm2 cd2 ct2 oc3 kV3 dc3 pm3 cd3 ct3 oc4 kV4 dc4 pm4 cd4 ct4 oc5 kV5 dc5 pm5 cd5 ct5 oc6 kV6 dc6 pm6 cd6 ct6 oc7 kV7 dc7 pm7 cd7 ct7 oc8 kV8 dc8 pm8 cd8 ct8 oc9 kV9 dc9 pm9 cd9 ct9 : Value}
    (a1 : PySem.W.nsIn K mainGlobals "has_key_signs" = some (some (.ref f1))) (l1 : K.lookup f1 = some ⟨oc1, od1, .func (PySem.W.fnOf "has_key_signs" "has_key_signs" (defArgs sHasSigns) (defBody sHasSigns) (defScope sHasSigns) .none kV1 dc1 pm1 an1 cd1 ct1), sl1⟩) (c1 : PySem.W.codeIn K cd1 "has_key_signs" = true) (k1 : PySem.W.keepIn K (.ref f1) = true)
    (a2 : PySem.W.nsIn K mainGlobals "is_key" = some (some (.ref f2))) (l2 : K.lookup f2 = some ⟨oc2, od2, .func (PySem.W.fnOf "is_key" "is_key" (defArgs sIsKey) (defBody sIsKey) (defScope sIsKey) .none kV2 dc2 pm2 an2 cd2 ct2), sl2⟩) (c2 : PySem.W.codeIn K cd2 "is_key" = true) (k2 : PySem.W.keepIn K (.ref f2) = true)
    (a3 : PySem.W.nsIn K mainGlobals "is_row" = some (some (.ref f3))) (l3 : K.lookup f3 = some ⟨oc3, od3, .func (PySem.W.fnOf "is_row" "is_row" (defArgs sIsRow) (defBody sIsRow) (defScope sIsRow) .none kV3 dc3 pm3 an3 cd3 ct3), sl3⟩) (c3 : PySem.W.codeIn K cd3 "is_row" = true) (k3 : PySem.W.keepIn K (.ref f3) = true)
    (a4 : PySem.W.nsIn K mainGlobals "is_table" = some (some (.ref f4))) (l4 : K.lookup f4 = some ⟨oc4, od4, .func (PySem.W.fnOf "is_table" "is_table" (defArgs sIsTable) (defBody sIsTable) (defScope sIsTable) .none kV4 dc4 pm4 an4 cd4 ct4), sl4⟩) (c4 : PySem.W.codeIn K cd4 "is_table" = true) (k4 : PySem.W.keepIn K (.ref f4) = true)
    (a5 : PySem.W.nsIn K mainGlobals "_law_draw" = some (some (.ref f5))) (l5 : K.lookup f5 = some ⟨oc5, od5, .func (PySem.W.fnOf "_law_draw" "_law_draw" (defArgs sDraw) (defBody sDraw) (defScope sDraw) .none kV5 dc5 pm5 an5 cd5 ct5), sl5⟩) (c5 : PySem.W.codeIn K cd5 "_law_draw" = true) (k5 : PySem.W.keepIn K (.ref f5) = true)
    (a6 : PySem.W.nsIn K mainGlobals "_law_key" = some (some (.ref f6))) (l6 : K.lookup f6 = some ⟨oc6, od6, .func (PySem.W.fnOf "_law_key" "_law_key" (defArgs sKey) (defBody sKey) (defScope sKey) .none kV6 dc6 pm6 an6 cd6 ct6), sl6⟩) (c6 : PySem.W.codeIn K cd6 "_law_key" = true) (k6 : PySem.W.keepIn K (.ref f6) = true)
    (a7 : PySem.W.nsIn K mainGlobals "_law_row" = some (some (.ref f7))) (l7 : K.lookup f7 = some ⟨oc7, od7, .func (PySem.W.fnOf "_law_row" "_law_row" (defArgs sRow) (defBody sRow) (defScope sRow) .none kV7 dc7 pm7 an7 cd7 ct7), sl7⟩) (c7 : PySem.W.codeIn K cd7 "_law_row" = true) (k7 : PySem.W.keepIn K (.ref f7) = true)
    (a8 : PySem.W.nsIn K mainGlobals "_law_table" = some (some (.ref f8))) (l8 : K.lookup f8 = some ⟨oc8, od8, .func (PySem.W.fnOf "_law_table" "_law_table" (defArgs sTable) (defBody sTable) (defScope sTable) .none kV8 dc8 pm8 an8 cd8 ct8), sl8⟩) (c8 : PySem.W.codeIn K cd8 "_law_table" = true) (k8 : PySem.W.keepIn K (.ref f8) = true)
    (a9 : PySem.W.nsIn K mainGlobals "law" = some (some (.ref f9))) (l9 : K.lookup f9 = some ⟨oc9, od9, .func (PySem.W.fnOf "law" "law" (defArgs sLaw) (defBody sLaw) (defScope sLaw) .none kV9 dc9 pm9 an9 cd9 ct9), sl9⟩) (c9 : PySem.W.codeIn K cd9 "law" = true) (k9 : PySem.W.keepIn K (.ref f9) = true)
    {tk1 tk2 tk3 tk4 tk5 : Tok} (q1 : PySem.W.nsIn K mainGlobals "KEY_SIGNS" = some (some (.str "abcdefghijklmnopqrstuvwxyz0123456789" tk1))) (q2 : PySem.W.nsIn K mainGlobals "LONGEST_KEY" = some (some (.int 8 tk2))) (q3 : PySem.W.nsIn K mainGlobals "WIDEST_ROW" = some (some (.int 3 tk3))) (q4 : PySem.W.nsIn K mainGlobals "GREATEST_NUMBER" = some (some (.int 65535 tk4))) (q5 : PySem.W.nsIn K mainGlobals "MOST_PAIRS" = some (some (.int 100 tk5)))
    (z1 : PySem.W.nsIn K mainGlobals "len" = some none) (z2 : PySem.W.nsIn K mainGlobals "int" = some none) (z3 : PySem.W.nsIn K mainGlobals "range" = some none) (z4 : PySem.W.nsIn K mainGlobals "tuple" = some none) (z5 : PySem.W.nsIn K mainGlobals "sorted" = some none) (z6 : PySem.W.nsIn K mainGlobals "list" = some none) (z7 : PySem.W.nsIn K mainGlobals "all" = some none) (z8 : PySem.W.nsIn K mainGlobals "zip" = some none) (z9 : PySem.W.nsIn K mainGlobals "max" = some none) (z10 : PySem.W.nsIn K mainGlobals "str" = some none) :
    ∃ fd : FuncData, (∀ (s : Shared) (v : Value), BindsTo s fd ⟨[v], []⟩ [("script", v)]) ∧ ∀ base : Heap, K.In base → base.Ns mainGlobals mg → FnOk l.prog w K mg base CX0 4 fa fd ["script"] (spLaw K) := by
  have e := hfa.symm.trans (PySem.W.mg_of X G a9)
  cases e
  have F1 := fun_mk (st := sHasSigns) l1 c1 k1
  have b1 := F1.binds (ps := ["text"]) fun _ _ _ _ _ _ us hl => match us, hl with | [_], _ => rfl
  let d0 : Def K mg "has_key_signs" sHasSigns ["text"] := ⟨_, _, F1, b1, PySem.W.mg_of X G a1⟩
  have F2 := fun_mk (st := sIsKey) l2 c2 k2
  have b2 := F2.binds (ps := ["text"]) fun _ _ _ _ _ _ us hl => match us, hl with | [_], _ => rfl
  let d1 : Def K mg "is_key" sIsKey ["text"] := ⟨_, _, F2, b2, PySem.W.mg_of X G a2⟩
  have F3 := fun_mk (st := sIsRow) l3 c3 k3
  have b3 := F3.binds (ps := ["numbers"]) fun _ _ _ _ _ _ us hl => match us, hl with | [_], _ => rfl
  let d2 : Def K mg "is_row" sIsRow ["numbers"] := ⟨_, _, F3, b3, PySem.W.mg_of X G a3⟩
  have F4 := fun_mk (st := sIsTable) l4 c4 k4
  have b4 := F4.binds (ps := ["table"]) fun _ _ _ _ _ _ us hl => match us, hl with | [_], _ => rfl
  let d3 : Def K mg "is_table" sIsTable ["table"] := ⟨_, _, F4, b4, PySem.W.mg_of X G a4⟩
  have F5 := fun_mk (st := sDraw) l5 c5 k5
  have b5 := F5.binds (ps := ["state", "limit"]) fun _ _ _ _ _ _ us hl => match us, hl with | [_, _], _ => rfl
  let dD : Def K mg "_law_draw" sDraw ["state", "limit"] := ⟨_, _, F5, b5, PySem.W.mg_of X G a5⟩
  have F6 := fun_mk (st := sKey) l6 c6 k6
  have b6 := F6.binds (ps := ["state"]) fun _ _ _ _ _ _ us hl => match us, hl with | [_], _ => rfl
  let dK : Def K mg "_law_key" sKey ["state"] := ⟨_, _, F6, b6, PySem.W.mg_of X G a6⟩
  have F7 := fun_mk (st := sRow) l7 c7 k7
  have b7 := F7.binds (ps := ["state"]) fun _ _ _ _ _ _ us hl => match us, hl with | [_], _ => rfl
  let dR : Def K mg "_law_row" sRow ["state"] := ⟨_, _, F7, b7, PySem.W.mg_of X G a7⟩
  have F8 := fun_mk (st := sTable) l8 c8 k8
  have b8 := F8.binds (ps := ["state", "most"]) fun _ _ _ _ _ _ us hl => match us, hl with | [_, _], _ => rfl
  let dT : Def K mg "_law_table" sTable ["state", "most"] := ⟨_, _, F8, b8, PySem.W.mg_of X G a8⟩
  have F9 := fun_mk (st := sLaw) l9 c9 k9
  have b9 := F9.binds (ps := ["script"]) fun _ _ _ _ _ _ us hl => match us, hl with | [_], _ => rfl
  let dW : Def K mg "law" sLaw ["script"] := ⟨_, _, F9, b9, PySem.W.mg_of X G a9⟩
  have m_len := PySem.W.mg_none_of X G z1
  have m_int := PySem.W.mg_none_of X G z2
  have m_range := PySem.W.mg_none_of X G z3
  have m_tuple := PySem.W.mg_none_of X G z4
  have m_sorted := PySem.W.mg_none_of X G z5
  have m_list := PySem.W.mg_none_of X G z6
  have m_all := PySem.W.mg_none_of X G z7
  have m_zip := PySem.W.mg_none_of X G z8
  have m_max := PySem.W.mg_none_of X G z9
  have m_str := PySem.W.mg_none_of X G z10
  have c_KEY_SIGNS := PySem.W.mg_of X G q1
  have c_LONGEST_KEY := PySem.W.mg_of X G q2
  have c_WIDEST_ROW := PySem.W.mg_of X G q3
  have c_GREATEST_NUMBER := PySem.W.mg_of X G q4
  have c_MOST_PAIRS := PySem.W.mg_of X G q5
  refine ⟨PySem.W.fnOf "law" "law" (defArgs sLaw) (defBody sLaw) (defScope sLaw) .none kV9 dc9 pm9 an9 cd9 ct9, fun s v => .of_eq rfl, fun base _ _ => ?_⟩
  have GD := ok_draw (P := l.prog) (w := w) (base := base) dD m_len m_int
  have GK := ok_key dK dD m_range GD
  have GR := ok_row dR dD m_range m_tuple GD
  have GT := ok_table dT dD dK dR m_range m_sorted GD GK GR
  have G0 := ok_has_signs (P := l.prog) (w := w) (base := base) d0 m_all c_KEY_SIGNS
  have G1 := ok_is_key (P := l.prog) (w := w) (base := base) d1 d0 m_len c_LONGEST_KEY G0
  have G2 := ok_is_row (P := l.prog) (w := w) (base := base) d2 m_len m_all c_WIDEST_ROW c_GREATEST_NUMBER
  have G3 := ok_is_table d3 d1 d2 m_len m_all m_zip c_MOST_PAIRS G1 G2
  exact ok_law dW dD dK dR dT d3 m_list m_len m_range m_max m_str GD GK GR GT G3
end RR
open PySem PySem.W PyProof.Rows
set_option maxRecDepth 100000 in
set_option maxHeartbeats 0 in
theorem PySem.Challenge.cw_rightrows_k03_tables_holds : PySem.Challenge.rw_rightrows_k03_tables.Holds := by
  w_on; o_law; k_head; (case hw => w_witness2)
  k_fill
  refine L2.walk_of (l := PySem.Challenge.rw_rightrows_k03_tables) (n := 63) (k := 4) (x := "script") (CX := fun _ => L2.CX0) (sp := fun w => RR.spLaw _) rfl (by decide) rfl ⟨rfl, by decide, by decide⟩ (fun w h Y => PySem.W.kIn_of Y) ?F (fun _ _ a ns hl _ hS => ⟨a, ns, rfl, hS, hl, fun _ => rfl⟩) (fun _ _ _ _ _ h => h)
  case F =>
    intro w mg fa h KX G hmg
    refine' RR.all_mk KX G hmg ?a1 ?l1 ?c1 ?k1 ?a2 ?l2 ?c2 ?k2 ?a3 ?l3 ?c3 ?k3 ?a4 ?l4 ?c4 ?k4 ?a5 ?l5 ?c5 ?k5 ?a6 ?l6 ?c6 ?k6 ?a7 ?l7 ?c7 ?k7 ?a8 ?l8 ?c8 ?k8 ?a9 ?l9 ?c9 ?k9 ?q1 ?q2 ?q3 ?q4 ?q5 ?z1 ?z2 ?z3 ?z4 ?z5 ?z6 ?z7 ?z8 ?z9 ?z10
    (case a1 => k_is); (case l1 => k_is); (case c1 => k_is); (case k1 => k_is); (case a2 => k_is); (case l2 => k_is)
    (case c2 => k_is); (case k2 => k_is); (case a3 => k_is); (case l3 => k_is); (case c3 => k_is); (case k3 => k_is)
    (case a4 => k_is); (case l4 => k_is); (case c4 => k_is); (case k4 => k_is); (case a5 => k_is); (case l5 => k_is)
    (case c5 => k_is); (case k5 => k_is); (case a6 => k_is); (case l6 => k_is); (case c6 => k_is); (case k6 => k_is)
    (case a7 => k_is); (case l7 => k_is); (case c7 => k_is); (case k7 => k_is); (case a8 => k_is); (case l8 => k_is)
    (case c8 => k_is); (case k8 => k_is); (case a9 => k_is); (case l9 => k_is); (case c9 => k_is); (case k9 => k_is)
    (case q1 => k_is); (case q2 => k_is); (case q3 => k_is); (case q4 => k_is); (case q5 => k_is); (case z1 => k_is)
    (case z2 => k_is); (case z3 => k_is); (case z4 => k_is); (case z5 => k_is); (case z6 => k_is); (case z7 => k_is)
    (case z8 => k_is); (case z9 => k_is); (case z10 => k_is)
