import PyProof.Rows.All
import Wide.All
import OpenK.AllK
import Wide.FinOn
import HandS.ForMost
import HandS.Wide
import HandS.Codes
import HandS.More
import HandS.IsInst
import PySem.Challenge.RW_rightrows_k02_digests
import HandS.Style
import HandS.TupAny
import HandS.Walk
set_option Elab.async false
set_option linter.all false
set_option maxRecDepth 100000
namespace RR
open PySem PySem.Spec PyProof.Rows L2
def topS (i : Nat) : Stmt := PySem.Challenge.pw_rightrows_k02_digests.main.body.getD i (.Pass ⟨0, 0, 0, 0⟩)
abbrev sDraw : Stmt := topS 4
/-! ### heaps -/
theorem same_new {H : Hp} {p : Addr} (h : H p = none) (o : HO) : Same H (upd H p o) := fun b u q => by
  rw [upd_ne (ne_of_none q h)]
  exact q
/-- all but the drawer's list stands as it was -/
def Le (st : Addr) (H H' : Hp) : Prop := ∀ b o, b ≠ st → H b = some o → H' b = some o
theorem Le.refl (st : Addr) (H : Hp) : Le st H H := fun _ _ _ h => h
theorem Le.trans {st : Addr} {H H1 H2 : Hp} (a : Le st H H1) (b : Le st H1 H2) : Le st H H2 := fun c o n h => b c o n (a c o n h)
theorem Le.of {st : Addr} {H H' : Hp} (a : Same H H') : Le st H H' := fun b o _ h => a b o h
theorem Le.st {st : Addr} {H : Hp} (o : HO) : Le st H (upd H st o) := fun b u n h => by
  rw [upd_ne n]
  exact h
/-- the drawer's list -/
def Good (st l : Addr) (H : Hp) : Prop := ∃ (a p c : Int) (ns : List Int), H st = some (.lst [.int a, .int p, .ref l, .int c]) ∧ 0 ≤ a ∧ 0 ≤ p ∧ 0 ≤ c ∧ c < 2147483647 ∧ l ≠ st ∧ H l = some (.lst (ns.map V.int))
theorem Good.same {st l : Addr} {H H' : Hp} (g : Good st l H) (s : Same H H') : Good st l H' := by
  obtain ⟨a, p, c, ns, h, h1, h2, h3, h4, h5, h6⟩ := g
  exact ⟨a, p, c, ns, s _ _ h, h1, h2, h3, h4, h5, s _ _ h6⟩
theorem Good.ne {st l D : Addr} {H : Hp} (g : Good st l H) (h : H D = none) : D ≠ st ∧ D ≠ l := by
  obtain ⟨a, p, c, ns, h1, _, _, _, _, _, h6⟩ := g
  refine ⟨fun e => ?_, fun e => ?_⟩
  · rw [e, h1] at h
    cases h
  · rw [e, h6] at h
    cases h
theorem Good.put {st l D : Addr} {H : Hp} {o : HO} (g : Good st l H) (h : D ≠ st ∧ D ≠ l) : Good st l (upd H D o) := by
  obtain ⟨a, p, c, ns, h1, h2, h3, h4, h5, h6, h7⟩ := g
  exact ⟨a, p, c, ns, by rw [upd_ne h.1.symm]; exact h1, h2, h3, h4, h5, h6, by rw [upd_ne h.2.symm]; exact h7⟩
theorem Le.mut {st D : Addr} {H H' : Hp} {o : HO} (le : Le st H H') (h : H D = none) : Le st H (upd H' D o) := fun b u n e => by
  rw [upd_ne (ne_of_none e h)]
  exact le b u n e
theorem small {n : Nat} (h : n ≤ 1000) : n ≤ sizeLine := Nat.le_of_lt (small1000 h)
/-- a def of the text as it stands behind the top -/
structure Def (K : PySem.W.Frag) (mg : Str → Option Value) (x : Str) (st : Stmt) (ps : List Str) where
  f : Addr
  fd : FuncData
  F : Fun K x x st f fd
  b : Binds K fd ps []
  m : mg x = some (.ref f)
def spDraw : Sp := fun vs H Q _ => ∃ (st l : Addr) (n : Int), vs = [.ref st, .int n] ∧ Good st l H ∧ 0 < n ∧ n.natAbs < 2 ^ 200 ∧ ∀ d H', 0 ≤ d → d < n → Le st H H' → Good st l H' → Q (.int d) H'
theorem scDraw : FnScope ["state", "limit", "position", "cell", "mixed", "digit"] ["state", "limit"] (defScope sDraw) := ⟨rfl, rfl, rfl, by decide +kernel, rfl, by decide +kernel, by decide +kernel⟩
section
variable {P : Program} {w : World} {K : PySem.W.Frag} {mg : Str → Option Value} {base : Heap}
theorem ok_draw (D : Def K mg "_law_draw" sDraw ["state", "limit"]) (ml : mg "len" = none) (mi : mg "int" = none) : FnOk P w K mg base CX0 1 D.f D.fd ["state", "limit"] spDraw := by
  refine D.F.ok scDraw (fun vs H Q E h => ?_) (fun cdv A outer s H vs Q E hr h => ?_)
  · obtain ⟨st, l, n, rfl, _⟩ := h
    rfl
  obtain ⟨st, l, n, rfl, g, hn0, hn, q⟩ := h
  refine ⟨_, C8.pss_cut (ps_if (pt_cmpR op_lt (pe_ix ix_list (pv 0) pe_int (fun _ _ => rfl)) (pv 1) (nomark _))
      (pss_cons (ps_set (i := 2) scDraw.nd rfl (.inl rfl) (pe_ix ix_list (pv 0) pe_int (fun _ _ => rfl)))
      (pss_cons (ps_asg (pe_op op_add (pv 2) pe_int) (pg_sub (pv 0) pe_int set_list))
      (pss_cons (ps_set (i := 3) scDraw.nd rfl (.inl rfl) pe_int)
      (C8.pss_cut (ps_if (pt_cmpR op_lt (pv 2) (pe_callB call_len_seq (by rfl) ml PySem.boot_len (pa_cons (pe_ix ix_list (pv 0) pe_int (fun _ _ => rfl)) pa_nil)) (nomark _))
        (pss_one (ps_set (i := 3) scDraw.nd rfl (.inl rfl) (pe_ix ix_list (pe_ix ix_list (pv 0) pe_int (fun _ _ => rfl)) (pv 2) (fun _ _ => rfl)))) pss_nil)
      (pss_one (ps_if (pt_cmpR op_ge (pv 3) (pe_op op_pow pe_int pe_int) (nomark _))
        (pss_one (ps_asg (pv 3) (pg_sub (pv 0) pe_int set_list)))
        (C8.pss_cut (ps_asg (pe_op op_modN (pe_callTy call_int1 (by rfl) mi (by decide +kernel) (pa_cons (pe_op op_mul (pe_op op_add (pe_op op_add (pe_op op_add (pe_ix ix_list (pv 0) pe_int (fun _ _ => rfl)) (pe_op op_modN (pe_callTy call_int1 (by rfl) mi (by decide +kernel) (pa_cons (pv 3) pa_nil)) pe_int)) (pv 2)) pe_int) pe_int) pa_nil)) pe_int) (pg_sub (pv 0) pe_int set_list))
        (C8.pss_cut (ps_set (i := 4) scDraw.nd rfl (.inl rfl) (pe_op op_modN (pe_callTy call_int1 (by rfl) mi (by decide +kernel) (pa_cons (pe_op op_add (pe_op op_mul (pe_ix ix_list (pv 0) pe_int (fun _ _ => rfl)) pe_int) pe_int) pa_nil)) pe_int))
        (pss_one (ps_asg (pe_op op_add (pe_op op_mul (pv 4) pe_int) (pe_op op_modN (pe_callTy call_int1 (by rfl) mi (by decide +kernel) (pa_cons (pe_op op_add (pe_op op_mul (pv 4) pe_int) (pe_ix ix_list (pv 0) pe_int (fun _ _ => rfl))) pa_nil)) pe_int)) (pg_sub (pv 0) pe_int set_list))))))))))) pss_nil)
    (pss_cons (ps_set (i := 5) scDraw.nd rfl (.inl rfl) (pe_op op_modN (pe_callTy call_int1 (by rfl) mi (by decide +kernel) (pa_cons (pe_ix ix_list (pv 0) pe_int (fun _ _ => rfl)) pa_nil)) (pv 1)))
    (pss_cons (ps_asg (pe_op op_fdivW (pe_ix ix_list (pv 0) pe_int (fun _ _ => rfl)) (pv 1)) (pg_sub (pv 0) pe_int set_list))
    (pss_one (ps_ret (pv 5))))), ?_⟩
  obtain ⟨a, p, c, ns, h, ha, hp, hc, hc2, hl, hns⟩ := g
  refine ⟨fun σ' H' => ∃ y2 y3 y4 y5, σ' = [some (.ref st), some (.int n), y2, y3, y4, y5] ∧ Le st H H' ∧ Good st l H', ?_, ?_⟩
  · refine ⟨_, rfl, st, _, 0, _, rfl, rfl, SqL.of h, atI_nat (j := 0) rfl, _, rfl, _, _, rfl, rfl, _, rfl, ite2 (fun _ => ?_) (fun _ => ?_)⟩
    · refine ⟨_, rfl, st, _, 1, _, rfl, rfl, SqL.of h, atI_nat (j := 1) rfl, ?_⟩
      refine ⟨_, rfl, _, _, rfl, rfl, _, rfl, st, _, 1, 1, rfl, rfl, h, rfl, ?_⟩
      have h1 : upd H st (.lst ([.int a, .int p, .ref l, .int c].set 1 (.int (p + 1)))) st = some (.lst [.int a, .int (p + 1), .ref l, .int c]) := upd_same
      have hns1 : upd H st (.lst ([.int a, .int p, .ref l, .int c].set 1 (.int (p + 1)))) l = some (.lst (ns.map V.int)) := by
        rw [upd_ne hl]
        exact hns
      refine ⟨fun σ' H' => ∃ cell : Int, σ' = [some (.ref st), some (.int n), some (.int p), some (.int cell), none, none] ∧ H' = upd H st (.lst ([.int a, .int p, .ref l, .int c].set 1 (.int (p + 1)))), ?_, ?_⟩
      · refine ⟨_, rfl, _, rfl, st, _, 2, _, rfl, rfl, SqL.of h1, atI_nat (j := 2) rfl, l, _, rfl, .inl (SqL.of hns1), _, _, rfl, rfl, _, rfl, ite2 (fun hlt => ?_) (fun _ => ?_)⟩
        · have hlt2 : p < (((ns.map V.int).length : Nat) : Int) := of_decide_eq_true hlt
          rw [List.length_map] at hlt2
          have hk : p.toNat < ns.length := by omega
          have hg : atI (ns.map V.int) p = some (.int ns[p.toNat]) := by
            have e : ((p.toNat : Nat) : Int) = p := by omega
            have z : atI (ns.map V.int) ((p.toNat : Nat) : Int) = some (.int ns[p.toNat]) := atI_nat (by rw [List.getElem?_map, List.getElem?_eq_getElem hk]; rfl)
            rw [e] at z
            exact z
          refine ⟨_, rfl, st, _, 2, _, rfl, rfl, SqL.of h1, atI_nat (j := 2) rfl, _, rfl, l, _, p, _, rfl, rfl, SqL.of hns1, hg, ?_⟩
          exact ⟨_, rfl, rfl⟩
        · exact ⟨_, rfl, rfl⟩
      · rintro σ' H' ⟨cell, rfl, rfl⟩
        refine ⟨_, rfl, 10, 18, rfl, rfl, ⟨by decide, by decide, by decide⟩, _, _, rfl, rfl, _, rfl, ite2 (fun hge => ?_) (fun _ => ?_)⟩
        · have hge2 : cell ≥ 10 ^ 18 := of_decide_eq_true hge
          refine ⟨_, rfl, _, rfl, st, _, 0, 0, rfl, rfl, h1, rfl, ?_⟩
          refine ⟨_, _, _, _, rfl, fun b o nb e => by rw [upd_ne nb, upd_ne nb]; exact e, cell, p + 1, c, ns, upd_same, by omega, by omega, hc, hc2, hl, ?_⟩
          rw [upd_ne hl]
          exact hns1
        · have le1 : Le st H (upd H st (.lst ([.int a, .int p, .ref l, .int c].set 1 (.int (p + 1))))) := Le.st _
          refine ⟨fun σ' H' => ∃ x : Int, σ' = [some (.ref st), some (.int n), some (.int p), some (.int cell), none, none] ∧ 0 ≤ x ∧ x < 2147483647 ∧ H' st = some (.lst [.int a, .int (p + 1), .ref l, .int x]) ∧ H' l = some (.lst (ns.map V.int)) ∧ Le st H H', ?_, ?_⟩
          · refine ⟨_, rfl, st, _, 3, _, rfl, rfl, SqL.of h1, atI_nat (j := 3) rfl, _, rfl, .inl ⟨_, rfl, _, _, rfl, rfl, (by show (2147483629 : Int) ≠ 0; decide), _, _, rfl, rfl, ?_⟩⟩
            refine ⟨_, rfl, _, _, rfl, rfl, _, _, rfl, rfl, _, _, rfl, rfl, .inr (by decide), .inl ⟨_, rfl, _, _, rfl, rfl, (by show (2147483647 : Int) ≠ 0; decide), ?_⟩⟩
            refine ⟨_, rfl, st, _, 3, 3, rfl, rfl, h1, rfl, ?_⟩
            exact ⟨_, rfl, Int.fmod_nonneg_of_pos _ (by decide), Int.fmod_lt_of_pos _ (by decide), upd_same, by rw [upd_ne hl]; exact hns1, le1.trans (Le.st _)⟩
          · rintro σ' H2 ⟨x, rfl, hx0, hx1, h2, hns2, le2⟩
            refine ⟨fun σ' H' => ∃ m : Int, σ' = [some (.ref st), some (.int n), some (.int p), some (.int cell), some (.int m), none] ∧ 0 ≤ m ∧ H' = H2, ?_, ?_⟩
            · refine ⟨_, rfl, st, _, 3, _, rfl, rfl, SqL.of h2, atI_nat (j := 3) rfl, _, _, rfl, rfl, .inr (by decide), _, _, rfl, rfl, .inl ⟨_, rfl, _, _, rfl, rfl, (by show (2147483629 : Int) ≠ 0; decide), ?_⟩⟩
              exact ⟨_, rfl, Int.fmod_nonneg_of_pos _ (by decide), rfl⟩
            · rintro σ' H3 ⟨m, rfl, hm0, rfl⟩
              refine ⟨_, rfl, _, _, rfl, rfl, .inr (by decide), _, rfl, _, _, rfl, rfl, .inr (by decide), _, rfl, st, _, 3, _, rfl, rfl, SqL.of h2, atI_nat (j := 3) rfl, _, _, rfl, rfl, .inl ⟨_, rfl, _, _, rfl, rfl, (by show (2147483587 : Int) ≠ 0; decide), _, _, rfl, rfl, ?_⟩⟩
              refine ⟨_, rfl, st, _, 0, 0, rfl, rfl, h2, rfl, ?_⟩
              have hk0 : 0 ≤ Int.fmod (m * 30011 + x) 2147483587 := Int.fmod_nonneg_of_pos _ (by decide)
              refine ⟨_, _, _, _, rfl, le2.trans (Le.st _), m * 2147483647 + Int.fmod (m * 30011 + x) 2147483587, p + 1, x, ns, upd_same, by omega, by omega, hx0, hx1, hl, ?_⟩
              rw [upd_ne hl]
              exact hns2
    · exact ⟨_, _, _, _, rfl, Le.refl _ _, a, p, c, ns, h, ha, hp, hc, hc2, hl, hns⟩
  · rintro σ' H' ⟨y2, y3, y4, y5, rfl, le, a, p, c, ns, h, ha, hp, hc, hc2, hl, hns⟩
    refine ⟨_, rfl, st, _, 0, _, rfl, rfl, SqL.of h, atI_nat (j := 0) rfl, .inl ⟨_, rfl, ?_⟩⟩
    refine ⟨_, rfl, _, _, rfl, rfl, (by omega), ?_⟩
    refine ⟨_, rfl, st, _, 0, _, rfl, rfl, SqL.of h, atI_nat (j := 0) rfl, _, rfl, _, _, rfl, rfl, wide_div hn0 hn (by decide) (by decide), ?_⟩
    refine ⟨_, rfl, st, _, 0, 0, rfl, rfl, h, rfl, ?_⟩
    refine ⟨_, rfl, ?_⟩
    refine q _ _ (Int.fmod_nonneg_of_pos _ hn0) (Int.fmod_lt_of_pos _ hn0) (fun b o nb e => by rw [upd_ne nb]; exact le _ _ nb e) ⟨a / n, p, c, ns, upd_same, Int.ediv_nonneg ha (by omega), hp, hc, hc2, hl, by rw [upd_ne hl]; exact hns⟩
end
end RR

namespace RR
open PySem PySem.Spec PyProof.Rows L2
abbrev sKey : Stmt := topS 9
abbrev sRow : Stmt := topS 10
/-! ### data that never changes -/
/-- tuples stand as they stood -/
def Tk (H H' : Hp) : Prop := ∀ a xs, H a = some (.tup xs) → H' a = some (.tup xs)
theorem Tk.refl (H : Hp) : Tk H H := fun _ _ h => h
theorem Tk.trans {H H1 H2 : Hp} (a : Tk H H1) (b : Tk H1 H2) : Tk H H2 := fun c o h => b c o (a c o h)
theorem Tk.same {H H' : Hp} (s : Same H H') : Tk H H' := fun _ _ h => s _ _ h
theorem Tk.le {st l : Addr} {H H' : Hp} (g : Good st l H) (s : Le st H H') : Tk H H' := fun a xs h => s a _ (fun e => by
  obtain ⟨i, p, c, ns, h2, _⟩ := g
  rw [e, h2] at h
  cases h) h
/-- a store to what is no tuple -/
theorem Tk.put {H : Hp} {p : Addr} (o : HO) (h : ∀ xs, H p ≠ some (.tup xs)) : Tk H (upd H p o) := fun a xs e => by
  rw [upd_ne (fun z => h xs (by rw [← z]; exact e))]
  exact e
theorem Tk.new {H : Hp} {p : Addr} (h : H p = none) (o : HO) : Tk H (upd H p o) := Tk.same (same_new h o)
mutual
inductive TD (H : Hp) : V → PyData → Prop
  | non : TD H .non .none
  | int (i : Int) : TD H (.int i) (.int i)
  | str (x : Str) : TD H (.str x) (.str x)
  | tup {a : Addr} {xs : List V} {ds : List PyData} : H a = some (.tup xs) → TDs H xs ds → TD H (.ref a) (.tuple ds)
inductive TDs (H : Hp) : List V → List PyData → Prop
  | nil : TDs H [] []
  | cons {v : V} {vs : List V} {d : PyData} {ds : List PyData} : TD H v d → TDs H vs ds → TDs H (v :: vs) (d :: ds)
end
mutual
theorem TD.mono {H H' : Hp} (k : Tk H H') : ∀ (d : PyData) (v : V), TD H v d → TD H' v d
  | _, _, .non => .non
  | _, _, .int i => .int i
  | _, _, .str x => .str x
  | .tuple ds, .ref a, .tup (xs := xs) h hs => .tup (k _ _ h) (TDs.mono k ds xs hs)
theorem TDs.mono {H H' : Hp} (k : Tk H H') : ∀ (ds : List PyData) (vs : List V), TDs H vs ds → TDs H' vs ds
  | _, _, .nil => .nil
  | d :: ds, v :: vs, .cons h hs => .cons (TD.mono k d v h) (TDs.mono k ds vs hs)
end
mutual
theorem TD.dp {K : PySem.W.Frag} {H : Hp} : ∀ (d : PyData) (v : V), TD H v d → Dp K H v d
  | _, _, .non => .non
  | _, _, .int i => .int i
  | _, _, .str x => .str x
  | .tuple ds, .ref a, .tup (xs := xs) h hs => .tup (SqT.of h) (TDs.dp ds xs hs)
theorem TDs.dp {K : PySem.W.Frag} {H : Hp} : ∀ (ds : List PyData) (vs : List V), TDs H vs ds → DpAll K H vs ds
  | _, _, .nil => .nil
  | d :: ds, v :: vs, .cons h hs => .cons (TD.dp d v h) (TDs.dp ds vs hs)
end
theorem TDs.length {H : Hp} : ∀ {vs : List V} {ds : List PyData}, TDs H vs ds → vs.length = ds.length
  | _, _, .nil => rfl
  | _, _, .cons _ h => congrArg Nat.succ (TDs.length h)
theorem TDs.get {H : Hp} : ∀ {vs : List V} {ds : List PyData}, TDs H vs ds → ∀ (i : Nat) (v : V), vs[i]? = some v → ∃ d, ds[i]? = some d ∧ TD H v d
  | _, _, .nil, i, v, h => by simp at h
  | _, _, .cons h1 h, 0, v, e => ⟨_, rfl, by
      have e2 := Option.some.inj e
      rw [← e2]
      exact h1⟩
  | _, _, .cons h1 h, i + 1, v, e => TDs.get h i v e
theorem TDs.app {H : Hp} : ∀ {vs ws : List V} {ds es : List PyData}, TDs H vs ds → TDs H ws es → TDs H (vs ++ ws) (ds ++ es)
  | _, _, _, _, .nil, h => h
  | _, _, _, _, .cons h1 h2, h => .cons h1 (TDs.app h2 h)
theorem TDs.ints {H : Hp} : ∀ ns : List Int, TDs H (ns.map V.int) (ns.map PyData.int)
  | [] => .nil
  | n :: r => .cons (.int n) (TDs.ints r)
def rowD (ns : List Int) : PyData := .tuple (ns.map PyData.int)
def pairD (p : Str × List Int) : PyData := .tuple [.str p.1, rowD p.2]
/-! ### keys, rows -/
def letS : Str := "abcdefghijklmnopqrstuvwxyz0123456789"
def KeyOk (s : Str) : Prop := 1 ≤ s.length ∧ s.length ≤ 8 ∧ ∀ c ∈ s.cps.toList, c ∈ letS.cps.toList
def RowOk (ns : List Int) : Prop := 1 ≤ ns.length ∧ ns.length ≤ 3 ∧ ∀ n ∈ ns, 0 ≤ n ∧ n ≤ 65535
theorem pick {z : Str} {d : Int} (h0 : 0 ≤ d) (h1 : d < (z.cps.toList.length : Int)) : ∃ c, atI z.cps.toList d = some c ∧ c ∈ z.cps.toList := by
  have hk : d.toNat < z.cps.toList.length := by omega
  have e : ((d.toNat : Nat) : Int) = d := by omega
  have q : atI z.cps.toList ((d.toNat : Nat) : Int) = some z.cps.toList[d.toNat] := atI_nat (List.getElem?_eq_getElem hk)
  rw [e] at q
  exact ⟨_, q, List.getElem_mem hk⟩
def spKey : Sp := fun vs H Q _ => ∃ st l : Addr, vs = [.ref st] ∧ Good st l H ∧ ∀ s H', KeyOk s → Le st H H' → Good st l H' → Q (.str s) H'
def spRow : Sp := fun vs H Q _ => ∃ st l : Addr, vs = [.ref st] ∧ Good st l H ∧ ∀ r ns H', RowOk ns → Le st H H' → Good st l H' → H' r = some (.tup (ns.map V.int)) → Q (.ref r) H'
theorem scKey : FnScope ["state", "letters", "choice", "key", "k"] ["state"] (defScope sKey) := ⟨rfl, rfl, rfl, by decide +kernel, rfl, by decide +kernel, by decide +kernel⟩
theorem scRow : FnScope ["state", "k"] ["state"] (defScope sRow) := ⟨rfl, rfl, rfl, by decide +kernel, rfl, by decide +kernel, by decide +kernel⟩
theorem sub1 : ∀ c ∈ ("abcdefghij" : Str).cps.toList, c ∈ letS.cps.toList := by decide +kernel
theorem sub2 : ∀ c ∈ ("ab0z" : Str).cps.toList, c ∈ letS.cps.toList := by decide +kernel
theorem sub3 : ∀ c ∈ ("ab9" : Str).cps.toList, c ∈ letS.cps.toList := by decide +kernel
theorem len1 : (("abcdefghij" : Str).cps.toList.length : Int) = 10 := by decide +kernel
theorem len2 : (("ab0z" : Str).cps.toList.length : Int) = 4 := by decide +kernel
theorem len3 : (("ab9" : Str).cps.toList.length : Int) = 3 := by decide +kernel
theorem lenL : (letS.cps.toList.length : Int) = 36 := by decide +kernel
theorem app_list (a b : Str) : (a ++ b).cps.toList = a.cps.toList ++ b.cps.toList := Array.toList_append
theorem str_len (a : Str) : a.length = a.cps.toList.length := (Array.length_toList).symm
theorem app_len (a b : Str) : (a ++ b).length = a.length + b.length := by
  rw [str_len, str_len, str_len, app_list, List.length_append]
theorem KeyOk.app {s : Str} {c : Nat} (h : s.length < 8) (hs : ∀ c ∈ s.cps.toList, c ∈ letS.cps.toList) (hc : c ∈ letS.cps.toList) : KeyOk (s ++ ⟨#[c]⟩) := by
  refine ⟨?_, ?_, fun x hx => ?_⟩
  · rw [app_len]
    show 1 ≤ s.length + 1
    omega
  · rw [app_len]
    show s.length + 1 ≤ 8
    omega
  · rw [app_list, List.mem_append] at hx
    rcases hx with hx | hx
    · exact hs x hx
    · have e : x = c := by simpa using hx
      rw [e]
      exact hc
theorem pow7 {n : Nat} (h : n ≤ 100000) : n < 2 ^ 200 := Nat.lt_of_le_of_lt h (by decide)
section
variable {P : Program} {w : World} {K : PySem.W.Frag} {mg : Str → Option Value} {base : Heap}
theorem ok_key (D : Def K mg "_law_key" sKey ["state"]) (DD : Def K mg "_law_draw" sDraw ["state", "limit"]) (mr : mg "range" = none) (GD : FnOk P w K mg base CX0 1 DD.f DD.fd ["state", "limit"] spDraw) : FnOk P w K mg base CX0 2 D.f D.fd ["state"] spKey := by
  refine D.F.ok scKey (fun vs H Q E h => ?_) (fun cdv A outer s H vs Q E hr h => ?_)
  · obtain ⟨st, l, rfl, _⟩ := h
    rfl
  obtain ⟨st, l, rfl, g, q⟩ := h
  refine ⟨_, pss_cons (ps_set (i := 1) scKey.nd rfl (.inl rfl) pe_str)
    (pss_cons (ps_set (i := 2) scKey.nd rfl (.inl rfl) (pe_call GD hr (by rfl) DD.m DD.F.kp DD.b .nil pass0 (pa_cons (pv 0) (pa_cons pe_int pa_nil))))
    (pss_cons (ps_if (pt_cmpR op_eq (pv 2) pe_int (nomark _))
      (pss_one (ps_ret (pe_ix ix_str pe_str (pe_call GD hr (by rfl) DD.m DD.F.kp DD.b .nil pass0 (pa_cons (pv 0) (pa_cons pe_int pa_nil))) (fun _ _ => rfl)))) pss_nil)
    (pss_cons (ps_if (pt_cmpR op_eq (pv 2) pe_int (nomark _))
      (pss_one (ps_ret (pe_op op_add_str (pe_ix ix_str pe_str (pe_call GD hr (by rfl) DD.m DD.F.kp DD.b .nil pass0 (pa_cons (pv 0) (pa_cons pe_int pa_nil))) (fun _ _ => rfl)) (pe_ix ix_str pe_str (pe_call GD hr (by rfl) DD.m DD.F.kp DD.b .nil pass0 (pa_cons (pv 0) (pa_cons pe_int pa_nil))) (fun _ _ => rfl))))) pss_nil)
    (pss_cons (ps_set (i := 3) scKey.nd rfl (.inl rfl) pe_str)
    (pss_cons (ps_for PassesOwn.never rfl (pi_range1 (by rfl) mr (pa_cons (pe_op op_add pe_int (pe_call GD hr (by rfl) DD.m DD.F.kp DD.b .nil pass0 (pa_cons (pv 0) (pa_cons pe_int pa_nil)))) pa_nil)) (pg_name (i := 4) scKey.nd rfl (.inl rfl))
      (pss_one (ps_set (i := 3) scKey.nd rfl (.inl rfl) (pe_op op_add_str (pv 3) (pe_ix ix_str (pv 1) (pe_call GD hr (by rfl) DD.m DD.F.kp DD.b .nil pass0 (pa_cons (pv 0) (pa_cons pe_int pa_nil))) (fun _ _ => rfl))))))
    (pss_one (ps_ret (pv 3)))))))), ?_⟩
  refine ⟨_, rfl, st, l, 3, rfl, g, by decide, by decide, fun d H1 d0 d1 le1 g1 => ?_⟩
  refine ⟨_, rfl, rfl, _, rfl, ite2 (fun _ => ?_) (fun _ => ?_)⟩
  · refine ⟨_, rfl, st, l, 10, rfl, g1, by decide, by decide, fun d2 H2 d20 d21 le2 g2 => ?_⟩
    obtain ⟨c, hc, hm⟩ := pick (z := "abcdefghij") d20 (by rw [len1]; exact d21)
    refine ⟨_, _, c, rfl, rfl, by decide, hc, ?_⟩
    refine q _ _ ⟨by show 1 ≤ 1; decide, by show 1 ≤ 8; decide, fun x hx => ?_⟩ (le1.trans le2) g2
    have e : x = c := by simpa using hx
    rw [e]
    exact sub1 c hm
  refine ⟨_, rfl, rfl, _, rfl, ite2 (fun _ => ?_) (fun _ => ?_)⟩
  · refine ⟨_, rfl, st, l, 4, rfl, g1, by decide, by decide, fun d2 H2 d20 d21 le2 g2 => ?_⟩
    obtain ⟨c, hc, hm⟩ := pick (z := "ab0z") d20 (by rw [len2]; exact d21)
    refine ⟨_, _, c, rfl, rfl, by decide, hc, ?_⟩
    refine ⟨_, rfl, st, l, 3, rfl, g2, by decide, by decide, fun d3 H3 d30 d31 le3 g3 => ?_⟩
    obtain ⟨c3, hc3, hm3⟩ := pick (z := "ab9") d30 (by rw [len3]; exact d31)
    refine ⟨_, _, c3, rfl, rfl, by decide, hc3, ?_⟩
    refine ⟨_, _, rfl, rfl, by show 2 ≤ sizeLine; decide, ?_⟩
    refine q _ _ (KeyOk.app (by show 1 < 8; decide) (fun x hx => ?_) (sub3 c3 hm3)) ((le1.trans le2).trans le3) g3
    have e : x = c := by simpa using hx
    rw [e]
    exact sub2 c hm
  refine ⟨_, rfl, st, l, 8, rfl, g1, by decide, by decide, fun d2 H2 d20 d21 le2 g2 => ?_⟩
  refine ⟨_, _, rfl, rfl, _, rfl, by omega, by omega, for_range (lo := 0) (n := (1 + d2).toNat) (fun i σ H' => ∃ s y, σ = [some (.ref st), some (.str letS), some (.int d), some (.str s), y] ∧ s.length = i ∧ (∀ c ∈ s.cps.toList, c ∈ letS.cps.toList) ∧ Le st H H' ∧ Good st l H') ?_ ?_ ?_⟩
  · exact ⟨_, _, rfl, rfl, fun c hc => (by cases hc), le1.trans le2, g2⟩
  · rintro i σ H' hi ⟨s, y, rfl, hl, hs, le, g3⟩
    refine ⟨_, rfl, _, rfl, _, rfl, st, l, 36, rfl, g3, by decide, by decide, fun d3 H3 d30 d31 le3 g3 => ?_⟩
    obtain ⟨c, hc, hm⟩ := pick (z := letS) d30 (by rw [lenL]; exact d31)
    refine ⟨_, _, c, rfl, rfl, by decide +kernel, hc, ?_⟩
    have hl8 : s.length < 8 := by omega
    refine ⟨_, _, rfl, rfl, by show s.length + 1 ≤ sizeLine; exact small (by omega), ?_⟩
    refine ⟨_, _, rfl, ?_, (KeyOk.app hl8 hs hm).2.2, le.trans le3, g3⟩
    rw [app_len, hl]
    rfl
  · rintro σ H' ⟨s, y, rfl, hl, hs, le, g3⟩
    exact ⟨_, rfl, q _ _ ⟨by omega, by omega, hs⟩ le g3⟩
theorem ok_row (D : Def K mg "_law_row" sRow ["state"]) (DD : Def K mg "_law_draw" sDraw ["state", "limit"]) (mr : mg "range" = none) (mt : mg "tuple" = none) (GD : FnOk P w K mg base CX0 1 DD.f DD.fd ["state", "limit"] spDraw) : FnOk P w K mg base CX0 2 D.f D.fd ["state"] spRow := by
  refine D.F.ok scRow (fun vs H Q E h => ?_) (fun cdv A outer s H vs Q E hr h => ?_)
  · obtain ⟨st, l, rfl, _⟩ := h
    rfl
  obtain ⟨st, l, rfl, g, q⟩ := h
  refine ⟨_, pss_one (ps_ret (pe_callTy call_tuple_of (by rfl) mt (by decide +kernel) (pa_cons (pe_lc (own := [("k", 1)]) (g := gName 1) (by rfl) scRow.nd
      (pi_range1 (by rfl) mr (pa_cons (pe_op op_add pe_int (pe_call GD hr (by rfl) DD.m DD.F.kp DD.b .nil pass0 (pa_cons (pv 0) (pa_cons pe_int pa_nil)))) pa_nil))
      (blkOk_by (own := [("k", 1)]) (N := ["state", "k"]) (sc := defScope sRow) (by decide +kernel))
      (fun _ _ _ _ _ => pg_name (i := 1) scRow.nd rfl (Or.inl rfl)) (fun _ _ _ _ _ => pts_nil)
      (fun _ _ _ _ _ => pe_call GD hr (by rfl) DD.m DD.F.kp DD.b .nil pass0 (pa_cons (pv 0) (pa_cons (pe_ix (r := rIxL K) ix_list (pe_lst (pa_cons pe_int (pa_cons pe_int pa_nil))) (pe_call GD hr (by rfl) DD.m DD.F.kp DD.b .nil pass0 (pa_cons (pv 0) (pa_cons pe_int pa_nil))) (fun _ _ => rfl)) pa_nil)))) pa_nil))), ?_⟩
  refine ⟨_, rfl, st, l, 3, rfl, g, by decide, by decide, fun d H1 d0 d1 le1 g1 => ?_⟩
  refine ⟨_, _, rfl, rfl, _, rfl, by omega, by omega, fun D hD => ?_⟩
  refine lc_range (lo := 0) (n := (1 + d).toNat) (fun i H' => ∃ ns : List Int, H' D = some (.lst (ns.map V.int)) ∧ ns.length = i ∧ (∀ n ∈ ns, 0 ≤ n ∧ n ≤ 65535) ∧ Le st H1 H' ∧ Good st l H') ?_ ?_ ?_
  · exact ⟨[], upd_same, rfl, fun n hn => (by cases hn), Le.of (same_new hD _), g1.same (same_new hD _)⟩
  · rintro i H2 hi ⟨ns, hns, hl, hb, le2, g2⟩
    refine ⟨rfl, ?_⟩
    refine ⟨_, rfl, by show 2 ≤ sizeLine; decide, fun z hz => ?_⟩
    have nDz : D ≠ z := ne_of_none hns hz
    have g3 := g2.same (same_new hz (.lst [.int 4, .int 65536]))
    refine ⟨_, rfl, st, l, 2, rfl, g3, by decide, by decide, fun d3 H3 d30 d31 le3 g3 => ?_⟩
    have hz3 : H3 z = some (.lst [.int 4, .int 65536]) := le3 z _ (g2.ne hz).1 upd_same
    have hD3 : H3 D = some (.lst (ns.map V.int)) := le3 D _ (g1.ne hD).1 (by rw [upd_ne nDz]; exact hns)
    obtain ⟨m, hm, m0, m1⟩ : ∃ m : Int, atI [V.int 4, .int 65536] d3 = some (.int m) ∧ 0 < m ∧ m ≤ 65536 := by
      rcases (by omega : d3 = 0 ∨ d3 = 1) with e | e
      · exact ⟨4, by rw [e]; rfl, by decide, by decide⟩
      · exact ⟨65536, by rw [e]; rfl, by decide, by decide⟩
    refine ⟨z, _, d3, _, rfl, rfl, SqL.of hz3, hm, ?_⟩
    refine ⟨st, l, m, rfl, g3, m0, pow7 (by omega), fun d4 H4 d40 d41 le4 g4 => ?_⟩
    have hD4 : H4 D = some (.lst (ns.map V.int)) := le4 D _ (g1.ne hD).1 hD3
    refine ⟨_, hD4, ?_, ns ++ [d4], ?_, ?_, ?_, ?_, g4.put (g1.ne hD)⟩
    · rw [List.length_map]
      exact small1000 (by omega)
    · rw [upd_same, List.map_append]
      rfl
    · rw [List.length_append, hl]
      rfl
    · intro n hn
      rw [List.mem_append] at hn
      rcases hn with hn | hn
      · exact hb n hn
      · have e : n = d4 := by simpa using hn
        omega
    · exact (((le2.trans (Le.of (same_new hz _))).trans le3).trans le4).mut hD
  · rintro H2 ⟨ns, hns, hl, hb, le2, g2⟩
    refine ⟨D, _, rfl, .inl ⟨SqL.of hns, fun r hr2 => ?_⟩⟩
    refine q r ns _ ⟨by omega, by omega, hb⟩ ((le1.trans le2).trans (Le.of (same_new hr2 _))) (g2.same (same_new hr2 _)) upd_same
end
end RR

namespace RX
open PySem PySem.Spec PyProof.Rows L2
/-! ### t[::-1] of a tuple -/
theorem back_pick (xs : List Value) : ((List.range xs.length).filterMap fun (k : Nat) => xs.toArray[((((xs.length : Nat) : Int) - 1) + (k : Int) * (-1)).toNat]?) = xs.reverse := by
  have key : ∀ n, n ≤ xs.length → ((List.range n).filterMap fun (k : Nat) => xs.toArray[((((xs.length : Nat) : Int) - 1) + (k : Int) * (-1)).toNat]?) = xs.reverse.take n := by
    intro n
    induction n with
    | zero => intro _; rfl
    | succ n ih =>
      intro h
      have e : ((((xs.length : Nat) : Int) - 1) + (n : Int) * (-1)).toNat = xs.length - 1 - n := by omega
      have hl : xs.length - 1 - n < xs.length := by omega
      have hr : xs.reverse[n]? = some xs[xs.length - 1 - n] := by
        rw [List.getElem?_reverse (by omega), List.getElem?_eq_getElem hl]
      have hx : xs.toArray[((((xs.length : Nat) : Int) - 1) + (n : Int) * (-1)).toNat]? = some xs[xs.length - 1 - n] := by
        rw [e, List.getElem?_toArray, List.getElem?_eq_getElem hl]
      rw [List.range_succ, List.filterMap_append, ih (by omega), List.take_add_one, hr, List.filterMap_cons, hx]
      rfl
  rw [key xs.length (Nat.le_refl _), List.take_of_length_le (by rw [List.length_reverse]; exact Nat.le_refl _)]
theorem back_adjust (n : Nat) : Builtin.Slice.sliceAdjust none none (-1) (n : Int) = ((n : Int) - 1, -1) := by
  unfold Builtin.Slice.sliceAdjust
  simp
theorem back_places (n : Nat) : Builtin.Slice.slicePlaces ((n : Int) - 1) (-1) (-1) = n := by
  unfold Builtin.Slice.slicePlaces
  simp
  omega
section
variable {prog : Program} {w : World} {A : Around} {E : Value → Shared → Prop} {s : Shared}
theorem applied_back {sl : Addr} {vs : Value} {n : Nat} {Q : Int × Int × Nat → Shared → Prop} (hs : s.heap.IsSliceOf sl .none .none vs) (ps : IsPart vs (some (-1))) (h : Q ((n : Int) - 1, -1, n) s) :
    wpAny (model prog w) A (Builtin.Slice.sliceApplied (.ref sl) (pure (n : Int))) Q E s := by
  obtain ⟨os, hos, hcs, hds⟩ := id hs
  unfold Builtin.Slice.sliceApplied Builtin.Slice.sliceFields
  refine wpAny_bind (wpAny_bind (wpAny_field hos hds (x := .none) rfl (wpAny_bind (wpAny_field hos hds (x := .none) rfl (wpAny_bind (wpAny_field hos hds (x := vs) rfl (wpAny_pure ?_)))))))
  refine wpAny_bind (HT.slicePart_ ps ?_)
  show wpAny _ _ (if ((-1 : Int) == 0) = true then _ else _) _ _ s
  rw [if_neg (by decide)]
  refine wpAny_bind (slicePart_none (wpAny_bind (slicePart_none (wpAny_bind (wpAny_pure ?_)))))
  show wpAny _ _ (match Builtin.Slice.sliceAdjust none none (-1) (n : Int) with | (lo, hi) => pure (lo, (-1 : Int), Builtin.Slice.slicePlaces lo hi (-1))) _ _ s
  rw [back_adjust n]
  show wpAny _ _ (pure ((n : Int) - 1, (-1 : Int), Builtin.Slice.slicePlaces ((n : Int) - 1) (-1) (-1))) _ _ s
  rw [back_places]
  exact wpAny_pure h
theorem getItem_tuple_back {t sl : Addr} {its : List Value} {vs : Value} {Q : Value → Shared → Prop} (ht : IsTup s.heap t its.toArray) (hs : s.heap.IsSliceOf sl .none .none vs) (ps : IsPart vs (some (-1)))
    (h : Q (.ref s.heap.objs.size) { s with heap := s.heap.push { cls := .type "tuple", data := .seq its.reverse.toArray } }) (hsz : its.length ≤ sizeLine) : wpAny (model prog w) A (getItem (.ref t) (.ref sl)) Q E s := by
  have htake : sizeOk (.seq its.reverse.toArray) := by
    show its.reverse.toArray.size ≤ sizeLine
    rw [List.size_toArray, List.length_reverse]
    exact hsz
  obtain ⟨os, hos, hcs, hds⟩ := id hs
  have hTs : s.TypeIs (.ref sl) "slice" := ⟨os, hos, hcs⟩
  unfold getItem
  try with_reducible refine wpAny_holding ?_
  first | refine wpAny_bind (wpAny_pure ?_) | skip
  refine wpAny_bind (wpAny_sequenceKey ht.typeIs (by decide) ?_)
  refine wpAny_bind (wpAny_callSpecial?_slot (name := Str.ofString "__getitem__") ht.typeIs PyProof.Rows.slot_tuple_getitem (wpAny_call_entry PyProof.Rows.slot_tuple_getitem ht.typeIs entry_tuple_getitem ?_ (args_tuple_getitem _ _)))
  show wpAny _ _ (Builtin.Tuple.tupleItemsOf (.ref t) >>= _) _ _ s
  refine wpAny_bind (tupleItemsOf_ ht ?_)
  refine wpAny_bind (wpAny_typeOf hTs ?_)
  rw [if_pos (by decide), List.size_toArray]
  refine wpAny_bind (applied_back hs ps ?_)
  have hno : ¬ ((((its.length : Int) - 1) == 0 && (-1 : Int) == 1 && its.length == its.length) = true) := by simp
  show wpAny _ _ (if (((its.length : Int) - 1) == 0 && (-1 : Int) == 1 && its.length == its.length) = true then _ else _) _ _ s
  rw [if_neg hno, back_pick]
  first
    | exact wpAny_bind (m := Builtin.Tuple.tupleExact _) (wpAny_newObj_type (wpAny_pure ⟨_, rfl, wpAny_pure h⟩) htake)
    | exact wpAny_bind (m := Builtin.Tuple.tupleExact _) (wpAny_newObj_type (wpAny_bind (wpAny_pure (wpAny_pure ⟨_, rfl, wpAny_pure h⟩))) htake)
    | exact wpAny_bind (wpAny_bind (m := Builtin.Tuple.tupleExact _) (wpAny_newObj_type (wpAny_pure (wpAny_pure ⟨_, rfl, wpAny_pure h⟩)) htake))
end
theorem ext_tup (l b : Addr) (items items2 : Array Value) (n n2 : Nat) (dd : Option Addr) (sl : Array (Option Value)) (hs0 : ¬(!items.isEmpty && Builtin.List.listTooLong (items.size + items2.size)) = true) (hs1 : items.size ≤ sizeLine) (hs2 : items.size + items2.size ≤ sizeLine + 1) :
    Meets (Builtin.«list.extend» ⟨[.ref l, .ref b], []⟩) (fun _ R s => s.heap.get? l = some { cls := .type "list", dict := none, data := .seq items n, slots := #[] } ∧ s.heap.get? b = some { cls := .type "tuple", dict := dd, data := .seq items2 n2, slots := sl } ∧
      R (.ok (.ret Value.none)) { s with heap := s.heap.update l (Obj.mapSeq fun x => x ++ items2), toks := s.toks }) := .of_wp fun prog w A R s h => by
  obtain ⟨hp, g, d, tk, os⟩ := s
  obtain ⟨hl, hb, h⟩ := h
  have f1 := AutoSeq1.idx_int
  have f2 := AutoSeq1.sub_tuple_tuple
  have f3 := AutoSeq1.sub_list_list
  have f4 := AutoSeq1.sub_tuple_list
  have f5 := AutoSeq1.sub_list_tuple
  have hz' : (items ++ items2).size ≤ sizeLine + 1 := by
    rw [Array.size_append]
    exact hs2
  wp_walk using (wpAny_updateSeq hl rfl (hz := hs1) (_hz' := hz')), AutoSeq1.wpAny_loadPart' hl, AutoSeq1.wpAny_loadPart' hb
  exact ⟨_, rfl, h⟩
section
variable {X : Cx}
def tRevT (K : PySem.W.Frag) (te : TE) : TE := fun σ H Q => te σ H fun x H1 => ∃ a xs, x = .ref a ∧ SqT K H1 a xs ∧ ∀ p, H1 p = none → Q (.ref p) (upd H1 p (.tup xs.reverse))
theorem pe_revT {e : Expr} {te : TE} {k : Nat} {p1 p2 p3 pos : Pos} (he : PE X e te) : PE X (.Subscript e (.Slice none none (some (.UnaryOp .USub (.Constant (.int 1) k p1) p2)) p3) pos) (tRevT X.K te) := by
  refine ⟨fun pins s σ H Q I h => Subscript_ (thn (he.run pins s σ H _ I h) fun v s1 ⟨x, H1, I1, r1, q1⟩ => ?_)⟩
  obtain ⟨a, xs, ex, hx, q⟩ := q1
  subst ex
  cases r1
  have hst : PO X (some (.UnaryOp .USub (.Constant (.int 1) k p1) p2)) (tPart (tUn (rU fun i => .int (-i)) (tC (.int 1)))) := po_some (pe_un un_neg pe_int)
  refine wpAny_Slice (thn (po_none.run pins s1 σ H1 (fun o H2 => o = none ∧ H2 = H1) I1 ⟨rfl, rfl⟩) fun vl s2 ⟨l, H2, I2, pl, el, e2⟩ => ?_)
  subst el e2
  refine thn (po_none.run pins s2 σ H2 (fun o H3 => o = none ∧ H3 = H2) I2 ⟨rfl, rfl⟩) fun vu s3 ⟨u, H3, I3, pu, eu, e3⟩ => ?_
  subst eu e3
  refine thn (hst.run pins s3 σ H3 (fun o H4 => o = some (-1) ∧ H4 = H3) I3 ⟨1, rfl, -1, rfl, rfl, rfl⟩) fun vs s4 ⟨o, H4, I4, ps, eo, e4⟩ => ?_
  subst eo e4
  cases pl
  cases pu
  have I5 : Inv X pins σ H4 { s4 with heap := s4.heap.push { cls := .type "slice", data := .fields #[.none, .none, vs] } } := I4.kept (t' := s4.toks) fun b ob q => Heap.get?_push_of_some _ q
  obtain ⟨its, r, ht, hz⟩ := I5.tuple hx
  have hlen := r.length
  show wpAny (model X.prog X.w) X.A (subscriptTail e (.Slice none none (some (.UnaryOp .USub (.Constant (.int 1) k p1) p2)) p3) (.ref a) (.ref s4.heap.objs.size)) (EP X pins σ Q) X.xe { s4 with heap := s4.heap.push { cls := .type "slice", data := .fields #[.none, .none, vs] } }
  refine tail_any (ops := [.ref a, .ref s4.heap.objs.size]) ht.typeIs PyProof.Rows.slot_tuple_getitem.lookup ?_ (by with_unfolding_all rfl)
  refine getItem_tuple_back ht (Heap.IsSliceOf.new _ .none .none vs) ps ?_ (by omega)
  exact ⟨.ref _, _, I5.laid (t' := s4.toks) (o := .tup xs.reverse) (fun b ob q => Heap.get?_push_of_some _ q) (Nat.le_refl _) ⟨by rw [List.length_reverse]; exact hz, _, r.reverse, IsTup.new _ _⟩, rfl, q _ (I5.hok.fresh (Nat.le_refl _))⟩
/-! ### xs.extend(t), t a tuple -/
def rExtT (K : PySem.W.Frag) : V → List V → Hp → VK → Prop := fun x vs H Q => ∃ l b xs zs, x = .ref l ∧ vs = [.ref b] ∧ H l = some (.lst xs) ∧ H b = some (.tup zs) ∧ xs.length + zs.length ≤ sizeLine ∧ Q .non (upd H l (.lst (xs ++ zs)))
theorem mt_extT : MtM X "list.extend" (rExtT X.K) := by
  intro pins s σ H x vs v us Q I rx rv h
  obtain ⟨l, b, xs, zs, rfl, rfl, hH, hB, hz, q⟩ := h
  cases rx
  obtain ⟨u, rfl, ru⟩ := rv.one
  cases ru
  obtain ⟨z, its, n, r, hl, e⟩ := I.lstM hH
  obtain ⟨z2, its2, r2, o, e2, hc, n2, hd⟩ := (show ObjOk X.prog X.w H s.heap b (.tup zs) from I.hok b _ hB)
  obtain ⟨oc, od, dt, osl⟩ := o
  simp only at hc hd
  subst hc hd
  have l2 := r2.length
  have hsz : its.toArray.size + its2.toArray.size ≤ sizeLine := by
    rw [List.size_toArray, List.size_toArray]
    omega
  have hlong : ¬ (!its.toArray.isEmpty && Builtin.List.listTooLong (its.toArray.size + its2.toArray.size)) = true := by
    rw [notLongL hsz, Bool.and_false]
    exact Bool.false_ne_true
  refine call_meets F.slot_list_extend ⟨_, e, rfl⟩ F.entry_list_extend (F.args_list_extend_2 _ _) (ext_tup l b its.toArray its2.toArray n n2 od osl hlong (by omega) (by omega)) ⟨e, e2, ?_⟩
  exact ⟨.non, _, I.lset (its' := its ++ its2) hH e (by simp) (r.append r2) (by rw [List.length_append]; omega), rfl, q⟩
end
end RX

namespace RR
open PySem PySem.Spec PyProof.Rows L2
abbrev sEncode : Stmt := topS 1
/-! ### encodings -/
mutual
def enc : PyData → List Int
  | .int i => [0, i]
  | .str s => 1 :: (s.length : Int) :: s.cps.toList.map (fun c => ((c : Nat) : Int))
  | .tuple ds => 2 :: (ds.length : Int) :: encs ds
  | _ => []
def encs : List PyData → List Int
  | [] => []
  | d :: ds => enc d ++ encs ds
end
mutual
def isV : PyData → Bool
  | .int _ => true
  | .str _ => true
  | .tuple ds => areV ds
  | _ => false
def areV : List PyData → Bool
  | [] => true
  | d :: ds => isV d && areV ds
end
theorem encs_app : ∀ xs ys : List PyData, encs (xs ++ ys) = encs xs ++ encs ys
  | [], ys => rfl
  | x :: xs, ys => by
    show enc x ++ encs (xs ++ ys) = (enc x ++ encs xs) ++ encs ys
    rw [encs_app xs ys, List.append_assoc]
theorem areV_app : ∀ xs ys : List PyData, areV (xs ++ ys) = (areV xs && areV ys)
  | [], ys => rfl
  | x :: xs, ys => by
    show (isV x && areV (xs ++ ys)) = ((isV x && areV xs) && areV ys)
    rw [areV_app xs ys, Bool.and_assoc]
theorem areV_rev (xs : List PyData) : areV xs.reverse = areV xs := by
  induction xs with
  | nil => rfl
  | cons x xs ih =>
    rw [List.reverse_cons, areV_app, ih]
    show (areV xs && (isV x && true)) = (isV x && areV xs)
    rw [Bool.and_true, Bool.and_comm]
theorem enc_two {d : PyData} (h : isV d = true) : 2 ≤ (enc d).length := by
  cases d with
  | int i => exact Nat.le_refl _
  | str s =>
    show 2 ≤ (s.cps.toList.map _).length + 1 + 1
    omega
  | tuple ds =>
    show 2 ≤ (encs ds).length + 1 + 1
    omega
  | none => cases h
  | bool b => cases h
  | list ds => cases h
  | dict kvs => cases h
theorem encs_len : ∀ {ds : List PyData}, areV ds = true → 2 * ds.length ≤ (encs ds).length
  | [], _ => Nat.zero_le _
  | d :: ds, h => by
    have h1 : (isV d && areV ds) = true := h
    rw [Bool.and_eq_true] at h1
    have h2 := enc_two h1.1
    have h3 := encs_len h1.2
    show 2 * (ds.length + 1) ≤ (enc d ++ encs ds).length
    rw [List.length_append]
    omega
theorem TDs.rev {H : Hp} : ∀ {vs : List V} {ds : List PyData}, TDs H vs ds → TDs H vs.reverse ds.reverse
  | _, _, .nil => .nil
  | _, _, .cons h1 h2 => by
    rw [List.reverse_cons, List.reverse_cons]
    exact TDs.app (TDs.rev h2) (.cons h1 .nil)
theorem TDs.last {H : Hp} {vs : List V} {ds : List PyData} (h : TDs H vs ds) (hn : vs ≠ []) : ∃ us v es d, vs = us ++ [v] ∧ ds = es ++ [d] ∧ TDs H us es ∧ TD H v d := by
  induction vs generalizing ds with
  | nil => exact absurd rfl hn
  | cons x r ih =>
    cases ds with
    | nil => cases h
    | cons d ds =>
      cases h with
      | cons h1 h2 =>
        cases r with
        | nil =>
          have e := h2.length
          have e2 : ds = [] := by
            cases ds with
            | nil => rfl
            | cons a b => cases e
          subst e2
          exact ⟨[], x, [], d, rfl, rfl, .nil, h1⟩
        | cons y r =>
          obtain ⟨us, v, es, d2, e1, e2, h3, h4⟩ := ih h2 (by intro z; cases z)
          exact ⟨x :: us, v, d :: es, d2, by rw [e1]; rfl, by rw [e2]; rfl, .cons h1 h3, h4⟩
end RR

namespace RR
open PySem PySem.Spec PyProof.Rows L2
/-- the encoding of data, a new list -/
def spEnc : Sp := fun vs H Q _ => ∃ (v : V) (d : PyData), vs = [v] ∧ TD H v d ∧ isV d = true ∧ (enc d).length ≤ 100000 ∧ ∀ p H', H p = none → Same H H' → H' p = some (.lst ((enc d).map V.int)) → Q (.ref p) H'
theorem scEncode : FnScope ["value", "numbers", "waiting", "part", "sign"] ["value"] (defScope sEncode) := ⟨rfl, rfl, rfl, by decide +kernel, rfl, by decide +kernel, by decide +kernel⟩
theorem big {n : Nat} (h : n ≤ 1000000) : n ≤ sizeLine := Nat.le_trans h (by decide)
theorem bigL {n : Nat} (h : n ≤ 1000000) : n < sizeLine := Nat.lt_of_le_of_lt h (by decide)
/-- what the encoder holds between two turns -/
structure EncAt (H0 : Hp) (total : List Int) (nm wt : Addr) (m : Nat) (H : Hp) : Prop where
  ex : ∃ (us : List V) (ds : List PyData) (out : List Int), H nm = some (.lst (out.map V.int)) ∧ H wt = some (.lst us) ∧ TDs H us ds ∧ areV ds = true ∧ out ++ encs ds.reverse = total ∧ m = (encs ds.reverse).length
  same : Same H0 H
section
variable {P : Program} {w : World} {K : PySem.W.Frag} {mg : Str → Option Value} {base : Heap}
theorem ok_encode (D : Def K mg "encode" sEncode ["value"]) (mii : mg "isinstance" = none) (mint : mg "int" = none) (mstr : mg "str" = none) (ml : mg "len" = none) (mord : mg "ord" = none) : FnOk P w K mg base CX0 1 D.f D.fd ["value"] spEnc := by
  refine D.F.ok scEncode (fun vs H Q E h => ?_) (fun cdv A outer s H vs Q E hr h => ?_)
  · obtain ⟨v, d, rfl, _⟩ := h
    rfl
  obtain ⟨v, d, rfl, hd, hv, hlen, q⟩ := h
  refine ⟨_, pss_cons (ps_set (i := 1) scEncode.nd rfl (.inl rfl) (pe_lst pa_nil))
    (pss_cons (ps_set (i := 2) scEncode.nd rfl (.inl rfl) (pe_lst (pa_cons (pv 0) pa_nil)))
    (pss_cons (ps_while PassesOwn.never (pt_truth (pv 2) (by intro _; rfl))
      (pss_cons (ps_set (i := 3) scEncode.nd rfl (.inl rfl) (pe_bm0 PySem.F.plainAttrs_list PySem.F.slot_list_pop PySem.F.type_list_pop mt_pop (pv 2)))
      (pss_one (ps_if (pt_val (pe_callB call_isi (by rfl) mii (by decide +kernel) (pa_cons (pv 3) (pa_cons (pe_bltn (v := .ty "int") (by rfl) mint (by decide +kernel) rfl) pa_nil))))
        (pss_one (ps_expr (pe_bm PySem.F.plainAttrs_list PySem.F.slot_list_extend PySem.F.type_list_extend mt_extend (pv 1) (pa_cons (pe_lst (pa_cons pe_int (pa_cons (pv 3) pa_nil))) pa_nil))))
        (pss_one (ps_if (pt_val (pe_callB call_isi (by rfl) mii (by decide +kernel) (pa_cons (pv 3) (pa_cons (pe_bltn (v := .ty "str") (by rfl) mstr (by decide +kernel) rfl) pa_nil))))
          (pss_cons (ps_expr (pe_bm PySem.F.plainAttrs_list PySem.F.slot_list_extend PySem.F.type_list_extend mt_extend (pv 1) (pa_cons (pe_lst (pa_cons pe_int (pa_cons (pe_callB call_len_str (by rfl) ml PySem.boot_len (pa_cons (pv 3) pa_nil)) pa_nil))) pa_nil)))
          (pss_one (ps_expr (pe_bm PySem.F.plainAttrs_list PySem.F.slot_list_extend PySem.F.type_list_extend mt_extend (pv 1) (pa_cons (pe_lc (own := [("sign", 4)]) (g := gName 4) (by rfl) scEncode.nd (pi_str (pv 3))
            (blkOk_by (own := [("sign", 4)]) (N := ["value", "numbers", "waiting", "part", "sign"]) (sc := defScope sEncode) (by decide +kernel))
            (fun _ _ _ _ _ => pg_name (i := 4) scEncode.nd rfl (Or.inl rfl)) (fun _ _ _ _ _ => pts_nil)
            (fun _ _ _ _ _ => pe_callB call_ord (by rfl) mord (by decide +kernel) (pa_cons (pv 4) pa_nil))) pa_nil)))))
          (pss_cons (ps_expr (pe_bm PySem.F.plainAttrs_list PySem.F.slot_list_extend PySem.F.type_list_extend mt_extend (pv 1) (pa_cons (pe_lst (pa_cons pe_int (pa_cons (pe_callB call_len_seq (by rfl) ml PySem.boot_len (pa_cons (pv 3) pa_nil)) pa_nil))) pa_nil)))
          (pss_one (ps_expr (pe_bm PySem.F.plainAttrs_list PySem.F.slot_list_extend PySem.F.type_list_extend RX.mt_extT (pv 2) (pa_cons (RX.pe_revT (pv 3)) pa_nil)))))))))))
    (pss_one (ps_ret (pv 1))))), ?_⟩
  refine ⟨Nat.zero_le _, fun nm hnm => ⟨_, rfl, by show 1 ≤ sizeLine; decide, fun wt hwt => ?_⟩⟩
  have nnw : nm ≠ wt := ne_of_none upd_same hwt
  have s0 : Same H (upd (upd H nm (.lst [])) wt (.lst [v])) := (same_new hnm _).trans (same_new hwt _)
  have hwt0 : H wt = none := (same_new hnm _).free hwt
  refine ⟨fun m σ' H' => ∃ y3, σ' = [some v, some (.ref nm), some (.ref wt), y3, none] ∧ EncAt H (enc d) nm wt m H', ⟨_, _, rfl, ⟨⟨[v], [d], [], ?_, upd_same, .cons (TD.mono (Tk.same s0) _ _ hd) .nil, ?_, ?_, rfl⟩, s0⟩⟩, ?_⟩
  · rw [upd_ne nnw]
    exact upd_same
  · show (isV d && true) = true
    rw [hv]
    rfl
  · show enc d ++ [] = enc d
    exact List.append_nil _
  rintro m σ' H1 ⟨y3, rfl, ⟨⟨us, ds, out, hn1, hw1, hT, hV, htot, hm⟩, s1⟩⟩
  have lus := hT.length
  have l2 := encs_len hV
  have lt := congrArg List.length htot
  rw [List.length_append] at lt
  have hVr : areV ds.reverse = true := by
    rw [areV_rev]
    exact hV
  have l2r := encs_len hVr
  rw [List.length_reverse] at l2r
  refine ⟨_, rfl, !us.isEmpty, .inl ⟨us, SqL.of hw1, rfl⟩, ?_⟩
  by_cases hus : us = []
  · subst hus
    refine iteF ?_
    refine ⟨_, rfl, ?_⟩
    have e0 : ds = [] := by
      cases ds with
      | nil => rfl
      | cons a b => cases lus
    rw [e0] at htot
    have e1 : out = enc d := by
      rw [← htot]
      exact (List.append_nil _).symm
    rw [e1] at hn1
    exact q nm H1 hnm s1 hn1
  · obtain ⟨ws, x, es, dx, rfl, rfl, hTw, hx⟩ := hT.last hus
    have hne : (!(ws ++ [x]).isEmpty) = true := by
      cases ws <;> rfl
    rw [hne]
    refine iteT ?_
    have eV : areV es = true ∧ isV dx = true := by
      rw [areV_app, Bool.and_eq_true] at hV
      refine ⟨hV.1, ?_⟩
      have h2 : (isV dx && true) = true := hV.2
      rw [Bool.and_true] at h2
      exact h2
    have erev : encs (es ++ [dx]).reverse = enc dx ++ encs es.reverse := by
      rw [List.reverse_append]
      rfl
    rw [erev] at htot hm lt l2r
    rw [List.length_append] at hm lt l2r
    rw [List.length_append, List.length_singleton] at lus l2r
    rw [List.length_append, List.length_singleton] at lus
    have two := enc_two eV.2
    refine ⟨fun σ' H' => ∃ m', m' < m ∧ ∃ y3, σ' = [some v, some (.ref nm), some (.ref wt), y3, none] ∧ EncAt H (enc d) nm wt m' H', fun σ' H' h => h, ?_⟩
    have elast : (ws ++ [x])[(ws ++ [x]).length - 1]? = some x := by
      rw [List.length_append, List.length_singleton, Nat.add_sub_cancel, List.getElem?_append_right (Nat.le_refl _), Nat.sub_self]
      rfl
    refine ⟨_, rfl, .inl ⟨rfl, _, SqL.of hw1⟩, wt, _, x, rfl, rfl, hw1, elast, ?_⟩
    have tk2 : Tk H1 (upd H1 wt (.lst (ws ++ [x]).dropLast)) := Tk.put _ fun xs e => by
      rw [hw1] at e
      cases e
    have hn2 : upd H1 wt (.lst (ws ++ [x]).dropLast) nm = some (.lst (out.map V.int)) := by
      rw [upd_ne nnw]
      exact hn1
    have hw2 : upd H1 wt (.lst (ws ++ [x]).dropLast) wt = some (.lst ws) := by
      rw [upd_same, List.dropLast_concat]
    have s2 : Same H (upd H1 wt (.lst (ws ++ [x]).dropLast)) := fun b o e => by
      rw [upd_ne (ne_of_none e hwt0)]
      exact s1 _ _ e
    generalize upd H1 wt (.lst (ws ++ [x]).dropLast) = H2 at tk2 hn2 hw2 s2
    have hTw2 := TDs.mono tk2 _ _ hTw
    have hx2 := TD.mono tk2 _ _ hx
    cases hx2 with
    | non => exact absurd eV.2 (by decide)
    | int i =>
      refine ⟨_, rfl, _, _, _, _, true, rfl, .ty "int", .base (.int i), kit_ty (by decide +kernel), ⟨_, rfl, ?_⟩⟩
      refine iteT ?_
      refine ⟨_, rfl, .inl ⟨rfl, _, SqL.of hn2⟩, _, rfl, by show 2 ≤ sizeLine; decide, fun p hp => ?_⟩
      have s3 := same_new hp (.lst [.int 0, .int i])
      have lo : (enc (PyData.int i)).length = 2 := rfl
      refine ⟨nm, p, _, _, rfl, rfl, s3 _ _ hn2, upd_same, ?_, ?_⟩
      · rw [List.length_map]
        show out.length + 2 ≤ sizeLine
        exact big (by omega)
      have nwn : wt ≠ nm := nnw.symm
      have tk4 : Tk H2 (upd (upd H2 p (.lst [.int 0, .int i])) nm (.lst (out.map V.int ++ [.int 0, .int i]))) := (Tk.same s3).trans (Tk.put _ fun xs e => by
        rw [s3 _ _ hn2] at e
        cases e)
      refine ⟨(encs es.reverse).length, by omega, _, rfl, ⟨⟨ws, es, out ++ [0, i], ?_, ?_, TDs.mono tk4 _ _ hTw2, eV.1, ?_, rfl⟩, fun b o e => ?_⟩⟩
      · rw [upd_same, List.map_append]
        rfl
      · rw [upd_ne nwn]
        exact s3 _ _ hw2
      · rw [← htot, List.append_assoc]
        rfl
      · rw [upd_ne (ne_of_none e hnm)]
        exact s3 _ _ (s2 _ _ e)
    | str z =>
      refine ⟨_, rfl, _, _, _, _, false, rfl, .ty "int", .base (.str z), kit_ty (by decide +kernel), ⟨_, rfl, ?_⟩⟩
      refine iteF ?_
      refine ⟨_, rfl, _, _, _, _, true, rfl, .ty "str", .base (.str z), kit_ty (by decide +kernel), ⟨_, rfl, ?_⟩⟩
      refine iteT ?_
      have lo : (enc (PyData.str z)).length = z.length + 2 := by
        show (z.cps.toList.map _).length + 1 + 1 = z.length + 2
        rw [List.length_map, str_len]
      refine ⟨_, rfl, .inl ⟨rfl, _, SqL.of hn2⟩, _, rfl, z, rfl, big (by omega), by show 2 ≤ sizeLine; decide, fun p hp => ?_⟩
      have s3 := same_new hp (.lst [.int 1, .int z.length])
      refine ⟨nm, p, _, _, rfl, rfl, s3 _ _ hn2, upd_same, ?_, ?_⟩
      · rw [List.length_map]
        show out.length + 2 ≤ sizeLine
        exact big (by omega)
      have nwn : wt ≠ nm := nnw.symm
      have tk4 : Tk H2 (upd (upd H2 p (.lst [.int 1, .int z.length])) nm (.lst (out.map V.int ++ [.int 1, .int z.length]))) := (Tk.same s3).trans (Tk.put _ fun xs e => by
        rw [s3 _ _ hn2] at e
        cases e)
      have hn4 : upd (upd H2 p (.lst [.int 1, .int z.length])) nm (.lst (out.map V.int ++ [.int 1, .int z.length])) nm = some (.lst ((out ++ [1, (z.length : Int)]).map V.int)) := by
        rw [upd_same, List.map_append]
        rfl
      have hw4 : upd (upd H2 p (.lst [.int 1, .int z.length])) nm (.lst (out.map V.int ++ [.int 1, .int z.length])) wt = some (.lst ws) := by
        rw [upd_ne nwn]
        exact s3 _ _ hw2
      have s4 : Same H (upd (upd H2 p (.lst [.int 1, .int z.length])) nm (.lst (out.map V.int ++ [.int 1, .int z.length]))) := fun b o e => by
        rw [upd_ne (ne_of_none e hnm)]
        exact s3 _ _ (s2 _ _ e)
      generalize upd (upd H2 p (.lst [.int 1, .int z.length])) nm (.lst (out.map V.int ++ [.int 1, .int z.length])) = H4 at tk4 hn4 hw4 s4
      refine ⟨_, rfl, .inl ⟨rfl, _, SqL.of hn4⟩, _, rfl, z, rfl, fun D2 hD => ?_⟩
      refine lc_it walk_str (fun i H' => Same H4 H' ∧ H' D2 = some (.lst ((z.cps.toList.take i).map fun c => V.int ((c : Nat) : Int)))) ⟨same_new hD _, by rw [upd_same]; rfl⟩ (fun _ _ _ _ => trivial) ?_ ?_
      · rintro i x H5 H6 hi ⟨s5, h5⟩ ⟨rfl, c, hc, rfl⟩
        refine ⟨rfl, ?_⟩
        refine ⟨_, rfl, _, rfl, rfl, _, h5, ?_, ?_⟩
        · rw [List.length_map, List.length_take]
          have := str_len z
          exact bigL (by omega)
        have hc2 : z.cps.toList[i]? = some c := by
          rw [Array.getElem?_toList]
          exact hc
        refine ⟨fun b o e => ?_, ?_⟩
        · rw [upd_ne (ne_of_none e hD)]
          exact s5 _ _ e
        · rw [upd_same, List.take_add_one, hc2, List.map_append]
          rfl
      · rintro H5 ⟨s5, h5⟩
        have hn5 := s5 _ _ hn4
        have htake : z.cps.toList.take z.cps.size = z.cps.toList := by
          rw [← Array.length_toList, List.take_length]
        rw [htake] at h5
        refine ⟨nm, D2, _, _, rfl, rfl, hn5, h5, ?_, ?_⟩
        · rw [List.length_map, List.length_map, List.length_append, ← str_len]
          show out.length + 2 + z.length ≤ sizeLine
          exact big (by omega)
        have tk6 : Tk H5 (upd H5 nm (.lst ((out ++ [1, (z.length : Int)]).map V.int ++ z.cps.toList.map fun c => V.int ((c : Nat) : Int)))) := Tk.put _ fun xs e => by
          rw [hn5] at e
          cases e
        refine ⟨(encs es.reverse).length, by omega, _, rfl, ⟨⟨ws, es, out ++ enc (.str z), ?_, ?_, TDs.mono ((tk4.trans (Tk.same s5)).trans tk6) _ _ hTw2, eV.1, ?_, rfl⟩, fun b o e => ?_⟩⟩
        · rw [upd_same]
          have e1 : (out ++ enc (.str z)).map V.int = (out ++ [1, (z.length : Int)]).map V.int ++ z.cps.toList.map (fun c => V.int ((c : Nat) : Int)) := by
            rw [show enc (.str z) = [1, (z.length : Int)] ++ z.cps.toList.map (fun c => ((c : Nat) : Int)) from rfl, ← List.append_assoc, List.map_append, List.map_map]
            rfl
          rw [e1]
        · rw [upd_ne nwn]
          exact s5 _ _ hw4
        · rw [← htot, List.append_assoc]
        · rw [upd_ne (ne_of_none e hnm)]
          exact s5 _ _ (s4 _ _ e)
    | @tup ta xs cs ha hTs =>
      refine ⟨_, rfl, _, _, _, _, false, rfl, .ty "int", .base (.tup ha), kit_ty (by decide +kernel), ⟨_, rfl, ?_⟩⟩
      refine iteF ?_
      refine ⟨_, rfl, _, _, _, _, false, rfl, .ty "str", .base (.tup ha), kit_ty (by decide +kernel), ⟨_, rfl, ?_⟩⟩
      refine iteF ?_
      have lo : (enc (PyData.tuple cs)).length = (encs cs).length + 2 := rfl
      have lcs := encs_len (show areV cs = true from eV.2)
      have lxs := hTs.length
      refine ⟨_, rfl, .inl ⟨rfl, _, SqL.of hn2⟩, _, rfl, ta, xs, rfl, .inr (SqT.of ha), by show 2 ≤ sizeLine; decide, fun p hp => ?_⟩
      have s3 := same_new hp (.lst [.int 2, .int xs.length])
      refine ⟨nm, p, _, _, rfl, rfl, s3 _ _ hn2, upd_same, ?_, ?_⟩
      · rw [List.length_map]
        show out.length + 2 ≤ sizeLine
        exact big (by omega)
      have nwn : wt ≠ nm := nnw.symm
      have tk4 : Tk H2 (upd (upd H2 p (.lst [.int 2, .int xs.length])) nm (.lst (out.map V.int ++ [.int 2, .int xs.length]))) := (Tk.same s3).trans (Tk.put _ fun xs e => by
        rw [s3 _ _ hn2] at e
        cases e)
      have hn4 : upd (upd H2 p (.lst [.int 2, .int xs.length])) nm (.lst (out.map V.int ++ [.int 2, .int xs.length])) nm = some (.lst ((out ++ [2, (xs.length : Int)]).map V.int)) := by
        rw [upd_same, List.map_append]
        rfl
      have hw4 : upd (upd H2 p (.lst [.int 2, .int xs.length])) nm (.lst (out.map V.int ++ [.int 2, .int xs.length])) wt = some (.lst ws) := by
        rw [upd_ne nwn]
        exact s3 _ _ hw2
      have s4 : Same H (upd (upd H2 p (.lst [.int 2, .int xs.length])) nm (.lst (out.map V.int ++ [.int 2, .int xs.length]))) := fun b o e => by
        rw [upd_ne (ne_of_none e hnm)]
        exact s3 _ _ (s2 _ _ e)
      generalize upd (upd H2 p (.lst [.int 2, .int xs.length])) nm (.lst (out.map V.int ++ [.int 2, .int xs.length])) = H4 at tk4 hn4 hw4 s4
      refine ⟨_, rfl, .inl ⟨rfl, _, SqL.of hw4⟩, _, rfl, ta, xs, rfl, SqT.of (tk4 _ _ ha), fun r hr2 => ?_⟩
      have s5 := same_new hr2 (.tup xs.reverse)
      refine ⟨wt, r, _, _, rfl, rfl, s5 _ _ hw4, upd_same, ?_, ?_⟩
      · rw [List.length_reverse]
        exact big (by omega)
      have tk6 : Tk H4 (upd (upd H4 r (.tup xs.reverse)) wt (.lst (ws ++ xs.reverse))) := (Tk.same s5).trans (Tk.put _ fun xs e => by
        rw [s5 _ _ hw4] at e
        cases e)
      refine ⟨(encs (es ++ cs.reverse).reverse).length, ?_, _, rfl, ⟨⟨ws ++ xs.reverse, es ++ cs.reverse, out ++ [2, (xs.length : Int)], ?_, upd_same, TDs.app (TDs.mono (tk4.trans tk6) _ _ hTw2) (TDs.rev (TDs.mono (tk4.trans tk6) _ _ hTs)), ?_, ?_, rfl⟩, fun b o e => ?_⟩⟩
      · rw [List.reverse_append, List.reverse_reverse, encs_app, List.length_append]
        omega
      · rw [upd_ne nnw]
        exact s5 _ _ hn4
      · rw [areV_app, areV_rev, eV.1]
        exact eV.2
      · rw [List.reverse_append, List.reverse_reverse, encs_app, ← htot, lxs, List.append_assoc]
        rfl
      · rw [upd_ne (ne_of_none e hwt0)]
        exact s5 _ _ (s4 _ _ e)
end
end RR

namespace RR
open PySem PySem.Spec PyProof.Rows L2
abbrev sDigest : Stmt := topS 2
abbrev sRule : Stmt := topS 5
abbrev sCodes : Stmt := topS 6
abbrev sLEncode : Stmt := topS 7
abbrev sLDigest : Stmt := topS 8
/-! ### digests -/
def RuleOk (b m : Int) : Prop := 1 ≤ b ∧ b ≤ 10 ^ 18 ∧ 2 ≤ m ∧ m ≤ 10 ^ 18
def digF (b m : Int) (ns : List Int) : Int := ns.foldl (fun r n => Int.fmod (r * b + n + 1) m) 1
def dig (b m : Int) (ns : List Int) : Int := Int.fmod (digF b m ns * b + (ns.length : Int)) m
theorem digF_snoc (b m n : Int) (ns : List Int) : digF b m (ns ++ [n]) = Int.fmod (digF b m ns * b + n + 1) m := by
  unfold digF
  rw [List.foldl_append]
  rfl
def spDig : Sp := fun vs H Q _ => ∃ (r : Addr) (v : V) (b m : Int) (d : PyData), vs = [.ref r, v] ∧ H r = some (.tup [.int b, .int m]) ∧ RuleOk b m ∧ TD H v d ∧ isV d = true ∧ d.depth < 8 ∧ (enc d).length ≤ 100000 ∧
  ∀ H', Same H H' → Q (.int (dig b m (enc d))) H'
/-- the law's own encoder, to a depth -/
def spLE (n : Nat) : Sp := fun vs H Q _ => ∃ (v : V) (d : PyData), vs = [v] ∧ TD H v d ∧ isV d = true ∧ d.depth < n ∧ (enc d).length ≤ 100000 ∧ ∀ p H', H p = none → Same H H' → H' p = some (.lst ((enc d).map V.int)) → Q (.ref p) H'
def spCodes : Sp := fun vs H Q _ => ∃ z : Str, vs = [.str z] ∧ z.length ≤ 100000 ∧ ∀ p H', H p = none → Same H H' → H' p = some (.lst (z.cps.toList.map fun c => V.int ((c : Nat) : Int))) → Q (.ref p) H'
def spRule : Sp := fun vs H Q _ => ∃ st l : Addr, vs = [.ref st] ∧ Good st l H ∧ ∀ r b m H', RuleOk b m → Le st H H' → Good st l H' → H' r = some (.tup [.int b, .int m]) → Q (.ref r) H'
theorem scDigest : FnScope ["rule", "value", "base", "modulus", "numbers", "result", "number"] ["rule", "value"] (defScope sDigest) := ⟨rfl, rfl, rfl, by decide +kernel, rfl, by decide +kernel, by decide +kernel⟩
theorem scRule : FnScope ["state", "choice"] ["state"] (defScope sRule) := ⟨rfl, rfl, rfl, by decide +kernel, rfl, by decide +kernel, by decide +kernel⟩
theorem scCodes : FnScope ["text", "letter"] ["text"] (defScope sCodes) := ⟨rfl, rfl, rfl, by decide +kernel, rfl, by decide +kernel, by decide +kernel⟩
theorem scLEncode : FnScope ["value", "made", "one"] ["value"] (defScope sLEncode) := ⟨rfl, rfl, rfl, by decide +kernel, rfl, by decide +kernel, by decide +kernel⟩
theorem scLDigest : FnScope ["rule", "value", "found", "numbers", "number"] ["rule", "value"] (defScope sLDigest) := ⟨rfl, rfl, rfl, by decide +kernel, rfl, by decide +kernel, by decide +kernel⟩
theorem depth_mem {n : Nat} : ∀ {ds : List PyData}, PyData.depthAll ds ≤ n → ∀ d ∈ ds, d.depth ≤ n
  | [], _, d, h => by cases h
  | x :: xs, hn, d, h => by
    have h1 : max x.depth (PyData.depthAll xs) ≤ n := hn
    rcases List.mem_cons.mp h with e | e
    · rw [e]
      exact Nat.le_trans (Nat.le_max_left _ _) h1
    · exact depth_mem (Nat.le_trans (Nat.le_max_right _ _) h1) d e
theorem encs_take {ds : List PyData} {i : Nat} {d : PyData} (h : ds[i]? = some d) : encs (ds.take (i + 1)) = encs (ds.take i) ++ enc d := by
  rw [List.take_add_one, h, encs_app]
  show encs (ds.take i) ++ (enc d ++ []) = _
  rw [List.append_nil]
theorem encs_take_len (ds : List PyData) (i : Nat) : (encs (ds.take i)).length ≤ (encs ds).length := by
  have e := congrArg encs (List.take_append_drop i ds)
  rw [encs_app] at e
  rw [← e, List.length_append]
  omega
theorem areV_mem : ∀ {ds : List PyData}, areV ds = true → ∀ d ∈ ds, isV d = true
  | [], _, d, h => by cases h
  | x :: xs, hn, d, h => by
    have h1 : (isV x && areV xs) = true := hn
    rw [Bool.and_eq_true] at h1
    rcases List.mem_cons.mp h with e | e
    · rw [e]
      exact h1.1
    · exact areV_mem h1.2 d e
section
variable {P : Program} {w : World} {K : PySem.W.Frag} {mg : Str → Option Value} {base : Heap}
theorem ok_codes (D : Def K mg "_law_codes" sCodes ["text"]) (mord : mg "ord" = none) : FnOk P w K mg base CX0 1 D.f D.fd ["text"] spCodes := by
  refine D.F.ok scCodes (fun vs H Q E h => ?_) (fun cdv A outer s H vs Q E hr h => ?_)
  · obtain ⟨z, rfl, _⟩ := h
    rfl
  obtain ⟨z, rfl, hz, q⟩ := h
  refine ⟨_, pss_one (ps_ret (pe_lc (own := [("letter", 1)]) (g := gName 1) (by rfl) scCodes.nd (pi_str (pv 0))
            (blkOk_by (own := [("letter", 1)]) (N := ["text", "letter"]) (sc := defScope sCodes) (by decide +kernel))
            (fun _ _ _ _ _ => pg_name (i := 1) scCodes.nd rfl (Or.inl rfl)) (fun _ _ _ _ _ => pts_nil)
            (fun _ _ _ _ _ => pe_callB call_ord (by rfl) mord (by decide +kernel) (pa_cons (pv 1) pa_nil)))), ?_⟩
  refine ⟨_, rfl, z, rfl, fun D2 hD => ?_⟩
  refine lc_it walk_str (fun i H' => Same H H' ∧ H' D2 = some (.lst ((z.cps.toList.take i).map fun c => V.int ((c : Nat) : Int)))) ⟨same_new hD _, by rw [upd_same]; rfl⟩ (fun _ _ _ _ => trivial) ?_ ?_
  · rintro i x H5 H6 hi ⟨s5, h5⟩ ⟨rfl, c, hc, rfl⟩
    refine ⟨rfl, _, rfl, _, rfl, rfl, _, h5, ?_, ?_⟩
    · rw [List.length_map, List.length_take]
      have := str_len z
      exact bigL (by omega)
    have hc2 : z.cps.toList[i]? = some c := by
      rw [Array.getElem?_toList]
      exact hc
    refine ⟨fun b o e => ?_, ?_⟩
    · rw [upd_ne (ne_of_none e hD)]
      exact s5 _ _ e
    · rw [upd_same, List.take_add_one, hc2, List.map_append]
      rfl
  · rintro H5 ⟨s5, h5⟩
    have htake : z.cps.toList.take z.cps.size = z.cps.toList := by
      rw [← Array.length_toList, List.take_length]
    rw [htake] at h5
    exact q D2 H5 hD s5 h5
theorem le_none {f : Addr} {fd : FuncData} {k : Nat} : FnOk P w K mg base CX0 k f fd ["value"] (spLE 0) := by
  have no : ∀ vs H Q E, ¬ spLE 0 vs H Q E := fun vs H Q E h => by
    obtain ⟨v, d, _, _, _, h1, _⟩ := h
    omega
  exact ⟨fun vs H Q E h => absurd h (no vs H Q E), fun A outer s H args us vs Q E _ _ _ _ h => absurd h (no vs H Q E)⟩
theorem ok_lencode (D : Def K mg "_law_encode" sLEncode ["value"]) (DC : Def K mg "_law_codes" sCodes ["text"]) (mii : mg "isinstance" = none) (mstr : mg "str" = none) (mtup : mg "tuple" = none) (ml : mg "len" = none)
    (GC : FnOk P w K mg base CX0 1 DC.f DC.fd ["text"] spCodes) {n : Nat} (G : FnOk P w K mg base CX0 (n + 1) D.f D.fd ["value"] (spLE n)) : FnOk P w K mg base CX0 (n + 2) D.f D.fd ["value"] (spLE (n + 1)) := by
  refine D.F.ok scLEncode (fun vs H Q E h => ?_) (fun cdv A outer s H vs Q E hr h => ?_)
  · obtain ⟨v, d, rfl, _⟩ := h
    rfl
  obtain ⟨v, d, rfl, hd, hv, hdep, hlen, q⟩ := h
  refine ⟨_, pss_cons (ps_if (pt_val (pe_callB call_isi (by rfl) mii (by decide +kernel) (pa_cons (pv 0) (pa_cons (pe_bltn (v := .ty "str") (by rfl) mstr (by decide +kernel) rfl) pa_nil))))
      (pss_one (ps_ret (pe_op op_cat (pe_lst (pa_cons pe_int (pa_cons (pe_callB call_len_str (by rfl) ml PySem.boot_len (pa_cons (pv 0) pa_nil)) pa_nil))) (pe_call GC (hr.mono (by omega)) (by rfl) DC.m DC.F.kp DC.b .nil pass0 (pa_cons (pv 0) pa_nil))))) pss_nil) <|
    pss_cons (ps_if (pt_val (pe_callB call_isi (by rfl) mii (by decide +kernel) (pa_cons (pv 0) (pa_cons (pe_bltn (v := .ty "tuple") (by rfl) mtup (by decide +kernel) rfl) pa_nil))))
      (pss_cons (ps_set (i := 1) scLEncode.nd rfl (.inl rfl) (pe_lst (pa_cons pe_int (pa_cons (pe_callB call_len_seq (by rfl) ml PySem.boot_len (pa_cons (pv 0) pa_nil)) pa_nil)))) <|
      pss_cons (ps_for PassesOwn.never rfl (pi_tup (pv 0)) (pg_name (i := 2) scLEncode.nd rfl (.inl rfl))
        (pss_one (ps_set (i := 1) scLEncode.nd rfl (.inl rfl) (pe_op op_cat (pv 1) (pe_call G hr (by rfl) D.m D.F.kp D.b .nil pass0 (pa_cons (pv 2) pa_nil)))))) <|
      pss_one (ps_ret (pv 1))) pss_nil) <|
    pss_one (ps_ret (pe_lst (pa_cons pe_int (pa_cons (pv 0) pa_nil)))), ?_⟩
  cases hd with
  | non => exact absurd hv (by decide)
  | int i =>
    refine ⟨_, rfl, _, _, _, _, false, rfl, .ty "str", .base (.int i), kit_ty (by decide +kernel), ⟨_, rfl, ?_⟩⟩
    refine iteF ?_
    refine ⟨_, rfl, _, _, _, _, false, rfl, .ty "tuple", .base (.int i), kit_ty (by decide +kernel), ⟨_, rfl, ?_⟩⟩
    refine iteF ?_
    refine ⟨_, rfl, by show 2 ≤ sizeLine; decide, fun p hp => ?_⟩
    exact q p _ hp (same_new hp _) upd_same
  | str z =>
    have lo : (enc (PyData.str z)).length = z.length + 2 := by
      show (z.cps.toList.map _).length + 1 + 1 = z.length + 2
      rw [List.length_map, str_len]
    refine ⟨_, rfl, _, _, _, _, true, rfl, .ty "str", .base (.str z), kit_ty (by decide +kernel), ⟨_, rfl, ?_⟩⟩
    refine iteT ?_
    refine ⟨_, rfl, z, rfl, big (by omega), by show 2 ≤ sizeLine; decide, fun p hp => ?_⟩
    have s1 := same_new hp (.lst [.int 1, .int z.length])
    refine ⟨_, rfl, z, rfl, by omega, fun p2 H2 hp2 s2 h2 => ?_⟩
    refine ⟨p, p2, _, _, rfl, rfl, s2 _ _ upd_same, h2, ?_, fun p3 hp3 => ?_⟩
    · rw [List.length_map, ← str_len]
      show 2 + z.length ≤ sizeLine
      exact big (by omega)
    refine q p3 _ (s1.free (s2.free hp3)) (s1.trans (s2.trans (same_new hp3 _))) ?_
    rw [upd_same, show enc (.str z) = [1, (z.length : Int)] ++ z.cps.toList.map (fun c => ((c : Nat) : Int)) from rfl, List.map_append, List.map_map]
    rfl
  | @tup ta xs cs ha hTs =>
    have hV : areV cs = true := hv
    have lo : (enc (PyData.tuple cs)).length = (encs cs).length + 2 := rfl
    have lcs := encs_len hV
    have lxs := hTs.length
    have hdc : PyData.depthAll cs < n := by
      have h1 : PyData.depthAll cs + 1 < n + 1 := hdep
      omega
    refine ⟨_, rfl, _, _, _, _, false, rfl, .ty "str", .base (.tup ha), kit_ty (by decide +kernel), ⟨_, rfl, ?_⟩⟩
    refine iteF ?_
    refine ⟨_, rfl, _, _, _, _, true, rfl, .ty "tuple", .base (.tup ha), kit_ty (by decide +kernel), ⟨_, rfl, ?_⟩⟩
    refine iteT ?_
    refine ⟨_, rfl, ta, xs, rfl, .inr (SqT.of ha), by show 2 ≤ sizeLine; decide, fun p hp => ?_⟩
    have s1 := same_new hp (.lst [.int 2, .int xs.length])
    refine ⟨_, rfl, ta, rfl, ⟨xs, SqT.of (s1 _ _ ha)⟩, for_tup (K := K) (a := ta) (xs := xs) (fun i σ H' => ∃ m y2, σ = [some (.ref ta), some (.ref m), y2] ∧ Same H H' ∧ H m = none ∧ H' m = some (.lst ((2 :: (cs.length : Int) :: encs (cs.take i)).map V.int))) ?_ ?_ ?_ ?_⟩
    · refine ⟨p, _, rfl, s1, hp, ?_⟩
      rw [upd_same, lxs]
      rfl
    · rintro i σ H' _ ⟨m, y2, rfl, s2, hm, hm2⟩
      exact SqT.of (s2 _ _ ha)
    · rintro i x σ H2 hx ⟨m, y2, rfl, s2, hm, hm2⟩
      obtain ⟨d2, hd2, ht2⟩ := TDs.get hTs i x hx
      have hm3 : d2 ∈ cs := List.mem_of_getElem? hd2
      have l3 := encs_take_len cs (i + 1)
      have e3 := encs_take hd2
      have e4 := congrArg List.length e3
      rw [List.length_append] at e4
      refine ⟨_, rfl, _, rfl, x, d2, rfl, TD.mono (Tk.same s2) _ _ ht2, areV_mem hV d2 hm3, Nat.lt_of_le_of_lt (depth_mem (Nat.le_refl _) d2 hm3) hdc, by omega, fun p3 H3 hp3 s3 h3 => ?_⟩
      refine ⟨m, p3, _, _, rfl, rfl, s3 _ _ hm2, h3, ?_, fun p4 hp4 => ?_⟩
      · rw [List.length_map, List.length_map]
        show (encs (cs.take i)).length + 1 + 1 + (enc d2).length ≤ sizeLine
        exact big (by omega)
      refine ⟨p4, _, rfl, s2.trans (s3.trans (same_new hp4 _)), s2.free (s3.free hp4), ?_⟩
      rw [upd_same, ← List.map_append, e3]
      rfl
    · rintro σ H2 ⟨m, y2, rfl, s2, hm, hm2⟩
      refine ⟨_, rfl, q m H2 hm s2 ?_⟩
      rw [hm2, lxs, List.take_length]
      rfl
end
end RR

namespace RR
open PySem PySem.Spec PyProof.Rows L2
section
variable {P : Program} {w : World} {K : PySem.W.Frag} {mg : Str → Option Value} {base : Heap}
theorem ok_digest (D : Def K mg "digest" sDigest ["rule", "value"]) (DE : Def K mg "encode" sEncode ["value"]) (ml : mg "len" = none) (GE : FnOk P w K mg base CX0 1 DE.f DE.fd ["value"] spEnc) : FnOk P w K mg base CX0 2 D.f D.fd ["rule", "value"] spDig := by
  refine D.F.ok scDigest (fun vs H Q E h => ?_) (fun cdv A outer s H vs Q E hr h => ?_)
  · obtain ⟨r, v, b, m, d, rfl, _⟩ := h
    rfl
  obtain ⟨r, v, b, m, d, rfl, hR, hrm, hd, hv, hdep, hlen, q⟩ := h
  refine ⟨_, pss_cons (ps_asg (pv 0) (pg_tup (by rfl) (pgs_cons (pg_name (i := 2) scDigest.nd rfl (.inl rfl)) (pgs_cons (pg_name (i := 3) scDigest.nd rfl (.inl rfl)) pgs_nil)))) <|
    pss_cons (ps_set (i := 4) scDigest.nd rfl (.inl rfl) (pe_call GE hr (by rfl) DE.m DE.F.kp DE.b .nil pass0 (pa_cons (pv 1) pa_nil))) <|
    pss_cons (ps_set (i := 5) scDigest.nd rfl (.inl rfl) pe_int) <|
    pss_cons (ps_for PassesOwn.never rfl (pi_list (pv 4)) (pg_name (i := 6) scDigest.nd rfl (.inl rfl))
      (pss_one (ps_set (i := 5) scDigest.nd rfl (.inl rfl) (pe_op op_modN (pe_op op_add (pe_op op_add (pe_op op_mul (pv 5) (pv 2)) (pv 6)) pe_int) (pv 3))))) <|
    pss_one (ps_ret (pe_op op_modN (pe_op op_add (pe_op op_mul (pv 5) (pv 2)) (pe_callB call_len_seq (by rfl) ml PySem.boot_len (pa_cons (pv 4) pa_nil))) (pv 3))), ?_⟩
  obtain ⟨hb1, hb2, hm1, hm2⟩ := hrm
  refine ⟨_, rfl, r, _, rfl, SqT.of hR, rfl, _, _, rfl, _, _, rfl, rfl, ?_⟩
  refine ⟨_, rfl, v, d, rfl, hd, hv, hlen, fun p H1 hp s1 h1 => ?_⟩
  refine ⟨_, rfl, p, rfl, ⟨_, SqL.of h1⟩, for_list (K := K) (a := p) (xs := (enc d).map V.int) (fun i σ H' => ∃ y6, σ = [some (.ref r), some v, some (.int b), some (.int m), some (.ref p), some (.int (digF b m ((enc d).take i))), y6] ∧ H' = H1) ?_ ?_ ?_ ?_⟩
  · exact ⟨_, rfl, rfl⟩
  · rintro i σ H' _ ⟨y6, rfl, rfl⟩
    exact SqL.of h1
  · rintro i x σ H' hx ⟨y6, rfl, rfl⟩
    rw [List.getElem?_map] at hx
    obtain ⟨n, hn, rfl⟩ : ∃ n, (enc d)[i]? = some n ∧ x = .int n := by
      cases e : (enc d)[i]? with
      | none =>
        rw [e] at hx
        cases hx
      | some n =>
        rw [e] at hx
        exact ⟨n, rfl, (Option.some.inj hx).symm⟩
    refine ⟨_, rfl, _, rfl, _, _, rfl, rfl, .inr ⟨by omega, by omega⟩, _, rfl, _, _, rfl, rfl, _, _, rfl, rfl, _, rfl, _, _, rfl, rfl, by omega, ?_⟩
    refine ⟨some (.int n), ?_, rfl⟩
    rw [List.take_add_one, hn]
    show _ = [some (V.ref r), some v, some (V.int b), some (V.int m), some (V.ref p), some (V.int (digF b m ((enc d).take i ++ [n]))), _]
    rw [digF_snoc]
    rfl
  · rintro σ H' ⟨y6, rfl, rfl⟩
    refine ⟨_, rfl, _, rfl, _, _, rfl, rfl, .inr ⟨by omega, by omega⟩, _, rfl, p, _, rfl, .inl (SqL.of h1), _, _, rfl, rfl, _, rfl, _, _, rfl, rfl, by omega, ?_⟩
    rw [List.length_map, List.take_length]
    exact q _ s1
theorem ok_ldigest (D : Def K mg "_law_digest" sLDigest ["rule", "value"]) (DE : Def K mg "_law_encode" sLEncode ["value"]) (ml : mg "len" = none) (mint : mg "int" = none) (GE : FnOk P w K mg base CX0 9 DE.f DE.fd ["value"] (spLE 8)) : FnOk P w K mg base CX0 10 D.f D.fd ["rule", "value"] spDig := by
  refine D.F.ok scLDigest (fun vs H Q E h => ?_) (fun cdv A outer s H vs Q E hr h => ?_)
  · obtain ⟨r, v, b, m, d, rfl, _⟩ := h
    rfl
  obtain ⟨r, v, b, m, d, rfl, hR, hrm, hd, hv, hdep, hlen, q⟩ := h
  refine ⟨_, pss_cons (ps_set (i := 2) scLDigest.nd rfl (.inl rfl) pe_int) <|
    pss_cons (ps_set (i := 3) scLDigest.nd rfl (.inl rfl) (pe_call GE hr (by rfl) DE.m DE.F.kp DE.b .nil pass0 (pa_cons (pv 1) pa_nil))) <|
    pss_cons (ps_for PassesOwn.never rfl (pi_list (pv 3)) (pg_name (i := 4) scLDigest.nd rfl (.inl rfl))
      (pss_one (ps_set (i := 2) scLDigest.nd rfl (.inl rfl) (pe_op op_modN (pe_callTy call_int1 (by rfl) mint (by decide +kernel) (pa_cons (pe_op op_add (pe_op op_add (pe_op op_mul (pv 2) (pe_ix ix_tup (pv 0) pe_int (fun _ _ => rfl))) (pv 4)) pe_int) pa_nil)) (pe_ix ix_tup (pv 0) pe_int (fun _ _ => rfl)))))) <|
    pss_one (ps_ret (pe_op op_modN (pe_callTy call_int1 (by rfl) mint (by decide +kernel) (pa_cons (pe_op op_add (pe_op op_mul (pv 2) (pe_ix ix_tup (pv 0) pe_int (fun _ _ => rfl))) (pe_callB call_len_seq (by rfl) ml PySem.boot_len (pa_cons (pv 3) pa_nil))) pa_nil)) (pe_ix ix_tup (pv 0) pe_int (fun _ _ => rfl)))), ?_⟩
  obtain ⟨hb1, hb2, hm1, hm2⟩ := hrm
  refine ⟨_, rfl, v, d, rfl, hd, hv, hdep, hlen, fun p H1 hp s1 h1 => ?_⟩
  have hR1 := s1 _ _ hR
  refine ⟨_, rfl, p, rfl, ⟨_, SqL.of h1⟩, for_list (K := K) (a := p) (xs := (enc d).map V.int) (fun i σ H' => ∃ y6, σ = [some (.ref r), some v, some (.int (digF b m ((enc d).take i))), some (.ref p), y6] ∧ H' = H1) ?_ ?_ ?_ ?_⟩
  · exact ⟨_, rfl, rfl⟩
  · rintro i σ H' _ ⟨y6, rfl, rfl⟩
    exact SqL.of h1
  · rintro i x σ H' hx ⟨y6, rfl, rfl⟩
    rw [List.getElem?_map] at hx
    obtain ⟨n, hn, rfl⟩ : ∃ n, (enc d)[i]? = some n ∧ x = .int n := by
      cases e : (enc d)[i]? with
      | none =>
        rw [e] at hx
        cases hx
      | some n =>
        rw [e] at hx
        exact ⟨n, rfl, (Option.some.inj hx).symm⟩
    refine ⟨_, rfl, _, rfl, r, _, 0, _, rfl, rfl, SqT.of hR1, atI_nat (j := 0) rfl, _, _, rfl, rfl, .inr ⟨by omega, by omega⟩, _, rfl, _, _, rfl, rfl, _, _, rfl, rfl, .inl ⟨_, rfl, _, rfl, r, _, 1, _, rfl, rfl, SqT.of hR1, atI_nat (j := 1) rfl, _, _, rfl, rfl, by omega, ?_⟩⟩
    refine ⟨some (.int n), ?_, rfl⟩
    rw [List.take_add_one, hn]
    show _ = [some (V.ref r), some v, some (V.int (digF b m ((enc d).take i ++ [n]))), some (V.ref p), _]
    rw [digF_snoc]
    rfl
  · rintro σ H' ⟨y6, rfl, rfl⟩
    refine ⟨_, rfl, _, rfl, r, _, 0, _, rfl, rfl, SqT.of hR1, atI_nat (j := 0) rfl, _, _, rfl, rfl, .inr ⟨by omega, by omega⟩, _, rfl, p, _, rfl, .inl (SqL.of h1), _, _, rfl, rfl, .inl ⟨_, rfl, _, rfl, r, _, 1, _, rfl, rfl, SqT.of hR1, atI_nat (j := 1) rfl, _, _, rfl, rfl, by omega, ?_⟩⟩
    rw [List.length_map, List.take_length]
    exact q _ s1
theorem ok_rule (D : Def K mg "_law_rule" sRule ["state"]) (DD : Def K mg "_law_draw" sDraw ["state", "limit"]) (GD : FnOk P w K mg base CX0 1 DD.f DD.fd ["state", "limit"] spDraw) : FnOk P w K mg base CX0 2 D.f D.fd ["state"] spRule := by
  refine D.F.ok scRule (fun vs H Q E h => ?_) (fun cdv A outer s H vs Q E hr h => ?_)
  · obtain ⟨st, l, rfl, _⟩ := h
    rfl
  obtain ⟨st, l, rfl, g, q⟩ := h
  refine ⟨_, pss_cons (ps_set (i := 1) scRule.nd rfl (.inl rfl) (pe_call GD hr (by rfl) DD.m DD.F.kp DD.b .nil pass0 (pa_cons (pv 0) (pa_cons pe_int pa_nil)))) <|
    pss_cons (ps_if (pt_cmpR op_eq (pv 1) pe_int (nomark _))
      (pss_one (ps_ret (pe_tup (pa_cons (pe_op op_add pe_int (pe_call GD hr (by rfl) DD.m DD.F.kp DD.b .nil pass0 (pa_cons (pv 0) (pa_cons pe_int pa_nil)))) (pa_cons (pe_op op_add pe_int (pe_call GD hr (by rfl) DD.m DD.F.kp DD.b .nil pass0 (pa_cons (pv 0) (pa_cons pe_int pa_nil)))) pa_nil))))) pss_nil) <|
    pss_cons (ps_if (pt_cmpR op_eq (pv 1) pe_int (nomark _))
      (pss_one (ps_ret (pe_tup (pa_cons (pe_op op_add pe_int (pe_call GD hr (by rfl) DD.m DD.F.kp DD.b .nil pass0 (pa_cons (pv 0) (pa_cons pe_int pa_nil)))) (pa_cons (pe_op op_add pe_int (pe_call GD hr (by rfl) DD.m DD.F.kp DD.b .nil pass0 (pa_cons (pv 0) (pa_cons pe_int pa_nil)))) pa_nil))))) pss_nil) <|
    pss_one (ps_ret (pe_tup (pa_cons (pe_op op_add pe_int (pe_call GD hr (by rfl) DD.m DD.F.kp DD.b .nil pass0 (pa_cons (pv 0) (pa_cons (pe_op op_pow pe_int pe_int) pa_nil)))) (pa_cons (pe_op op_add pe_int (pe_call GD hr (by rfl) DD.m DD.F.kp DD.b .nil pass0 (pa_cons (pv 0) (pa_cons (pe_op op_sub (pe_op op_pow pe_int pe_int) pe_int) pa_nil)))) pa_nil)))), ?_⟩
  refine ⟨_, rfl, st, l, 4, rfl, g, by decide, by decide, fun d H1 d0 d1 le1 g1 => ?_⟩
  refine ⟨_, rfl, rfl, _, rfl, ite2 (fun _ => ?_) (fun _ => ?_)⟩
  · refine ⟨_, rfl, st, l, 9, rfl, g1, by decide, by decide, fun d2 H2 d20 d21 le2 g2 => ?_⟩
    refine ⟨_, _, rfl, rfl, _, rfl, st, l, 6, rfl, g2, by decide, by decide, fun d3 H3 d30 d31 le3 g3 => ?_⟩
    refine ⟨_, _, rfl, rfl, by show 2 ≤ sizeLine; decide, fun p hp => ?_⟩
    exact q p _ _ _ ⟨by omega, by omega, by omega, by omega⟩ (((le1.trans le2).trans le3).trans (Le.of (same_new hp _))) (g3.same (same_new hp _)) upd_same
  refine ⟨_, rfl, rfl, _, rfl, ite2 (fun _ => ?_) (fun _ => ?_)⟩
  · refine ⟨_, rfl, st, l, 1000, rfl, g1, by decide, by decide, fun d2 H2 d20 d21 le2 g2 => ?_⟩
    refine ⟨_, _, rfl, rfl, _, rfl, st, l, 200, rfl, g2, by decide, by decide, fun d3 H3 d30 d31 le3 g3 => ?_⟩
    refine ⟨_, _, rfl, rfl, by show 2 ≤ sizeLine; decide, fun p hp => ?_⟩
    exact q p _ _ _ ⟨by omega, by omega, by omega, by omega⟩ (((le1.trans le2).trans le3).trans (Le.of (same_new hp _))) (g3.same (same_new hp _)) upd_same
  · refine ⟨_, rfl, 10, 18, rfl, rfl, ⟨by decide, by decide, by decide⟩, st, l, 10 ^ 18, rfl, g1, by decide, by decide, fun d2 H2 d20 d21 le2 g2 => ?_⟩
    refine ⟨_, _, rfl, rfl, _, rfl, 10, 18, rfl, rfl, ⟨by decide, by decide, by decide⟩, _, _, rfl, rfl, st, l, 10 ^ 18 - 1, rfl, g2, by decide, by decide, fun d3 H3 d30 d31 le3 g3 => ?_⟩
    refine ⟨_, _, rfl, rfl, by show 2 ≤ sizeLine; decide, fun p hp => ?_⟩
    exact q p _ _ _ ⟨by omega, by omega, by omega, by omega⟩ (((le1.trans le2).trans le3).trans (Le.of (same_new hp _))) (g3.same (same_new hp _)) upd_same
end
end RR

namespace RR
open PySem PySem.Spec PyProof.Rows L2
abbrev sLaw : Stmt := topS 11
def spLaw (K : PySem.W.Frag) : Sp := fun vs H Q _ => ∃ (a : Addr) (ns : List Int), vs = [.ref a] ∧ SqL K H a (ns.map V.int) ∧ ns.length ≤ 63 ∧ ∀ H', Q (.bl true) H'
theorem scLaw : FnScope ["script", "state", "k", "rule", "link", "value", "actual", "other"] ["script"] (defScope sLaw) := ⟨rfl, rfl, rfl, by decide +kernel, rfl, by decide +kernel, by decide +kernel⟩
theorem dig_range {b m : Int} (h : RuleOk b m) (ns : List Int) : 0 ≤ dig b m ns ∧ dig b m ns < m := by
  have h1 := h.2.2.1
  exact ⟨Int.fmod_nonneg_of_pos _ (by omega), Int.fmod_lt_of_pos _ (by omega)⟩
/-- data that both digests take -/
def VOk (d : PyData) : Prop := isV d = true ∧ d.depth < 8 ∧ (enc d).length ≤ 100000
theorem VOk.int (i : Int) : VOk (.int i) := ⟨rfl, by show 0 < 8; decide, by show 2 ≤ 100000; decide⟩
theorem VOk.nil : VOk (.tuple []) := ⟨rfl, by decide, by decide⟩
theorem enc_str_len (s : Str) : (enc (.str s)).length = s.length + 2 := by
  show (s.cps.toList.map _).length + 1 + 1 = s.length + 2
  rw [List.length_map, str_len]
theorem VOk.str {s : Str} (h : s.length ≤ 1000) : VOk (.str s) := ⟨rfl, by show 0 < 8; decide, by rw [enc_str_len]; omega⟩
theorem encs_ints : ∀ ns : List Int, (encs (ns.map PyData.int)).length = 2 * ns.length
  | [] => rfl
  | n :: ns => by
    show ([0, n] ++ encs (ns.map PyData.int)).length = 2 * (ns.length + 1)
    rw [List.length_append, encs_ints ns]
    show 2 + 2 * ns.length = _
    omega
theorem areV_ints : ∀ ns : List Int, areV (ns.map PyData.int) = true
  | [] => rfl
  | n :: ns => areV_ints ns
theorem depth_ints : ∀ ns : List Int, PyData.depthAll (ns.map PyData.int) = 0
  | [] => rfl
  | n :: ns => by
    show max 0 (PyData.depthAll (ns.map PyData.int)) = 0
    rw [depth_ints ns]
    rfl
theorem VOk.node {k : Str} {ns : List Int} {a b : Int} (hk : KeyOk k) (hr : RowOk ns) : VOk (.tuple [.str "node", .str k, rowD ns, .tuple [.int a, .int b, .tuple [.int 0, .int 1, .int 2]]]) := by
  have e1 := areV_ints ns
  have e2 := depth_ints ns
  have e3 := encs_ints ns
  refine ⟨?_, ?_, ?_⟩
  · show (true && (true && (areV (ns.map PyData.int) && (true && true)))) = true
    rw [e1]
    rfl
  · show max 0 (max 0 (max (PyData.depthAll (ns.map PyData.int) + 1) (max 2 0))) + 1 < 8
    rw [e2]
    decide
  · show (encs _).length + 1 + 1 ≤ 100000
    show ((enc (.str "node") ++ (enc (.str k) ++ ((2 :: ((ns.map PyData.int).length : Int) :: encs (ns.map PyData.int)) ++ (enc (.tuple [.int a, .int b, .tuple [.int 0, .int 1, .int 2]]) ++ []))))).length + 1 + 1 ≤ 100000
    rw [List.length_append, List.length_append, List.length_append, enc_str_len, enc_str_len, List.length_append]
    have h1 := hk.2.1
    have h2 := hr.2.1
    show ("node" : Str).length + 2 + (k.length + 2 + ((encs (ns.map PyData.int)).length + 1 + 1 + (14 + 0))) + 1 + 1 ≤ 100000
    have h3 : ("node" : Str).length = 4 := by decide +kernel
    omega
section
variable {P : Program} {w : World} {K : PySem.W.Frag} {mg : Str → Option Value} {base : Heap}
theorem ok_law (D : Def K mg "law" sLaw ["script"]) (DD : Def K mg "_law_draw" sDraw ["state", "limit"]) (DU : Def K mg "_law_rule" sRule ["state"]) (DK : Def K mg "_law_key" sKey ["state"]) (DR : Def K mg "_law_row" sRow ["state"]) (DP : Def K mg "digest" sDigest ["rule", "value"]) (DL : Def K mg "_law_digest" sLDigest ["rule", "value"])
    (mlist : mg "list" = none) (mr : mg "range" = none) (mii : mg "isinstance" = none) (mint : mg "int" = none) (mbool : mg "bool" = none)
    (GD : FnOk P w K mg base CX0 1 DD.f DD.fd ["state", "limit"] spDraw) (GU : FnOk P w K mg base CX0 2 DU.f DU.fd ["state"] spRule) (GK : FnOk P w K mg base CX0 2 DK.f DK.fd ["state"] spKey) (GR : FnOk P w K mg base CX0 2 DR.f DR.fd ["state"] spRow)
    (GP : FnOk P w K mg base CX0 2 DP.f DP.fd ["rule", "value"] spDig) (GL : FnOk P w K mg base CX0 10 DL.f DL.fd ["rule", "value"] spDig) :
    FnOk P w K mg base CX0 11 D.f D.fd ["script"] (spLaw K) := by
  refine D.F.ok scLaw (fun vs H Q E h => ?_) (fun cdv A outer s H vs Q E hr h => ?_)
  · obtain ⟨a, ns, rfl, _⟩ := h
    rfl
  obtain ⟨a, ns, rfl, hS, hlen, q⟩ := h
  have hr1 : Room 1 _ := hr.mono (by decide)
  have hr2 : Room 2 _ := hr.mono (by decide)
  refine ⟨_, pss_cons (ps_set (i := 1) scLaw.nd rfl (.inl rfl) (pe_lst (pa_cons pe_int (pa_cons pe_int (pa_cons (pe_callTy call_list_of (by rfl) mlist (by decide +kernel) (pa_cons (pv 0) pa_nil)) (pa_cons pe_int pa_nil)))))) <|
    pss_cons (ps_for PassesOwn.never rfl (pi_range1 (by rfl) mr (pa_cons pe_int pa_nil)) (pg_name (i := 2) scLaw.nd rfl (.inl rfl))
      (pss_cons (ps_set (i := 3) scLaw.nd rfl (.inl rfl) (pe_call GU hr2 (by rfl) DU.m DU.F.kp DU.b .nil pass0 (pa_cons (pv 1) pa_nil))) <|
      pss_cons (ps_set (i := 4) scLaw.nd rfl (.inl rfl) (pe_tup (pa_cons (pe_call GD hr1 (by rfl) DD.m DD.F.kp DD.b .nil pass0 (pa_cons (pv 1) (pa_cons (pe_op op_pow pe_int pe_int) pa_nil))) (pa_cons (pe_call GD hr1 (by rfl) DD.m DD.F.kp DD.b .nil pass0 (pa_cons (pv 1) (pa_cons pe_int pa_nil))) (pa_cons (pe_tup (pa_cons pe_int (pa_cons pe_int (pa_cons pe_int pa_nil)))) pa_nil))))) <|
      pss_cons (ps_set (i := 5) scLaw.nd rfl (.inl rfl) (pe_tup (pa_cons pe_str (pa_cons (pe_call GK hr2 (by rfl) DK.m DK.F.kp DK.b .nil pass0 (pa_cons (pv 1) pa_nil)) (pa_cons (pe_call GR hr2 (by rfl) DR.m DR.F.kp DR.b .nil pass0 (pa_cons (pv 1) pa_nil)) (pa_cons (pv 4) pa_nil)))))) <|
      pss_cons (ps_set (i := 6) scLaw.nd rfl (.inl rfl) (pe_call GP hr2 (by rfl) DP.m DP.F.kp DP.b .nil pass0 (pa_cons (pv 3) (pa_cons (pv 5) pa_nil)))) <|
      pss_cons (ps_if (PW.pt (pw_or (pt_not (pt_val (pe_callB call_isi (by rfl) mii (by decide +kernel) (pa_cons (pv 6) (pa_cons (pe_bltn (v := .ty "int") (by rfl) mint (by decide +kernel) rfl) pa_nil)))))
          (pw_or (pt_val (pe_callB call_isi (by rfl) mii (by decide +kernel) (pa_cons (pv 6) (pa_cons (pe_bltn (v := .ty "bool") (by rfl) mbool (by decide +kernel) rfl) pa_nil))))
          (pw_or1 (pt_cmpR op_ne (pv 6) (pe_call GL hr (by rfl) DL.m DL.F.kp DL.b .nil pass0 (pa_cons (pv 3) (pa_cons (pv 5) pa_nil))) (nomark _)))))) (pss_one (ps_ret pe_bl)) pss_nil) <|
      pss_cons (ps_if (PW.pt (pw_or (pt_not (pt_chain op_le op_lt pe_int (pv 6) (pe_ix ix_tup (pv 3) pe_int (fun _ _ => rfl))))
          (pw_or1 (pt_cmpR op_ne (pe_call GP hr2 (by rfl) DP.m DP.F.kp DP.b .nil pass0 (pa_cons (pv 3) (pa_cons (pe_tup pa_nil) pa_nil))) (pe_call GL hr (by rfl) DL.m DL.F.kp DL.b .nil pass0 (pa_cons (pv 3) (pa_cons (pe_tup pa_nil) pa_nil))) (nomark _))))) (pss_one (ps_ret pe_bl)) pss_nil) <|
      pss_one (ps_for PassesOwn.never rfl (pi_list (pe_lst (pa_cons (pe_call GD hr1 (by rfl) DD.m DD.F.kp DD.b .nil pass0 (pa_cons (pv 1) (pa_cons (pe_op op_pow pe_int pe_int) pa_nil))) (pa_cons pe_int (pa_cons pe_str (pa_cons pe_str (pa_cons (pe_call GK hr2 (by rfl) DK.m DK.F.kp DK.b .nil pass0 (pa_cons (pv 1) pa_nil)) (pa_cons (pe_tup (pa_cons pe_int pa_nil)) (pa_cons (pe_tup (pa_cons pe_str pa_nil)) (pa_cons (pe_tup (pa_cons (pe_tup pa_nil) (pa_cons pe_str pa_nil))) pa_nil)))))))))) (pg_name (i := 7) scLaw.nd rfl (.inl rfl))
        (pss_one (ps_if (pt_cmpR op_ne (pe_call GP hr2 (by rfl) DP.m DP.F.kp DP.b .nil pass0 (pa_cons (pv 3) (pa_cons (pv 7) pa_nil))) (pe_call GL hr (by rfl) DL.m DL.F.kp DL.b .nil pass0 (pa_cons (pv 3) (pa_cons (pv 7) pa_nil))) (nomark _)) (pss_one (ps_ret pe_bl)) pss_nil))))) <|
    pss_one (ps_ret pe_bl), ?_⟩
  refine ⟨_, rfl, a, _, rfl, .inl hS, fun l hl => ?_⟩
  refine ⟨by show 4 ≤ sizeLine; decide, fun st hst => ?_⟩
  have nls : l ≠ st := ne_of_none upd_same hst
  have g0 : Good st l (upd (upd H l (.lst (ns.map V.int))) st (.lst [.int 0, .int 0, .ref l, .int 1])) := ⟨0, 0, 1, ns, upd_same, by decide, by decide, by decide, by decide, nls, by rw [upd_ne nls]; exact upd_same⟩
  generalize upd (upd H l (.lst (ns.map V.int))) st (.lst [.int 0, .int 0, .ref l, .int 1]) = H0 at g0
  refine ⟨5, rfl, by decide, by decide, for_range (lo := 0) (n := 5) (fun i σ H' => ∃ (y2 y3 y4 y5 y6 y7 : Option V), σ = [some (.ref a), some (.ref st), y2, y3, y4, y5, y6, y7] ∧ Good st l H') ?_ ?_ ?_⟩
  · exact ⟨_, _, _, _, _, _, rfl, g0⟩
  · rintro i σ H1 hi ⟨y2, y3, y4, y5, y6, y7, rfl, g1⟩
    refine ⟨_, rfl, st, l, rfl, g1, fun r b m H2 hbm le2 g2 hr2' => ?_⟩
    -- link
    refine ⟨_, rfl, 10, 18, rfl, rfl, ⟨by decide, by decide, by decide⟩, st, l, 10 ^ 18, rfl, g2, by decide, by decide, fun d3 H3 d30 d31 le3 g3 => ?_⟩
    refine ⟨_, rfl, st, l, 99, rfl, g3, by decide, by decide, fun d4 H4 d40 d41 le4 g4 => ?_⟩
    refine ⟨by show 3 ≤ sizeLine; decide, fun t1 ht1 => ⟨by show 3 ≤ sizeLine; decide, fun t2 ht2 => ?_⟩⟩
    have s5 : Same H4 (upd (upd H4 t1 (.tup [.int 0, .int 1, .int 2])) t2 (.tup [.int d3, .int d4, .ref t1])) := (same_new ht1 _).trans (same_new ht2 _)
    have e5 : upd (upd H4 t1 (.tup [.int 0, .int 1, .int 2])) t2 (.tup [.int d3, .int d4, .ref t1]) t2 = some (.tup [.int d3, .int d4, .ref t1]) := upd_same
    have e5' : upd (upd H4 t1 (.tup [.int 0, .int 1, .int 2])) t2 (.tup [.int d3, .int d4, .ref t1]) t1 = some (.tup [.int 0, .int 1, .int 2]) := (same_new ht2 _) _ _ upd_same
    generalize upd (upd H4 t1 (.tup [.int 0, .int 1, .int 2])) t2 (.tup [.int d3, .int d4, .ref t1]) = H5 at s5 e5 e5'
    have g5 := g4.same s5
    have tk5 : Tk H2 H5 := ((Tk.le g2 le3).trans (Tk.le g3 le4)).trans (Tk.same s5)
    -- value
    refine ⟨_, rfl, st, l, rfl, g5, fun k H6 hk le6 g6 => ?_⟩
    refine ⟨_, rfl, st, l, rfl, g6, fun ro ns H7 hns le7 g7 hro => ?_⟩
    refine ⟨_, rfl, by show 4 ≤ sizeLine; decide, fun t3 ht3 => ?_⟩
    have s8 := same_new ht3 (.tup [.str "node", .str k, .ref ro, .ref t2])
    have e8 : upd H7 t3 (.tup [.str "node", .str k, .ref ro, .ref t2]) t3 = some (.tup [.str "node", .str k, .ref ro, .ref t2]) := upd_same
    generalize upd H7 t3 (.tup [.str "node", .str k, .ref ro, .ref t2]) = H8 at s8 e8
    have tk57 : Tk H5 H7 := (Tk.le g5 le6).trans (Tk.le g6 le7)
    have tk58 : Tk H5 H8 := tk57.trans (Tk.same s8)
    have g8 := g7.same s8
    have hR8 : H8 r = some (.tup [.int b, .int m]) := (tk5.trans tk58) _ _ hr2'
    have hval : TD H8 (.ref t3) (.tuple [.str "node", .str k, rowD ns, .tuple [.int d3, .int d4, .tuple [.int 0, .int 1, .int 2]]]) :=
      .tup e8 (.cons (.str _) (.cons (.str _) (.cons (.tup (s8 _ _ hro) (TDs.ints ns)) (.cons (.tup (tk58 _ _ e5) (.cons (.int _) (.cons (.int _) (.cons (.tup (tk58 _ _ e5') (.cons (.int _) (.cons (.int _) (.cons (.int _) .nil)))) .nil)))) .nil))))
    have hvok : VOk (.tuple [.str "node", .str k, rowD ns, .tuple [.int d3, .int d4, .tuple [.int 0, .int 1, .int 2]]]) := VOk.node hk hns
    generalize PyData.tuple [.str "node", .str k, rowD ns, .tuple [.int d3, .int d4, .tuple [.int 0, .int 1, .int 2]]] = dv at hval hvok
    -- actual
    refine ⟨_, rfl, _, rfl, r, .ref t3, b, m, dv, rfl, hR8, hbm, hval, hvok.1, hvok.2.1, hvok.2.2, fun H9 s9 => ?_⟩
    refine ⟨_, rfl, _, _, _, _, true, rfl, .ty "int", .base (.int _), kit_ty (by decide +kernel), ⟨_, rfl, ?_⟩⟩
    refine iteF ?_
    refine ⟨_, rfl, _, _, _, _, false, rfl, .ty "bool", .base (.int _), kit_ty (by decide +kernel), ⟨_, rfl, ?_⟩⟩
    refine iteF ?_
    refine ⟨_, rfl, _, rfl, _, rfl, r, .ref t3, b, m, dv, rfl, s9 _ _ hR8, hbm, TD.mono (Tk.same s9) _ _ hval, hvok.1, hvok.2.1, hvok.2.2, fun H10 s10 => ?_⟩
    refine ⟨rfl, _, rfl, iteNS rfl ?_⟩
    -- 0 <= actual < rule[1]
    have rg := dig_range hbm (enc dv)
    have hR10 := s10 _ _ (s9 _ _ hR8)
    have g10 := (g8.same s9).same s10
    refine ⟨_, rfl, _, _, rfl, rfl, _, rfl, ite2 (fun _ => ?_) (fun n => absurd (decide_eq_true rg.1) n)⟩
    refine ⟨_, rfl, r, _, 1, _, rfl, rfl, SqT.of hR10, atI_nat (j := 1) rfl, _, _, rfl, rfl, _, rfl, iteNS rg.2 ?_⟩
    refine ⟨_, rfl, Nat.zero_le _, fun t4 ht4 => ?_⟩
    have s11 := same_new ht4 (.tup [])
    refine ⟨r, .ref t4, b, m, _, rfl, s11 _ _ hR10, hbm, .tup upd_same .nil, VOk.nil.1, VOk.nil.2.1, VOk.nil.2.2, fun H12 s12 => ?_⟩
    refine ⟨_, rfl, Nat.zero_le _, fun t5 ht5 => ?_⟩
    have s13 := same_new ht5 (.tup [])
    refine ⟨r, .ref t5, b, m, _, rfl, s13 _ _ (s12 _ _ (s11 _ _ hR10)), hbm, .tup upd_same .nil, VOk.nil.1, VOk.nil.2.1, VOk.nil.2.2, fun H14 s14 => ?_⟩
    refine ⟨rfl, _, rfl, iteNS rfl ?_⟩
    have s1014 := s11.trans (s12.trans (s13.trans s14))
    have hR14 := s1014 _ _ hR10
    have g14 := g10.same s1014
    -- the eight others
    refine ⟨_, rfl, 10, 18, rfl, rfl, ⟨by decide, by decide, by decide⟩, st, l, 10 ^ 18, rfl, g14, by decide, by decide, fun d15 H15 _ _ le15 g15 => ?_⟩
    refine ⟨_, rfl, st, l, rfl, g15, fun k16 H16 hk16 le16 g16 => ?_⟩
    refine ⟨by show 1 ≤ sizeLine; decide, fun u1 hu1 => ⟨by show 1 ≤ sizeLine; decide, fun u2 hu2 => ⟨Nat.zero_le _, fun u3 hu3 => ⟨by show 2 ≤ sizeLine; decide, fun u4 hu4 => ⟨by show 8 ≤ sizeLine; decide, fun u5 hu5 => ?_⟩⟩⟩⟩⟩
    have sa := same_new hu1 (.tup [.int 1])
    have sb := same_new hu2 (.tup [.str ""])
    have sc := same_new hu3 (.tup [])
    have sd := same_new hu4 (.tup [.ref u3, .str "Z"])
    have se := same_new hu5 (.lst [.int d15, .int 0, .str "", .str "Aa0", .str k16, .ref u1, .ref u2, .ref u4])
    have x1 := se _ _ (sd _ _ (sc _ _ (sb _ _ (upd_same (H := H16) (a := u1) (o := .tup [.int 1])))))
    have x2 := se _ _ (sd _ _ (sc _ _ (upd_same (H := upd H16 u1 (.tup [.int 1])) (a := u2) (o := .tup [.str ""]))))
    have x3 := se _ _ (sd _ _ (upd_same (H := upd (upd H16 u1 (.tup [.int 1])) u2 (.tup [.str ""])) (a := u3) (o := .tup [])))
    have x4 := se _ _ (upd_same (H := upd (upd (upd H16 u1 (.tup [.int 1])) u2 (.tup [.str ""])) u3 (.tup [])) (a := u4) (o := .tup [.ref u3, .str "Z"]))
    have x5 := upd_same (H := upd (upd (upd (upd H16 u1 (.tup [.int 1])) u2 (.tup [.str ""])) u3 (.tup [])) u4 (.tup [.ref u3, .str "Z"])) (a := u5) (o := .lst [.int d15, .int 0, .str "", .str "Aa0", .str k16, .ref u1, .ref u2, .ref u4])
    have sz := sa.trans (sb.trans (sc.trans (sd.trans se)))
    generalize upd (upd (upd (upd (upd H16 u1 (.tup [.int 1])) u2 (.tup [.str ""])) u3 (.tup [])) u4 (.tup [.ref u3, .str "Z"])) u5 (.lst [.int d15, .int 0, .str "", .str "Aa0", .str k16, .ref u1, .ref u2, .ref u4]) = H17 at x1 x2 x3 x4 x5 sz
    have hR17 : H17 r = some (.tup [.int b, .int m]) := sz _ _ (Tk.le g15 le16 _ _ (Tk.le g14 le15 _ _ hR14))
    have g17 := g16.same sz
    have hds : TDs H17 [.int d15, .int 0, .str "", .str "Aa0", .str k16, .ref u1, .ref u2, .ref u4] [.int d15, .int 0, .str "", .str "Aa0", .str k16, .tuple [.int 1], .tuple [.str ""], .tuple [.tuple [], .str "Z"]] :=
      .cons (.int _) (.cons (.int _) (.cons (.str _) (.cons (.str _) (.cons (.str _) (.cons (.tup x1 (.cons (.int _) .nil)) (.cons (.tup x2 (.cons (.str _) .nil)) (.cons (.tup x4 (.cons (.tup x3 .nil) (.cons (.str _) .nil))) .nil)))))))
    have hok : ∀ d ∈ ([.int d15, .int 0, .str "", .str "Aa0", .str k16, .tuple [.int 1], .tuple [.str ""], .tuple [.tuple [], .str "Z"]] : List PyData), VOk d := by
      intro d hd
      simp only [List.mem_cons, List.not_mem_nil, or_false] at hd
      rcases hd with e | e | e | e | e | e | e | e
      · rw [e]
        exact VOk.int _
      · rw [e]
        exact VOk.int _
      · rw [e]
        exact ⟨rfl, by decide, by decide +kernel⟩
      · rw [e]
        exact ⟨rfl, by decide +kernel, by decide +kernel⟩
      · rw [e]
        exact VOk.str (by have := hk16.2.1; omega)
      · rw [e]
        exact ⟨rfl, by decide, by decide⟩
      · rw [e]
        exact ⟨rfl, by decide +kernel, by decide +kernel⟩
      · rw [e]
        exact ⟨rfl, by decide +kernel, by decide +kernel⟩
    refine ⟨u5, rfl, ⟨_, SqL.of x5⟩, for_list (K := K) (a := u5) (xs := [.int d15, .int 0, .str "", .str "Aa0", .str k16, .ref u1, .ref u2, .ref u4]) (fun _ σ H' => ∃ y7, σ = [some (.ref a), some (.ref st), some (.int (0 + (i : Int))), some (.ref r), some (.ref t2), some (.ref t3), some (.int (dig b m (enc dv))), y7] ∧ Same H17 H') ?_ ?_ ?_ ?_⟩
    · exact ⟨_, rfl, Same.refl _⟩
    · rintro i σ H' _ ⟨y7, rfl, s⟩
      exact SqL.of (s _ _ x5)
    · rintro i x σ H18 hx ⟨y7, rfl, s18⟩
      obtain ⟨d, hd, ht⟩ := TDs.get hds i x hx
      have hdv := hok d (List.mem_of_getElem? hd)
      refine ⟨_, rfl, _, rfl, r, x, b, m, d, rfl, s18 _ _ hR17, hbm, TD.mono (Tk.same s18) _ _ ht, hdv.1, hdv.2.1, hdv.2.2, fun H19 s19 => ?_⟩
      refine ⟨_, rfl, _, rfl, r, x, b, m, d, rfl, s19 _ _ (s18 _ _ hR17), hbm, TD.mono (Tk.same (s18.trans s19)) _ _ ht, hdv.1, hdv.2.1, hdv.2.2, fun H20 s20 => ?_⟩
      refine ⟨rfl, _, rfl, iteNS rfl ?_⟩
      exact ⟨_, rfl, s18.trans (s19.trans s20)⟩
    · rintro σ H' ⟨y7, rfl, s18⟩
      exact ⟨_, _, _, _, _, _, rfl, g17.same s18⟩
  · rintro σ H' _
    exact q _
end
end RR

namespace RR
open PySem PySem.Spec PyProof.Rows L2
theorem all_mk {l : PySem.W.OpenLaw} {w : World} {K : PySem.W.Frag} {h : Heap} {mg : Str → Option Value} {fa f1 f2 f3 f4 f5 f6 f7 f8 f9 f10 : Addr} (X : K.In h) (G : h.Ns mainGlobals mg) (hfa : mg "law" = some (.ref fa))
    {od1 an1 od2 an2 od3 an3 od4 an4 od5 an5 od6 an6 od7 an7 od8 an8 od9 an9 od10 an10 : Option Addr} {sl1 sl2 sl3 sl4 sl5 sl6 sl7 sl8 sl9 sl10 : Array (Option Value)} {oc1 kV1 dc1 pm1 cd1 ct1 oc2 kV2 dc2 pm2 cd2 ct2 oc3 kV3 dc3 pm3 cd3 ct3 oc4 kV4 dc4 pm4 cd4 ct4 oc5 kV5 dc5 pm5 cd5 ct5 oc6 kV6 dc6 pm6 cd6 ct6 oc7 kV7 dc7 pm7 cd7 ct7 oc8 kV8 dc8 pm8 cd8 ct8 oc9 kV9 dc9 pm9 cd9 ct9 oc10 kV10 dc10 pm10 cd10 ct10 : Value}
    (a1 : PySem.W.nsIn K mainGlobals "encode" = some (some (.ref f1))) (l1 : K.lookup f1 = some ⟨oc1, od1, .func (PySem.W.fnOf "encode" "encode" (defArgs sEncode) (defBody sEncode) (defScope sEncode) .none kV1 dc1 pm1 an1 cd1 ct1), sl1⟩) (c1 : PySem.W.codeIn K cd1 "encode" = true) (k1 : PySem.W.keepIn K (.ref f1) = true)
    (a2 : PySem.W.nsIn K mainGlobals "digest" = some (some (.ref f2))) (l2 : K.lookup f2 = some ⟨oc2, od2, .func (PySem.W.fnOf "digest" "digest" (defArgs sDigest) (defBody sDigest) (defScope sDigest) .none kV2 dc2 pm2 an2 cd2 ct2), sl2⟩) (c2 : PySem.W.codeIn K cd2 "digest" = true) (k2 : PySem.W.keepIn K (.ref f2) = true)
    (a3 : PySem.W.nsIn K mainGlobals "_law_draw" = some (some (.ref f3))) (l3 : K.lookup f3 = some ⟨oc3, od3, .func (PySem.W.fnOf "_law_draw" "_law_draw" (defArgs sDraw) (defBody sDraw) (defScope sDraw) .none kV3 dc3 pm3 an3 cd3 ct3), sl3⟩) (c3 : PySem.W.codeIn K cd3 "_law_draw" = true) (k3 : PySem.W.keepIn K (.ref f3) = true)
    (a4 : PySem.W.nsIn K mainGlobals "_law_rule" = some (some (.ref f4))) (l4 : K.lookup f4 = some ⟨oc4, od4, .func (PySem.W.fnOf "_law_rule" "_law_rule" (defArgs sRule) (defBody sRule) (defScope sRule) .none kV4 dc4 pm4 an4 cd4 ct4), sl4⟩) (c4 : PySem.W.codeIn K cd4 "_law_rule" = true) (k4 : PySem.W.keepIn K (.ref f4) = true)
    (a5 : PySem.W.nsIn K mainGlobals "_law_codes" = some (some (.ref f5))) (l5 : K.lookup f5 = some ⟨oc5, od5, .func (PySem.W.fnOf "_law_codes" "_law_codes" (defArgs sCodes) (defBody sCodes) (defScope sCodes) .none kV5 dc5 pm5 an5 cd5 ct5), sl5⟩) (c5 : PySem.W.codeIn K cd5 "_law_codes" = true) (k5 : PySem.W.keepIn K (.ref f5) = true)
    (a6 : PySem.W.nsIn K mainGlobals "_law_encode" = some (some (.ref f6))) (l6 : K.lookup f6 = some ⟨oc6, od6, .func (PySem.W.fnOf "_law_encode" "_law_encode" (defArgs sLEncode) (defBody sLEncode) (defScope sLEncode) .none kV6 dc6 pm6 an6 cd6 ct6), sl6⟩) (c6 : PySem.W.codeIn K cd6 "_law_encode" = true) (k6 : PySem.W.keepIn K (.ref f6) = true)
    (a7 : PySem.W.nsIn K mainGlobals "_law_digest" = some (some (.ref f7))) (l7 : K.lookup f7 = some ⟨oc7, od7, .func (PySem.W.fnOf "_law_digest" "_law_digest" (defArgs sLDigest) (defBody sLDigest) (defScope sLDigest) .none kV7 dc7 pm7 an7 cd7 ct7), sl7⟩) (c7 : PySem.W.codeIn K cd7 "_law_digest" = true) (k7 : PySem.W.keepIn K (.ref f7) = true)
    (a8 : PySem.W.nsIn K mainGlobals "_law_key" = some (some (.ref f8))) (l8 : K.lookup f8 = some ⟨oc8, od8, .func (PySem.W.fnOf "_law_key" "_law_key" (defArgs sKey) (defBody sKey) (defScope sKey) .none kV8 dc8 pm8 an8 cd8 ct8), sl8⟩) (c8 : PySem.W.codeIn K cd8 "_law_key" = true) (k8 : PySem.W.keepIn K (.ref f8) = true)
    (a9 : PySem.W.nsIn K mainGlobals "_law_row" = some (some (.ref f9))) (l9 : K.lookup f9 = some ⟨oc9, od9, .func (PySem.W.fnOf "_law_row" "_law_row" (defArgs sRow) (defBody sRow) (defScope sRow) .none kV9 dc9 pm9 an9 cd9 ct9), sl9⟩) (c9 : PySem.W.codeIn K cd9 "_law_row" = true) (k9 : PySem.W.keepIn K (.ref f9) = true)
    (a10 : PySem.W.nsIn K mainGlobals "law" = some (some (.ref f10))) (l10 : K.lookup f10 = some ⟨oc10, od10, .func (PySem.W.fnOf "law" "law" (defArgs sLaw) (defBody sLaw) (defScope sLaw) .none kV10 dc10 pm10 an10 cd10 ct10), sl10⟩) (c10 : PySem.W.codeIn K cd10 "law" = true) (k10 : PySem.W.keepIn K (.ref f10) = true)
    (z1 : PySem.W.nsIn K mainGlobals "len" = some none) (z2 : PySem.W.nsIn K mainGlobals "int" = some none) (z3 : PySem.W.nsIn K mainGlobals "range" = some none) (z4 : PySem.W.nsIn K mainGlobals "tuple" = some none) (z5 : PySem.W.nsIn K mainGlobals "list" = some none) (z6 : PySem.W.nsIn K mainGlobals "isinstance" = some none) (z7 : PySem.W.nsIn K mainGlobals "str" = some none) (z8 : PySem.W.nsIn K mainGlobals "ord" = some none) (z9 : PySem.W.nsIn K mainGlobals "bool" = some none) :
    ∃ fd : FuncData, (∀ (s : Shared) (v : Value), BindsTo s fd ⟨[v], []⟩ [("script", v)]) ∧ ∀ base : Heap, K.In base → base.Ns mainGlobals mg → FnOk l.prog w K mg base CX0 11 fa fd ["script"] (spLaw K) := by
  have e := hfa.symm.trans (PySem.W.mg_of X G a10)
  cases e
  have F1 := fun_mk (st := sEncode) l1 c1 k1
  have b1 := F1.binds (ps := ["value"]) fun _ _ _ _ _ _ us hl => match us, hl with | [_], _ => rfl
  let dE : Def K mg "encode" sEncode ["value"] := ⟨_, _, F1, b1, PySem.W.mg_of X G a1⟩
  have F2 := fun_mk (st := sDigest) l2 c2 k2
  have b2 := F2.binds (ps := ["rule", "value"]) fun _ _ _ _ _ _ us hl => match us, hl with | [_, _], _ => rfl
  let dP : Def K mg "digest" sDigest ["rule", "value"] := ⟨_, _, F2, b2, PySem.W.mg_of X G a2⟩
  have F3 := fun_mk (st := sDraw) l3 c3 k3
  have b3 := F3.binds (ps := ["state", "limit"]) fun _ _ _ _ _ _ us hl => match us, hl with | [_, _], _ => rfl
  let dD : Def K mg "_law_draw" sDraw ["state", "limit"] := ⟨_, _, F3, b3, PySem.W.mg_of X G a3⟩
  have F4 := fun_mk (st := sRule) l4 c4 k4
  have b4 := F4.binds (ps := ["state"]) fun _ _ _ _ _ _ us hl => match us, hl with | [_], _ => rfl
  let dU : Def K mg "_law_rule" sRule ["state"] := ⟨_, _, F4, b4, PySem.W.mg_of X G a4⟩
  have F5 := fun_mk (st := sCodes) l5 c5 k5
  have b5 := F5.binds (ps := ["text"]) fun _ _ _ _ _ _ us hl => match us, hl with | [_], _ => rfl
  let dO : Def K mg "_law_codes" sCodes ["text"] := ⟨_, _, F5, b5, PySem.W.mg_of X G a5⟩
  have F6 := fun_mk (st := sLEncode) l6 c6 k6
  have b6 := F6.binds (ps := ["value"]) fun _ _ _ _ _ _ us hl => match us, hl with | [_], _ => rfl
  let dF : Def K mg "_law_encode" sLEncode ["value"] := ⟨_, _, F6, b6, PySem.W.mg_of X G a6⟩
  have F7 := fun_mk (st := sLDigest) l7 c7 k7
  have b7 := F7.binds (ps := ["rule", "value"]) fun _ _ _ _ _ _ us hl => match us, hl with | [_, _], _ => rfl
  let dL : Def K mg "_law_digest" sLDigest ["rule", "value"] := ⟨_, _, F7, b7, PySem.W.mg_of X G a7⟩
  have F8 := fun_mk (st := sKey) l8 c8 k8
  have b8 := F8.binds (ps := ["state"]) fun _ _ _ _ _ _ us hl => match us, hl with | [_], _ => rfl
  let dK : Def K mg "_law_key" sKey ["state"] := ⟨_, _, F8, b8, PySem.W.mg_of X G a8⟩
  have F9 := fun_mk (st := sRow) l9 c9 k9
  have b9 := F9.binds (ps := ["state"]) fun _ _ _ _ _ _ us hl => match us, hl with | [_], _ => rfl
  let dR : Def K mg "_law_row" sRow ["state"] := ⟨_, _, F9, b9, PySem.W.mg_of X G a9⟩
  have F10 := fun_mk (st := sLaw) l10 c10 k10
  have b10 := F10.binds (ps := ["script"]) fun _ _ _ _ _ _ us hl => match us, hl with | [_], _ => rfl
  let dW : Def K mg "law" sLaw ["script"] := ⟨_, _, F10, b10, PySem.W.mg_of X G a10⟩
  have m_len := PySem.W.mg_none_of X G z1
  have m_int := PySem.W.mg_none_of X G z2
  have m_range := PySem.W.mg_none_of X G z3
  have m_tuple := PySem.W.mg_none_of X G z4
  have m_list := PySem.W.mg_none_of X G z5
  have m_isinstance := PySem.W.mg_none_of X G z6
  have m_str := PySem.W.mg_none_of X G z7
  have m_ord := PySem.W.mg_none_of X G z8
  have m_bool := PySem.W.mg_none_of X G z9
  refine ⟨PySem.W.fnOf "law" "law" (defArgs sLaw) (defBody sLaw) (defScope sLaw) .none kV10 dc10 pm10 an10 cd10 ct10, fun s v => .of_eq rfl, fun base _ _ => ?_⟩
  have GD := ok_draw (P := l.prog) (w := w) (base := base) dD m_len m_int
  have GK := ok_key dK dD m_range GD
  have GR := ok_row dR dD m_range m_tuple GD
  have GU := ok_rule dU dD GD
  have GE := ok_encode (P := l.prog) (w := w) (base := base) dE m_isinstance m_int m_str m_len m_ord
  have GP := ok_digest dP dE m_len GE
  have GO := ok_codes (P := l.prog) (w := w) (base := base) dO m_ord
  have L0 : FnOk l.prog w K mg base CX0 1 dF.f dF.fd ["value"] (spLE 0) := le_none
  have L1 := ok_lencode dF dO m_isinstance m_str m_tuple m_len GO L0
  have L2 := ok_lencode dF dO m_isinstance m_str m_tuple m_len GO L1
  have L3 := ok_lencode dF dO m_isinstance m_str m_tuple m_len GO L2
  have L4 := ok_lencode dF dO m_isinstance m_str m_tuple m_len GO L3
  have L5 := ok_lencode dF dO m_isinstance m_str m_tuple m_len GO L4
  have L6 := ok_lencode dF dO m_isinstance m_str m_tuple m_len GO L5
  have L7 := ok_lencode dF dO m_isinstance m_str m_tuple m_len GO L6
  have L8 := ok_lencode dF dO m_isinstance m_str m_tuple m_len GO L7
  have GL := ok_ldigest dL dF m_len m_int L8
  exact ok_law dW dD dU dK dR dP dL m_list m_range m_isinstance m_int m_bool GD GU GK GR GP GL
end RR
open PySem PySem.W PyProof.Rows
set_option maxRecDepth 100000 in
set_option maxHeartbeats 0 in
theorem PySem.Challenge.cw_rightrows_k02_digests_holds : PySem.Challenge.rw_rightrows_k02_digests.Holds := by
  w_on; o_law; k_head; (case hw => w_witness2)
  k_fill
  refine L2.walk_of (l := PySem.Challenge.rw_rightrows_k02_digests) (n := 63) (k := 11) (x := "script") (CX := fun _ => L2.CX0) (sp := fun w => RR.spLaw _) rfl (by decide) rfl ⟨rfl, by decide, by decide⟩ (fun w h Y => PySem.W.kIn_of Y) ?F (fun _ _ a ns hl _ hS => ⟨a, ns, rfl, hS, hl, fun _ => rfl⟩) (fun _ _ _ _ _ h => h)
  case F =>
    intro w mg fa h KX G hmg
    refine' RR.all_mk KX G hmg ?a1 ?l1 ?c1 ?k1 ?a2 ?l2 ?c2 ?k2 ?a3 ?l3 ?c3 ?k3 ?a4 ?l4 ?c4 ?k4 ?a5 ?l5 ?c5 ?k5 ?a6 ?l6 ?c6 ?k6 ?a7 ?l7 ?c7 ?k7 ?a8 ?l8 ?c8 ?k8 ?a9 ?l9 ?c9 ?k9 ?a10 ?l10 ?c10 ?k10 ?z1 ?z2 ?z3 ?z4 ?z5 ?z6 ?z7 ?z8 ?z9
    (case a1 => k_is); (case l1 => k_is); (case c1 => k_is); (case k1 => k_is); (case a2 => k_is); (case l2 => k_is)
    (case c2 => k_is); (case k2 => k_is); (case a3 => k_is); (case l3 => k_is); (case c3 => k_is); (case k3 => k_is)
    (case a4 => k_is); (case l4 => k_is); (case c4 => k_is); (case k4 => k_is); (case a5 => k_is); (case l5 => k_is)
    (case c5 => k_is); (case k5 => k_is); (case a6 => k_is); (case l6 => k_is); (case c6 => k_is); (case k6 => k_is)
    (case a7 => k_is); (case l7 => k_is); (case c7 => k_is); (case k7 => k_is); (case a8 => k_is); (case l8 => k_is)
    (case c8 => k_is); (case k8 => k_is); (case a9 => k_is); (case l9 => k_is); (case c9 => k_is); (case k9 => k_is)
    (case a10 => k_is); (case l10 => k_is); (case c10 => k_is); (case k10 => k_is); (case z1 => k_is); (case z2 => k_is)
    (case z3 => k_is); (case z4 => k_is); (case z5 => k_is); (case z6 => k_is); (case z7 => k_is); (case z8 => k_is)
    (case z9 => k_is)
