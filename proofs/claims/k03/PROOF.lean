import PyProof.Rows.All
import Wide.All
import OpenK.AllK
import Wide.FinOn
import PyProof.EqAt
import PyProof.EqKinds
import PyProof.TupleCall
import KE.KExcSuper
import HandS.ForMost
import HandS.ForExc
import HandS.Wide
import HandS.EndBits
import HandS.Nested
import HandS.ExcInit
import HandS.ExcIs
import PyProof.ReprRoads
import KE.KExcIs
import HandS.IsInst
import HandS.Walk
import HandS.SetKeys
import HandS.DictComp
import HandS.Property
import HandS.Star
import KE.GoesMore
import HandS.Small
import HandS.More
import PyProof.Rows.SetFrom
import HandS.Conv
import HandS.Style
import HandS.TupAny
import HandS.Defaults
import KE.OsRunLaw
import HandS.ExcField
import HandS.ListItems
import PySem.Challenge.RW_growlists_k03_sets_of_members
set_option Elab.async false
set_option linter.all false
set_option maxRecDepth 100000
set_option maxHeartbeats 4000000
set_option autoImplicit false
namespace Gk
open PySem PySem.Spec PyProof.Rows L2
def top (i : Nat) : Stmt := PySem.Challenge.pw_growlists_k03_sets_of_members.main.body.getD i (.Pass ⟨0, 0, 0, 0⟩)
abbrev sSource : Stmt := (top 26)
abbrev sDraw : Stmt := (top 27)
abbrev sPick : Stmt := (top 28)
/-! ### powers of any size -/
def CPowW (i j : Int) : Prop := 0 ≤ j ∧ (Builtin.Int.intBits i : Int) * j ≤ 2 ^ 27
section
variable {X : Cx}
theorem op_powW : OpR X (binaryOp .Pow) (rI CPowW fun i j => .int (i ^ j.toNat)) := opI fun _ _ _ _ _ _ _ hc q => pow_int hc.1 hc.2 q
theorem boot_int : bootBuiltins "int" = some (.type "int") := by decide +kernel
end
theorem bits_lt {i : Int} {n : Nat} (h : i.natAbs < 2 ^ n) : Builtin.Int.intBits i ≤ n := by
  unfold Builtin.Int.intBits
  by_cases h0 : i = 0
  · simp [h0]
  · have h1 : i.natAbs ≠ 0 := by omega
    have := (Nat.log2_lt h1).mpr h
    simp only [beq_iff_eq, h0, if_false]
    omega
theorem lt_bits (i : Int) : i.natAbs < 2 ^ Builtin.Int.intBits i := by
  unfold Builtin.Int.intBits
  by_cases h0 : i = 0
  · simp [h0]
  · simp only [beq_iff_eq, h0, if_false]
    exact Nat.lt_log2_self
theorem bits_mix {m z : Int} (h0 : 0 ≤ m) (h1 : m ≤ 2147483647) (hz : Builtin.Int.intBits z ≤ 1048576) : CPowW (m * 43867 + z) 3 := by
  refine ⟨by decide, ?_⟩
  have hz1 : z.natAbs < 2 ^ 1048576 := Nat.lt_of_lt_of_le (lt_bits z) (Nat.pow_le_pow_right (by decide) hz)
  have hb : Builtin.Int.intBits (m * 43867 + z) ≤ 1048577 := by
    refine bits_lt ?_
    have e : (2 : Nat) ^ 1048577 = 2 ^ 1048576 + 2 ^ 1048576 := by rw [Nat.pow_succ]; omega
    have l : (2 : Nat) ^ 64 ≤ 2 ^ 1048576 := Nat.pow_le_pow_right (by decide) (by decide)
    have l64 : (2 : Nat) ^ 64 = 18446744073709551616 := by decide
    rw [e]
    generalize (2 : Nat) ^ 1048576 = N at *
    rw [l64] at l
    omega
  have : ((Builtin.Int.intBits (m * 43867 + z) : Nat) : Int) ≤ 1048577 := by omega
  have e27 : (2 : Int) ^ 27 = 134217728 := by decide
  rw [e27]
  omega
/-! ### what a source is: its second item -/
def SrcOk (m : Int) : Prop := 0 ≤ m ∧ m ≤ 2147483647
def srcO (r m : Int) : HO := .lst [.int r, .int m]
def Src (H : Hp) (p : Addr) : Prop := ∃ r m, H p = some (srcO r m) ∧ SrcOk m
def spSource (K : PySem.W.Frag) : Sp := fun vs H Q _ => ∃ (a : Addr) (ns : List Int) (st : Int), vs = [.ref a, .int st] ∧ SqL K H a (ns.map V.int) ∧ ns.length ≤ 63 ∧ (∀ z ∈ ns, Builtin.Int.intBits z ≤ 1048576) ∧ 0 ≤ st ∧ st ≤ 10 ∧
  ∀ p r m, H p = none → SrcOk m → Q (.ref p) (upd H p (srcO r m))
def spDraw : Sp := fun vs H Q _ => ∃ (p : Addr) (span r m : Int), vs = [.ref p, .int span] ∧ H p = some (srcO r m) ∧ SrcOk m ∧ 0 < span ∧ span < 1000000 ∧
  ∀ k r' m', 0 ≤ k → k < span → SrcOk m' → Q (.int k) (upd H p (srcO r' m'))
def spPick (K : PySem.W.Frag) : Sp := fun vs H Q _ => ∃ (p e : Addr) (r m : Int) (xs : List V), vs = [.ref p, .ref e] ∧ H p = some (srcO r m) ∧ SrcOk m ∧ SqL K H e xs ∧ e ≠ p ∧ 0 < xs.length ∧ xs.length < 1000000 ∧
  ∀ (i : Nat) v r' m', xs[i]? = some v → SrcOk m' → Q v (upd H p (srcO r' m'))
/-- a list that stands apart from p is still there behind a store at p -/
theorem SqL.apart {K : PySem.W.Frag} {H : Hp} {e p : Addr} {xs : List V} {o : HO} (h : SqL K H e xs) (ne : e ≠ p) : SqL K (upd H p o) e xs := by
  rcases h with (h | ⟨u, h⟩) | h
  · exact .inl (.inl (by rw [upd_ne ne]; exact h))
  · exact .inl (.inr ⟨u, by rw [upd_ne ne]; exact h⟩)
  · exact .inr h
section
variable {P : Program} {w : World} {K : PySem.W.Frag} {mg : Str → Option Value} {base : Heap}
theorem scSource : FnScope ["script", "start", "mixed", "cell", "rest"] ["script", "start"] (defScope sSource) := ⟨rfl, rfl, rfl, by decide +kernel, rfl, by decide +kernel, by decide +kernel⟩
theorem ok_source {f : Addr} {fd : FuncData} (F : Fun K "_law_source" "_law_source" sSource f fd) (ti : mg "int" = none) (tl : mg "len" = none) : FnOk P w K mg base CX0 1 f fd ["script", "start"] (spSource K) := by
  refine F.ok scSource (fun vs H Q E h => ?_) (fun cdv A outer s H vs Q E hr h => ?_)
  · obtain ⟨a, ns, st, rfl, _⟩ := h
    rfl
  · obtain ⟨a, ns, st, rfl, hS, hlen, hbits, hst0, hst, k⟩ := h
    have nd := scSource.nd
    refine ⟨_, pss_cons (ps_set (i := 2) nd rfl (Or.inl rfl) (pe_op op_add pe_int (pv 1)))
      (pss_cons (ps_for PassesOwn.never rfl (pi_list (pv 0)) (pg_name (i := 3) nd rfl (Or.inl rfl))
        (pss_one (ps_set (i := 2) nd rfl (Or.inl rfl) (pe_op op_add (pe_op op_mod (pe_callTy call_int1 (by rfl) ti boot_int (pa_cons (pe_op op_powW (pe_callTy call_int1 (by rfl) ti boot_int (pa_cons (pe_op op_add (pe_op op_mul (pv 2) pe_int) (pe_callTy call_int1 (by rfl) ti boot_int (pa_cons (pv 3) pa_nil))) pa_nil)) pe_int) pa_nil)) pe_int) pe_int))))
      (pss_cons (ps_set (i := 4) nd rfl (Or.inl rfl) pe_int)
      (pss_cons (ps_if (PW.pt (pw_and (pt_cmpR op_lt (pv 1) (pe_callB call_len_seq (by rfl) tl PySem.boot_len (pa_cons (pv 0) pa_nil)) (nomark _)) (pw_and1 (pt_cmpR op_ge (pe_ix ix_list (pv 0) (pv 1) (fun _ _ => rfl)) (pe_op op_pow pe_int pe_int) (nomark _)))))
        (pss_one (ps_set (i := 4) nd rfl (Or.inl rfl) (pe_op op_sub (pe_ix ix_list (pv 0) (pv 1) (fun _ _ => rfl)) (pe_op op_pow pe_int pe_int)))) pss_nil)
      (pss_one (ps_ret (pe_lst (pa_cons (pv 4) (pa_cons (pv 2) pa_nil)))))))), ?_⟩
    refine ⟨_, rfl, _, _, rfl, rfl, ?_⟩
    refine ⟨_, rfl, a, rfl, ⟨_, hS⟩, for_list (K := K) (a := a) (xs := ns.map V.int) (fun i σ H2 => ∃ (m : Int) (v : Option V), σ = [some (.ref a), some (.int st), some (.int m), v, none] ∧ H2 = H ∧ SrcOk m)
      ⟨53 + st, none, rfl, rfl, by unfold SrcOk; omega⟩ (fun i σ H2 _ ⟨_, _, _, e, _⟩ => e ▸ hS) ?_ ?_⟩
    · rintro i y σ H2 hi ⟨m, v, rfl, rfl, hm⟩
      obtain ⟨z, hz, rfl⟩ : ∃ z, ns[i]? = some z ∧ y = V.int z := by
        rw [List.getElem?_map] at hi
        cases e : ns[i]? with
        | none => rw [e] at hi; cases hi
        | some z => rw [e] at hi; exact ⟨z, rfl, (Option.some.inj hi).symm⟩
      have hb := hbits z (List.mem_of_getElem? hz)
      refine ⟨_, rfl, _, _, rfl, rfl, .inl ⟨by have := hm.1; omega, by have := hm.2; omega⟩, ?_⟩
      refine ⟨_, rfl, .inl ⟨_, rfl, ?_⟩⟩
      refine ⟨_, _, rfl, rfl, .inl ⟨_, rfl, ?_⟩⟩
      refine ⟨_, _, rfl, rfl, bits_mix hm.1 hm.2 hb, .inl ⟨_, rfl, ?_⟩⟩
      refine ⟨_, _, rfl, rfl, (by show (0 : Int) < 2147483587; decide), ?_⟩
      refine ⟨_, _, rfl, rfl, ?_⟩
      refine ⟨_, _, rfl, rfl, ?_⟩
      have h1 := Int.emod_nonneg ((m * 43867 + z) ^ (3 : Int).toNat) (show (2147483587 : Int) ≠ 0 by decide)
      have h2 := Int.emod_lt_of_pos ((m * 43867 + z) ^ (3 : Int).toNat) (show (0 : Int) < 2147483587 by decide)
      exact ⟨by omega, by omega⟩
    · rintro σ H2 ⟨m, v, rfl, rfl, hm⟩
      refine ⟨_, rfl, _, rfl, a, _, rfl, .inl hS, _, _, rfl, rfl, _, rfl, ?_⟩
      rw [List.length_map]
      refine ite2 (fun hc => ?_) (fun hc => ?_)
      · have hc' : st < (ns.length : Int) := of_decide_eq_true hc
        have hlt : st.toNat < ns.length := by omega
        have hat : atI (ns.map V.int) st = some (V.int ns[st.toNat]) := at_of (j := st.toNat) (by omega) (by rw [List.getElem?_map, List.getElem?_eq_getElem hlt]; rfl)
        refine ⟨_, rfl, _, rfl, a, _, _, _, rfl, rfl, hS, hat, _, _, rfl, rfl, ⟨by decide, by decide, by decide⟩, _, _, rfl, rfl, _, rfl, ?_⟩
        refine ite2 (fun hd => ?_) (fun hd => ?_)
        · refine ⟨_, rfl, _, rfl, a, _, _, _, rfl, rfl, hS, hat, _, _, rfl, rfl, ⟨by decide, by decide, by decide⟩, _, _, rfl, rfl, ?_⟩
          exact ⟨_, rfl, _, rfl, (by show 2 ≤ sizeLine; decide), fun p hp => k p _ _ hp hm⟩
        · exact ⟨_, rfl, _, rfl, (by show 2 ≤ sizeLine; decide), fun p hp => k p _ _ hp hm⟩
      · exact ite2 (fun hd => by cases hd) fun _ => ⟨_, rfl, _, rfl, (by show 2 ≤ sizeLine; decide), fun p hp => k p _ _ hp hm⟩
theorem scDraw : FnScope ["source", "span", "found"] ["source", "span"] (defScope sDraw) := ⟨rfl, rfl, rfl, by decide +kernel, rfl, by decide +kernel, by decide +kernel⟩
theorem src_at0 (r m : Int) : atI [V.int r, V.int m] 0 = some (V.int r) := rfl
theorem src_at1 (r m : Int) : atI [V.int r, V.int m] 1 = some (V.int m) := rfl
theorem ok_draw {f : Addr} {fd : FuncData} (F : Fun K "_law_draw" "_law_draw" sDraw f fd) (ti : mg "int" = none) : FnOk P w K mg base CX0 1 f fd ["source", "span"] spDraw := by
  refine F.ok scDraw (fun vs H Q E h => ?_) (fun cdv A outer s H vs Q E hr h => ?_)
  · obtain ⟨p, span, r, m, rfl, _⟩ := h
    rfl
  · obtain ⟨p, span, r, m, rfl, hp, hm, h0, h1, k⟩ := h
    have nd := scDraw.nd
    have hS : SqL K H p [V.int r, V.int m] := SqL.of hp
    refine ⟨_, pss_cons (ps_if (pt_cmpR op_ge (pe_ix ix_list (pv 0) pe_int (fun _ _ => rfl)) (pv 1) (nomark _))
        (pss_cons (ps_set (i := 2) nd rfl (Or.inl rfl) (pe_op op_mod (pe_callTy call_int1 (by rfl) ti boot_int (pa_cons (pe_ix ix_list (pv 0) pe_int (fun _ _ => rfl)) pa_nil)) (pv 1)))
        (pss_cons (ps_asg (by exact (pe_op op_fdiv (pe_ix ix_list (pv 0) pe_int (fun _ _ => rfl)) (pv 1))) (by exact (pg_sub (pv 0) pe_int set_list)))
        (pss_one (ps_ret (pv 2))))) pss_nil)
      (pss_cons (ps_asg (by exact (pe_op op_mod (pe_callTy call_int1 (by rfl) ti boot_int (pa_cons (pe_op op_add (pe_op op_mul (pe_ix ix_list (pv 0) pe_int (fun _ _ => rfl)) pe_int) pe_int) pa_nil)) pe_int)) (by exact (pg_sub (pv 0) pe_int set_list)))
      (pss_one (ps_ret (pe_op op_mod (pe_callTy call_int1 (by rfl) ti boot_int (pa_cons (pe_op op_fdiv (pe_op op_mod (pe_callTy call_int1 (by rfl) ti boot_int (pa_cons (pe_op op_pow (pe_callTy call_int1 (by rfl) ti boot_int (pa_cons (pe_ix ix_list (pv 0) pe_int (fun _ _ => rfl)) pa_nil)) pe_int) pa_nil)) pe_int) pe_int) pa_nil)) (pv 1))))), ?_⟩
    refine ⟨_, rfl, p, _, _, _, rfl, rfl, hS, src_at0 r m, _, rfl, _, _, rfl, rfl, _, rfl, ?_⟩
    refine ite2 (fun hc => ?_) (fun hc => ?_)
    · refine ⟨_, rfl, p, _, _, _, rfl, rfl, hS, src_at0 r m, .inl ⟨_, rfl, _, rfl, _, _, rfl, rfl, h0, ?_⟩⟩
      refine ⟨_, rfl, p, _, _, _, rfl, rfl, hS, src_at0 r m, _, rfl, _, _, rfl, rfl, ⟨h0, by omega⟩, _, rfl, p, _, _, 0, rfl, rfl, hp, rfl, _, rfl, ?_⟩
      exact k (r % span) (r / span) m (Int.emod_nonneg r (by omega)) (Int.emod_lt_of_pos r h0) hm
    · refine ⟨_, rfl, p, _, _, _, rfl, rfl, hS, src_at1 r m, _, _, rfl, rfl, .inl ⟨by have := hm.1; omega, by have := hm.2; omega⟩, _, _, rfl, rfl, .inl ⟨_, rfl, ?_⟩⟩
      refine ⟨_, _, rfl, rfl, (by show (0 : Int) < 2147483647; decide), _, rfl, p, _, _, 1, rfl, rfl, hp, rfl, ?_⟩
      have n1 := Int.emod_nonneg (m * 69621 + 7919) (show (2147483647 : Int) ≠ 0 by decide)
      have n2 := Int.emod_lt_of_pos (m * 69621 + 7919) (show (0 : Int) < 2147483647 by decide)
      have hm' : SrcOk ((m * 69621 + 7919) % 2147483647) := ⟨n1, by omega⟩
      refine ⟨_, rfl, p, _, _, _, rfl, rfl, SqL.of upd_same, src_at1 r _, .inl ⟨_, rfl, _, _, rfl, rfl, ⟨by decide, by decide, by omega⟩, .inl ⟨_, rfl, ?_⟩⟩⟩
      refine ⟨_, _, rfl, rfl, (by show (0 : Int) < 1000000007; decide), _, _, rfl, rfl, ⟨by decide, by decide⟩, .inl ⟨_, rfl, _, rfl, _, _, rfl, rfl, h0, ?_⟩⟩
      exact k _ r _ (Int.emod_nonneg _ (by omega)) (Int.emod_lt_of_pos _ h0) hm'
theorem scPick : FnScope ["source", "entries"] ["source", "entries"] (defScope sPick) := ⟨rfl, rfl, rfl, by decide +kernel, rfl, by decide +kernel, by decide +kernel⟩
theorem ok_pick {f fD : Addr} {fd fdD : FuncData} (F : Fun K "_law_pick" "_law_pick" sPick f fd) (tl : mg "len" = none)
    (GD : FnOk P w K mg base CX0 1 fD fdD ["source", "span"] spDraw) (bD : Binds K fdD ["source", "span"] []) (gD : mg "_law_draw" = some (.ref fD)) (kD : PySem.W.keepIn K (.ref fD) = true) : FnOk P w K mg base CX0 2 f fd ["source", "entries"] (spPick K) := by
  refine F.ok scPick (fun vs H Q E h => ?_) (fun cdv A outer s H vs Q E hr h => ?_)
  · obtain ⟨p, e, r, m, xs, rfl, _⟩ := h
    rfl
  · obtain ⟨p, e, r, m, xs, rfl, hp, hm, hS, ne, l0, l1, k⟩ := h
    refine ⟨_, pss_one (ps_ret (pe_ix ix_list (pv 1) (pe_call GD hr rfl gD kD bD .nil pass0 (pa_cons (pv 0) (pa_cons (pe_callB call_len_seq (by rfl) tl PySem.boot_len (pa_cons (pv 1) pa_nil)) pa_nil))) (fun _ _ => rfl))), ?_⟩
    refine ⟨_, rfl, _, rfl, _, rfl, e, _, rfl, .inl hS, p, _, r, m, rfl, hp, hm, (by omega), (by omega), fun j r' m' j0 j1 hm' => ?_⟩
    have hlt : j.toNat < xs.length := by omega
    exact ⟨e, _, _, _, rfl, rfl, SqL.apart hS ne, at_of (j := j.toNat) (by omega) (List.getElem?_eq_getElem hlt), k _ _ r' m' (List.getElem?_eq_getElem hlt) hm'⟩
end
end Gk
/-! ### readings, one step at a time -/
namespace Gk
open PySem PySem.Spec PyProof.Rows L2
section
variable {t u : TS} {D : Ends} {σ : L2.St} {H : Hp} {te ta tb tc : TE} {g : TG} {tl : TA} {r : R2} {Q : VK} {i : Nat} {v : V} {rc : List V → Hp → VK → Prop} {tt tu : TT} {QT : Bool → Hp → Prop} {QA : List V → Hp → Prop}
theorem rd_seq (h : t { D with nx := u D } σ H) : tSeq t u D σ H := h
theorem rd_asg (h : te σ H fun x H1 => g x σ H1 D.nx) : tAsg te g D σ H := h
theorem rd_ret (h : te σ H D.rt) : tRet te D σ H := h
theorem rd_drop (h : te σ H fun _ H1 => D.nx σ H1) : tDrop te D σ H := h
theorem rd_op (h : ta σ H fun x H1 => tb σ H1 fun y H2 => r x y H2 Q) : tOp r ta tb σ H Q := h
theorem rd_var (e : σ[i]? = some (some v)) (h : Q v H) : tVar i σ H Q := ⟨v, e, h⟩
theorem rd_c (h : Q v H) : tC v σ H Q := h
theorem rd_cb (h : tl σ H fun vs H1 => rc vs H1 Q) : tCB rc tl σ H Q := h
theorem rd_cons (h : te σ H fun x H1 => tl σ H1 fun xs H2 => QA (x :: xs) H2) : tCons te tl σ H QA := h
theorem rd_nil (h : QA [] H) : tNil σ H QA := h
theorem rd_lst (h : tl σ H fun xs H1 => xs.length ≤ sizeLine ∧ ∀ p, H1 p = none → Q (.ref p) (upd H1 p (.lst xs))) : tLst tl σ H Q := h
theorem rd_tup (h : tl σ H fun xs H1 => xs.length ≤ sizeLine ∧ ∀ p, H1 p = none → Q (.ref p) (upd H1 p (.tup xs))) : tTup tl σ H Q := h
theorem rd_if (h : tt σ H fun b H1 => if b = true then t D σ H1 else u D σ H1) : tIfS tt t u D σ H := h
theorem rd_test (h : te σ H fun x H1 => ∃ k, x = .bl k ∧ QT k H1) : tTest te σ H QT := h
theorem rd_b (h : te σ H fun x H1 => ∃ k, x = .bl k ∧ QT k H1) : tB te σ H QT := h
theorem rd_not (h : tt σ H fun c H1 => QT (!c) H1) : tNot tt σ H QT := h
theorem rd_and (h : tt σ H fun c H1 => if c = true then tu σ H1 QT else QT false H1) : tAnd tt tu σ H QT := h
theorem rd_or (h : tt σ H fun c H1 => if c = true then QT true H1 else tu σ H1 QT) : tOr tt tu σ H QT := h
theorem rd_call {sp : Sp} {dvs : List V} {E : XK} (h : tl σ H fun vs H1 => sp (vs ++ dvs) H1 Q E) : tCall sp dvs E tl σ H Q := h
theorem rd_gn {QS : L2.St → Hp → Prop} (h : QS (σ.set i (some v)) H) : gName i v σ H QS := h
theorem rd_next (h : D.nx σ H) : tNext D σ H := h
variable {j : Nat} {K : PySem.W.Frag} {T : String} {rm : V → List V → Hp → VK → Prop}
theorem rd_par (h : tl σ H fun vs H1 => ∃ v w, vs = [v, w] ∧ D.nx ((σ.set i (some v)).set j (some w)) H1) : tPar i j tl D σ H := h
theorem rd_bm (h : te σ H fun x H1 => tyV K T x H1 ∧ tl σ H1 fun xs H2 => rm x xs H2 Q) : tBM K T rm te tl σ H Q := h
theorem rd_bm0 (h : te σ H fun x H1 => tyV K T x H1 ∧ rm x [] H1 Q) : tBM0 K T rm te σ H Q := h
end
end Gk
open Gk in
local macro_rules | `(tactic| walk_at "rd1") => `(tactic| (with_reducible first | refine rd_seq ?_ | refine rd_asg ?_ | refine rd_ret ?_ | refine rd_drop ?_ | refine rd_op ?_ | refine rd_c ?_ | refine rd_cb ?_ | refine rd_cons ?_ | refine rd_nil ?_ | refine rd_lst ?_ | refine rd_tup ?_ | refine rd_if ?_ | refine rd_test ?_ | refine rd_b ?_ | refine rd_not ?_ | refine rd_and ?_ | refine rd_or ?_ | refine rd_call ?_ | refine rd_next ?_ | refine rd_par ?_ | refine rd_bm ?_ | refine rd_bm0 ?_ | refine rd_gn ?_ | refine rd_var (by with_unfolding_all rfl) ?_))
local macro_rules | `(tactic| walk_at "rd") => `(tactic| repeat (walk_at "rd1"))
/-! ### heaps in which only new things come, or a new one changes -/
namespace Gk
open PySem PySem.W PySem.Spec PyProof.Rows L2 NdefX
theorem _root_.L2.Same.new {H H1 : Hp} {p : Addr} {o : HO} (s : Same H H1) (h : H1 p = none) : Same H (upd H1 p o) := fun b u e => by
  rw [upd_ne (ne_of_none (s b u e) h)]
  exact s b u e
theorem _root_.L2.Same.mut {H H1 : Hp} {p : Addr} {o : HO} (s : Same H H1) (h : H p = none) : Same H (upd H1 p o) := fun b u e => by
  rw [upd_ne (ne_of_none e h)]
  exact s b u e
end Gk
/-! ### the draws that mix a list -/
namespace Gk
open PySem PySem.W PySem.Spec PyProof.Rows L2 NdefX
abbrev sMixed : Stmt := (top 29)
abbrev sPool : Stmt := (top 30)
/-- the heap goes on: what stood stands, but the source at p has been drawn from -/
structure Drawn (p : Addr) (H H' : Hp) : Prop where
  keep : ∀ b u, b ≠ p → H b = some u → H' b = some u
  was : ∃ r m, H p = some (srcO r m)
  src : ∃ r m, H' p = some (srcO r m) ∧ SrcOk m
theorem Drawn.trans {p : Addr} {H H1 H2 : Hp} (a : Drawn p H H1) (b : Drawn p H1 H2) : Drawn p H H2 := ⟨fun c u n e => b.keep c u n (a.keep c u n e), a.was, b.src⟩
theorem Drawn.same {p : Addr} {H H1 H2 : Hp} (a : Drawn p H H1) (s : Same H1 H2) : Drawn p H H2 := by
  obtain ⟨r, m, e, o⟩ := a.src
  exact ⟨fun c u n e => s c u (a.keep c u n e), a.was, r, m, s _ _ e, o⟩
theorem Drawn.start {p : Addr} {H : Hp} {r m : Int} (e : H p = some (srcO r m)) (o : SrcOk m) : Drawn p H H := ⟨fun _ _ _ e => e, ⟨r, m, e⟩, r, m, e, o⟩
theorem Drawn.draw {p : Addr} {H H1 : Hp} {r m : Int} (a : Drawn p H H1) (o : SrcOk m) : Drawn p H (upd H1 p (srcO r m)) :=
  ⟨fun c u n e => by rw [upd_ne n]; exact a.keep c u n e, a.was, r, m, upd_same, o⟩
/-- a new thing -/
theorem Drawn.new {p q : Addr} {H H1 : Hp} {o : HO} (a : Drawn p H H1) (h : H1 q = none) : Drawn p H (upd H1 q o) := a.same ((Same.refl H1).new h)
/-- a thing that is newer than H changes -/
theorem Drawn.mut {p q : Addr} {H H1 : Hp} {o : HO} (a : Drawn p H H1) (h : H q = none) (n : q ≠ p) : Drawn p H (upd H1 q o) := by
  obtain ⟨r, m, e, k⟩ := a.src
  exact ⟨fun c u z e => by rw [upd_ne (ne_of_none e h)]; exact a.keep c u z e, a.was, r, m, by rw [upd_ne n.symm]; exact e, k⟩
theorem Drawn.free {p q : Addr} {H H1 : Hp} (a : Drawn p H H1) (h : H1 q = none) (n : q ≠ p) : H q = none := by
  cases e : H q with
  | none => rfl
  | some u => rw [a.keep q u n e] at h; cases h
theorem Drawn.ne {p q : Addr} {H H1 : Hp} (a : Drawn p H H1) (h : H1 q = none) : q ≠ p := by
  rintro rfl
  obtain ⟨r, m, e, _⟩ := a.src
  rw [e] at h
  cases h
/-- what a thing of another content keeps -/
theorem Drawn.other {p a : Addr} {H H1 : Hp} {o : HO} (d : Drawn p H H1) (h : H a = some o) (n : ∀ r m, o ≠ srcO r m) : H1 a = some o := by
  obtain ⟨r, m, e⟩ := d.was
  exact d.keep a o (ne_of h e (n r m)) h
theorem Drawn.tup {p a : Addr} {H H1 : Hp} {xs : List V} (d : Drawn p H H1) (h : H a = some (.tup xs)) : H1 a = some (.tup xs) := d.other h fun r m z => by cases z
theorem Drawn.dic {p a : Addr} {H H1 : Hp} {xs : List (Key × V)} (d : Drawn p H H1) (h : H a = some (.dK xs)) : H1 a = some (.dK xs) := d.other h fun r m z => by cases z
theorem Drawn.strs {p a : Addr} {H H1 : Hp} {xs : List Str} (d : Drawn p H H1) (h : H a = some (.lst (xs.map V.str))) : H1 a = some (.lst (xs.map V.str)) := d.other h fun r m z => by
  cases xs with
  | nil => cases z
  | cons x xs => cases z
theorem Drawn.refs {p a : Addr} {H H1 : Hp} {vs : List V} (d : Drawn p H H1) (h : H a = some (.lst vs)) (hv : ∀ v ∈ vs, ∃ b, v = .ref b) : H1 a = some (.lst vs) := d.other h fun r m z => by
  cases vs with
  | nil => cases z
  | cons x xs =>
    obtain ⟨b, rfl⟩ := hv x List.mem_cons_self
    cases z
theorem Drawn.seq {K : Frag} {p e : Addr} {H H1 : Hp} {xs : List V} (a : Drawn p H H1) (h : SqL K H e xs) (n : e ≠ p) : SqL K H1 e xs := by
  rcases h with (h | ⟨u, h⟩) | h
  · exact .inl (.inl (a.keep _ _ n h))
  · exact .inl (.inr ⟨u, a.keep _ _ n h⟩)
  · exact .inr h
def kD : Key → PyData
  | .inl i => .int i
  | .inr x => .str x
theorem dp_keys {K : Frag} {H : Hp} : ∀ ks : List Key, DpAll K H (ks.map kV) (ks.map kD)
  | [] => .nil
  | .inl i :: ks => .cons (.int i) (dp_keys ks)
  | .inr x :: ks => .cons (.str x) (dp_keys ks)
/-- a key that is data -/
def kOk : Key → Bool
  | .inl _ => true
  | .inr x => PyData.strOk x
theorem keys_lay : ∀ ks : List Key, (∀ k ∈ ks, kOk k = true) → PyData.canLayAll0 (ks.map kD) = true ∧ PyData.depthAll (ks.map kD) = 0
  | [], _ => ⟨rfl, rfl⟩
  | .inl i :: ks, h => by simp [kD, PyData.canLayAll0, PyData.canLay0, PyData.depthAll, PyData.depth, keys_lay ks fun k z => h k (List.mem_cons_of_mem _ z)]
  | .inr x :: ks, h => by
    have hx : PyData.strOk x = true := h _ List.mem_cons_self
    simp [kD, PyData.canLayAll0, PyData.canLay0, PyData.depthAll, PyData.depth, hx, keys_lay ks fun k z => h k (List.mem_cons_of_mem _ z)]
theorem keys_shaped (ks : List Key) (h : ∀ k ∈ ks, kOk k = true) : SeqAt.shaped (.list (ks.map kD)) = true := by
  simp [SeqAt.shaped, PyData.canLay0, PyData.depth, keys_lay ks h]
theorem keys_nil : ∀ ks : List Key, PyData.eqv (.list (ks.map kD)) (.list []) = ks.isEmpty
  | [] => by simp [PyData.eqv, PyData.eqvAll]
  | k :: ks => by cases k <;> simp [kD, PyData.eqv, PyData.eqvAll]
theorem er_map {α β : Type} {f : α → β} : ∀ (l : List α) (k : Nat), (l.map f).eraseIdx k = (l.eraseIdx k).map f
  | [], _ => rfl
  | _ :: _, 0 => rfl
  | x :: l, k + 1 => by rw [List.map_cons, List.eraseIdx_cons_succ, List.eraseIdx_cons_succ, List.map_cons, er_map l k]
theorem er_perm {α : Type} : ∀ {l : List α} {k : Nat} {y : α}, l[k]? = some y → (y :: l.eraseIdx k).Perm l
  | [], _, _, h => by simp at h
  | x :: l, 0, y, h => by
    obtain rfl := Option.some.inj h
    exact List.Perm.refl _
  | x :: l, k + 1, y, h => by
    rw [List.eraseIdx_cons_succ]
    exact (List.Perm.swap x y _).trans ((er_perm (l := l) (k := k) h).cons x)
theorem seq_ix {j : Int} {n : Nat} (h0 : 0 ≤ j) (h1 : j.toNat < n) : seqIndex? j n = some j.toNat := by
  unfold seqIndex?
  have e0 : ¬ j < 0 := by omega
  have e1 : j < (n : Int) := by omega
  simp [e0, h0, e1]
def spMixed (K : Frag) : Sp := fun vs H Q _ => ∃ (p e : Addr) (r m : Int) (ks : List Key), vs = [.ref p, .ref e] ∧ H p = some (srcO r m) ∧ SrcOk m ∧ SqL K H e (ks.map kV) ∧ e ≠ p ∧ ks.length ≤ 1000 ∧ (∀ k ∈ ks, kOk k = true) ∧
  ∀ (H' : Hp) (q : Addr) (js : List Key), Drawn p H H' → H q = none → q ≠ p → H' q = some (.lst (js.map kV)) → js.Perm ks → Q (.ref q) H'
section
variable {P : Program} {w : World} {K : Frag} {mg : Str → Option Value} {base : Heap}
abbrev nMix : List Str := ["source", "entries", "left", "found"]
theorem scMixed : FnScope nMix ["source", "entries"] (defScope sMixed) := ⟨rfl, rfl, rfl, by decide +kernel, rfl, by decide +kernel, by decide +kernel⟩
theorem boot_list0 : bootBuiltins "list" = some (.type "list") := by decide +kernel
theorem ok_mixed {f fD : Addr} {fd fdD : FuncData} (F : Fun K "_law_mixed" "_law_mixed" sMixed f fd) (tl : mg "len" = none) (tL : mg "list" = none)
    (GD : FnOk P w K mg base CX0 1 fD fdD ["source", "span"] spDraw) (bD : Binds K fdD ["source", "span"] []) (gD : mg "_law_draw" = some (.ref fD)) (kD' : PySem.W.keepIn K (.ref fD) = true) : FnOk P w K mg base CX0 2 f fd ["source", "entries"] (spMixed K) := by
  refine F.ok scMixed (fun vs H Q E h => ?_) (fun cdv A outer s H vs Q E hr h => ?_)
  · obtain ⟨p, e, r, m, xs, rfl, _⟩ := h
    rfl
  · obtain ⟨p, e, r, m, ks, rfl, hp, hm, hS, ne, l1, hok, k⟩ := h
    have nd := scMixed.nd
    have hu64 : (A.deeper (envOfC "_law_mixed" (defScope sMixed) s.heap.objs.size f cdv)).units + 64 < cLine := by have := hr.un; omega
    refine ⟨_, pss_cons (ps_par (i := 2) (j := 3) rfl nd rfl rfl (by decide) rfl rfl (pa_cons (pe_callTy call_list_of (by rfl) tL boot_list0 (pa_cons (pv 1) pa_nil)) (pa_cons (pe_lst pa_nil) pa_nil)) rfl)
      (pss_cons (ps_while PassesOwn.never (pt_cmpR (op_neD hu64) (pv 2) (pe_lst pa_nil) (nomark _))
        (pss_one (ps_expr (pe_bm PySem.F.plainAttrs_list PySem.F.slot_list_append PySem.F.type_list_append mt_append (pv 3) (pa_cons
          (pe_bm PySem.F.plainAttrs_list PySem.F.slot_list_pop PySem.F.type_list_pop mt_popAt (pv 2) (pa_cons (pe_call GD hr rfl gD kD' bD .nil pass0 (pa_cons (pv 0) (pa_cons (pe_callB call_len_seq (by rfl) tl PySem.boot_len (pa_cons (pv 2) pa_nil)) pa_nil))) pa_nil)) pa_nil)))))
      (pss_one (ps_ret (pv 3)))), ?_⟩
    walk_at "rd"
    refine ⟨e, _, rfl, .inl hS, fun l hl => ?_⟩
    have d1 : Drawn p H (upd H l (.lst (ks.map kV))) := (Drawn.start hp hm).new hl
    have c1 : upd H l (.lst (ks.map kV)) l = some (.lst (ks.map kV)) := upd_same
    have nl : l ≠ p := (Drawn.start hp hm).ne hl
    generalize upd H l (.lst (ks.map kV)) = H1 at d1 c1
    walk_at "rd"
    refine ⟨Nat.zero_le _, fun g hg => ?_⟩
    have d2 : Drawn p H (upd H1 g (.lst [])) := d1.new hg
    have ng : g ≠ p := d1.ne hg
    have ngl : l ≠ g := ne_of_none c1 hg
    have c2 : upd H1 g (.lst []) l = some (.lst (ks.map kV)) := by rw [upd_ne ngl]; exact c1
    have c3 : upd H1 g (.lst []) g = some (.lst (([] : List Key).map kV)) := upd_same
    have hg0 : H g = none := d1.free hg ng
    generalize upd H1 g (.lst []) = H2 at d2 c2 c3
    walk_at "rd"
    refine ⟨_, _, rfl, ?_⟩
    refine ⟨fun n σ H' => ∃ k1 k2 : List Key, σ = [some (.ref p), some (.ref e), some (.ref l), some (.ref g)] ∧ Drawn p H H' ∧ H' l = some (.lst (k1.map kV)) ∧ H' g = some (.lst (k2.map kV)) ∧ (k2 ++ k1).Perm ks ∧ n = k1.length, ⟨_, ks, [], rfl, d2, c2, c3, List.Perm.refl _, rfl⟩, ?_⟩
    rintro n σ H' ⟨k1, k2, rfl, dd, cl, cg, hperm, rfl⟩
    walk_at "rd"
    refine ⟨Nat.zero_le _, fun z hz => ?_⟩
    have d3 : Drawn p H (upd H' z (.lst [])) := dd.new hz
    have cl : upd H' z (.lst []) l = some (.lst (k1.map kV)) := by rw [upd_ne (ne_of_none cl hz)]; exact cl
    have cg : upd H' z (.lst []) g = some (.lst (k2.map kV)) := by rw [upd_ne (ne_of_none cg hz)]; exact cg
    have cz : upd H' z (.lst []) z = some (.lst (([] : List Key).map kV)) := upd_same
    generalize upd H' z (.lst []) = H3 at d3 cl cg cz
    have ok1 : ∀ k ∈ k1, kOk k = true := fun j hj => hok j (hperm.mem_iff.mp (List.mem_append_right _ hj))
    refine ⟨.list (k1.map kD), .list [], .lst (SqL.of cl) (dp_keys k1), .lst (SqL.of cz) .nil, keys_shaped k1 ok1, keys_shaped [] (by simp), _, rfl, ?_⟩
    rw [keys_nil]
    cases k1 with
    | nil =>
      simp only [List.isEmpty_nil, Bool.not_true, Bool.false_eq_true, if_false]
      exact ⟨_, rfl, k H3 g k2 d3 hg0 ng cg (by simpa using hperm)⟩
    | cons x k1 =>
      simp only [List.isEmpty_cons, Bool.not_false, if_true]
      refine ⟨fun σ' H' => ∃ j1 j2 : List Key, σ' = [some (.ref p), some (.ref e), some (.ref l), some (.ref g)] ∧ Drawn p H H' ∧ H' l = some (.lst (j1.map kV)) ∧ H' g = some (.lst (j2.map kV)) ∧ (j2 ++ j1).Perm ks ∧ j1.length < (x :: k1).length, ?_, ?_⟩
      · rintro σ' H4 ⟨j1, j2, e1, e2, e3, e4, e5, e6⟩
        exact ⟨j1.length, e6, j1, j2, e1, e2, e3, e4, e5, rfl⟩
      walk_at "rd"
      refine ⟨.inl ⟨rfl, _, SqL.of cg⟩, ?_⟩
      walk_at "rd"
      refine ⟨.inl ⟨rfl, _, SqL.of cl⟩, ?_⟩
      walk_at "rd"
      refine ⟨l, _, rfl, .inl (SqL.of cl), ?_⟩
      walk_at "rd"
      obtain ⟨r1, m1, hp1, hm1⟩ := d3.src
      have len1 : ((x :: k1).map kV).length ≤ 1000 := by
        have := hperm.length_eq
        rw [List.length_append] at this
        rw [List.length_map]
        omega
      refine ⟨p, _, r1, m1, rfl, hp1, hm1, by simp, by omega, fun j r2 m2 j0 j1 hm2 => ?_⟩
      have d4 := d3.draw (r := r2) hm2
      have cl : upd H3 p (srcO r2 m2) l = some (.lst ((x :: k1).map kV)) := by rw [upd_ne nl]; exact cl
      have cg : upd H3 p (srcO r2 m2) g = some (.lst (k2.map kV)) := by rw [upd_ne ng]; exact cg
      generalize upd H3 p (srcO r2 m2) = H4 at d4 cl cg
      walk_at "rd"
      have jl : j.toNat < (x :: k1).length := by
        rw [List.length_map] at j1
        omega
      obtain ⟨y, hy⟩ : ∃ y, (x :: k1)[j.toNat]? = some y := ⟨_, List.getElem?_eq_getElem jl⟩
      refine ⟨l, (x :: k1).map kV, j, j.toNat, kV y, rfl, rfl, cl, by omega, by omega, seq_ix j0 (by rw [List.length_map]; exact jl), by rw [List.getElem?_map, hy]; rfl, ?_⟩
      have el : ((x :: k1).map kV).eraseIdx j.toNat = ((x :: k1).eraseIdx j.toNat).map kV := er_map _ _
      rw [el]
      have hlz : H l = none := hl
      have d5 := d4.mut (o := .lst (((x :: k1).eraseIdx j.toNat).map kV)) hlz nl
      have cl5 : upd H4 l (.lst (((x :: k1).eraseIdx j.toNat).map kV)) l = some (.lst (((x :: k1).eraseIdx j.toNat).map kV)) := upd_same
      have cg5 : upd H4 l (.lst (((x :: k1).eraseIdx j.toNat).map kV)) g = some (.lst (k2.map kV)) := by rw [upd_ne ngl.symm]; exact cg
      generalize upd H4 l (.lst (((x :: k1).eraseIdx j.toNat).map kV)) = H5 at d5 cl5 cg5
      have sz : (k2.map kV).length < sizeLine := by
        have := hperm.length_eq
        rw [List.length_append] at this
        rw [List.length_map]
        exact Nat.lt_of_le_of_lt (show k2.length ≤ 1000 by omega) (by decide)
      refine ⟨g, _, kV y, rfl, rfl, cg5, sz, ?_⟩
      have em : k2.map kV ++ [kV y] = (k2 ++ [y]).map kV := by rw [List.map_append]; rfl
      refine ⟨(x :: k1).eraseIdx j.toNat, k2 ++ [y], rfl, d5.mut hg0 ng, by rw [upd_ne ngl]; exact cl5, by rw [upd_same, em], ?_, ?_⟩
      · rw [List.append_assoc]
        exact ((er_perm hy).append_left k2).trans hperm
      · rw [List.length_eraseIdx_of_lt jl]
        have : 0 < (x :: k1).length := Nat.succ_pos _
        omega
end
end Gk
/-! ### the drawn model of an edition -/
namespace Gk
open PySem PySem.W PySem.Spec PyProof.Rows L2 NdefX
abbrev sSets : Stmt := (top 32)
abbrev sModel : Stmt := (top 31)
structure Row where
  name : Str
  al : List Str
  num : Int
def RowAt (H : Hp) (v : V) (x : Row) : Prop := ∃ t a, v = .ref t ∧ H t = some (.tup [.str x.name, .ref a, .int x.num]) ∧ H a = some (.tup (x.al.map V.str))
def RowsAt (H : Hp) (r : Addr) (rows : List Row) : Prop := ∃ vs, H r = some (.lst vs) ∧ Paired (RowAt H) vs rows
theorem RowAt.ref {H : Hp} {v : V} {x : Row} (h : RowAt H v x) : ∃ b, v = .ref b := by
  obtain ⟨t, a, rfl, _⟩ := h
  exact ⟨t, rfl⟩
theorem RowAt.on {p : Addr} {H H1 : Hp} {v : V} {x : Row} (h : RowAt H v x) (d : Drawn p H H1) : RowAt H1 v x := by
  obtain ⟨t, a, e, h1, h2⟩ := h
  exact ⟨t, a, e, d.tup h1, d.tup h2⟩
theorem RowAt.later {H H1 : Hp} {v : V} {x : Row} (h : RowAt H v x) (d : Same H H1) : RowAt H1 v x := by
  obtain ⟨t, a, e, h1, h2⟩ := h
  exact ⟨t, a, e, d _ _ h1, d _ _ h2⟩
theorem paired_refs {H : Hp} : ∀ {vs : List V} {rows : List Row}, Paired (RowAt H) vs rows → ∀ v ∈ vs, ∃ b, v = .ref b
  | _, _, .nil, v, h => by cases h
  | _, _, .cons r t, v, h => by
    rcases List.mem_cons.mp h with rfl | h
    · exact r.ref
    · exact paired_refs t v h
theorem paired_left {α β : Type} {F : α → β → Prop} : ∀ {xs : List α} {ys : List β} {i : Nat} {x : α}, Paired F xs ys → xs[i]? = some x → ∃ y, ys[i]? = some y ∧ F x y
  | _, _, _, _, .nil, h => by simp at h
  | _, _, 0, _, .cons r t, h => ⟨_, rfl, Option.some.inj h ▸ r⟩
  | _, _, i + 1, y, .cons r t, h => paired_left (i := i) t h
theorem paired_len {α β : Type} {F : α → β → Prop} : ∀ {xs : List α} {ys : List β}, Paired F xs ys → xs.length = ys.length
  | _, _, .nil => rfl
  | _, _, .cons r t => by rw [List.length_cons, List.length_cons, paired_len t]
theorem paired_more {α β : Type} {F : α → β → Prop} {x : α} {y : β} (h : F x y) : ∀ {xs : List α} {ys : List β}, Paired F xs ys → Paired F (xs ++ [x]) (ys ++ [y])
  | _, _, .nil => .cons h .nil
  | _, _, .cons r t => .cons r (paired_more h t)
theorem paired_map {α β : Type} {F G : α → β → Prop} (k : ∀ a b, F a b → G a b) : ∀ {xs : List α} {ys : List β}, Paired F xs ys → Paired G xs ys
  | _, _, .nil => .nil
  | _, _, .cons r t => .cons (k _ _ r) (paired_map k t)
theorem RowsAt.on {p r : Addr} {H H1 : Hp} {rows : List Row} (h : RowsAt H r rows) (d : Drawn p H H1) : RowsAt H1 r rows := by
  obtain ⟨vs, h1, h2⟩ := h
  exact ⟨vs, d.refs h1 (paired_refs h2), paired_map (fun v x z => z.on d) h2⟩
theorem RowsAt.later {r : Addr} {H H1 : Hp} {rows : List Row} (h : RowsAt H r rows) (d : Same H H1) : RowsAt H1 r rows := by
  obtain ⟨vs, h1, h2⟩ := h
  exact ⟨vs, d _ _ h1, paired_map (fun v x z => z.later d) h2⟩
/-- named sets, each with a list of its own -/
def SetKV (H : Hp) (kv : Key × V) (x : Str × List Str) : Prop := kv.1 = .inr x.1 ∧ ∃ l, kv.2 = .ref l ∧ H l = some (.lst (x.2.map V.str))
def SetsAt (H : Hp) (d : Addr) (sets : List (Str × List Str)) : Prop := ∃ kvs : List (Key × V), H d = some (.dK kvs) ∧ Paired (SetKV H) kvs sets
theorem SetKV.on {p : Addr} {H H1 : Hp} {kv : Key × V} {x : Str × List Str} (h : SetKV H kv x) (d : Drawn p H H1) : SetKV H1 kv x := by
  obtain ⟨e, l, e2, h1⟩ := h
  exact ⟨e, l, e2, d.strs h1⟩
theorem SetKV.later {H H1 : Hp} {kv : Key × V} {x : Str × List Str} (h : SetKV H kv x) (d : Same H H1) : SetKV H1 kv x := by
  obtain ⟨e, l, e2, h1⟩ := h
  exact ⟨e, l, e2, d _ _ h1⟩
theorem SetsAt.on {p r : Addr} {H H1 : Hp} {sets : List (Str × List Str)} (h : SetsAt H r sets) (d : Drawn p H H1) : SetsAt H1 r sets := by
  obtain ⟨vs, h1, h2⟩ := h
  exact ⟨vs, d.dic h1, paired_map (fun v x z => z.on d) h2⟩
theorem SetsAt.later {r : Addr} {H H1 : Hp} {sets : List (Str × List Str)} (h : SetsAt H r sets) (d : Same H H1) : SetsAt H1 r sets := by
  obtain ⟨vs, h1, h2⟩ := h
  exact ⟨vs, d _ _ h1, paired_map (fun v x z => z.later d) h2⟩
def setNames : List Str := ["s", "busy", "low"]
structure SetsOf (ns : List Str) (sets : List (Str × List Str)) : Prop where
  nd : (sets.map (·.1)).Nodup
  mem : ∀ x ∈ sets, x.1 ∈ setNames
  sub : ∀ x ∈ sets, x.2.Sublist ns
def poolL : List Str := ["a", "b", "c", "d", "low", "mid", "high", "top", "red", "blue", "first", "all", "x", "zzzzzzzz"]
def spPool : Sp := fun vs H Q _ => ∃ (p : Addr) (r m : Int), vs = [.ref p] ∧ H p = some (srcO r m) ∧ SrcOk m ∧ ∀ (H' : Hp) (q : Addr) (xs : List Str), Drawn p H H' → H q = none → q ≠ p → H' q = some (.lst (xs.map V.str)) → xs.Perm poolL → Q (.ref q) H'
def txtOf : Key → Str
  | .inr x => x
  | .inl _ => ""
theorem perm_strs {js : List Key} {xs : List Str} (h : js.Perm (xs.map Sum.inr)) : ∃ ys : List Str, js.map kV = ys.map V.str ∧ js = ys.map Sum.inr ∧ ys.Perm xs := by
  have all : ∀ k ∈ js, ∃ x, k = Sum.inr x := fun k hk => by
    obtain ⟨x, _, e⟩ := List.mem_map.mp (h.mem_iff.mp hk)
    exact ⟨x, e.symm⟩
  have back : ∀ l : List Key, (∀ k ∈ l, ∃ x, k = Sum.inr x) → ∃ ys : List Str, l = ys.map Sum.inr := by
    intro l
    induction l with
    | nil => exact fun _ => ⟨[], rfl⟩
    | cons k l ih =>
      intro a
      obtain ⟨x, rfl⟩ := a k List.mem_cons_self
      obtain ⟨ys, rfl⟩ := ih fun k z => a k (List.mem_cons_of_mem _ z)
      exact ⟨x :: ys, rfl⟩
  obtain ⟨ys, rfl⟩ := back js all
  refine ⟨ys, by rw [List.map_map]; rfl, rfl, ?_⟩
  have g := h.map txtOf
  rw [List.map_map, List.map_map] at g
  have i1 : ∀ l : List Str, l.map (txtOf ∘ Sum.inr) = l := fun l => by
    induction l with
    | nil => rfl
    | cons x l ih => rw [List.map_cons, ih]; rfl
  rwa [i1, i1] at g
def spSets (K : Frag) : Sp := fun vs H Q _ => ∃ (p rw : Addr) (r m : Int) (rows : List Row), vs = [.ref p, .ref rw] ∧ H p = some (srcO r m) ∧ SrcOk m ∧ RowsAt H rw rows ∧ rows.length ≤ 100 ∧
  ∀ (H' : Hp) (d : Addr) (sets : List (Str × List Str)), Drawn p H H' → H d = none → d ≠ p → SetsAt H' d sets → SetsOf (rows.map (·.name)) sets → Q (.ref d) H'
section
variable {P : Program} {w : World} {K : Frag} {mg : Str → Option Value} {base : Heap}
theorem scPool : FnScope ["source", "some"] ["source"] (defScope sPool) := ⟨rfl, rfl, rfl, by decide +kernel, rfl, by decide +kernel, by decide +kernel⟩
theorem pool_keys : poolL.map V.str = (poolL.map Sum.inr).map kV := rfl
theorem ok_pool {f fD : Addr} {fd fdD : FuncData} (F : Fun K "_law_pool" "_law_pool" sPool f fd)
    (GM : FnOk P w K mg base CX0 2 fD fdD ["source", "entries"] (spMixed K)) (bM : Binds K fdD ["source", "entries"] []) (gM : mg "_law_mixed" = some (.ref fD)) (kM : PySem.W.keepIn K (.ref fD) = true) : FnOk P w K mg base CX0 3 f fd ["source"] spPool := by
  refine F.ok scPool (fun vs H Q E h => ?_) (fun cdv A outer s H vs Q E hr h => ?_)
  · obtain ⟨p, r, m, rfl, _⟩ := h
    rfl
  · obtain ⟨p, r, m, rfl, hp, hm, k⟩ := h
    have nd := scPool.nd
    refine ⟨_, pss_cons (ps_set (i := 1) nd rfl (Or.inl rfl) (pe_lst (pa_cons pe_str (pa_cons pe_str (pa_cons pe_str (pa_cons pe_str (pa_cons pe_str (pa_cons pe_str (pa_cons pe_str (pa_cons pe_str (pa_cons pe_str (pa_cons pe_str (pa_cons pe_str (pa_cons pe_str (pa_cons pe_str (pa_cons pe_str pa_nil))))))))))))))))
      (pss_one (ps_ret (pe_call GM hr rfl gM kM bM .nil pass0 (pa_cons (pv 0) (pa_cons (pv 1) pa_nil))))), ?_⟩
    walk_at "rd"
    refine ⟨Nat.le_trans (show 14 ≤ 1000 by decide) (by decide), fun e he => ?_⟩
    have d0 := Drawn.start hp hm
    have ne : e ≠ p := d0.ne he
    generalize hG : upd H e _ = H1
    have d1 : Drawn p H H1 := by rw [← hG]; exact d0.new he
    have c1 : H1 e = some (.lst ((poolL.map Sum.inr).map kV)) := by rw [← hG]; exact upd_same
    have hp1 : H1 p = some (srcO r m) := by rw [← hG, upd_ne ne.symm]; exact hp
    clear hG
    walk_at "rd"
    refine ⟨p, e, r, m, _, rfl, hp1, hm, SqL.of c1, ne, by decide, by decide +kernel, fun H2 q js d2 hq nq cq pq => ?_⟩
    obtain ⟨ys, e1, _, py⟩ := perm_strs pq
    rw [e1] at cq
    exact k H2 q ys (d1.trans d2) (d1.free hq nq) nq cq py
end
end Gk
/-! ### the drawn sets -/
namespace Gk
open PySem PySem.W PySem.Spec PyProof.Rows L2 NdefX
section
variable {P : Program} {w : World} {K : Frag} {mg : Str → Option Value} {base : Heap}
abbrev nSets : List Str := ["source", "rows", "found", "name", "row"]
theorem scSets : FnScope nSets ["source", "rows"] (defScope sSets) := ⟨rfl, rfl, rfl, by decide +kernel, rfl, by decide +kernel, by decide +kernel⟩
/-- [row[0] for row in rows if _law_draw(source, 2) == 0] -/
theorem lc_rows {H0 H1 : Hp} {p rw : Addr} {rows : List Row} {s2 s3 s4 : Option V} {Q : VK} (d : Drawn p H0 H1) (hR : RowsAt H1 rw rows) (hl : rows.length ≤ 100)
    (k : ∀ (H' : Hp) (q : Addr) (ns : List Str), Drawn p H1 H' → H1 q = none → q ≠ p → H' q = some (.lst (ns.map V.str)) → ns.Sublist (rows.map (·.name)) → Q (.ref q) H') :
    tLc (iList K (tVar 1)) (gName 4) (tTest (tOp rEq (tCall spDraw [] E0 (tCons (tVar 0) (tCons (tC (.int 2)) tNil))) (tC (.int 0)))) (tOp (rIxT K) (tVar 4) (tC (.int 0))) [4] [some (.ref p), some (.ref rw), s2, s3, s4] H1 Q := by
  obtain ⟨vs, c1, hv⟩ := hR
  have len := paired_len hv
  refine ⟨_, rfl, rw, rfl, ⟨vs, SqL.of c1⟩, fun D hD => ?_⟩
  have d1 : Drawn p H1 H1 := by
    obtain ⟨r, m, e, o⟩ := d.src
    exact Drawn.start e o
  have nD := d1.ne hD
  refine lc_list (K := K) (a := rw) (xs := vs) (fun i H => ∃ ns : List Str, Drawn p H1 H ∧ H D = some (.lst (ns.map V.str)) ∧ ns.Sublist ((rows.take i).map (·.name))) ⟨[], d1.new hD, upd_same, List.Sublist.refl _⟩ ?_ ?_ ?_
  · rintro i H _ ⟨ns, dd, _⟩
    exact SqL.of (dd.refs c1 (paired_refs hv))
  · rintro i v H hi ⟨ns, dd, cD, sb⟩
    obtain ⟨x, hx, t, a, rfl, ht, ha⟩ := paired_left hv hi
    have il : i < rows.length := (List.getElem?_eq_some_iff.mp hx).1
    have et : (rows.take (i + 1)).map (·.name) = (rows.take i).map (·.name) ++ [x.name] := by rw [List.take_add_one, hx, List.map_append]; rfl
    walk_at "rd"
    refine ⟨rfl, ?_⟩
    obtain ⟨r, m, hp, hm⟩ := dd.src
    walk_at "rd"
    refine ⟨p, 2, r, m, rfl, hp, hm, by decide, by decide, fun z r1 m1 z0 z1 hm1 => ?_⟩
    have d2 := dd.draw (r := r1) hm1
    have cD : upd H p (srcO r1 m1) D = some (.lst (ns.map V.str)) := by rw [upd_ne nD]; exact cD
    generalize upd H p (srcO r1 m1) = H2 at d2 cD
    refine ⟨rfl, _, rfl, ?_⟩
    refine ite2 (fun _ => ?_) (fun _ => ?_)
    · refine ⟨_, rfl, t, _, _, _, rfl, rfl, .inl (.inl (d2.tup ht)), rfl, _, cD, ?_, ns ++ [x.name], d2.mut hD nD, by rw [upd_same, List.map_append]; rfl, by rw [et]; exact sb.append (List.Sublist.refl _)⟩
      have := sb.length_le
      rw [List.length_map, List.length_take] at this
      rw [List.length_map]
      exact Nat.lt_of_le_of_lt (show ns.length ≤ 100 by omega) (by decide)
    · exact ⟨ns, d2, cD, by rw [et]; exact sb.trans (List.sublist_append_left _ _)⟩
  · rintro H ⟨ns, dd, cD, sb⟩
    rw [len, List.take_length] at sb
    exact k H D ns dd hD nD cD sb
theorem SetKV.put {H : Hp} {d : Addr} {kv : Key × V} {x : Str × List Str} {k1 k2 : List (Key × V)} (h : SetKV H kv x) (hd : H d = some (.dK k1)) : SetKV (upd H d (.dK k2)) kv x := by
  obtain ⟨e, l, e2, h1⟩ := h
  exact ⟨e, l, e2, by rw [upd_ne (ne_of h1 hd fun z => by cases z)]; exact h1⟩
theorem setKV_none {H : Hp} {n : Str} : ∀ {kvs : List (Key × V)} {sets : List (Str × List Str)}, Paired (SetKV H) kvs sets → n ∉ sets.map (·.1) → valV kvs (.inr n : Key) = none
  | _, _, .nil, _ => rfl
  | (k, v) :: kvs, x :: sets, .cons r t, h => by
    have e : k = .inr x.1 := r.1
    rw [valV_neg (by rw [e]; exact fun z => h (by rw [List.map_cons]; exact List.mem_cons.mpr (.inl (Sum.inr.inj z).symm)))]
    exact setKV_none t fun z => h (List.mem_cons_of_mem _ z)
theorem cut_to {ys : List Str} {z : Int} (h0 : 0 ≤ z) : cutV (ys.map V.str) none (some z) = (ys.take z.toNat).map V.str := by
  obtain ⟨n, rfl⟩ := Int.eq_ofNat_of_zero_le h0
  unfold cutV
  rw [HT.sIx_none, HT.sIx_nat, List.map_take]
  simp only [List.drop_zero, Int.toNat_natCast, Nat.sub_zero, List.length_map]
  by_cases h : n ≤ ys.length
  · rw [Nat.min_eq_left h]
  · rw [Nat.min_eq_right (by omega), List.take_of_length_le (by rw [List.length_map]; exact Nat.le_refl _), List.take_of_length_le (by rw [List.length_map]; omega)]
theorem ok_sets {f fD fM : Addr} {fd fdD fdM : FuncData} (F : Fun K "_law_sets" "_law_sets" sSets f fd)
    (GD : FnOk P w K mg base CX0 1 fD fdD ["source", "span"] spDraw) (bD : Binds K fdD ["source", "span"] []) (gD : mg "_law_draw" = some (.ref fD)) (kD' : PySem.W.keepIn K (.ref fD) = true)
    (GM : FnOk P w K mg base CX0 2 fM fdM ["source", "entries"] (spMixed K)) (bM : Binds K fdM ["source", "entries"] []) (gM : mg "_law_mixed" = some (.ref fM)) (kM : PySem.W.keepIn K (.ref fM) = true) : FnOk P w K mg base CX0 3 f fd ["source", "rows"] (spSets K) := by
  refine F.ok scSets (fun vs H Q E h => ?_) (fun cdv A outer s H vs Q E hr h => ?_)
  · obtain ⟨p, e, r, m, xs, rfl, _⟩ := h
    rfl
  · obtain ⟨p, rw, r, m, rows, rfl, hp, hm, hR, l1, k⟩ := h
    have nd := scSets.nd
    have hr1 : Room 1 _ := hr.mono (by decide)
    have hu := hu_of hr
    refine ⟨_, pss_cons (ps_set (i := 2) nd rfl (Or.inl rfl) pe_dnewK)
      (pss_cons (ps_for PassesOwn.never rfl (pi_list (pe_slice sl_list (pe_call GM hr rfl gM kM bM .nil pass0 (pa_cons (pv 0) (pa_cons (pe_lst (pa_cons pe_str (pa_cons pe_str (pa_cons pe_str pa_nil)))) pa_nil))) po_none (po_some (pe_call GD hr1 rfl gD kD' bD .nil pass0 (pa_cons (pv 0) (pa_cons pe_int pa_nil)))))) (pg_name (i := 3) nd rfl (Or.inl rfl))
        (pss_one (ps_asg (by exact (pe_lc (own := [("row", 4)]) (te := tOp (rIxT K) (tVar 4) (tC (.int 0))) (g := gName 4) (tt := tTest (tOp rEq (tCall spDraw [] E0 (tCons (tVar 0) (tCons (tC (.int 2)) tNil))) (tC (.int 0)))) rfl nd (pi_list (pv 1)) (blkOk_by (N := nSets) (sc := defScope sSets) (by decide +kernel)) (fun _ _ _ _ _ => pg_name (i := 4) nd rfl (Or.inl rfl))
            (fun _ _ _ _ _ => by exact (pts_one (pt_cmpR op_eq (pe_call GD hr1 (by rfl) gD kD' bD .nil pass0 (pa_cons (pv 0) (pa_cons pe_int pa_nil))) pe_int (nomark _)))) (fun _ _ _ _ _ => by exact (pe_ix ix_tup (pv 4) pe_int (fun _ _ => rfl))))) (by exact (pg_sub (pv 2) (pv 3) (L2.set_dict hu))))))
      (pss_one (ps_ret (pv 2)))), ?_⟩
    walk_at "rd"
    intro dk hdk
    have e0 := Drawn.start hp hm
    have nd0 : dk ≠ p := e0.ne hdk
    have d1 : Drawn p H (upd H dk (.dK [])) := e0.new hdk
    have c1 : upd H dk (.dK []) dk = some (.dK []) := upd_same
    generalize upd H dk (.dK []) = H1 at d1 c1
    refine rd_gn (rd_seq ⟨_, rfl, Nat.le_trans (show 3 ≤ 1000 by decide) (by decide), fun e he => ?_⟩)
    have ne := d1.ne he
    have d2 : Drawn p H (upd H1 e (.lst (setNames.map V.str))) := d1.new he
    have c2 : upd H1 e (.lst (setNames.map V.str)) dk = some (.dK []) := by rw [upd_ne (ne_of_none c1 he)]; exact c1
    have ce : upd H1 e (.lst (setNames.map V.str)) e = some (.lst ((setNames.map Sum.inr).map kV)) := upd_same
    show tNil _ (upd H1 e (.lst (setNames.map V.str))) _
    generalize upd H1 e (.lst (setNames.map V.str)) = H2 at d2 c2 ce
    obtain ⟨r2, m2, hp2, hm2⟩ := d2.src
    refine rd_nil ⟨p, e, r2, m2, _, rfl, hp2, hm2, SqL.of ce, ne, by decide, by decide +kernel, fun H3 q js d3 hq nq cq pq => ?_⟩
    obtain ⟨ys, e1, _, py⟩ := perm_strs pq
    rw [e1] at cq
    have c3 : H3 dk = some (.dK []) := d3.dic c2
    have d3 := d2.trans d3
    obtain ⟨r3, m3, hp3, hm3⟩ := d3.src
    refine ⟨_, rfl, p, 4, r3, m3, rfl, hp3, hm3, by decide, by decide, fun z r4 m4 z0 z1 hm4 => ?_⟩
    have d4 := d3.draw (r := r4) hm4
    have c4 : upd H3 p (srcO r4 m4) dk = some (.dK []) := by rw [upd_ne nd0]; exact c3
    have cq : upd H3 p (srcO r4 m4) q = some (.lst (ys.map V.str)) := by rw [upd_ne nq]; exact cq
    generalize upd H3 p (srcO r4 m4) = H4 at d4 c4 cq
    refine ⟨z, rfl, q, ys.map V.str, rfl, SqL.of cq, fun sl hsl => ?_⟩
    rw [cut_to z0]
    have nsl := d4.ne hsl
    have d5 : Drawn p H (upd H4 sl (.lst ((ys.take z.toNat).map V.str))) := d4.new hsl
    have c5 : upd H4 sl (.lst ((ys.take z.toNat).map V.str)) dk = some (.dK []) := by rw [upd_ne (ne_of_none c4 hsl)]; exact c4
    have cs : upd H4 sl (.lst ((ys.take z.toNat).map V.str)) sl = some (.lst ((ys.take z.toNat).map V.str)) := upd_same
    generalize upd H4 sl (.lst ((ys.take z.toNat).map V.str)) = H5 at d5 c5 cs
    have wsN : (ys.take z.toNat).Nodup := (py.nodup_iff.mpr (show setNames.Nodup by decide +kernel)).sublist (List.take_sublist _ _)
    have wsM : ∀ x ∈ ys.take z.toNat, x ∈ setNames := fun x hx => py.mem_iff.mp (List.mem_of_mem_take hx)
    have wsL : (ys.take z.toNat).length ≤ 3 := by
      have := py.length_eq
      rw [List.length_take]
      have : setNames.length = 3 := rfl
      omega
    generalize ys.take z.toNat = ws at wsN wsM wsL cs
    refine ⟨sl, rfl, ⟨_, SqL.of cs⟩, ?_⟩
    refine for_list (K := K) (a := sl) (xs := ws.map V.str) (fun i σ H' => ∃ v3 v4 sets, σ = [some (.ref p), some (.ref rw), some (.ref dk), v3, v4] ∧ Drawn p H H' ∧ H' sl = some (.lst (ws.map V.str)) ∧ SetsAt H' dk sets ∧ sets.map (·.1) = ws.take i ∧ ∀ x ∈ sets, x.2.Sublist (rows.map (·.name)))
      ⟨_, _, [], rfl, d5, cs, ⟨[], c5, .nil⟩, rfl, by simp⟩ ?_ ?_ ?_
    · rintro i σ H' _ ⟨v3, v4, sets, rfl, _, c, _⟩
      exact SqL.of c
    · rintro i y σ H' hi ⟨v3, v4, sets, rfl, dd, cs', ⟨kvs, ck, pk⟩, eN, hsub⟩
      obtain ⟨n, hn, rfl⟩ : ∃ n, ws[i]? = some n ∧ y = V.str n := by
        rw [List.getElem?_map] at hi
        cases e : ws[i]? with
        | none => rw [e] at hi; cases hi
        | some n => rw [e] at hi; exact ⟨n, rfl, (Option.some.inj hi).symm⟩
      refine rd_gn (rd_asg ?_)
      show tLc (iList K (tVar 1)) (gName 4) _ (tOp (rIxT K) (tVar 4) (tC (.int 0))) [4] [some (.ref p), some (.ref rw), some (.ref dk), some (V.str n), v4] H' _
      refine lc_rows dd (hR.on dd) l1 fun H6 l ns d6 hl nl cl sb => ?_
      have il : i < ws.length := (List.getElem?_eq_some_iff.mp hn).1
      have kl : kvs.length ≤ 3 := by
        have h1 := paired_len pk
        have h2 := congrArg List.length eN
        rw [List.length_map, List.length_take] at h2
        omega
      have ck6 : H6 dk = some (.dK kvs) := d6.dic ck
      have pk6 := paired_map (fun _ _ z => SetKV.on z d6) pk
      have fresh : n ∉ sets.map (·.1) := by
        rw [eN]
        intro hm
        obtain ⟨j, hj⟩ := List.mem_iff_getElem?.mp hm
        rw [List.getElem?_take] at hj
        split at hj
        · rename_i hji
          have := (List.getElem?_inj (by omega) wsN).mp (hj.trans hn.symm)
          omega
        · cases hj
      refine ⟨_, rfl, _, rfl, dk, _, rfl, DPut.k (k := .inr n) ck6 (Nat.lt_of_le_of_lt kl (by decide)), ?_⟩
      rw [putK_new _ (setKV_none pk6 fresh)]
      have hdk0 : H dk = none := hdk
      refine ⟨_, _, sets ++ [(n, ns)], rfl, (dd.trans d6).mut hdk0 nd0, ?sa, ⟨_, upd_same, paired_more ⟨rfl, l, rfl, ?sb⟩ (paired_map (fun _ _ z => SetKV.put z ck6) pk6)⟩, ?sc, ?sd⟩
      case sa =>
        rw [upd_ne (ne_of (d6.strs cs') ck6 fun z => by cases z)]
        exact d6.strs cs'
      case sb =>
        rw [upd_ne (ne_of cl ck6 fun z => by cases z)]
        exact cl
      case sc =>
        rw [List.map_append, eN, List.take_add_one, hn]
        rfl
      case sd =>
        intro x hx
        rcases List.mem_append.mp hx with hx | hx
        · exact hsub x hx
        · obtain rfl := List.mem_singleton.mp hx
          exact sb
    · rintro σ H' ⟨v3, v4, sets, rfl, dd, _, hs, eN, hsub⟩
      rw [List.length_map, List.take_length] at eN
      refine ⟨_, rfl, k H' dk sets dd hdk nd0 hs ⟨by rw [eN]; exact wsN, fun x hx => wsM _ (by rw [← eN]; exact List.mem_map_of_mem hx), hsub⟩⟩
end
end Gk
/-! ### the drawn rows -/
namespace Gk
open PySem PySem.W PySem.Spec PyProof.Rows L2 NdefX
def numL : List Int := [0, 1, 2, 3, 5, 8, 9, -1, 1000000000, -1000000000, 77]
def wordsOf (rows : List Row) : List Str := rows.flatMap fun r => r.name :: r.al
/-- what stands of a drawn model -/
structure ModelOk (rows : List Row) (sets : List (Str × List Str)) : Prop where
  nd : (wordsOf rows).Nodup
  mem : ∀ x ∈ wordsOf rows, x ∈ poolL
  nums : (rows.map (·.num)).Nodup
  numm : ∀ x ∈ rows.map (·.num), x ∈ numL
  few : ∀ r ∈ rows, r.al.length ≤ 2
  sets : SetsOf (rows.map (·.name)) sets
def spModel : Sp := fun vs H Q _ => ∃ (p : Addr) (r m many : Int), vs = [.ref p, .int many] ∧ H p = some (srcO r m) ∧ SrcOk m ∧ 1 ≤ many ∧ many ≤ 6 ∧
  ∀ (H' : Hp) (a rw d : Addr) (rows : List Row) (sets : List (Str × List Str)), Drawn p H H' → H a = none → a ≠ p → H rw = none → rw ≠ p → H d = none → d ≠ p → H' a = some (.tup [.ref rw, .ref d]) → RowsAt H' rw rows → SetsAt H' d sets → ModelOk rows sets → rows.length = many.toNat → Q (.ref a) H'
theorem RowAt.put {H : Hp} {q : Addr} {v : V} {x : Row} {xs ys : List V} (h : RowAt H v x) (hq : H q = some (.lst xs)) : RowAt (upd H q (.lst ys)) v x := by
  obtain ⟨t, a, e, h1, h2⟩ := h
  exact ⟨t, a, e, by rw [upd_ne (ne_of h1 hq fun z => by cases z)]; exact h1, by rw [upd_ne (ne_of h2 hq fun z => by cases z)]; exact h2⟩
theorem RowsAt.put {H : Hp} {q r : Addr} {rows : List Row} {xs ys : List V} (h : RowsAt H r rows) (hq : H q = some (.lst xs)) (n : r ≠ q) : RowsAt (upd H q (.lst ys)) r rows := by
  obtain ⟨vs, h1, h2⟩ := h
  exact ⟨vs, by rw [upd_ne n]; exact h1, paired_map (fun _ _ z => RowAt.put z hq) h2⟩
theorem RowsAt.more {H : Hp} {r : Addr} {rows : List Row} {v : V} {x : Row} (h : RowsAt H r rows) (hx : RowAt H v x) : ∃ vs, H r = some (.lst vs) ∧ vs.length = rows.length ∧ RowsAt (upd H r (.lst (vs ++ [v]))) r (rows ++ [x]) := by
  obtain ⟨vs, h1, h2⟩ := h
  exact ⟨vs, h1, paired_len h2, _, upd_same, paired_more (hx.put h1) (paired_map (fun _ _ z => RowAt.put z h1) h2)⟩
theorem last_of {α : Type} {xs : List α} (h : 0 < xs.length) : ∃ y, xs[xs.length - 1]? = some y ∧ xs.dropLast ++ [y] = xs := by
  have hne : xs ≠ [] := fun e => by rw [e] at h; exact absurd h (Nat.lt_irrefl 0)
  refine ⟨xs.getLast hne, ?_, List.dropLast_concat_getLast hne⟩
  rw [List.getLast_eq_getElem hne, List.getElem?_eq_getElem]
/-- the last of a list of texts -/
theorem pop_strs {H : Hp} {l : Addr} {xs : List Str} {Q : VK} (h : H l = some (.lst (xs.map V.str))) (z : 0 < xs.length) (q : ∀ y, xs.dropLast ++ [y] = xs → Q (.str y) (upd H l (.lst (xs.dropLast.map V.str)))) : rPop (.ref l) [] H Q := by
  obtain ⟨y, h1, h2⟩ := last_of z
  refine ⟨l, _, .str y, rfl, rfl, h, by rw [List.length_map, List.getElem?_map, h1]; rfl, ?_⟩
  rw [← List.map_dropLast]
  exact q y h2
section
variable {P : Program} {w : World} {K : Frag} {mg : Str → Option Value} {base : Heap}
abbrev nModel : List Str := ["source", "many", "pool", "rows", "numbers", "place", "aliases", "turn"]
theorem scModel : FnScope nModel ["source", "many"] (defScope sModel) := ⟨rfl, rfl, rfl, by decide +kernel, rfl, by decide +kernel, by decide +kernel⟩
abbrev tAliases (K : Frag) : TE := tLc (iRng1 (tCons (tCall (spPick K) [] E0 (tCons (tVar 0) (tCons (tLst (tCons (tC (.int 0)) (tCons (tC (.int 0)) (tCons (tC (.int 0)) (tCons (tC (.int 1)) (tCons (tC (.int 2)) tNil)))))) tNil))) tNil)) (gName 7)
  (tTest (tOp (rI0 fun i j => .bl (decide (j < i))) (tCB (fun xs H Q => ∃ p ys, xs = [.ref p] ∧ (SqL K H p ys ∨ SqT K H p ys) ∧ Q (.int ys.length) H) (tCons (tVar 2) tNil)) (tC (.int 6)))) (tBM0 K "list" rPop (tVar 2)) [7]
def Far (p l : Addr) (H H' : Hp) : Prop := ∀ b u, b ≠ p → b ≠ l → H b = some u → H' b = some u
theorem Far.refl {p l : Addr} {H : Hp} : Far p l H H := fun _ _ _ _ e => e
theorem Far.trans {p l : Addr} {H H1 H2 : Hp} (a : Far p l H H1) (b : Far p l H1 H2) : Far p l H H2 := fun c u n m e => b c u n m (a c u n m e)
theorem Far.draw {p l : Addr} {H H1 : Hp} {o : HO} (a : Far p l H H1) : Far p l H (upd H1 p o) := fun c u n m e => by rw [upd_ne n]; exact a c u n m e
theorem Far.put {p l : Addr} {H H1 : Hp} {o : HO} (a : Far p l H H1) : Far p l H (upd H1 l o) := fun c u n m e => by rw [upd_ne m]; exact a c u n m e
theorem Far.new {p l q : Addr} {H H1 : Hp} {o : HO} (a : Far p l H H1) (h : H1 q = none) : Far p l H (upd H1 q o) := fun c u n m e => by
  have z := a c u n m e
  rw [upd_ne (ne_of_none z h)]
  exact z
theorem Far.mut {p l q : Addr} {H H1 : Hp} {o : HO} (a : Far p l H H1) (h : H q = none) : Far p l H (upd H1 q o) := fun c u n m e => by
  rw [upd_ne (ne_of_none e h)]
  exact a c u n m e
theorem Far.other {p l a : Addr} {H H1 : Hp} {o : HO} (f : Far p l H H1) {r m : Int} {xs : List V} (hp : H p = some (srcO r m)) (hl : H l = some (.lst xs)) (h : H a = some o) (n : ∀ ys, o ≠ .lst ys) : H1 a = some o :=
  f a o (ne_of h hp (n _)) (ne_of h hl (n _)) h
theorem RowsAt.far {H H1 : Hp} {p l r : Addr} {rows : List Row} {x m : Int} {xs : List V} (h : RowsAt H r rows) (f : Far p l H H1) (hp : H p = some (srcO x m)) (hl : H l = some (.lst xs)) (n1 : r ≠ p) (n2 : r ≠ l) : RowsAt H1 r rows := by
  obtain ⟨vs, h1, h2⟩ := h
  refine ⟨vs, f _ _ n1 n2 h1, paired_map (fun v y z => ?_) h2⟩
  obtain ⟨t, a, e, g1, g2⟩ := z
  exact ⟨t, a, e, f.other hp hl g1 fun ys z => (by cases z), f.other hp hl g2 fun ys z => by cases z⟩
theorem lc_aliases {H1 : Hp} {p pl : Addr} {ps : List Str} {s1 s3 s4 s5 s6 s7 : Option V} {r m : Int} {lo : Nat} {Q : VK} (hp : H1 p = some (srcO r m)) (hm : SrcOk m) (hl : H1 pl = some (.lst (ps.map V.str))) (nl : pl ≠ p) (h6 : lo ≤ 6) (hlo : lo ≤ ps.length) (hz : ps.length ≤ 100)
    (k : ∀ (H' : Hp) (q : Addr) (qs as : List Str), Far p pl H1 H' → (∃ r m, H' p = some (srcO r m) ∧ SrcOk m) → H1 q = none → H' q = some (.lst (as.map V.str)) → H' pl = some (.lst (qs.map V.str)) → (qs ++ as).Perm ps → as.length ≤ 2 → lo ≤ qs.length → Q (.ref q) H') :
    tAliases K [some (.ref p), s1, some (.ref pl), s3, s4, s5, s6, s7] H1 Q := by
  unfold tAliases tLc iRng1
  refine rd_cons (rd_call (rd_cons (rd_var rfl (rd_cons (rd_lst ?_)))))
  walk_at "rd"
  refine ⟨Nat.le_trans (show 5 ≤ 1000 by decide) (by decide), fun e he => ?_⟩
  have ne : e ≠ p := (ne_of_none hp he).symm
  have nel : e ≠ pl := (ne_of_none hl he).symm
  have f2 : Far p pl H1 (upd H1 e (.lst [.int 0, .int 0, .int 0, .int 1, .int 2])) := Far.refl.new he
  have p2 : upd H1 e (.lst [.int 0, .int 0, .int 0, .int 1, .int 2]) p = some (srcO r m) := by rw [upd_ne ne.symm]; exact hp
  have l2 : upd H1 e (.lst [.int 0, .int 0, .int 0, .int 1, .int 2]) pl = some (.lst (ps.map V.str)) := by rw [upd_ne nel.symm]; exact hl
  have e2 : upd H1 e (.lst [.int 0, .int 0, .int 0, .int 1, .int 2]) e = some (.lst [.int 0, .int 0, .int 0, .int 1, .int 2]) := upd_same
  generalize upd H1 e (.lst [.int 0, .int 0, .int 0, .int 1, .int 2]) = H2 at f2 p2 l2 e2
  refine rd_nil ⟨p, e, r, m, _, rfl, p2, hm, SqL.of e2, ne, by decide, by decide, fun j v r3 m3 hv hm3 => ?_⟩
  obtain ⟨n, rfl, hn⟩ : ∃ n : Nat, v = V.int (n : Nat) ∧ n ≤ 2 := by
    have jl : j < 5 := (List.getElem?_eq_some_iff.mp hv).1
    rcases (show j = 0 ∨ j = 1 ∨ j = 2 ∨ j = 3 ∨ j = 4 by omega) with rfl | rfl | rfl | rfl | rfl
    · exact ⟨0, (Option.some.inj hv).symm, by decide⟩
    · exact ⟨0, (Option.some.inj hv).symm, by decide⟩
    · exact ⟨0, (Option.some.inj hv).symm, by decide⟩
    · exact ⟨1, (Option.some.inj hv).symm, by decide⟩
    · exact ⟨2, (Option.some.inj hv).symm, by decide⟩
  have f3 : Far p pl H1 (upd H2 p (srcO r3 m3)) := f2.draw
  have l3 : upd H2 p (srcO r3 m3) pl = some (.lst (ps.map V.str)) := by rw [upd_ne nl]; exact l2
  have p3 : upd H2 p (srcO r3 m3) p = some (srcO r3 m3) := upd_same
  have keep : ∀ q, upd H2 p (srcO r3 m3) q = none → H1 q = none := fun q hq => by
    have hqp : q ≠ p := fun z => by rw [z, p3] at hq; cases hq
    have hql : q ≠ pl := fun z => by rw [z, l3] at hq; cases hq
    cases z : H1 q with
    | none => rfl
    | some u => rw [f3 q u hqp hql z] at hq; cases hq
  generalize upd H2 p (srcO r3 m3) = H3 at f3 l3 p3 keep
  refine ⟨_, rfl, by omega, by omega, fun D hD => ?_⟩
  have nDp : D ≠ p := (ne_of_none p3 hD).symm
  have nDl : D ≠ pl := (ne_of_none l3 hD).symm
  have hD1 := keep D hD
  rw [Int.toNat_natCast]
  refine lc_range (lo := 0) (n := n) (fun i H => ∃ qs as : List Str, Far p pl H1 H ∧ H p = some (srcO r3 m3) ∧ H pl = some (.lst (qs.map V.str)) ∧ H D = some (.lst (as.map V.str)) ∧ (qs ++ as).Perm ps ∧ as.length ≤ i ∧ lo ≤ qs.length)
    ⟨ps, [], f3.new hD, by rw [upd_ne nDp.symm]; exact p3, by rw [upd_ne nDl.symm]; exact l3, upd_same, by rw [List.append_nil], Nat.le_refl _, hlo⟩ ?_ ?_
  · rintro i H hi ⟨qs, as, f, hp', hl', hD', pm, la, lq⟩
    walk_at "rd"
    refine ⟨rfl, ?_⟩
    walk_at "rd"
    refine ⟨pl, _, rfl, .inl (SqL.of hl'), ?_⟩
    walk_at "rd"
    refine ⟨_, _, rfl, rfl, _, rfl, ?_⟩
    rw [List.length_map]
    refine ite2 (fun c => ?_) (fun _ => ?_)
    · have c6 : 6 < qs.length := by have := of_decide_eq_true c; omega
      refine ⟨_, rfl, .inl ⟨rfl, _, SqL.of hl'⟩, pop_strs hl' (by omega) fun y ey => ?_⟩
      refine ⟨as.map V.str, by rw [upd_ne nDl]; exact hD', ?_, ?_⟩
      · rw [List.length_map]
        exact Nat.lt_of_le_of_lt (show as.length ≤ 10 by omega) (by decide)
      · refine ⟨qs.dropLast, as ++ [y], (f.put).mut hD1, by rw [upd_ne nDp.symm, upd_ne nl.symm]; exact hp', by rw [upd_ne nDl.symm]; exact upd_same, by rw [upd_same, List.map_append]; rfl, ?_, by rw [List.length_append]; simp; omega, by rw [List.length_dropLast]; omega⟩
        have h1 : (qs.dropLast ++ (as ++ [y])).Perm (qs.dropLast ++ ([y] ++ as)) := List.Perm.append_left _ List.perm_append_comm
        rw [← List.append_assoc qs.dropLast [y] as, ey] at h1
        exact h1.trans pm
    · exact ⟨qs, as, f, hp', hl', hD', pm, by omega, lq⟩
  · rintro H ⟨qs, as, f, hp', hl', hD', pm, la, lq⟩
    exact k H D qs as f ⟨_, _, hp', ‹SrcOk m3›⟩ hD1 hD' hl' pm (by omega) lq
end
end Gk
/-! ### _law_model -/
namespace Gk
open PySem PySem.W PySem.Spec PyProof.Rows L2 NdefX
theorem boot_tuple0 : bootBuiltins "tuple" = some (.type "tuple") := by decide +kernel
theorem num_keys : numL.map V.int = (numL.map Sum.inl).map kV := rfl
theorem perm_ints {js : List Key} {xs : List Int} (h : js.Perm (xs.map Sum.inl)) : ∃ ys : List Int, js.map kV = ys.map V.int ∧ ys.Perm xs := by
  have back : ∀ l : List Key, (∀ k ∈ l, ∃ x, k = Sum.inl x) → ∃ ys : List Int, l = ys.map Sum.inl := by
    intro l
    induction l with
    | nil => exact fun _ => ⟨[], rfl⟩
    | cons k l ih =>
      intro a
      obtain ⟨x, rfl⟩ := a k List.mem_cons_self
      obtain ⟨ys, rfl⟩ := ih fun k z => a k (List.mem_cons_of_mem _ z)
      exact ⟨x :: ys, rfl⟩
  obtain ⟨ys, rfl⟩ := back js fun k hk => by
    obtain ⟨x, _, e⟩ := List.mem_map.mp (h.mem_iff.mp hk)
    exact ⟨x, e.symm⟩
  refine ⟨ys, by rw [List.map_map]; rfl, ?_⟩
  have g := h.map (fun k : Key => match k with | .inl x => x | .inr _ => (0 : Int))
  rw [List.map_map, List.map_map] at g
  have i1 : ∀ l : List Int, l.map ((fun k : Key => match k with | .inl x => x | .inr _ => (0 : Int)) ∘ Sum.inl) = l := fun l => by
    induction l with
    | nil => rfl
    | cons x l ih => rw [List.map_cons, ih]; rfl
  rwa [i1, i1] at g
section
variable {P : Program} {w : World} {K : Frag} {mg : Str → Option Value} {base : Heap}
theorem ok_model {f fD fM fL fS : Addr} {fd fdD fdM fdL fdS : FuncData} (F : Fun K "_law_model" "_law_model" sModel f fd) (tR : mg "range" = none) (tN : mg "len" = none) (tT : mg "tuple" = none)
    (GD : FnOk P w K mg base CX0 2 fD fdD ["source", "entries"] (spPick K)) (bD : Binds K fdD ["source", "entries"] []) (gD : mg "_law_pick" = some (.ref fD)) (kD' : PySem.W.keepIn K (.ref fD) = true)
    (GM : FnOk P w K mg base CX0 2 fM fdM ["source", "entries"] (spMixed K)) (bM : Binds K fdM ["source", "entries"] []) (gM : mg "_law_mixed" = some (.ref fM)) (kM : PySem.W.keepIn K (.ref fM) = true)
    (GL : FnOk P w K mg base CX0 3 fL fdL ["source"] spPool) (bL : Binds K fdL ["source"] []) (gL : mg "_law_pool" = some (.ref fL)) (kL : PySem.W.keepIn K (.ref fL) = true)
    (GS : FnOk P w K mg base CX0 3 fS fdS ["source", "rows"] (spSets K)) (bS : Binds K fdS ["source", "rows"] []) (gS : mg "_law_sets" = some (.ref fS)) (kS : PySem.W.keepIn K (.ref fS) = true) : FnOk P w K mg base CX0 4 f fd ["source", "many"] spModel := by
  refine F.ok scModel (fun vs H Q E h => ?_) (fun cdv A outer s H vs Q E hr h => ?_)
  · obtain ⟨p, r, m, many, rfl, _⟩ := h
    rfl
  · obtain ⟨p, r, m, many, rfl, hp, hm, l1, l6, k⟩ := h
    have nd := scModel.nd
    have hr2 : Room 2 _ := hr.mono (by decide)
    refine ⟨_, pss_cons (ps_asg (pe_tup (pa_cons (pe_call GL hr rfl gL kL bL .nil pass0 (pa_cons (pv 0) pa_nil)) (pa_cons (pe_lst pa_nil) pa_nil))) (pg_tup rfl (pgs_cons (pg_name (i := 2) nd rfl (Or.inr rfl)) (pgs_cons (pg_name (i := 3) nd rfl (Or.inl rfl)) pgs_nil))))
      (pss_cons (ps_set (i := 4) nd rfl (Or.inl rfl) (pe_call GM hr2 rfl gM kM bM .nil pass0 (pa_cons (pv 0) (pa_cons (pe_lst (pa_cons pe_int (pa_cons pe_int (pa_cons pe_int (pa_cons pe_int (pa_cons pe_int (pa_cons pe_int (pa_cons pe_int (pa_cons (pe_op op_sub pe_int pe_int) (pa_cons (pe_op op_pow pe_int pe_int) (pa_cons (pe_op op_sub pe_int (pe_op op_pow pe_int pe_int)) (pa_cons pe_int pa_nil)))))))))))) pa_nil))))
      (pss_cons (ps_for PassesOwn.never rfl (pi_range1 (by rfl) tR (pa_cons (pv 1) pa_nil)) (pg_name (i := 5) nd rfl (Or.inl rfl))
        (pss_cons (ps_setLc (i := 6) (own := [("turn", 7)]) (te := tBM0 K "list" rPop (tVar 2)) (g := gName 7) (tt := tTest (tOp (rI0 fun i j => .bl (decide (j < i))) (tCB (fun xs H Q => ∃ p ys, xs = [.ref p] ∧ (SqL K H p ys ∨ SqT K H p ys) ∧ Q (.int ys.length) H) (tCons (tVar 2) tNil)) (tC (.int 6)))) (by rfl) nd rfl rfl (sw_true rfl rfl rfl (by decide +kernel))
            (pi_range1 (by rfl) tR (pa_cons (pe_call GD hr2 rfl gD kD' bD .nil pass0 (pa_cons (pv 0) (pa_cons (pe_lst (pa_cons pe_int (pa_cons pe_int (pa_cons pe_int (pa_cons pe_int (pa_cons pe_int pa_nil)))))) pa_nil))) pa_nil)) (blkOk_by (N := nModel) (sc := defScope sModel) (by decide +kernel)) (fun _ _ _ _ _ => pg_name (i := 7) nd rfl (Or.inl rfl))
            (fun _ _ _ _ _ => by exact (pts_one (pt_cmpR op_gt (pe_callB call_len_seq (by rfl) tN PySem.boot_len (pa_cons (pv 2) pa_nil)) pe_int (nomark _)))) (fun _ _ _ _ _ => by exact (pe_bm0 PySem.F.plainAttrs_list PySem.F.slot_list_pop PySem.F.type_list_pop mt_pop (pv 2))))
        (pss_one (ps_expr (pe_bm PySem.F.plainAttrs_list PySem.F.slot_list_append PySem.F.type_list_append mt_append (pv 3) (pa_cons (pe_tup (pa_cons (pe_bm0 PySem.F.plainAttrs_list PySem.F.slot_list_pop PySem.F.type_list_pop mt_pop (pv 2)) (pa_cons (pe_callTy call_tuple_of (by rfl) tT boot_tuple0 (pa_cons (pv 6) pa_nil)) (pa_cons (pe_ix ix_list (pv 4) (pv 5) (fun _ _ => rfl)) pa_nil)))) pa_nil))))))
      (pss_one (ps_ret (pe_tup (pa_cons (pv 3) (pa_cons (pe_call GS hr rfl gS kS bS .nil pass0 (pa_cons (pv 0) (pa_cons (pv 3) pa_nil))) pa_nil))))))), ?_⟩
    walk_at "rd"
    refine ⟨p, r, m, rfl, hp, hm, fun H1 pl ps d1 npl0 npl c1 pp => ?_⟩
    walk_at "rd"
    refine ⟨Nat.zero_le _, fun rw hrw => ?_⟩
    have nrw := d1.ne hrw
    have nrl : rw ≠ pl := (ne_of_none c1 hrw).symm
    have nrw0 : H rw = none := d1.free hrw nrw
    generalize hG : upd H1 rw _ = H2
    have d2 : Drawn p H H2 := by rw [← hG]; exact d1.new hrw
    have c2 : H2 pl = some (.lst (ps.map V.str)) := by rw [← hG, upd_ne nrl.symm]; exact c1
    have w2 : RowsAt H2 rw [] := by rw [← hG]; exact ⟨[], upd_same, .nil⟩
    clear hG
    walk_at "rd"
    refine ⟨Nat.le_trans (show 2 ≤ 1000 by decide) (by decide), fun T hT => ?_⟩
    generalize hG : upd H2 T _ = H3
    have s3 : Same H2 H3 := by rw [← hG]; exact (Same.refl H2).new hT
    have cT : H3 T = some (.tup [.ref pl, .ref rw]) := by rw [← hG]; exact upd_same
    clear hG
    have d3 := d2.same s3
    have c3 := s3 _ _ c2
    have w3 := w2.later s3
    refine ⟨T, _, rfl, SqT.of cT, rfl, _, _, rfl, _, _, rfl, rfl, ?_⟩
    walk_at "rd"
    refine ⟨_, _, rfl, rfl, ?_⟩
    walk_at "rd"
    refine ⟨_, _, rfl, rfl, ⟨by decide, by decide, by decide⟩, ?_⟩
    walk_at "rd"
    refine ⟨_, _, rfl, rfl, ⟨by decide, by decide, by decide⟩, ?_⟩
    refine ⟨_, _, rfl, rfl, ?_⟩
    walk_at "rd"
    refine ⟨Nat.le_trans (show 11 ≤ 1000 by decide) (by decide), fun e he => ?_⟩
    generalize hG : upd H3 e _ = H4
    have s4 : Same H3 H4 := by rw [← hG]; exact (Same.refl H3).new he
    have ce : H4 e = some (.lst ((numL.map Sum.inl).map kV)) := by rw [← hG, ← num_keys]; exact upd_same
    have ne := d3.ne he
    clear hG
    have d4 := d3.same s4
    have c4 := s4 _ _ c3
    have w4 := w3.later s4
    walk_at "rd"
    obtain ⟨r4, m4, hp4, hm4⟩ := d4.src
    refine ⟨p, e, r4, m4, _, rfl, hp4, hm4, SqL.of ce, ne, by decide, by decide +kernel, fun H5 nm js d5 hnm nnm cnm pnm => ?_⟩
    obtain ⟨nums, e1, pn⟩ := perm_ints pnm
    rw [e1] at cnm
    have c5 := d5.strs c4
    have w5 := w4.on d5
    have nml : nm ≠ pl := (ne_of_none c4 hnm).symm
    have nmr : nm ≠ rw := by
      obtain ⟨vs, z, _⟩ := w4
      exact (ne_of_none z hnm).symm
    have d5 := d4.trans d5
    have lps : ps.length = 14 := pp.length_eq
    have lnm : nums.length = 11 := pn.length_eq
    walk_at "rd"
    refine ⟨_, rfl, _, rfl, by omega, by omega, ?_⟩
    refine for_range (lo := 0) (n := many.toNat) (fun i σ H' => ∃ v5 v6 v7 qs rows, σ = [some (.ref p), some (.int many), some (.ref pl), some (.ref rw), some (.ref nm), v5, v6, v7] ∧ Drawn p H H' ∧ H' pl = some (.lst (qs.map V.str)) ∧ H' nm = some (.lst (nums.map V.int)) ∧
      RowsAt H' rw rows ∧ rows.length = i ∧ (qs ++ wordsOf rows).Perm poolL ∧ 6 - i ≤ qs.length ∧ rows.map (·.num) = nums.take i ∧ ∀ x ∈ rows, x.al.length ≤ 2)
      ⟨_, _, _, ps, [], rfl, d5, c5, cnm, w5, rfl, by simpa [wordsOf] using pp, by omega, rfl, by simp⟩ ?_ ?_
    · rintro i σ H' hi ⟨v5, v6, v7, qs, rows, rfl, dd, cp, cn, cw, ei, pw, lq, en, few⟩
      have i6 : i < 6 := by omega
      have lq14 : qs.length ≤ 14 := by
        have := pw.length_eq
        rw [List.length_append] at this
        have : poolL.length = 14 := rfl
        omega
      obtain ⟨r5, m5, hp5, hm5⟩ := dd.src
      refine rd_gn (rd_seq (rd_asg ?_))
      refine lc_aliases (lo := 6 - i) hp5 hm5 cp npl (by omega) lq (by omega) fun H6 q qs1 as far src6 hq cq cp6 pq la lq1 => ?_
      have nqp : q ≠ p := (ne_of_none hp5 hq).symm
      have nql : q ≠ pl := (ne_of_none cp hq).symm
      have d6 : Drawn p H H6 := ⟨fun c u n e => far c u n (ne_of_none e npl0) (dd.keep c u n e), dd.was, src6⟩
      have cn6 : H6 nm = some (.lst (nums.map V.int)) := far _ _ nnm nml cn
      have cw6 := cw.far far hp5 cp nrw nrl
      obtain ⟨vs, hvs, lvs⟩ : ∃ vs, H6 rw = some (.lst vs) ∧ vs.length = rows.length := by
        obtain ⟨vs, z1, z2⟩ := cw6
        exact ⟨vs, z1, paired_len z2⟩
      refine rd_gn (rd_drop (rd_bm (rd_var rfl ?_)))
      refine ⟨.inl ⟨rfl, _, SqL.of hvs⟩, rd_cons (rd_tup (rd_cons (rd_bm0 (rd_var rfl ?_))))⟩
      refine ⟨.inl ⟨rfl, _, SqL.of cp6⟩, ?_⟩
      have hpos : 0 < qs1.length := by omega
      refine pop_strs cp6 hpos fun y ey => ?_
      have d7 := d6.mut (o := .lst (qs1.dropLast.map V.str)) npl0 npl
      have cp7 : upd H6 pl (.lst (qs1.dropLast.map V.str)) pl = some (.lst (qs1.dropLast.map V.str)) := upd_same
      have cn7 : upd H6 pl (.lst (qs1.dropLast.map V.str)) nm = some (.lst (nums.map V.int)) := by rw [upd_ne nml]; exact cn6
      have cw7 := cw6.put (ys := qs1.dropLast.map V.str) cp6 nrl
      have cq7 : upd H6 pl (.lst (qs1.dropLast.map V.str)) q = some (.lst (as.map V.str)) := by rw [upd_ne nql]; exact cq
      generalize upd H6 pl (.lst (qs1.dropLast.map V.str)) = H7 at d7 cp7 cn7 cw7 cq7
      refine rd_cons (rd_cb (rd_cons (rd_var rfl (rd_nil ⟨q, _, rfl, .inl ⟨SqL.of cq7, fun ta hta => ?_⟩⟩))))
      have s8 : Same H7 (upd H7 ta (.tup (as.map V.str))) := (Same.refl H7).new hta
      have ct8 : upd H7 ta (.tup (as.map V.str)) ta = some (.tup (as.map V.str)) := upd_same
      generalize upd H7 ta (.tup (as.map V.str)) = H8 at s8 ct8
      obtain ⟨z, hz⟩ : ∃ z, nums[i]? = some z := ⟨_, List.getElem?_eq_getElem (by omega)⟩
      have hat : atI (nums.map V.int) (0 + (i : Int)) = some (V.int z) := at_of (j := i) (by omega) (by rw [List.getElem?_map, hz]; rfl)
      refine ⟨_, rfl, _, rfl, nm, _, _, _, rfl, rfl, SqL.of (s8 _ _ cn7), hat, ?_⟩
      refine rd_nil ⟨Nat.le_trans (show 3 ≤ 1000 by decide) (by decide), fun t ht => ?_⟩
      have s9 : Same H8 (upd H8 t (.tup [.str y, .ref ta, .int z])) := (Same.refl H8).new ht
      have cx : RowAt (upd H8 t (.tup [.str y, .ref ta, .int z])) (.ref t) ⟨y, as, z⟩ := ⟨t, ta, rfl, upd_same, s9 _ _ ct8⟩
      have d9 := (d7.same s8).same s9
      have cp9 := s9 _ _ (s8 _ _ cp7)
      have cn9 := s9 _ _ (s8 _ _ cn7)
      have cw9 := (cw7.later s8).later s9
      show tNil _ (upd H8 t (.tup [.str y, .ref ta, .int z])) _
      generalize upd H8 t (.tup [.str y, .ref ta, .int z]) = H9 at s9 cx d9 cp9 cn9 cw9
      obtain ⟨us, hus, lus, cwX⟩ := cw9.more cx
      refine rd_nil ⟨rw, us, .ref t, rfl, rfl, hus, Nat.lt_of_le_of_lt (show us.length ≤ 100 by omega) (by decide), ?_⟩
      refine ⟨_, _, _, qs1.dropLast, rows ++ [⟨y, as, z⟩], rfl, d9.mut nrw0 nrw, by rw [upd_ne nrl.symm]; exact cp9, by rw [upd_ne nmr]; exact cn9, cwX, by rw [List.length_append, ei]; rfl, ?_, by rw [List.length_dropLast]; omega, by rw [List.map_append, en, List.take_add_one, hz]; rfl, ?_⟩
      · have ew : wordsOf (rows ++ [⟨y, as, z⟩]) = wordsOf rows ++ ([y] ++ as) := by simp [wordsOf]
        rw [ew]
        have h1 : (qs1.dropLast ++ (wordsOf rows ++ ([y] ++ as))).Perm (qs1.dropLast ++ (([y] ++ as) ++ wordsOf rows)) := List.Perm.append_left _ List.perm_append_comm
        have h2 : qs1.dropLast ++ (([y] ++ as) ++ wordsOf rows) = (qs1 ++ as) ++ wordsOf rows := by
          have h3 : (qs1.dropLast ++ [y]) ++ as ++ wordsOf rows = qs1 ++ as ++ wordsOf rows := by rw [ey]
          simpa [List.append_assoc] using h3
        rw [h2] at h1
        exact h1.trans ((pq.append_right _).trans pw)
      · intro x hx
        rcases List.mem_append.mp hx with hx | hx
        · exact few x hx
        · obtain rfl := List.mem_singleton.mp hx
          exact la
    · rintro σ H' ⟨v5, v6, v7, qs, rows, rfl, dd, cp, cn, cw, ei, pw, lq, en, few⟩
      obtain ⟨r5, m5, hp5, hm5⟩ := dd.src
      walk_at "rd"
      refine ⟨p, rw, r5, m5, rows, rfl, hp5, hm5, cw, by omega, fun H7 d sets d7 hd ndp cs so => ?_⟩
      walk_at "rd"
      refine ⟨Nat.le_trans (show 2 ≤ 1000 by decide) (by decide), fun a ha => ?_⟩
      have hd0 : H d = none := by
        cases z : H d with
        | none => rfl
        | some u => rw [dd.keep d u ndp z] at hd; cases hd
      have d8 := dd.trans d7
      have s8 : Same H7 (upd H7 a (.tup [.ref rw, .ref d])) := (Same.refl H7).new ha
      have ok : ModelOk rows sets := by
        have nw : (qs ++ wordsOf rows).Nodup := pw.nodup_iff.mpr (by decide +kernel)
        have nn : nums.Nodup := pn.nodup_iff.mpr (by decide +kernel)
        refine ⟨nw.sublist (List.sublist_append_right _ _), fun x hx => pw.mem_iff.mp (List.mem_append_right _ hx), ?_, ?_, few, so⟩
        · rw [en]
          exact nn.sublist (List.take_sublist _ _)
        · intro x hx
          rw [en] at hx
          exact pn.mem_iff.mp (List.mem_of_mem_take hx)
      exact k _ a rw d rows sets (d8.same s8) (d8.free ha (d8.ne ha)) (d8.ne ha) nrw0 nrw hd0 ndp upd_same ((cw.on d7).later s8) (cs.later s8) ok ei
end
end Gk
/-! ### growlists.checks -/
namespace Gk
open PySem PySem.W PySem.Spec PyProof.Rows L2 NdefX
abbrev sIsName : Stmt := (top 4)
abbrev sIsInt : Stmt := (top 5)
/-- any value, its type's name -/
inductive AnyV (K : Frag) (H : Hp) : V → String → Prop
  | non : AnyV K H .non "NoneType"
  | bl (b : Bool) : AnyV K H (.bl b) "bool"
  | int (i : Int) : AnyV K H (.int i) "int"
  | str (x : Str) : x.length ≤ sizeLine → AnyV K H (.str x) "str"
  | lst (a : Addr) (xs : List V) : SqL K H a xs → AnyV K H (.ref a) "list"
  | tup (a : Addr) (xs : List V) : SqT K H a xs → AnyV K H (.ref a) "tuple"
  | dic (a : Addr) (kvs : List (Key × V)) : H a = some (.dK kvs) → AnyV K H (.ref a) "dict"
theorem AnyV.ty {K : Frag} {H : Hp} {v : V} {T : String} (h : AnyV K H v T) : TyX K H v (.type T) := by
  cases h with
  | non => exact .base .non
  | bl b => exact .base (.bl b)
  | int i => exact .base (.int i)
  | str x _ => exact .base (.str x)
  | lst a xs h =>
    rcases h with (h | ⟨u, h⟩) | ⟨o, its, n, h, hc, _⟩
    · exact .base (.lst h)
    · exact .base (.frz h)
    · exact .kList h hc
  | tup a xs h =>
    rcases h with (h | ⟨u, h⟩) | ⟨o, its, n, h, hc, _⟩
    · exact .base (.tup h)
    · exact .fTuple h
    · exact .kTuple h hc
  | dic a kvs h => exact .base (.dK h)
theorem AnyV.later {K : Frag} {H H' : Hp} {v : V} {T : String} (h : AnyV K H v T) (s : Same H H') : AnyV K H' v T := by
  cases h with
  | non => exact .non
  | bl b => exact .bl b
  | int i => exact .int i
  | str x z => exact .str x z
  | lst a xs h => exact .lst a xs (s.seq h)
  | tup a xs h =>
    refine .tup a xs ?_
    rcases h with (h | ⟨u, h⟩) | h
    · exact .inl (.inl (s _ _ h))
    · exact .inl (.inr ⟨u, s _ _ h⟩)
    · exact .inr h
  | dic a kvs h => exact .dic a kvs (s _ _ h)
/-- isinstance(v, T) -/
theorem AnyV.isi {K : Frag} {H : Hp} {v : V} {T S : String} {b : Bool} {Q : VK} (h : AnyV K H v T) (e : kitB T S = some b) (q : Q (.bl b) H) : rIsi K [v, .ty S] H Q := ⟨_, _, _, _, b, rfl, .ty S, h.ty, kit_ty e, q⟩
def letters : Str := "abcdefghijklmnopqrstuvwxyz"
def letterB (c : Nat) : Bool := !(Builtin.Str.occurrences letters ⟨#[c]⟩ 0 letters.length 1).isEmpty
def nameB (x : Str) : Bool := decide ((1 : Int) ≤ (x.length : Int)) && (decide ((x.length : Int) ≤ 8) && x.cps.toList.all letterB)
def isNameV : V → Bool
  | .str x => nameB x
  | _ => false
def isIntV : V → Bool
  | .int _ => true
  | _ => false
def spIsName (K : Frag) : Sp := fun vs H Q _ => ∃ (v : V) (T : String), vs = [v] ∧ AnyV K H v T ∧ ∀ H', Same H H' → Q (.bl (isNameV v)) H'
def spIsInt (K : Frag) : Sp := fun vs H Q _ => ∃ (v : V) (T : String), vs = [v] ∧ AnyV K H v T ∧ Q (.bl (isIntV v)) H
theorem boot_isi' : bootBuiltins "isinstance" = some (.builtin "isinstance") := by decide +kernel
theorem boot_str' : bootBuiltins "str" = some (.type "str") := by decide +kernel
theorem boot_int' : bootBuiltins "int" = some (.type "int") := by decide +kernel
theorem boot_bool' : bootBuiltins "bool" = some (.type "bool") := by decide +kernel
theorem boot_all' : bootBuiltins "all" = some (.builtin "all") := by decide +kernel
theorem AnyV.str_or {K : Frag} {H : Hp} {v : V} {T : String} (h : AnyV K H v T) : (∃ x, v = .str x ∧ x.length ≤ sizeLine ∧ T = "str") ∨ (kitB T "str" = some false ∧ isNameV v = false) := by
  cases h with
  | str x z => exact .inl ⟨x, rfl, z, rfl⟩
  | _ => exact .inr ⟨by decide +kernel, rfl⟩
theorem AnyV.int_or {K : Frag} {H : Hp} {v : V} {T : String} (h : AnyV K H v T) : ∃ b c, kitB T "int" = some b ∧ kitB T "bool" = some c ∧ isIntV v = (b && !c) := by
  cases h with
  | bl b => exact ⟨true, true, by decide +kernel, by decide +kernel, rfl⟩
  | int i => exact ⟨true, false, by decide +kernel, by decide +kernel, rfl⟩
  | _ => exact ⟨false, false, by decide +kernel, by decide +kernel, rfl⟩
section
variable {P : Program} {w : World} {K : Frag} {mg : Str → Option Value} {base : Heap}
theorem rd_yes {σ : L2.St} {H : Hp} {A B : Hp → Prop} (h : A H) : tYes σ H (fun b H3 => if b = true then A H3 else B H3) := h
theorem scIsName : FnScope ["value", "sign"] ["value"] (defScope sIsName) := ⟨rfl, rfl, rfl, by decide +kernel, rfl, by decide +kernel, by decide +kernel⟩
theorem ok_isname {f : Addr} {fd : FuncData} (F : Fun K "is_name" "is_name" sIsName f fd) (ti : mg "isinstance" = none) (ts : mg "str" = none) (tl : mg "len" = none) (ta : mg "all" = none) {t1 t2 : Tok} (gL : mg "LETTERS" = some (.str letters t1)) (gN : mg "LONGEST_NAME" = some (.int 8 t2)) :
    FnOk P w K mg base CX0 1 f fd ["value"] (spIsName K) := by
  refine F.ok scIsName (fun vs H Q E h => ?_) (fun cdv A outer s H vs Q E hr h => ?_)
  · obtain ⟨v, T, rfl, _⟩ := h
    rfl
  · obtain ⟨v, T, rfl, hv, k⟩ := h
    have nd := scIsName.nd
    refine ⟨_, pss_cons (ps_if (PW.pt (pw_or (pt_not (pt_val (pe_callB call_isi (by rfl) ti boot_isi' (pa_cons (pv 0) (pa_cons (pe_bltn (v := .ty "str") (by rfl) ts boot_str' rfl) pa_nil)))))
        (pw_or1 (pt_not (pt_chain op_le op_le pe_int (pe_callB call_len_str (by rfl) tl PySem.boot_len (pa_cons (pv 0) pa_nil)) (pe_glob (v := .int 8) (by rfl) gN ⟨_, rfl⟩)))))) (pss_one (ps_ret pe_bl)) pss_nil)
      (pss_one (ps_ret (pe_callB (cr_all rfl) (by rfl) ta boot_all' (pa_cons (pe_lc (own := [("sign", 1)]) (te := tOp (fun x y H Q => ∃ i j, x = .str i ∧ y = .str j ∧ Q (.bl (!(Builtin.Str.occurrences j i 0 j.length 1).isEmpty)) H) (tVar 1) (tC (.str letters))) (g := gName 1) (tt := tYes) rfl nd (pi_str (pv 0)) (blkOk_by (N := ["value", "sign"]) (sc := defScope sIsName) (by decide +kernel))
        (fun _ _ _ _ _ => pg_name (i := 1) nd rfl (Or.inl rfl)) (fun _ _ _ _ _ => pts_nil) (fun _ _ _ _ _ => by exact (pe_cmpR op_in_str (pv 1) (pe_glob (v := .str letters) (by rfl) gL ⟨_, rfl⟩) (by rfl)))) pa_nil)))), ?_⟩
    walk_at "rd"
    rcases hv.str_or with ⟨x, rfl, hz, rfl⟩ | ⟨e, en⟩
    · refine hv.isi (b := true) (by decide +kernel) ⟨_, rfl, ?_⟩
      simp only [Bool.not_true, Bool.false_eq_true, if_false]
      refine rd_not (rd_test (rd_c (rd_cb (rd_cons (rd_var rfl (rd_nil ⟨x, rfl, hz, _, _, rfl, rfl, _, rfl, ?_⟩))))))
      have no : ∀ y, nameB x = y → y = false → Q (.bl false) H := fun y e1 e2 => by
        have := k H (Same.refl H)
        rw [show isNameV (.str x) = y from e1, e2] at this
        exact this
      refine ite2 (fun h1 => ?_) (fun h1 => ⟨false, rfl, no _ rfl (by unfold nameB; rw [Bool.eq_false_iff.mpr h1]; rfl)⟩)
      refine ⟨_, _, rfl, rfl, _, rfl, ?_⟩
      by_cases h2 : decide ((x.length : Int) ≤ 8) = true
      · rw [h2]
        simp only [Bool.not_true, Bool.false_eq_true, if_false]
        walk_at "rd"
        refine ⟨_, rfl, x, rfl, fun D hD => ?_⟩
        refine lc_it walk_str (fun i H' => Same H H' ∧ H' D = some (.lst (((x.cps.toList.take i).map letterB).map V.bl))) ⟨(Same.refl H).new hD, upd_same⟩ (fun _ _ _ _ => trivial) ?_ ?_
        · rintro i y H1 H2 hi ⟨s1, c1⟩ ⟨rfl, c, hc, rfl⟩
          refine rd_gn ⟨rfl, rd_yes ?_⟩
          refine rd_op (rd_var rfl (rd_c ⟨_, _, rfl, rfl, _, c1, ?_, s1.mut hD, ?_⟩))
          · rw [List.length_map, List.length_map]
            have h8 : (x.cps.size : Int) ≤ 8 := of_decide_eq_true h2
            have h9 : i < x.cps.size := hi
            rw [List.length_take, Array.length_toList]
            exact Nat.lt_of_le_of_lt (show min i x.cps.size ≤ 8 by omega) (by decide)
          · have e1 : x.cps.toList.take (i + 1) = x.cps.toList.take i ++ [c] := by
              have e0 : x.cps.toList[i]? = some c := by rw [Array.getElem?_toList]; exact hc
              rw [List.take_add_one, e0]
              rfl
            rw [upd_same, e1, List.map_append, List.map_append]
            rfl
        · rintro H1 ⟨s1, c1⟩
          have e1 : x.cps.toList.take x.cps.size = x.cps.toList := by rw [← Array.length_toList, List.take_length]
          rw [e1] at c1
          refine rd_nil ⟨D, _, rfl, SqL.of c1, ?_⟩
          have := k H1 s1
          have e2 : isNameV (.str x) = ((x.cps.toList.map letterB).all id) := by
            show nameB x = _
            unfold nameB
            rw [h1, h2, List.all_map]
            rfl
          rw [e2] at this
          exact this
      · have h2' := Bool.eq_false_iff.mpr h2
        rw [h2']
        simp only [Bool.not_false, if_true]
        exact no _ rfl (by unfold nameB; rw [h1, h2']; rfl)
    · refine hv.isi e ⟨_, rfl, ?_⟩
      simp only [Bool.not_false, if_true]
      refine rd_ret (rd_c ?_)
      have := k H (Same.refl H)
      rw [en] at this
      exact this
theorem scIsInt : FnScope ["value"] ["value"] (defScope sIsInt) := ⟨rfl, rfl, rfl, by decide +kernel, rfl, by decide +kernel, by decide +kernel⟩
theorem ok_isint {f : Addr} {fd : FuncData} (F : Fun K "is_integer" "is_integer" sIsInt f fd) (ti : mg "isinstance" = none) (ts : mg "int" = none) (tl : mg "bool" = none) : FnOk P w K mg base CX0 1 f fd ["value"] (spIsInt K) := by
  refine F.ok scIsInt (fun vs H Q E h => ?_) (fun cdv A outer s H vs Q E hr h => ?_)
  · obtain ⟨v, T, rfl, _⟩ := h
    rfl
  · obtain ⟨v, T, rfl, hv, k⟩ := h
    refine ⟨_, pss_one (ps_ret (pe_and (pe_callB call_isi (by rfl) ti boot_isi' (pa_cons (pv 0) (pa_cons (pe_bltn (v := .ty "int") (by rfl) ts boot_int' rfl) pa_nil))) (pe_one (pe_not (pe_callB call_isi (by rfl) ti boot_isi' (pa_cons (pv 0) (pa_cons (pe_bltn (v := .ty "bool") (by rfl) tl boot_bool' rfl) pa_nil))))))), ?_⟩
    obtain ⟨b, c, e1, e2, e3⟩ := hv.int_or
    rw [e3] at k
    refine rd_ret (rd_cb (rd_cons (rd_var rfl (rd_cons (rd_c (rd_nil (hv.isi e1 ⟨b, rfl, ?_⟩)))))))
    cases b with
    | false => exact k
    | true => exact rd_cb (rd_cons (rd_var rfl (rd_cons (rd_c (rd_nil (hv.isi e2 ⟨c, rfl, k⟩))))))
end
end Gk
/-! ### _is_entry, for entries as they must be -/
namespace Gk
open PySem PySem.W PySem.Spec PyProof.Rows L2 NdefX
abbrev sIsEntry : Stmt := (top 22)
/-- what is never reached may be anything -/
theorem pss_dead {X : Cx} {b : List Stmt} : PSs X b (fun _ _ _ => False) := ⟨fun _ _ _ _ _ _ h => h.elim⟩
theorem _root_.L2.Same.sqT {K : Frag} {H H' : Hp} {a : Addr} {xs : List V} (s : Same H H') (h : SqT K H a xs) : SqT K H' a xs := by
  rcases h with (h | ⟨u, h⟩) | h
  · exact .inl (.inl (s _ _ h))
  · exact .inl (.inr ⟨u, s _ _ h⟩)
  · exact .inr h
theorem ite_no {c : Bool} {A B : Prop} (h : c = false) (b : B) : if c = true then A else B := by subst h; exact b
theorem ite_yes {c : Bool} {A B : Prop} (h : c = true) (a : A) : if c = true then A else B := by subst h; exact a
def farI : Int := 1000000000
/-- an entry (name, aliases, number), new or written -/
def RowK (K : Frag) (H : Hp) (v : V) (x : Row) : Prop := ∃ t a, v = .ref t ∧ SqT K H t [.str x.name, .ref a, .int x.num] ∧ SqT K H a (x.al.map V.str)
structure RowOk (x : Row) : Prop where
  nm : nameB x.name = true
  als : ∀ y ∈ x.al, nameB y = true
  lo : -farI ≤ x.num
  hi : x.num ≤ farI
  few : x.al.length ≤ 100
theorem RowK.later {K : Frag} {H H' : Hp} {v : V} {x : Row} (h : RowK K H v x) (s : Same H H') : RowK K H' v x := by
  obtain ⟨t, a, e, h1, h2⟩ := h
  exact ⟨t, a, e, s.sqT h1, s.sqT h2⟩
theorem RowAt.k {K : Frag} {H : Hp} {v : V} {x : Row} (h : RowAt H v x) : RowK K H v x := by
  obtain ⟨t, a, e, h1, h2⟩ := h
  exact ⟨t, a, e, SqT.of h1, SqT.of h2⟩
theorem nameB_len {x : Str} (h : nameB x = true) : x.length ≤ sizeLine := by
  unfold nameB at h
  simp only [Bool.and_eq_true, decide_eq_true_eq] at h
  exact Nat.le_trans (show x.length ≤ 8 by omega) (by decide)
def spEntry (K : Frag) : Sp := fun vs H Q _ => ∃ (v : V) (x : Row), vs = [v] ∧ RowK K H v x ∧ RowOk x ∧ ∀ H', Same H H' → Q (.bl true) H'
theorem boot_tuple' : bootBuiltins "tuple" = some (.type "tuple") := by decide +kernel
section
variable {P : Program} {w : World} {K : Frag} {mg : Str → Option Value} {base : Heap}
abbrev nEntry : List Str := ["value", "name", "aliases", "number", "alias"]
theorem scEntry : FnScope nEntry ["value"] (defScope sIsEntry) := ⟨rfl, rfl, rfl, by decide +kernel, rfl, by decide +kernel, by decide +kernel⟩
theorem ok_entry {f fN fI : Addr} {fd fdN fdI : FuncData} (F : Fun K "_is_entry" "_is_entry" sIsEntry f fd) (ti : mg "isinstance" = none) (tt : mg "tuple" = none) (tl : mg "len" = none) (ta : mg "all" = none) {t1 : Tok} (gF : mg "FARTHEST_NUMBER" = some (.int farI t1))
    (GN : FnOk P w K mg base CX0 1 fN fdN ["value"] (spIsName K)) (bN : Binds K fdN ["value"] []) (gN : mg "is_name" = some (.ref fN)) (kN : PySem.W.keepIn K (.ref fN) = true)
    (GI : FnOk P w K mg base CX0 1 fI fdI ["value"] (spIsInt K)) (bI : Binds K fdI ["value"] []) (gI : mg "is_integer" = some (.ref fI)) (kI : PySem.W.keepIn K (.ref fI) = true) : FnOk P w K mg base CX0 2 f fd ["value"] (spEntry K) := by
  refine F.ok scEntry (fun vs H Q E h => ?_) (fun cdv A outer s H vs Q E hr h => ?_)
  · obtain ⟨v, x, rfl, _⟩ := h
    rfl
  · obtain ⟨v, x, rfl, ⟨t, a, rfl, ht, ha⟩, ok, k⟩ := h
    have nd := scEntry.nd
    refine ⟨_, pss_cons (ps_if (PW.pt (pw_or (pt_not (pt_val (pe_callB call_isi (by rfl) ti boot_isi' (pa_cons (pv 0) (pa_cons (pe_bltn (v := .ty "tuple") (by rfl) tt boot_tuple' rfl) pa_nil)))))
        (pw_or1 (pt_cmpR op_ne (pe_callB call_len_seq (by rfl) tl PySem.boot_len (pa_cons (pv 0) pa_nil)) pe_int (nomark _))))) pss_dead pss_nil)
      (pss_cons (ps_asg (pv 0) (pg_tup rfl (pgs_cons (pg_name (i := 1) nd rfl (Or.inl rfl)) (pgs_cons (pg_name (i := 2) nd rfl (Or.inl rfl)) (pgs_cons (pg_name (i := 3) nd rfl (Or.inl rfl)) pgs_nil)))))
      (pss_cons (ps_if (PW.pt (pw_or (pt_not (pt_val (pe_call GN hr rfl gN kN bN .nil pass0 (pa_cons (pv 1) pa_nil)))) (pw_or1 (pt_not (pt_val (pe_callB call_isi (by rfl) ti boot_isi' (pa_cons (pv 2) (pa_cons (pe_bltn (v := .ty "tuple") (by rfl) tt boot_tuple' rfl) pa_nil)))))))) pss_dead pss_nil)
      (pss_cons (ps_if (pt_not (pt_val (pe_callB (cr_all rfl) (by rfl) ta boot_all' (pa_cons (pe_lc (own := [("alias", 4)]) (te := tCall (spIsName K) [] E0 (tCons (tVar 4) tNil)) (g := gName 4) (tt := tYes) rfl nd (pi_tup (pv 2)) (blkOk_by (N := nEntry) (sc := defScope sIsEntry) (by decide +kernel))
        (fun _ _ _ _ _ => pg_name (i := 4) nd rfl (Or.inl rfl)) (fun _ _ _ _ _ => pts_nil) (fun _ _ _ _ _ => by exact (pe_call GN hr (by rfl) gN kN bN .nil pass0 (pa_cons (pv 4) pa_nil)))) pa_nil)))) pss_dead pss_nil)
      (pss_one (ps_ret (pe_and (pe_call GI hr rfl gI kI bI .nil pass0 (pa_cons (pv 3) pa_nil)) (pe_one (pe_chain op_le op_le (pe_un un_neg (pe_glob (v := .int farI) (by rfl) gF ⟨_, rfl⟩)) (pv 3) (pe_glob (v := .int farI) (by rfl) gF ⟨_, rfl⟩))))))))), ?_⟩
    walk_at "rd"
    refine (AnyV.tup t _ ht).isi (b := true) (by decide +kernel) ⟨true, rfl, ite_no rfl ?_⟩
    refine rd_test (rd_op (rd_cb (rd_cons (rd_var rfl (rd_nil ⟨t, _, rfl, .inr ht, rd_c ⟨rfl, _, rfl, ite_no (by rfl) ?_⟩⟩)))))
    walk_at "rd"
    refine ⟨t, _, rfl, ht, rfl, _, _, rfl, _, _, rfl, _, _, rfl, rfl, ?_⟩
    walk_at "rd"
    refine ⟨.str x.name, "str", rfl, .str _ (nameB_len ok.nm), fun H1 s1 => ⟨true, by rw [← ok.nm]; rfl, ite_no rfl ?_⟩⟩
    refine rd_not (rd_b (rd_cb (rd_cons (rd_var rfl (rd_cons (rd_c (rd_nil ((AnyV.tup a _ (s1.sqT ha)).isi (b := true) (by decide +kernel) ⟨true, rfl, ite_no rfl ?_⟩))))))))
    walk_at "rd"
    refine ⟨_, rfl, a, rfl, ⟨_, s1.sqT ha⟩, fun D hD => ?_⟩
    refine lc_tup (K := K) (a := a) (xs := x.al.map V.str) (fun i H' => Same H1 H' ∧ H' D = some (.lst ((List.replicate i true).map V.bl))) ⟨(Same.refl H1).new hD, upd_same⟩ (fun i H' _ z => (s1.trans z.1).sqT ha) ?_ ?_
    · rintro i y H2 hi ⟨s2, c2⟩
      obtain ⟨n, hn, rfl⟩ : ∃ n, x.al[i]? = some n ∧ y = V.str n := by
        rw [List.getElem?_map] at hi
        cases e : x.al[i]? with
        | none => rw [e] at hi; cases hi
        | some n => rw [e] at hi; exact ⟨n, rfl, (Option.some.inj hi).symm⟩
      have okn := ok.als n (List.mem_of_getElem? hn)
      have il : i < x.al.length := (List.getElem?_eq_some_iff.mp hn).1
      refine rd_gn ⟨rfl, rd_yes (rd_call (rd_cons (rd_var rfl (rd_nil ⟨.str n, "str", rfl, .str _ (nameB_len okn), fun H3 s3 => ⟨_, s3 _ _ c2, ?_, s2.trans s3 |>.mut hD, ?_⟩⟩))))⟩
      · have := ok.few
        rw [List.length_map, List.length_replicate]
        exact Nat.lt_of_le_of_lt (show i ≤ 100 by omega) (by decide)
      · have e1 : isNameV (.str n) = true := okn
        rw [upd_same, e1, List.replicate_succ', List.map_append]
        rfl
    · rintro H2 ⟨s2, c2⟩
      refine rd_nil ⟨D, _, rfl, SqL.of c2, true, ?_, ite_no rfl ?_⟩
      · rw [List.length_map]
        congr 1
        rw [List.all_eq_true]
        intro b hb
        rw [List.eq_of_mem_replicate hb]
        rfl
      walk_at "rd"
      have lo := ok.lo
      have hi := ok.hi
      refine ⟨_, rfl, .int x.num, "int", rfl, .int _, true, rfl, ite_yes rfl ?_⟩
      refine ⟨farI, rfl, _, rfl, _, _, rfl, rfl, _, rfl, ite_yes (decide_eq_true lo) ⟨_, _, rfl, rfl, ?_⟩⟩
      show Q (.bl (decide (x.num ≤ farI))) H2
      rw [decide_eq_true hi]
      exact k H2 (s1.trans s2)
end
end Gk
/-! ### set(..) of a list or tuple of ints and texts, its size -/
namespace Gk
open PySem PySem.Spec PyProof.Rows L2
def inK (ks : List Key) (j : Key) : Bool := ks.any fun y => decide (y = j)
theorem inK_iff {ks : List Key} {j : Key} : inK ks j = true ↔ j ∈ ks := by
  unfold inK
  rw [List.any_eq_true]
  exact ⟨fun ⟨y, h, e⟩ => of_decide_eq_true e ▸ h, fun h => ⟨j, h, decide_eq_true rfl⟩⟩
theorem inK_not {ks : List Key} {j : Key} : inK ks j = false ↔ ¬ j ∈ ks := by rw [← inK_iff, Bool.not_eq_true]
def insK (g : List Key) (k : Key) : List Key := if inK g k = true then g else g ++ [k]
/-- the different ones, as they come -/
def uniq (ks : List Key) : List Key := ks.foldl insK []
theorem uniq_more (ks : List Key) (k : Key) : uniq (ks ++ [k]) = insK (uniq ks) k := by unfold uniq; rw [List.foldl_append]; rfl
theorem mem_insK {g : List Key} {k j : Key} : j ∈ insK g k ↔ j ∈ g ∨ j = k := by
  unfold insK
  split
  · rename_i z
    exact ⟨.inl, fun h => h.elim id fun e => e ▸ inK_iff.mp z⟩
  · rw [List.mem_append, List.mem_singleton]
theorem mem_foldK : ∀ (ks g : List Key) (j : Key), j ∈ ks.foldl insK g ↔ j ∈ g ∨ j ∈ ks
  | [], g, j => by simp
  | k :: ks, g, j => by rw [List.foldl_cons, mem_foldK ks, mem_insK, List.mem_cons, or_assoc]
theorem mem_uniq {ks : List Key} {j : Key} : j ∈ uniq ks ↔ j ∈ ks := by unfold uniq; rw [mem_foldK]; simp
theorem insK_len {g : List Key} {k : Key} : (insK g k).length = if inK g k = true then g.length else g.length + 1 := by unfold insK; split <;> simp
theorem foldK_le : ∀ (ks g : List Key), (ks.foldl insK g).length ≤ g.length + ks.length
  | [], g => by simp
  | k :: ks, g => by
    rw [List.foldl_cons, List.length_cons]
    have h1 := foldK_le ks (insK g k)
    have h2 := insK_len (g := g) (k := k)
    split at h2 <;> omega
theorem uniq_le (ks : List Key) : (uniq ks).length ≤ ks.length := by have := foldK_le ks []; simpa [uniq] using this
theorem foldK_eq : ∀ (ks g : List Key), (ks.foldl insK g).length = g.length + ks.length ↔ ks.Nodup ∧ ∀ k ∈ ks, k ∉ g
  | [], g => by simp
  | k :: ks, g => by
    rw [List.foldl_cons, List.length_cons, List.nodup_cons]
    have h1 := foldK_le ks (insK g k)
    have h2 := insK_len (g := g) (k := k)
    have h3 := foldK_eq ks (insK g k)
    by_cases hk : k ∈ g
    · rw [if_pos (inK_iff.mpr hk)] at h2
      constructor
      · intro e
        omega
      · intro e
        exact absurd hk (e.2 k List.mem_cons_self)
    · rw [if_neg fun z => hk (inK_iff.mp z)] at h2
      constructor
      · intro e
        obtain ⟨a, b⟩ := h3.mp (by omega)
        refine ⟨⟨fun h => b k h (mem_insK.mpr (.inr rfl)), a⟩, fun j hj hg => ?_⟩
        rcases List.mem_cons.mp hj with rfl | hj
        · exact hk hg
        · exact b j hj (mem_insK.mpr (.inl hg))
      · rintro ⟨⟨a, b⟩, c⟩
        have := h3.mpr ⟨b, fun j hj hg => (mem_insK.mp hg).elim (c j (List.mem_cons_of_mem _ hj)) fun e => a (e ▸ hj)⟩
        omega
/-- no one twice -/
theorem uniq_eq {ks : List Key} : (uniq ks).length = ks.length ↔ ks.Nodup := by
  have := foldK_eq ks []
  simpa [uniq] using this
theorem uniq_lt {ks : List Key} : (uniq ks).length < ks.length ↔ ¬ ks.Nodup := by
  rw [← uniq_eq]
  have := uniq_le ks
  omega
section
variable {prog : Program} {w : World} {A : Around} {R : Result → Shared → Prop} {I : Addr} {fp wr : List Addr} {G : Array GenState → Array GenState → Prop} {n : Nat} {P : Nat → Value → Prop} {St : Nat → Shared → Prop}
theorem setK_later {h h' : Heap} {a : Addr} {S : Key → Bool} {m : Nat} (z : h.SetOf (mixKind prog w) a S m) (k : ∀ o, h.get? a = some o → h'.get? a = some o) : h'.SetOf (mixKind prog w) a S m := by
  obtain ⟨o, es, ep, t, ho, r⟩ := z
  exact ⟨o, es, ep, t, k o ho, r⟩
theorem fillK (W : WalksS prog w A.in1 I fp wr G n P St) (S : Addr) (hS : S ∉ fp) (ks : List Key) (hn : ks.length = n) (hv : ∀ i v, P i v → ∃ k, ks[i]? = some k ∧ RelV (kV k) v) (hb : n + 1 < scanBound) : ∀ (d i : Nat) (s : Shared), n - i = d → i ≤ n → St i s →
    s.heap.SetOf (mixKind prog w) S (inK (ks.take i)) (uniq (ks.take i)).length → (∀ s', Moved (S :: wr) G s s' → s'.heap.SetOf (mixKind prog w) S (inK ks) (uniq ks).length → R (.ok (.ret .none)) s') → codeAny (model prog w) A (.builtin "set.update.loop" ⟨[.ref S, .ref I], []⟩) R s := by
  have off : S ∉ wr := fun z => hS (W.sub _ z)
  have up : ∀ b ∈ wr, b ∈ S :: wr := fun b z => List.mem_cons_of_mem _ z
  intro d
  induction d with
  | zero =>
    intro i s hd hi st hs k
    obtain rfl : i = n := by omega
    rw [List.take_of_length_le (Nat.le_of_eq hn)] at hs
    refine codeAny_builtin PyProof.Rows.F.entry_set_update_loop ?_
    rw [Around.under_plainId PyProof.Rows.F.plain_set_update_loop _]
    show wpAny _ A.in1 (pyNext (.ref I) >>= _) _ _ s
    exact wpAny_bind (W.done s _ _ st fun s' mv => wpAny_pure (k s' (mv.mono up) (setK_later hs fun o e => mv.heap S o off e)))
  | succ d ih =>
    intro i s hd hi st hs k
    have lt : i < n := by omega
    refine codeAny_builtin PyProof.Rows.F.entry_set_update_loop ?_
    rw [Around.under_plainId PyProof.Rows.F.plain_set_update_loop _]
    show wpAny _ A.in1 (pyNext (.ref I) >>= _) _ _ s
    refine wpAny_bind (W.item i s _ _ lt st fun v s' hP st' mv => ?_)
    obtain ⟨x, hx, rx⟩ := hv i v hP
    have hs' := setK_later hs fun o e => mv.heap S o off e
    show wpAny _ A.in1 (holding [v] (setAdd S v) >>= _) _ _ s'
    refine wpAny_bind (wpAny_holding ?_)
    unfold setAdd
    refine wpAny_holding (wpAny_bind ((mixKind prog w).pyHash (k := x) (kV_is rx) ?_))
    have room : (uniq (ks.take i)).length + 1 < scanBound := by
      have h1 := uniq_le (ks.take i)
      have h2 := List.length_take_le i ks
      omega
    refine wpAny_setAddHashed_of (knd := mixKind prog w) (s := { s' with toks := s'.toks + 1 }) (kV_is rx) (key_scan rx) hs' room fun h' sb new => ?_
    have et : ks.take (i + 1) = ks.take i ++ [x] := by rw [List.take_add_one, hx]; rfl
    have new1 : h'.SetOf (mixKind prog w) S (inK (ks.take (i + 1))) (uniq (ks.take (i + 1))).length := by
      have e1 : (fun j => inK (ks.take i) j || decide (j = x)) = inK (ks.take (i + 1)) := by
        funext j
        rw [et, Bool.eq_iff_iff, Bool.or_eq_true, inK_iff, inK_iff, decide_eq_true_eq, List.mem_append, List.mem_singleton]
      have e2 : (if inK (ks.take i) x = true then (uniq (ks.take i)).length else (uniq (ks.take i)).length + 1) = (uniq (ks.take (i + 1))).length := by
        rw [et, uniq_more, insK_len]
        by_cases hm : x ∈ ks.take i
        · rw [if_pos (inK_iff.mpr hm), if_pos (inK_iff.mpr (mem_uniq.mpr hm))]
        · rw [if_neg fun z => hm (inK_iff.mp z), if_neg fun z => hm (mem_uniq.mp (inK_iff.mp z))]
      rw [← e1, ← e2]
      exact new
    refine wpAny_pure ⟨plainId_quiet PyProof.Rows.F.plain_set_update_loop _, ih (i + 1) _ (by omega) lt (W.frame _ s' _ _ st' (Nat.le_succ _) fun b z o e => ?_) new1 fun s2 mv2 hs2 => k s2 (Moved.trans W.gtrans ((mv.mono up).then_heap (Nat.le_succ _) fun b o z e => ?_) mv2) hs2⟩
    · rw [sb.2 b fun y : b = S => hS (y ▸ z)]
      exact e
    · rw [sb.2 b fun y : b = S => z (y ▸ List.mem_cons_self)]
      exact e
end
theorem paired_right {α β : Type} {F : α → β → Prop} : ∀ {xs : List α} {ys : List β} {i : Nat} {y : β}, Paired F xs ys → ys[i]? = some y → ∃ x, xs[i]? = some x ∧ F x y
  | _, _, _, _, .nil, h => by simp at h
  | _, _, 0, _, .cons r t, h => ⟨_, rfl, Option.some.inj h ▸ r⟩
  | _, _, i + 1, y, .cons r t, h => paired_right (i := i) t h
/-- an empty set, as it is made -/
abbrev noneSet (led : Bool) : Obj := { cls := .type "set", dict := none, data := .set #[] 0 (.fresh 0 0 led) }
section
variable {prog : Program} {w : World} {A : Around} {E : Value → Shared → Prop} {s : Shared}
set_option maxHeartbeats 8000000 in
theorem call_setK {l : Addr} {its : Array Value} {ks : List Key} {Q : Value → Shared → Prop} (hh : A.handled = none) (hl : s.heap.IsList l its ∨ s.heap.IsTuple l its) (hv : Vals (ks.map kV) its.toList) (hb : ks.length + 1 < scanBound)
    (q : ∀ (h' : Heap) (tk : Nat), h'.SetOf (mixKind prog w) s.heap.objs.size (inK ks) (uniq ks).length → (∀ b o, b < s.heap.objs.size → s.heap.get? b = some o → h'.get? b = some o) → Q (.ref s.heap.objs.size) { s with heap := h', toks := tk }) :
    wpAny (model prog w) A (call (.type "set") [.ref l]) Q E s := by
  obtain ⟨c, tl, mro⟩ := PySem.F.called_set.mro
  have made := PySem.F.called_set.made; have sub := PySem.F.called_set.sub
  refine wpAny_call (codeAny_of_tree ?_); show wpAny _ _ (callAny (.type "set") _) _ _ _
  refine wpAny_pure ⟨Code.quiet_builtin _ (by decide +kernel), codeAny_builtin PySem.F.entry_type_call ?_⟩; rw [Around.under_plain (weight_type_call_type "set" [.ref l] []) rfl]
  have y1 := PySem.F.called_set.notType; have y2 := PySem.F.called_set.canCreate; have y3 := PySem.F.typeCall_set_1 (.ref l)
  repeat (any_goals (first | assumption | wp_step))
  refine codeAny_mono (code_set_new_1 (.ref l) (E := E) (Q₁ := fun x t => ∃ led : Bool, x = .ref s.heap.objs.size ∧ t = { s with heap := s.heap.push (noneSet led) }) fun led => ⟨led, rfl, rfl⟩) fun r t hr => ?_
  cases r with
  | error e => exact hr
  | ok fl =>
    cases fl with
    | ret x =>
      obtain ⟨led, rfl, rfl⟩ := hr
      have at0 : (s.heap.push (noneSet led)).get? s.heap.objs.size = some (noneSet led) := Heap.get?_push_size _ rfl
      have ty0 : Shared.TypeIs { s with heap := s.heap.push (noneSet led) } (.ref s.heap.objs.size) "set" := ⟨_, at0, rfl⟩
      have y4 := PySem.F.called_set.init.lookup; have y5 := PySem.F.called_set.init.bind (.ref s.heap.objs.size)
      repeat (any_goals (first | assumption | wp_step))
      refine codeAny_mono (codeAny_call_builtin (R := wants (fun r t => r = .none ∧ ∃ h' tk, t = { s with heap := h', toks := tk } ∧ h'.SetOf (mixKind prog w) s.heap.objs.size (inK ks) (uniq ks).length ∧ ∀ b o, b < s.heap.objs.size → s.heap.get? b = some o → h'.get? b = some o) E)
        PySem.F.called_set.init.plain PySem.F.entry_set_init (check_set_init_1 ty0 ?_)) fun r t hr => ?_
      · have len : ks.length = its.size := by rw [← Array.length_toList, ← hv.length, List.length_map]
        have val : ∀ (i : Nat) (v : Value), its[i]? = some v → ∃ k, ks[i]? = some k ∧ RelV (kV k) v := fun i v e => by
          have e' : its.toList[i]? = some v := by rw [Array.getElem?_toList]; exact e
          obtain ⟨k, hk, rk⟩ := paired_right hv e'
          rw [List.getElem?_map] at hk
          cases z : ks[i]? with
          | none => rw [z] at hk; cases hk
          | some j => rw [z] at hk; exact ⟨j, rfl, Option.some.inj hk ▸ rk⟩
        have ins : A.in1.in1.in1.handled = none := by simp [hh]
        have ne0 : (Value.type "list" == Value.type "dict") = false := by decide
        have ne1 : (Value.type "tuple" == Value.type "dict") = false := by decide
        have z1 := PySem.F.sub_list_set; have z2 := PySem.F.sub_list_frozenset; have z3 := PySem.F.sub_tuple_set; have z4 := PySem.F.sub_tuple_frozenset
        obtain ⟨ol, hol, y6⟩ : ∃ ol, s.heap.get? l = some ol ∧ ((ol.cls = .type "list" ∨ ol.cls = .type "tuple") ∧ ∃ n, ol.data = .seq its n) := by
          rcases hl with ⟨ol, a, b, n, d⟩ | ⟨ol, a, b, n, d⟩
          · exact ⟨ol, a, .inl b, n, d⟩
          · exact ⟨ol, a, .inr b, n, d⟩
        obtain ⟨cl, dd, dt, sl⟩ := ol
        obtain ⟨hc, n, hd⟩ := y6
        simp only at hc hd
        subst hd
        have old : l < s.heap.objs.size := Heap.lt_size hol
        have hol1 : (s.heap.push (noneSet led)).get? l = some ⟨cl, dd, .seq its n, sl⟩ := Heap.get?_push_of_some _ hol
        have apart : l ≠ (s.heap.push (noneSet led)).objs.size := by rw [Heap.size_push]; exact Nat.ne_of_lt (Nat.lt_succ_of_lt old)
        have off : s.heap.objs.size ∉ [(s.heap.push (noneSet led)).objs.size, l] := by
          rw [Heap.size_push]
          simp only [List.mem_cons, List.not_mem_nil, or_false]
          exact fun z => z.elim (Nat.ne_of_lt (Nat.lt_succ_self _)) (Nat.ne_of_gt old)
        unfold Builtin.«set.__init__» noKeywords Builtin.Frozenset.updateFrom
        rcases hc with rfl | rfl
        · have seq : (s.heap.push (noneSet led)).IsList l its := ⟨_, hol1, rfl, n, rfl⟩
          generalize hPI : pyIter = PI
          wp_walk
          subst hPI
          refine wpAny_pyIter_list seq (wpAny_bind (wpAny_runValue ?_))
          refine fillK ((Walks.list ins _ l apart its).toS) s.heap.objs.size off ks len val (by rw [← len]; exact hb) its.size 0 _ (by omega) (Nat.zero_le _) ⟨⟨_, Heap.get?_push_size _ rfl, rfl, rfl⟩, (seq.push _)⟩ ?_ fun t mv new => ?_
          · exact ⟨_, #[], 0, _, Heap.get?_push_of_some _ at0, ⟨rfl, rfl, rfl⟩, rfl, fun e z => by simp at z, fun k => by simp [inK], by decide, by rfl, rfl⟩
          · obtain ⟨hp, g, dr, tk, os⟩ := t
            obtain rfl : g = s.gens := mv.gens; obtain rfl : dr = s.drawn := mv.drawn; obtain rfl : os = s.os := mv.os
            show wpAny _ _ _ _ _ _
            refine wpAny_pure ?_
            show wpAny _ _ (ret Value.none) _ _ _
            refine wpAny_pure ⟨rfl, hp, tk, rfl, new, fun b o lt e => mv.heap b o ?_ (Heap.get?_push_of_some _ (Heap.get?_push_of_some _ e))⟩
            have lt2 : b ≠ (s.heap.push (noneSet led)).objs.size := by rw [Heap.size_push]; exact Nat.ne_of_lt (Nat.lt_succ_of_lt lt)
            simp only [List.mem_cons, List.not_mem_nil, or_false]
            exact fun z => z.elim (Nat.ne_of_lt lt) lt2
        · have seq : (s.heap.push (noneSet led)).IsTuple l its := ⟨_, hol1, rfl, n, rfl⟩
          generalize hPI : pyIter = PI
          wp_walk
          subst hPI
          refine wpAny_pyIter_tuple seq (wpAny_bind (wpAny_runValue ?_))
          refine fillK ((Walks.tuple ins _ l apart its).toS) s.heap.objs.size off ks len val (by rw [← len]; exact hb) its.size 0 _ (by omega) (Nat.zero_le _) ⟨⟨_, Heap.get?_push_size _ rfl, rfl, rfl⟩, (seq.push _)⟩ ?_ fun t mv new => ?_
          · exact ⟨_, #[], 0, _, Heap.get?_push_of_some _ at0, ⟨rfl, rfl, rfl⟩, rfl, fun e z => by simp at z, fun k => by simp [inK], by decide, by rfl, rfl⟩
          · obtain ⟨hp, g, dr, tk, os⟩ := t
            obtain rfl : g = s.gens := mv.gens; obtain rfl : dr = s.drawn := mv.drawn; obtain rfl : os = s.os := mv.os
            show wpAny _ _ _ _ _ _
            refine wpAny_pure ?_
            show wpAny _ _ (ret Value.none) _ _ _
            refine wpAny_pure ⟨rfl, hp, tk, rfl, new, fun b o lt e => mv.heap b o ?_ (Heap.get?_push_of_some _ (Heap.get?_push_of_some _ e))⟩
            have lt2 : b ≠ (s.heap.push (noneSet led)).objs.size := by rw [Heap.size_push]; exact Nat.ne_of_lt (Nat.lt_succ_of_lt lt)
            simp only [List.mem_cons, List.not_mem_nil, or_false]
            exact fun z => z.elim (Nat.ne_of_lt lt) lt2
      · cases r with
        | error e => exact hr
        | ok fl =>
          cases fl with
          | ret x =>
            obtain ⟨rfl, h', tk, rfl, a1, a2⟩ := hr
            repeat (any_goals (first | assumption | wp_step))
            exact q _ _ a1 a2
          | _ => exact hr.elim
    | _ => exact hr.elim
end
end Gk
/-! ### set(..), len(..) as rules -/
namespace Gk
open PySem PySem.Spec PyProof.Rows L2
def rSetOfK (K : PySem.W.Frag) (P : Program) (w : World) : List V → Hp → VK → Prop := fun xs H Q => ∃ (l : Addr) (ks : List Key), xs = [.ref l] ∧ (SqL K H l (ks.map kV) ∨ SqT K H l (ks.map kV)) ∧ ks.length + 1 < scanBound ∧
  ∀ p, H p = none → Q (.ref p) (upd H p (SetK P w p (inK ks) (uniq ks).length))
def rLenK (P : Program) (w : World) : List V → Hp → VK → Prop := fun xs H Q => ∃ (a : Addr) (S : Key → Bool) (n : Nat), xs = [.ref a] ∧ H a = some (SetK P w a S n) ∧ Q (.int n) H
section
variable {X : Cx}
theorem cr_setOfK (hc : X.calm = true) : CallR X (.type "set") (rSetOfK X.K X.prog X.w) := by
  intro pins s σ H xs us Q I r h
  obtain ⟨l, ks, rfl, hq, hb, q⟩ := h
  obtain ⟨u, rfl, rx⟩ := vals1 r
  cases rx
  have fin : ∀ (h' : Heap) (tk : Nat), h'.SetOf (mixKind X.prog X.w) s.heap.objs.size (inK ks) (uniq ks).length → (∀ b o, b < s.heap.objs.size → s.heap.get? b = some o → h'.get? b = some o) → EP X pins σ Q (.ref s.heap.objs.size) { s with heap := h', toks := tk } := fun h' tk a1 a2 =>
    ⟨.ref _, upd H s.heap.objs.size (SetK X.prog X.w s.heap.objs.size (inK ks) (uniq ks).length), I.laid (t' := tk) (fun b u e => a2 b u (Heap.lt_size e) e) (Nat.le_refl _) (setK_new a1), rfl, q _ (I.hok.fresh (Nat.le_refl _))⟩
  rcases hq with hq | hq
  · obtain ⟨its, rv, pl, hz⟩ := I.list hq
    exact call_setK (I.ok.hd hc) (.inl pl.isList) rv hb fin
  · obtain ⟨its, rv, pl, hz⟩ := I.tuple hq
    exact call_setK (I.ok.hd hc) (.inr pl) rv hb fin
theorem cr_lenK : CallR X (.builtin "len") (rLenK X.prog X.w) := by
  intro pins s σ H xs us Q I r h
  obtain ⟨a, S, n, rfl, ha, q⟩ := h
  obtain ⟨u, rfl, rx⟩ := vals1 r
  cases rx
  obtain ⟨o, es, ep, t, ho, hex, hd, hel, hmem, hb, hf, hn⟩ := setK_get I ha
  refine call_len_set ho hex hd hf ?_ ⟨.int n, H, I.tok _, ⟨_, by rw [hn]⟩, q⟩
  have : scanBound < 2 ^ 62 := by unfold scanBound; decide
  have h2 : es.size < scanBound := hb
  omega
end
end Gk
/-! ### enumerate of a tuple -/
namespace Gk
open PySem PySem.Spec PyProof.Rows L2
theorem enumT_new (l : Addr) (its : Array Value) (n : Nat) (dct : Option Addr) (sl : Array (Option Value)) : Meets (Builtin.«enumerate.__new__» ⟨[.type "enumerate", .ref l], []⟩) (fun _ R s => s.heap.get? l = some { cls := .type "tuple", dict := dct, data := .seq its n, slots := sl } ∧
    R (.ok (.ret (.ref (s.heap.objs.size + 1)))) { s with heap := (s.heap.push { cls := .type "tuple_iterator", data := .fields #[.ref l, .int 0 0] }).push { cls := .type "enumerate", data := .fields #[.none, .bool false, .ref s.heap.objs.size, rawInt 0, .none, .none] } }) :=
  .of_wp fun prog w A R s h => by
    obtain ⟨hp, g, d, tk, os⟩ := s
    obtain ⟨hl, h⟩ := h
    have sub := sub_enumerate
    have hL : Heap.IsTuple (Shared.heap ⟨hp, g, d, tk, os⟩) l its := ⟨_, hl, rfl, n, rfl⟩
    have hz : (hp.push { cls := .type "tuple_iterator", data := .fields #[.ref l, .int 0 0] }).objs.size = hp.objs.size + 1 := Heap.size_push ..
    wp_walk using AutoSeq1.wpAny_loadPart' hl
    refine wpAny_stack_any fun st => wpAny_pure ?_
    split
    · rename_i c _ _ _ _ _
      cases (c == Value.type "enumerate") <;> wp_walk using AutoSeq1.wpAny_loadPart' hl, wpAny_pyIter_tuple hL <;> (refine ⟨_, rfl, ?_⟩; rw [← hz] at h; exact h)
    · wp_walk using AutoSeq1.wpAny_loadPart' hl, wpAny_pyIter_tuple hL
      refine ⟨_, rfl, ?_⟩
      rw [← hz] at h
      exact h
section
variable {prog : Program} {w : World} {A : Around} {E : Value → Shared → Prop} {s : Shared}
theorem call_enumT {l : Addr} {its : Array Value} {Q : Value → Shared → Prop} (hL : s.heap.IsTuple l its)
    (h : ∀ h', IsEnum h' (s.heap.objs.size + 1) s.heap.objs.size ((0 : Nat) : Int) .none → h'.IsTupleIter s.heap.objs.size l 0 → (∀ b o, s.heap.get? b = some o → h'.get? b = some o) → Q (.ref (s.heap.objs.size + 1)) { s with heap := h' }) : wpAny (model prog w) A (call (.type "enumerate") [.ref l]) Q E s := by
  obtain ⟨⟨c, dct, dt, sl⟩, hl, hc, n, hd⟩ := hL
  obtain rfl : c = .type "tuple" := hc
  obtain rfl : dt = .seq its n := hd
  refine callType_new PySem.F.called_enumerate (by decide) (PySem.F.typeCall_enumerate_1 _) (PySem.F.newCall_enumerate_1 _) (fun x => F.args_object_init_2 x _) PySem.F.entry_enumerate_new (enumT_new l its n dct sl) ⟨hl, ?_⟩
  have hz : (s.heap.push { cls := .type "tuple_iterator", data := .fields #[.ref l, .int 0 0] }).objs.size = s.heap.objs.size + 1 := Heap.size_push ..
  have he := Heap.get?_push_size (s.heap.push { cls := .type "tuple_iterator", data := .fields #[.ref l, .int 0 0] }) (o := { cls := .type "enumerate", data := .fields #[.none, .bool false, .ref s.heap.objs.size, rawInt 0, .none, .none] }) rfl
  rw [hz] at he
  exact ⟨⟨_, he, rfl⟩, h _ he ⟨_, Heap.get?_push_of_some _ (Heap.get?_push_size _ rfl), rfl, rfl⟩ fun b o y => Heap.get?_push_of_some _ (Heap.get?_push_of_some _ y)⟩
end
/-- the tuple at a, each item in a new pair -/
def Iteq (K : PySem.W.Frag) (a : Addr) : It :=
  ⟨fun i H => ∃ (xs : List V) (x : V), SqT K H a xs ∧ xs[i]? = some x, fun i H v H' => ∃ T x, v = .ref T ∧ H T = none ∧ H' = upd H T (.tup [.int (i : Nat), x]) ∧ ∀ xs, SqT K H a xs → xs[i]? = some x, fun i H => ∃ xs : List V, SqT K H a xs ∧ xs.length = i⟩
theorem turn_enumT {P : Program} {w : World} {K : PySem.W.Frag} {elts : List Expr} {kk : Nat} {tpos : Pos} (a e it : Addr) (nai : a ≠ it) (nae : e ≠ a) (nei : e ≠ it) :
    Turn P w K (.Tuple elts kk tpos) (Iteq K a) [e, it] e (fun i h => (∃ old, IsEnum h e it ((i : Nat) : Int) old) ∧ h.IsTupleIter it a i) where
  mem := by simp
  obj := fun i h st b hb => by
    obtain ⟨⟨old, he⟩, o, ho, hc, hd⟩ := st
    rcases (show b = e ∨ b = it by simpa using hb) with rfl | rfl
    · exact ⟨_, he, fun v q => nomatch q⟩
    · exact ⟨o, ho, fun v q => by rw [hd] at q; cases q⟩
  keep := fun i h h' st k => let ⟨⟨old, he⟩, hi⟩ := st; ⟨⟨old, k e (by simp) _ he⟩, hi.at fun o q => k it (by simp) o q⟩
  item := by
    intro X hP hw hK hc i pins s σ H E I hf st hg
    subst hP hw hK
    obtain ⟨⟨old, he⟩, hit⟩ := st
    obtain ⟨xs, x, hq, hx⟩ := hg
    obtain ⟨its, rv, p, hz⟩ := I.tuple hq
    obtain ⟨u, hu, ru⟩ := rv.get hx
    have hel : e < s.heap.objs.size := Heap.lt_size he
    have hil : it < s.heap.objs.size := by obtain ⟨_, q, _⟩ := hit; exact Heap.lt_size q
    have hs : X.A.in1.handled = none := by have := I.ok.hd hc; simp [this]
    have lt : i < its.toArray.size := by rw [List.size_toArray]; exact (List.getElem?_eq_some_iff.mp hu).1
    refine wpAny_pyNext_enum_itemD (PySem.Draws.tuple hs it a nai its.toArray) he ⟨hit, p⟩ lt nei (by simp [nei, nae]) fun y h' tk hy ho hit' hT hsz hk => ?_
    obtain rfl : y = u := by
      rw [show its.toArray[i]? = some u by simpa using hu] at hy
      exact (Option.some.inj hy).symm
    refine ⟨_, rfl, wpAny_letOwnedTupleGo_enum (s := { s with heap := h', toks := tk + 1 }) ho fun h2 he' sb => ?_⟩
    have hT2 : h2.get? s.heap.objs.size = some { cls := .type "tuple", data := .seq #[.int i tk, y] } := (sb.2 _ (Nat.ne_of_gt hel)).trans hT
    have new : ObjOk X.prog X.w (upd H s.heap.objs.size (.tup [.int (i : Nat), x])) h2 s.heap.objs.size (.tup [.int (i : Nat), x]) := ⟨by show 2 ≤ sizeLine; decide, [.int i tk, y], .cons ⟨_, rfl⟩ (.cons ru .nil), ⟨_, hT2, rfl, _, rfl⟩⟩
    have I1 : Inv X pins σ (upd H s.heap.objs.size (.tup [.int (i : Nat), x])) { s with heap := h2, toks := tk + 1 } :=
      I.turnedNew (ch := [e, it]) (fun b ob hb q => (sb.2 b (fun z => hb (by simp [z]))).trans (hk b ob (fun z => hb (by simp [z])) (fun z => hb (by simp [z])) q)) hf (Nat.le_refl _) new
    refine ⟨.ref s.heap.objs.size, _, I1, rfl, ⟨_, x, rfl, I.hok.fresh (Nat.le_refl _), rfl, fun ys hy => by rw [I.tuple_inj hy hq]; exact hx⟩, ⟨⟨y, ?_⟩, hit'.1.at fun o q => (sb.2 it (Ne.symm nei)).trans q⟩, fun b hb => ?_⟩
    · have e1 : ((i + 1 : Nat) : Int) = (i : Int) + 1 := by omega
      rw [e1]
      exact he'
    · have lb : b < s.heap.objs.size := by
        rcases (show b = e ∨ b = it by simpa using hb) with rfl | rfl
        · exact hel
        · exact hil
      rw [upd_ne (Nat.ne_of_lt lb)]
      exact (hf b hb).1
  done := by
    intro X hP hw hK hc i pins s σ H E I hf st hg
    subst hP hw hK
    obtain ⟨⟨old, he⟩, hit⟩ := st
    obtain ⟨xs, hq, hx⟩ := hg
    obtain ⟨its, rv, p, hz⟩ := I.tuple hq
    obtain ⟨f0, f1, f2, f3, f4, f5⟩ := hf it (by simp)
    have hl := rv.length
    have hs : X.A.in1.handled = none := by have := I.ok.hd hc; simp [this]
    have ei : i = its.toArray.size := by rw [List.size_toArray, ← hl]; exact hx.symm
    refine wpAny_pyNext_enum_endD (PySem.Draws.tuple hs it a nai its.toArray) (i := i) he (by rw [← ei]; exact ⟨hit, p⟩) fun h' eb => ⟨rfl, I.turned (t' := s.toks) (fun b o hb q => eb b o hb q) f0 f1 f3 f4 f5⟩
  self := fun A i s Q E st h => let ⟨⟨_, he⟩, _⟩ := st; wpAny_pyIter_enum he h
def iEnumT (K : PySem.W.Frag) (ta : TA) : TI := fun σ H R => ta σ H fun vs H1 => ∃ a xs, vs = [.ref a] ∧ SqT K H1 a xs ∧ R (Iteq K a) H1
theorem pi_enumT {X : Cx} {e : Expr} {ta : TA} {p pos tpos : Pos} {elts : List Expr} {kk : Nat} (hg : Gl X "enumerate") (hm : X.mg "enumerate" = none) (ha : PA X [e] ta) (hs : starEach [e] X.env = [(false, eval e X.env)] := by rfl) : PI X (.Tuple elts kk tpos) (.Call (.Name "enumerate" p) [e] [] pos) (iEnumT X.K ta) := by
  refine ⟨fun pins s σ H R I h => ?_⟩
  refine Call_ (ld_blt I hg hm boot_enumerate (PyProof.Rows.callWith_type1 (thn (ha.run pos pins s σ H _ I h) fun us s1 ⟨vs, H1, I1, r1, q1⟩ => ?_) hs rfl))
  obtain ⟨a, xs, rfl, hq, q⟩ := q1
  obtain ⟨u, rfl, r⟩ := vals1 r1
  cases r
  obtain ⟨its, rv, p', hz⟩ := I1.tuple hq
  have old : a < s1.heap.objs.size := by obtain ⟨o, ho, _⟩ := p'; exact Heap.lt_size ho
  refine call_enumT p' fun h' he hit hk => wpAny_pyIter_enum he ?_
  have I2 : Inv X pins σ H1 { s1 with heap := h' } := I1.kept (t' := s1.toks) hk
  refine ⟨s1.heap.objs.size + 1, [s1.heap.objs.size + 1, s1.heap.objs.size], _, _, H1, rfl, I2, turn_enumT a (s1.heap.objs.size + 1) s1.heap.objs.size (Nat.ne_of_lt old) (Nat.ne_of_gt (Nat.lt_succ_of_lt old)) (Nat.succ_ne_self _), ⟨⟨.none, he⟩, hit⟩, fun b hb => ?_, q⟩
  have le : s1.heap.objs.size ≤ b := by
    rcases (show b = s1.heap.objs.size + 1 ∨ b = s1.heap.objs.size by simpa using hb) with z | z
    · rw [z]; exact Nat.le_add_right _ _
    · rw [z]; exact Nat.le_refl _
  exact I1.fpOk le (I1.hok.fresh le)
theorem walk_enumT {K : PySem.W.Frag} {a : Addr} {xs : List V} : Walk (Iteq K a) xs.length (fun H => SqT K H a xs) (YPair (fun i => some (.int (i : Nat))) (fun i => xs[i]?)) := by
  refine ⟨fun i _ hi q => ⟨xs, xs[i], q, by simp [hi]⟩, fun _ q => ⟨xs, q, rfl⟩, fun i H v H' _ q y => ?_⟩
  obtain ⟨T, x, h1, h2, h3, h4⟩ := y
  exact ⟨T, .int (i : Nat), x, h1, h2, h3, rfl, h4 xs q⟩
end Gk
/-! ### sorted of a tuple of texts -/
namespace Gk
open PySem PySem.Spec PyProof.Rows L2
def rSortedTS (K : PySem.W.Frag) : List V → Hp → VK → Prop := fun vs H Q => ∃ (a : Addr) (xs : List Str), vs = [V.ref a] ∧ SqT K H a (xs.map V.str) ∧ xs.length < 64 ∧
  ∀ (ys : List Str) (p : Addr), ys.Perm xs → sortedS ys = true → H p = none → ∀ H', (∀ b u, H b = some u → H' b = some u) → H' p = some (.lst (ys.map V.str)) → Q (.ref p) H'
theorem cr_sortedTS {X : Cx} : CallR X (.builtin "sorted") (rSortedTS X.K) := by
  intro pins s σ H vs us Q I r q
  obtain ⟨a, xs, rfl, hs, h64, q⟩ := q
  obtain ⟨its, rv, pl, hz⟩ := I.tuple hs
  obtain ⟨u, rfl, ru⟩ := vals1 r
  cases ru
  obtain ⟨o, ho, hc, n, hd⟩ := pl
  have hS : StrsAre its xs := rv.strs
  have hl : its.length = xs.length := hS.len_eq
  refine Calls.call_function_entry kind_sorted plain_sorted entry_sorted (args_sorted1 _) ?_
  unfold Builtin.«sorted»; refine wpAny_bind (m := checkCount "sorted" 1 1 _) (wpAny_pure ?_)
  refine wpAny_bind (wpAny_collect_seq a (.inr rfl) ho hc hd (fun h1 hk => ?_) (by rw [List.size_toArray, hl, sizeLine_eq]; omega))
  show wpAny _ _ _ _ _ { s with heap := h1 }
  rw [List.toList_toArray]
  have I1 : Inv X pins σ H { s with heap := h1 } := I.kept (t' := s.toks) hk
  refine wpAny_bind (wpAny_newList ?_ (by rw [hl, sizeLine_eq]; omega))
  have at1 : (h1.push (seqObj "list" its.toArray 0)).get? h1.objs.size = some (seqObj "list" its.toArray 0) := Heap.get?_push_size _ rfl
  show wpAny _ _ _ _ _ { s with heap := h1.push (seqObj "list" its.toArray 0) }
  refine wpAny_bind (wpAny_holding (wpAny_call_entry slot_list_sort ⟨_, at1, rfl⟩ entry_list_sort (list_sort_treeK strKind_oneLt (s := { s with heap := h1.push (seqObj "list" its.toArray 0) }) at1 hS.keysOf (fun v1 v2 rest e => keyKind_strs (by rw [← e]; exact hS)) (by rw [hl]; exact h64) fun st hp hq => ⟨_, rfl, ?_⟩) (args_list_sort _)))
  obtain ⟨ys, g1, g2, g3⟩ := sorted_out_str hS hp hq
  obtain ⟨ep, he⟩ := sortedHeap_at (vs := its) (out := (arrOf st).map (·.2)) at1
  have len : (ys.map V.str).length ≤ sizeLine := by rw [List.length_map, g2.length_eq, sizeLine_eq]; omega
  have fr := I1.hok.fresh (Nat.le_refl _)
  refine wpAny_pure ⟨_, rfl, .ref h1.objs.size, upd H h1.objs.size (.lst (ys.map V.str)), I1.laid (t' := s.toks) (fun b u e => ?_) (Nat.le_refl _) (show ObjOk X.prog X.w _ _ _ (.lst (ys.map V.str)) from ⟨len, ((arrOf st).map (·.2)).toList, ep, vals_of_strs g1, by rw [Array.toArray_toList]; exact he⟩), rfl,
    q ys _ g2 g3 fr _ (fun b u e => by rw [upd_ne (ne_of_none e fr)]; exact e) upd_same⟩
  have hb : b < h1.objs.size := Heap.lt_size e
  rw [sortedHeap_old (Nat.ne_of_lt hb) (by rw [Heap.size_push]; exact Nat.lt_succ_of_lt hb)]; exact Heap.get?_push_of_some _ e
end Gk
/-! ### _rows_of, for members as they must be -/
namespace Gk
open PySem PySem.W PySem.Spec PyProof.Rows L2 NdefX
abbrev sRowsOf : Stmt := (top 21)
theorem pi_or {X : Cx} {tg e : Expr} {w1 w2 : TI} (h1 : PI X tg e w1) (h2 : PI X tg e w2) : PI X tg e (fun σ H R => w1 σ H R ∨ w2 σ H R) := ⟨fun pins s σ H R I h => h.elim (h1.run pins s σ H R I) (h2.run pins s σ H R I)⟩
def marksOf (rows : List Row) : List Key := rows.flatMap fun r => (Sum.inr r.name :: r.al.map Sum.inr) ++ [Sum.inl r.num]
structure SortedRow (x y : Row) : Prop where
  nm : y.name = x.name
  num : y.num = x.num
  perm : y.al.Perm x.al
  srt : sortedS y.al = true
def MembersK (K : Frag) (H : Hp) (a : Addr) (rows : List Row) : Prop := ∃ vs, (SqL K H a vs ∨ SqT K H a vs) ∧ Paired (RowK K H) vs rows
structure RowsOk (rows : List Row) : Prop where
  lo : 1 ≤ rows.length
  hi : rows.length ≤ 16
  each : ∀ x ∈ rows, RowOk x
  few : ∀ x ∈ rows, x.al.length < 20
  nd : (marksOf rows).Nodup
def spRowsOf (K : Frag) : Sp := fun vs H Q _ => ∃ (a : Addr) (rows : List Row), vs = [.ref a] ∧ MembersK K H a rows ∧ RowsOk rows ∧
  ∀ (H' : Hp) (q : Addr) (rows' : List Row), Same H H' → H q = none → RowsAt H' q rows' → Paired SortedRow rows rows' → Q (.ref q) H'
section
variable {P : Program} {w : World} {K : Frag} {mg : Str → Option Value} {base : Heap}
abbrev nRowsOf : List Str := ["members", "rows", "taken", "position", "entry", "name", "aliases", "number", "marks", "mark"]
theorem scRowsOf : FnScope nRowsOf ["members"] (defScope sRowsOf) := ⟨rfl, rfl, rfl, by decide +kernel, rfl, by decide +kernel, by decide +kernel⟩
theorem boot_set' : bootBuiltins "set" = some (.type "set") := by decide +kernel
theorem boot_any' : bootBuiltins "any" = some (.builtin "any") := by decide +kernel
theorem boot_sorted' : bootBuiltins "sorted" = some (.builtin "sorted") := by decide +kernel
theorem boot_list2 : bootBuiltins "list" = some (.type "list") := by decide +kernel
structure RowsTxt (P : Program) (w : World) (K : Frag) (mg : Str → Option Value) (base : Heap) : Prop where
  isi : mg "isinstance" = none
  tup : mg "tuple" = none
  lst : mg "list" = none
  len : mg "len" = none
  any : mg "any" = none
  set : mg "set" = none
  srt : mg "sorted" = none
  enum : mg "enumerate" = none
  most : ∃ t, mg "MOST_MEMBERS" = some (.int 16 t)
  ent : ∃ f fd, FnOk P w K mg base CX0 2 f fd ["value"] (spEntry K) ∧ Binds K fd ["value"] [] ∧ mg "_is_entry" = some (.ref f) ∧ keepIn K (.ref f) = true
end
end Gk
/-! ### one turn of _rows_of -/
namespace Gk
open PySem PySem.W PySem.Spec PyProof.Rows L2 NdefX
abbrev rLenSeq (K : Frag) : List V → Hp → VK → Prop := fun xs H Q => ∃ p ys, xs = [.ref p] ∧ (SqL K H p ys ∨ SqT K H p ys) ∧ Q (.int ys.length) H
abbrev rTupOf (K : Frag) : List V → Hp → VK → Prop := fun xs H Q => ∃ p ys, xs = [.ref p] ∧ ((SqL K H p ys ∧ ∀ l, H l = none → Q (.ref l) (upd H l (.tup ys))) ∨ (SqT K H p ys ∧ Q (.ref p) H))
abbrev tRowTurn (K : Frag) (P : Program) (w : World) : TS := tSeq (tIfS (tNot (tB (tCall (spEntry K) [] E0 (tCons (tVar 4) tNil)))) (fun _ _ _ => False) tNext)
  (tSeq (tAsg (tVar 4) (gTup K 3 (gCons (gName 5) (gCons (gName 6) (gCons (gName 7) gNil)))))
  (tSeq (tAsg (tLst (tCons (tVar 5) (StX.tStar K (tVar 6) (tCons (tVar 7) tNil)))) (gName 8))
  (tSeq (tIfS (tOr (tTest (tOp (rI0 fun i j => .bl (decide (i < j))) (tCB (rLenK P w) (tCons (tCB (rSetOfK K P w) (tCons (tVar 8) tNil)) tNil)) (tCB (rLenSeq K) (tCons (tVar 8) tNil))))
      (tB (tCB (rAny K) (tCons (tLc (iList K (tVar 8)) (gName 9) tYes (tDIn (tVar 9) (tVar 2)) [9]) tNil)))) (fun _ _ _ => False) tNext)
  (tSeq (tFor (iList K (tVar 8)) (gName 9) (tAsg (tC (.bl true)) (gSub (tVar 2) (tVar 9) rSetD)))
    (tDrop (tBM K "list" rAppend (tVar 1) (tCons (tTup (tCons (tVar 5) (tCons (tCB (rTupOf K) (tCons (tCB (rSortedTS K) (tCons (tVar 6) tNil)) tNil)) (tCons (tVar 7) tNil)))) tNil)))))))
theorem valV_no {kvs : List (Key × V)} {k : Key} (h : k ∉ kvs.map (·.1)) : valV kvs k = none := by
  induction kvs with
  | nil => rfl
  | cons p r ih =>
    rw [valV_neg fun e => h (by rw [List.map_cons]; exact List.mem_cons.mpr (.inl e.symm))]
    exact ih fun z => h (by rw [List.map_cons]; exact List.mem_cons_of_mem _ z)
theorem marks_one (x : Row) : V.str x.name :: (x.al.map V.str ++ [V.int x.num]) = (marksOf [x]).map kV := by
  simp only [marksOf, List.flatMap_cons, List.flatMap_nil, List.append_nil, List.map_append, List.map_cons, List.map_nil, List.map_map, List.cons_append]
  rfl
theorem marks_len (x : Row) : (marksOf [x]).length = x.al.length + 2 := by simp [marksOf]
theorem RowsAt.dput {H : Hp} {d r : Addr} {rows : List Row} {k1 k2 : List (Key × V)} (h : RowsAt H r rows) (hd : H d = some (.dK k1)) : RowsAt (upd H d (.dK k2)) r rows := by
  obtain ⟨vs, h1, h2⟩ := h
  refine ⟨vs, by rw [upd_ne (ne_of h1 hd fun z => by cases z)]; exact h1, paired_map (fun v y z => ?_) h2⟩
  obtain ⟨t, a, e, g1, g2⟩ := z
  exact ⟨t, a, e, by rw [upd_ne (ne_of g1 hd fun z => by cases z)]; exact g1, by rw [upd_ne (ne_of g2 hd fun z => by cases z)]; exact g2⟩
theorem RowK.on {K : Frag} {H H' : Hp} {v : V} {x : Row} (h : RowK K H v x) (s : Same H H') : RowK K H' v x := h.later s
theorem row_turn {P : Program} {w : World} {K : Frag} {H H1 : Hp} {rl tk : Addr} {v : V} {x : Row} {rows' : List Row} {kvs : List (Key × V)} {done : List Key} {s0 s3' s5' s6 s7 s8 s9 : Option V} {D : Ends} (s1 : Same H H1) (hv : RowK K H1 v x) (ok : RowOk x) (few : x.al.length < 20)
    (hR : RowsAt H1 rl rows') (hr : rows'.length ≤ 16) (hT : H1 tk = some (.dK kvs)) (eT : kvs.map (·.1) = done) (nd : (done ++ marksOf [x]).Nodup) (hz : done.length ≤ 1000) (n1 : H rl = none) (n2 : H tk = none)
    (k : ∀ H' y v5 v6 v7 v8 v9 kvs', Same H H' → RowsAt H' rl (rows' ++ [y]) → SortedRow x y → H' tk = some (.dK kvs') → kvs'.map (·.1) = done ++ marksOf [x] → D.nx [s0, some (.ref rl), some (.ref tk), s3', some v, v5, v6, v7, v8, v9] H') :
    tRowTurn K P w D [s0, some (.ref rl), some (.ref tk), s3', some v, s5', s6, s7, s8, s9] H1 := by
  refine rd_seq (rd_if (rd_not (rd_b (rd_call (rd_cons (rd_var rfl (rd_nil ⟨v, x, rfl, hv, ok, fun H2 s2 => ⟨true, rfl, ite_no rfl (rd_next ?_)⟩⟩)))))))
  have hv := hv.later s2
  have hR := hR.later s2
  have hT := s2 _ _ hT
  have s2 := s1.trans s2
  obtain ⟨t, al, rfl, ht, ha⟩ := hv
  refine rd_seq (rd_asg (rd_var rfl ⟨t, _, rfl, ht, rfl, _, _, rfl, _, _, rfl, _, _, rfl, rfl, ?_⟩))
  refine rd_seq (rd_asg (rd_lst (rd_cons (rd_var rfl ⟨_, rfl, al, _, rfl, .inl ha, rd_cons (rd_var rfl (rd_nil ⟨?_, fun m hm => ?_⟩))⟩))))
  · show (V.str x.name :: (x.al.map V.str ++ [V.int x.num])).length ≤ sizeLine
    simp only [List.length_cons, List.length_append, List.length_map, List.length_nil]
    exact Nat.le_trans (show x.al.length + (0 + 1) + 1 ≤ 100 by omega) (by decide)
  rw [marks_one]
  have ml := marks_len x
  generalize hks : marksOf [x] = ks at nd k ml
  have s3 : Same H2 (upd H2 m (.lst (ks.map kV))) := (Same.refl H2).new hm
  have cm : upd H2 m (.lst (ks.map kV)) m = some (.lst (ks.map kV)) := upd_same
  generalize upd H2 m (.lst (ks.map kV)) = H3 at s3 cm
  have hR := hR.later s3
  have hT := s3 _ _ hT
  have ha := s3.sqT ha
  have s3 := s2.trans s3
  have kl : (ks.map kV).length ≤ 100 := by rw [List.length_map]; omega
  obtain ⟨nd1, nd2, nd3⟩ := List.nodup_append.mp nd
  walk_at "rd"
  refine ⟨m, ks, rfl, .inl (SqL.of cm), ?_, fun sp hsp => ?_⟩
  · rw [List.length_map] at kl
    exact Nat.lt_of_le_of_lt (show ks.length + 1 ≤ 101 by omega) (by decide)
  have s4 : Same H3 (upd H3 sp (SetK P w sp (inK ks) (uniq ks).length)) := (Same.refl H3).new hsp
  have csp : upd H3 sp (SetK P w sp (inK ks) (uniq ks).length) sp = some (SetK P w sp (inK ks) (uniq ks).length) := upd_same
  generalize upd H3 sp (SetK P w sp (inK ks) (uniq ks).length) = H4 at s4 csp
  have cm := s4 _ _ cm
  have hR := hR.later s4
  have hT := s4 _ _ hT
  have ha := s4.sqT ha
  have s4 := s3.trans s4
  refine rd_nil ⟨sp, _, _, rfl, csp, ?_⟩
  walk_at "rd"
  refine ⟨m, _, rfl, .inl (SqL.of cm), _, _, rfl, rfl, _, rfl, ite_no ?_ ?_⟩
  · rw [decide_eq_false_iff_not, List.length_map, uniq_eq.mpr nd2]
    omega
  walk_at "rd"
  refine ⟨_, rfl, m, rfl, ⟨_, SqL.of cm⟩, fun D0 hD0 => ?_⟩
  refine lc_list (K := K) (a := m) (xs := ks.map kV) (fun i H' => Same H4 H' ∧ H' D0 = some (.lst ((List.replicate i false).map V.bl))) ⟨(Same.refl H4).new hD0, upd_same⟩ (fun i H' _ z => SqL.of (z.1 _ _ cm)) ?_ ?_
  · rintro i y H5 hi ⟨s5, c5⟩
    obtain ⟨j, hj, rfl⟩ : ∃ j, ks[i]? = some j ∧ y = kV j := by
      rw [List.getElem?_map] at hi
      cases e : ks[i]? with
      | none => rw [e] at hi; cases hi
      | some n => rw [e] at hi; exact ⟨n, rfl, (Option.some.inj hi).symm⟩
    have il : i < ks.length := (List.getElem?_eq_some_iff.mp hj).1
    have no : valV kvs j = none := valV_no fun z => nd3 j (by rw [← eT]; exact z) j (List.mem_of_getElem? hj) rfl
    refine rd_gn ⟨rfl, rd_yes ⟨_, rfl, _, rfl, tk, _, rfl, DGet.k (s5 _ _ hT), _, c5, ?_, s5.mut hD0, ?_⟩⟩
    · rw [List.length_map, List.length_replicate]
      exact Nat.lt_of_le_of_lt (show i ≤ 100 by rw [List.length_map] at kl; omega) (by decide)
    · rw [upd_same, no, List.replicate_succ', List.map_append]
      rfl
  rintro H5 ⟨s5, c5⟩
  refine rd_nil ⟨D0, _, rfl, SqL.of c5, false, ?_, ite_no rfl (rd_next ?_)⟩
  · congr 1
    rw [List.any_eq_false]
    intro b hb
    rw [List.eq_of_mem_replicate hb]
    decide
  have cm := s5 _ _ cm
  have hR := hR.later s5
  have hT := s5 _ _ hT
  have ha := s5.sqT ha
  have s5 := s4.trans s5
  have m0 : m ≠ tk := ne_of cm hT fun z => by cases z
  refine rd_seq ⟨_, rfl, m, rfl, ⟨_, SqL.of cm⟩, ?_⟩
  refine for_list (K := K) (a := m) (xs := ks.map kV) (fun i σ H' => ∃ v9 kv', σ = [s0, some (.ref rl), some (.ref tk), s3', some (.ref t), some (.str x.name), some (.ref al), some (.int x.num), some (.ref m), v9] ∧ Same H H' ∧ H' m = some (.lst (ks.map kV)) ∧ RowsAt H' rl rows' ∧ SqT K H' al (x.al.map V.str) ∧ H' tk = some (.dK kv') ∧ kv'.map (·.1) = done ++ ks.take i)
    ⟨_, kvs, rfl, s5, cm, hR, ha, hT, by rw [eT]; simp⟩ ?_ ?_ ?_
  · rintro i σ H' _ ⟨v9, kv', rfl, _, c, _⟩
    exact SqL.of c
  · rintro i y σ H' hi ⟨v9, kv', rfl, q, c, r, sa, ct, ek⟩
    obtain ⟨j, hj, rfl⟩ : ∃ j, ks[i]? = some j ∧ y = kV j := by
      rw [List.getElem?_map] at hi
      cases e : ks[i]? with
      | none => rw [e] at hi; cases hi
      | some n => rw [e] at hi; exact ⟨n, rfl, (Option.some.inj hi).symm⟩
    have il : i < ks.length := (List.getElem?_eq_some_iff.mp hj).1
    have no : valV kv' j = none := valV_no fun z => by
      rw [ek] at z
      rcases List.mem_append.mp z with z | z
      · exact nd3 j z j (List.mem_of_getElem? hj) rfl
      · obtain ⟨b, hb⟩ := List.mem_iff_getElem?.mp z
        rw [List.getElem?_take] at hb
        split at hb
        · rename_i hbi
          have := (List.getElem?_inj (by omega) nd2).mp (hb.trans hj.symm)
          omega
        · cases hb
    have kvl : kv'.length ≤ 1100 := by
      have := congrArg List.length ek
      rw [List.length_map, List.length_append, List.length_take] at this
      rw [List.length_map] at kl
      omega
    refine rd_gn (rd_asg (rd_c ⟨_, rfl, _, rfl, tk, _, rfl, DPut.k (k := j) ct (Nat.lt_of_le_of_lt kvl (by decide)), ?_⟩))
    rw [putK_new _ no]
    refine ⟨_, _, rfl, q.mut n2, ?_, r.dput ct, ?_, upd_same, ?_⟩
    · rw [upd_ne (ne_of c ct fun z => by cases z)]
      exact c
    · rcases sa with (sa | ⟨u, sa⟩) | sa
      · exact .inl (.inl (by rw [upd_ne (ne_of sa ct fun z => by cases z)]; exact sa))
      · exact .inl (.inr ⟨u, by rw [upd_ne (ne_of sa ct fun z => by cases z)]; exact sa⟩)
      · exact .inr sa
    · rw [List.map_append, ek, List.take_add_one, hj, List.append_assoc]
      rfl
  · rintro σ H' ⟨v9, kv', rfl, q, c, r, sa, ct, ek⟩
    rw [List.length_map, List.take_length] at ek
    obtain ⟨us, hus, lus⟩ : ∃ us, H' rl = some (.lst us) ∧ us.length = rows'.length := by
      obtain ⟨us, z1, z2⟩ := r
      exact ⟨us, z1, paired_len z2⟩
    refine rd_drop (rd_bm (rd_var rfl ⟨?_, ?_⟩))
    · exact .inl ⟨rfl, _, SqL.of hus⟩
    refine rd_cons (rd_tup (rd_cons (rd_var rfl (rd_cons (rd_cb (rd_cons (rd_cb (rd_cons (rd_var rfl (rd_nil ⟨al, x.al, rfl, sa, by omega, fun ys sl py sy hsl H6 s6 c6 => ?_⟩)))))))))) 
    refine rd_nil ⟨sl, _, rfl, .inl ⟨SqL.of c6, fun ta hta => ?_⟩⟩
    have s7 : Same H6 (upd H6 ta (.tup (ys.map V.str))) := (Same.refl H6).new hta
    have c7 : upd H6 ta (.tup (ys.map V.str)) ta = some (.tup (ys.map V.str)) := upd_same
    generalize upd H6 ta (.tup (ys.map V.str)) = H7 at s7 c7
    refine rd_cons (rd_var rfl (rd_nil ⟨Nat.le_trans (show 3 ≤ 100 by decide) (by decide), fun tt htt => ?_⟩))
    have s8 : Same H7 (upd H7 tt (.tup [.str x.name, .ref ta, .int x.num])) := (Same.refl H7).new htt
    have cx : RowAt (upd H7 tt (.tup [.str x.name, .ref ta, .int x.num])) (.ref tt) ⟨x.name, ys, x.num⟩ := ⟨tt, ta, rfl, upd_same, s8 _ _ c7⟩
    show tNil _ (upd H7 tt (.tup [.str x.name, .ref ta, .int x.num])) _
    generalize upd H7 tt (.tup [.str x.name, .ref ta, .int x.num]) = H8 at s8 cx
    have sx : Same H' H8 := fun b u e => s8 b u (s7 b u (s6 b u e))
    obtain ⟨us, hus, lus, rX⟩ := (r.later sx).more cx
    refine rd_nil ⟨rl, us, .ref tt, rfl, rfl, hus, Nat.lt_of_le_of_lt (show us.length ≤ 100 by omega) (by decide), ?_⟩
    refine k _ ⟨x.name, ys, x.num⟩ _ _ _ _ _ kv' ((q.trans sx).mut n1) rX ⟨rfl, rfl, py, sy⟩ ?_ ek
    rw [upd_ne (ne_of (sx _ _ ct) hus fun z => by cases z)]
    exact sx _ _ ct
end Gk
/-! ### _rows_of -/
namespace Gk
open PySem PySem.W PySem.Spec PyProof.Rows L2 NdefX
section
variable {P : Program} {w : World} {K : Frag} {mg : Str → Option Value} {base : Heap}
theorem enum_both {Hb H : Hp} {σ : L2.St} {a : Addr} {vs : List V} {R : It → Hp → Prop} (h0 : σ[0]? = some (some (.ref a))) (hq : SqL K Hb a vs ∨ SqT K Hb a vs) (s : Same Hb H)
    (h : ∀ (J : It) (G : Hp → Prop), Walk J vs.length G (YPair (fun i => some (.int (i : Nat))) fun i => vs[i]?) → (∀ H', Same Hb H' → G H') → R J H) : iEnum K (tCons (tVar 0) tNil) σ H R ∨ iEnumT K (tCons (tVar 0) tNil) σ H R := by
  rcases hq with hq | hq
  · exact .inl ⟨_, h0, a, vs, rfl, s.seq hq, h _ _ (walk_enum (xs := vs)) fun H' s' => s'.seq hq⟩
  · exact .inr ⟨_, h0, a, vs, rfl, s.sqT hq, h _ _ (walk_enumT (xs := vs)) fun H' s' => s'.sqT hq⟩
theorem marks_more (l : List Row) (x : Row) : marksOf (l ++ [x]) = marksOf l ++ marksOf [x] := by unfold marksOf; rw [List.flatMap_append]
theorem marks_size : ∀ {l : List Row}, (∀ x ∈ l, x.al.length < 20) → (marksOf l).length ≤ l.length * 22
  | [], _ => Nat.zero_le _
  | x :: l, h => by
    have h1 := marks_size fun y hy => h y (List.mem_cons_of_mem _ hy)
    have h2 := h x List.mem_cons_self
    have e : marksOf (x :: l) = marksOf [x] ++ marksOf l := by rw [← List.singleton_append]; unfold marksOf; rw [List.flatMap_append]
    rw [e, List.length_append, marks_len, List.length_cons]
    omega
theorem paired_take {α β : Type} {F : α → β → Prop} {xs : List α} {ys : List β} {x : α} {y : β} {i : Nat} (h : Paired F (xs.take i) ys) (hx : xs[i]? = some x) (f : F x y) : Paired F (xs.take (i + 1)) (ys ++ [y]) := by
  rw [List.take_add_one, hx]
  exact paired_more f h
theorem ok_rowsof {f : Addr} {fd : FuncData} (F : Fun K "_rows_of" "_rows_of" sRowsOf f fd) (T : RowsTxt P w K mg base) : FnOk P w K mg base CX0 3 f fd ["members"] (spRowsOf K) := by
  obtain ⟨t16, g16⟩ := T.most
  obtain ⟨fE, fdE, GE, bE, gE, kE⟩ := T.ent
  refine F.ok scRowsOf (fun vs H Q E h => ?_) (fun cdv A outer s H vs Q E hr h => ?_)
  · obtain ⟨a, rows, rfl, _⟩ := h
    rfl
  · obtain ⟨a, rows, rfl, hM, ok, k⟩ := h
    have nd := scRowsOf.nd
    have hu := hu_of hr
    refine ⟨_, (pss_cons (ps_if (PW.pt (pw_or (pt_not (pt_val (pe_callB call_isiT (by rfl) T.isi boot_isi' (pa_cons (pv 0) (pa_cons (pe_tup (pa_cons (pe_bltn (v := .ty "list") (by rfl) T.lst boot_list2 rfl) (pa_cons (pe_bltn (v := .ty "tuple") (by rfl) T.tup boot_tuple' rfl) pa_nil))) pa_nil))))) (pw_or1 (pt_not (pt_chain op_le op_le pe_int (pe_callB call_len_seq (by rfl) T.len PySem.boot_len (pa_cons (pv 0) pa_nil)) (pe_glob (v := .int 16) (by rfl) g16 ⟨_, rfl⟩)))))) pss_dead pss_nil)
      (pss_cons (ps_set (i := 1) nd rfl (Or.inl rfl) (pe_lst pa_nil))
      (pss_cons (ps_set (i := 2) nd rfl (Or.inr rfl) pe_dnewK)
      (pss_cons (ps_for PassesOwn.never rfl (pi_or (pi_enum (by rfl) T.enum (pa_cons (pv 0) pa_nil)) (pi_enumT (by rfl) T.enum (pa_cons (pv 0) pa_nil))) (pg_tup rfl (pgs_cons (pg_name (i := 3) nd rfl (Or.inl rfl)) (pgs_cons (pg_name (i := 4) nd rfl (Or.inl rfl)) pgs_nil))) (pss_cons (ps_if (pt_not (pt_val (pe_call GE hr (by rfl) gE kE bE .nil pass0 (pa_cons (pv 4) pa_nil)))) pss_dead pss_nil)
      (pss_cons (ps_asg (pv 4) (pg_tup rfl (pgs_cons (pg_name (i := 5) nd rfl (Or.inl rfl)) (pgs_cons (pg_name (i := 6) nd rfl (Or.inl rfl)) (pgs_cons (pg_name (i := 7) nd rfl (Or.inl rfl)) pgs_nil)))))
      (pss_cons (ps_set (i := 8) nd rfl (Or.inl rfl) (pe_lst (pa_cons (pv 5) (StX.pa_star (pv 6) (pa_cons (pv 7) pa_nil)))))
      (pss_cons (ps_if (PW.pt (pw_or (pt_cmpR op_lt (pe_callB cr_lenK (by rfl) T.len PySem.boot_len (pa_cons (pe_callTy (cr_setOfK rfl) (by rfl) T.set boot_set' (pa_cons (pv 8) pa_nil)) pa_nil)) (pe_callB call_len_seq (by rfl) T.len PySem.boot_len (pa_cons (pv 8) pa_nil)) (nomark _)) (pw_or1 (pt_val (pe_callB (cr_any rfl) (by rfl) T.any boot_any' (pa_cons (pe_lc (own := [("mark", 9)]) (te := tDIn (tVar 9) (tVar 2)) (g := gName 9) (tt := tYes) rfl nd (pi_list (pv 8)) (blkOk_by (N := nRowsOf) (sc := defScope sRowsOf) (by decide +kernel))
          (fun _ _ _ _ _ => pg_name (i := 9) nd rfl (Or.inl rfl)) (fun _ _ _ _ _ => pts_nil) (fun _ _ _ _ _ => by exact (pe_cmp (pc_din hu (pv 9) (pv 2))))) pa_nil)))))) pss_dead pss_nil)
      (pss_cons (ps_for PassesOwn.never rfl (pi_list (pv 8)) (pg_name (i := 9) nd rfl (Or.inl rfl)) (pss_one (ps_asg pe_bl (by exact (pg_sub (pv 2) (pv 9) (L2.set_dict hu))))))
      (pss_one (ps_expr (pe_bm PySem.F.plainAttrs_list PySem.F.slot_list_append PySem.F.type_list_append mt_append (pv 1) (pa_cons (pe_tup (pa_cons (pv 5) (pa_cons (pe_callTy call_tuple_of (by rfl) T.tup boot_tuple' (pa_cons (pe_callB cr_sortedTS (by rfl) T.srt boot_sorted' (pa_cons (pv 6) pa_nil)) pa_nil)) (pa_cons (pv 7) pa_nil)))) pa_nil))))))))))
      (pss_one (ps_ret (pv 1))))))), ?_⟩
    walk_at "rd"
    refine ⟨Nat.le_trans (show 2 ≤ 100 by decide) (by decide), fun tp htp => ?_⟩
    have s1 : Same H (upd H tp (.tup [V.ty "list", .ty "tuple"])) := (Same.refl H).new htp
    have ct : upd H tp (.tup [V.ty "list", .ty "tuple"]) tp = some (.tup [V.ty "list", .ty "tuple"]) := upd_same
    generalize upd H tp (.tup [V.ty "list", .ty "tuple"]) = H1 at s1 ct
    obtain ⟨vs, hseq, pv⟩ := hM
    have lv := paired_len pv
    have hseq1 : SqL K H1 a vs ∨ SqT K H1 a vs := hseq.imp s1.seq s1.sqT
    have isi : ∀ {Q : VK}, Q (.bl true) H1 → rIsiT K [.ref a, .ref tp] H1 Q := fun q => by
      rcases hseq1 with z | z
      · exact ⟨_, tp, _, _, _, true, rfl, ct, .cons (.ty "list") (.cons (.ty "tuple") .nil), (AnyV.lst a _ z).ty, kitAny_cons (b := true) (kit_ty (by decide +kernel)) (fun e => by cases e) (fun _ => rfl), q⟩
      · exact ⟨_, tp, _, _, _, true, rfl, ct, .cons (.ty "list") (.cons (.ty "tuple") .nil), (AnyV.tup a _ z).ty, kitAny_cons (b := false) (kit_ty (by decide +kernel)) (fun _ => kitAny_cons (b := true) (kit_ty (by decide +kernel)) (fun e => by cases e) (fun _ => rfl)) (fun e => by cases e), q⟩
    refine rd_nil (isi ⟨true, rfl, ite_no rfl ?_⟩)
    refine rd_not (rd_test (rd_c (rd_cb (rd_cons (rd_var rfl (rd_nil ⟨a, vs, rfl, hseq1, _, _, rfl, rfl, _, rfl, ?_⟩))))))
    have lo := ok.lo
    have hi := ok.hi
    refine ite_yes (by rw [decide_eq_true_eq, lv]; omega) (rd_c ⟨_, _, rfl, rfl, _, rfl, ite_no (by rw [decide_eq_true (by rw [lv]; omega)]; rfl) (rd_next ?_)⟩)
    walk_at "rd"
    refine ⟨Nat.zero_le _, fun rl hrl => ?_⟩
    have s2 : Same H (upd H1 rl (.lst [])) := s1.new hrl
    have cR : RowsAt (upd H1 rl (.lst [])) rl [] := ⟨[], upd_same, .nil⟩
    have nrl : H rl = none := s1.free hrl
    generalize upd H1 rl (.lst []) = H2 at s2 cR
    refine rd_gn ?_
    walk_at "rd"
    intro tk htk
    have s3 : Same H (upd H2 tk (.dK [])) := s2.new htk
    have cR := cR.later ((Same.refl H2).new (o := .dK []) htk)
    have cT : upd H2 tk (.dK []) tk = some (.dK []) := upd_same
    have ntk : H tk = none := s2.free htk
    generalize upd H2 tk (.dK []) = H3 at s3 cR cT
    refine rd_gn (rd_seq ?_)
    refine enum_both (K := K) (a := a) rfl hseq s3 fun J G wk hG => ?_
    refine for_it wk (fun i σ H' => ∃ s3' v4 v5 v6 v7 v8 v9 rows' kvs, σ = [some (.ref a), some (.ref rl), some (.ref tk), s3', v4, v5, v6, v7, v8, v9] ∧ Same H H' ∧ RowsAt H' rl rows' ∧ Paired SortedRow (rows.take i) rows' ∧ H' tk = some (.dK kvs) ∧ kvs.map (·.1) = marksOf (rows.take i))
      ⟨_, _, _, _, _, _, _, [], [], rfl, s3, cR, .nil, cT, rfl⟩ ?_ ?_ ?_
    · rintro i σ H' _ ⟨s3', v4, v5, v6, v7, v8, v9, rows', kvs, rfl, q, _⟩
      exact hG H' q
    · rintro i y σ Ha Hb hi ⟨s3', v4, v5, v6, v7, v8, v9, rows', kvs, rfl, q, r, ps, ct, ek⟩ ⟨T0, y1, y2, rfl, hT0, rfl, e1, e2⟩
      obtain rfl := Option.some.inj e1
      have e2 : vs[i]? = some y2 := e2
      obtain ⟨x, hx, hv⟩ := paired_left pv e2
      have il : i < rows.length := (List.getElem?_eq_some_iff.mp hx).1
      have q2 : Same Ha (upd Ha T0 (.tup [V.int (i : Nat), y2])) := (Same.refl Ha).new hT0
      have c2 : upd Ha T0 (.tup [V.int (i : Nat), y2]) T0 = some (.tup [V.int (i : Nat), y2]) := upd_same
      generalize upd Ha T0 (.tup [V.int (i : Nat), y2]) = Hc at q2 c2 ⊢
      refine ⟨T0, _, rfl, SqT.of c2, rfl, _, _, rfl, _, _, rfl, rfl, ?_⟩
      have mem := List.mem_of_getElem? hx
      have et : marksOf (rows.take (i + 1)) = marksOf (rows.take i) ++ marksOf [x] := by rw [List.take_add_one, hx]; exact marks_more _ _
      have lr : rows'.length ≤ 16 := by
        have := paired_len ps
        rw [List.length_take] at this
        omega
      have lm : (marksOf (rows.take i)).length ≤ 1000 := by
        have h1 := marks_size (l := rows.take i) fun z hz => ok.few z (List.mem_of_mem_take hz)
        have h2 := List.length_take_le i rows
        rw [List.length_take] at h1
        omega
      have ndp : (marksOf (rows.take i) ++ marksOf [x]).Nodup := by
        rw [← et]
        have e3 : marksOf rows = marksOf (rows.take (i + 1)) ++ marksOf (rows.drop (i + 1)) := by
          unfold marksOf
          rw [← List.flatMap_append, List.take_append_drop]
        have := ok.nd
        rw [e3] at this
        exact this.sublist (List.sublist_append_left _ _)
      exact row_turn (K := K) (P := P) (w := w) (q.trans q2) ((hv.later q).later q2) (ok.each x mem) (ok.few x mem) (r.later q2) lr (q2 _ _ ct) ek ndp lm nrl ntk fun H' y w5 w6 w7 w8 w9 kvs' qa ra sr ca ea => ⟨_, _, _, _, _, _, _, _, _, rfl, qa, ra, paired_take ps hx sr, ca, by rw [et]; exact ea⟩
    · rintro σ H' ⟨s3', v4, v5, v6, v7, v8, v9, rows', kvs, rfl, q, r, ps, ct, ek⟩
      rw [lv, List.take_length] at ps
      exact ⟨_, rfl, k H' rl rows' q nrl r ps⟩
end
end Gk
/-! ### _is_choice, for choices as they must be -/
namespace Gk
open PySem PySem.W PySem.Spec PyProof.Rows L2 NdefX
abbrev sIsChoice : Stmt := (top 24)
def spChoice (K : Frag) : Sp := fun vs H Q _ => ∃ (v n : Addr) (ws ns : List Str), vs = [.ref v, .ref n] ∧ (SqL K H v (ws.map V.str) ∨ SqT K H v (ws.map V.str)) ∧ SqL K H n (ns.map V.str) ∧ (∀ x ∈ ws, x ∈ ns) ∧ ws.Nodup ∧ ws.length ≤ 100 ∧ ∀ H', Same H H' → Q (.bl true) H'
section
variable {P : Program} {w : World} {K : Frag} {mg : Str → Option Value} {base : Heap}
theorem seq_both {Hb H : Hp} {σ : L2.St} {a : Addr} {xs : List V} {i : Nat} {R : It → Hp → Prop} (h0 : σ[i]? = some (some (.ref a))) (hq : SqL K Hb a xs ∨ SqT K Hb a xs) (s : Same Hb H)
    (h : ∀ (J : It) (G : Hp → Prop), Walk J xs.length G (YAt xs) → (∀ H', Same Hb H' → G H') → R J H) : iList K (tVar i) σ H R ∨ iTup K (tVar i) σ H R := by
  rcases hq with hq | hq
  · exact .inl ⟨_, h0, a, rfl, ⟨_, s.seq hq⟩, h _ _ (walk_list (xs := xs)) fun H' s' => s'.seq hq⟩
  · exact .inr ⟨_, h0, a, rfl, ⟨_, s.sqT hq⟩, h _ _ (walk_tup (xs := xs)) fun H' s' => s'.sqT hq⟩
theorem isi_both {H : Hp} {a tp : Addr} {vs : List V} {Q : VK} (hq : SqL K H a vs ∨ SqT K H a vs) (ct : H tp = some (.tup [V.ty "list", .ty "tuple"])) (q : Q (.bl true) H) : rIsiT K [.ref a, .ref tp] H Q := by
  rcases hq with z | z
  · exact ⟨_, tp, _, _, _, true, rfl, ct, .cons (.ty "list") (.cons (.ty "tuple") .nil), (AnyV.lst a _ z).ty, kitAny_cons (b := true) (kit_ty (by decide +kernel)) (fun e => by cases e) (fun _ => rfl), q⟩
  · exact ⟨_, tp, _, _, _, true, rfl, ct, .cons (.ty "list") (.cons (.ty "tuple") .nil), (AnyV.tup a _ z).ty, kitAny_cons (b := false) (kit_ty (by decide +kernel)) (fun _ => kitAny_cons (b := true) (kit_ty (by decide +kernel)) (fun e => by cases e) (fun _ => rfl)) (fun e => by cases e), q⟩
theorem flat_strs : ∀ ns : List Str, (ns.map V.str).all flatV = true
  | [] => rfl
  | x :: ns => by rw [List.map_cons, List.all_cons, flat_strs ns]; rfl
theorem in_strs {x : Str} {ns : List Str} : inV (.str x) (ns.map V.str) = true ↔ x ∈ ns := by
  unfold inV
  rw [List.any_map, List.any_eq_true]
  constructor
  · rintro ⟨y, hy, e⟩
    have e : (y == x) = true := e
    rw [beq_iff_eq] at e
    exact e ▸ hy
  · intro h
    exact ⟨x, h, show (x == x) = true from beq_self_eq_true x⟩
theorem nodup_inr : ∀ {ws : List Str}, ws.Nodup → (ws.map Sum.inr : List Key).Nodup
  | [], _ => List.nodup_nil
  | x :: ws, h => by
    rw [List.nodup_cons] at h
    rw [List.map_cons, List.nodup_cons]
    refine ⟨fun z => ?_, nodup_inr h.2⟩
    obtain ⟨y, hy, e⟩ := List.mem_map.mp z
    exact h.1 (Sum.inr.inj e ▸ hy)
abbrev nChoice : List Str := ["value", "names", "word"]
theorem scChoice : FnScope nChoice ["value", "names"] (defScope sIsChoice) := ⟨rfl, rfl, rfl, by decide +kernel, rfl, by decide +kernel, by decide +kernel⟩
theorem ok_choice {f : Addr} {fd : FuncData} (F : Fun K "_is_choice" "_is_choice" sIsChoice f fd) (ti : mg "isinstance" = none) (tt : mg "tuple" = none) (tL : mg "list" = none) (tl : mg "len" = none) (ta : mg "all" = none) (ts : mg "set" = none) : FnOk P w K mg base CX0 1 f fd ["value", "names"] (spChoice K) := by
  refine F.ok scChoice (fun vs H Q E h => ?_) (fun cdv A outer s H vs Q E hr h => ?_)
  · obtain ⟨v, n, ws, ns, rfl, _⟩ := h
    rfl
  · obtain ⟨v, n, ws, ns, rfl, hv, hn, sub, nod, lz, k⟩ := h
    have nd := scChoice.nd
    refine ⟨_, pss_cons (ps_if (PW.pt (pw_or (pt_not (pt_val (pe_callB call_isiT (by rfl) ti boot_isi' (pa_cons (pv 0) (pa_cons (pe_tup (pa_cons (pe_bltn (v := .ty "list") (by rfl) tL boot_list2 rfl) (pa_cons (pe_bltn (v := .ty "tuple") (by rfl) tt boot_tuple' rfl) pa_nil))) pa_nil)))))
        (pw_or1 (pt_not (pt_val (pe_callB (cr_all rfl) (by rfl) ta boot_all' (pa_cons (pe_lc (own := [("word", 2)]) (te := tOp (rIn K false) (tVar 2) (tVar 1)) (g := gName 2) (tt := tYes) rfl nd (pi_or (pi_list (pv 0)) (pi_tup (pv 0))) (blkOk_by (N := nChoice) (sc := defScope sIsChoice) (by decide +kernel))
          (fun _ _ _ _ _ => pg_name (i := 2) nd rfl (Or.inl rfl)) (fun _ _ _ _ _ => pts_nil) (fun _ _ _ _ _ => by exact (pe_cmpR op_in_seq (pv 2) (pv 1) (by rfl)))) pa_nil))))))) pss_dead pss_nil)
      (pss_one (ps_ret (pe_cmpR op_eq (pe_callB cr_lenK (by rfl) tl PySem.boot_len (pa_cons (pe_callTy (cr_setOfK rfl) (by rfl) ts boot_set' (pa_cons (pv 0) pa_nil)) pa_nil)) (pe_callB call_len_seq (by rfl) tl PySem.boot_len (pa_cons (pv 0) pa_nil)) (nomark _)))), ?_⟩
    walk_at "rd"
    refine ⟨Nat.le_trans (show 2 ≤ 100 by decide) (by decide), fun tp htp => ?_⟩
    have s1 : Same H (upd H tp (.tup [V.ty "list", .ty "tuple"])) := (Same.refl H).new htp
    have ct : upd H tp (.tup [V.ty "list", .ty "tuple"]) tp = some (.tup [V.ty "list", .ty "tuple"]) := upd_same
    generalize upd H tp (.tup [V.ty "list", .ty "tuple"]) = H1 at s1 ct
    have hv1 : SqL K H1 v (ws.map V.str) ∨ SqT K H1 v (ws.map V.str) := hv.imp s1.seq s1.sqT
    refine rd_nil (isi_both hv1 ct ⟨true, rfl, ite_no rfl ?_⟩)
    refine rd_not (rd_b (rd_cb (rd_cons ?_)))
    refine seq_both (K := K) (a := v) rfl hv s1 fun J G wk hG D hD => ?_
    refine lc_it wk (fun i H' => Same H1 H' ∧ H' D = some (.lst ((List.replicate i true).map V.bl))) ⟨(Same.refl H1).new hD, upd_same⟩ (fun i H' _ z => hG H' (s1.trans z.1)) ?_ ?_
    · rintro i y H2 H3 hi ⟨s2, c2⟩ ⟨rfl, hy⟩
      obtain ⟨x, hx, rfl⟩ : ∃ x, ws[i]? = some x ∧ y = V.str x := by
        rw [List.getElem?_map] at hy
        cases e : ws[i]? with
        | none => rw [e] at hy; cases hy
        | some n => rw [e] at hy; exact ⟨n, rfl, (Option.some.inj hy).symm⟩
      refine rd_gn ⟨rfl, rd_yes (rd_op (rd_var rfl (rd_var rfl ?_)))⟩
      have s3 := s1.trans s2
      have il : i < ws.length := (List.getElem?_eq_some_iff.mp hx).1
      refine ⟨n, _, rfl, .inl (s3.seq hn), rfl, flat_strs ns, _, c2, ?_, s2.mut hD, ?_⟩
      · rw [List.length_map, List.length_replicate]
        exact Nat.lt_of_le_of_lt (show i ≤ 100 by omega) (by decide)
      · have e1 : inV (.str x) (ns.map V.str) = true := in_strs.mpr (sub x (List.mem_of_getElem? hx))
        simp only [Bool.false_eq_true, if_false]
        rw [upd_same, e1, List.replicate_succ', List.map_append]
        rfl
    · rintro H2 ⟨s2, c2⟩
      refine rd_nil ⟨D, _, rfl, SqL.of c2, true, ?_, ite_no rfl (rd_next ?_)⟩
      · congr 1
        rw [List.all_eq_true]
        intro b hb
        rw [List.eq_of_mem_replicate hb]
        rfl
      have s3 := s1.trans s2
      have hv3 : SqL K H2 v (ws.map V.str) ∨ SqT K H2 v (ws.map V.str) := hv.imp s3.seq s3.sqT
      have kv : ws.map V.str = (ws.map Sum.inr).map kV := by rw [List.map_map]; rfl
      walk_at "rd"
      refine ⟨v, ws.map Sum.inr, rfl, by rw [← kv]; exact hv3, ?_, fun sp hsp => ?_⟩
      · rw [List.length_map]
        exact Nat.lt_of_le_of_lt (show ws.length + 1 ≤ 101 by omega) (by decide)
      generalize hG : upd H2 sp _ = H3
      have s4 : Same H2 H3 := by rw [← hG]; exact (Same.refl H2).new hsp
      have csp : H3 sp = some (SetK P w sp (inK (ws.map Sum.inr)) (uniq (ws.map Sum.inr)).length) := by rw [← hG]; exact upd_same
      clear hG
      refine rd_nil ⟨sp, _, _, rfl, csp, ?_⟩
      walk_at "rd"
      refine ⟨v, _, rfl, hv3.imp s4.seq s4.sqT, rfl, ?_⟩
      have nk : (ws.map Sum.inr : List Key).Nodup := nodup_inr nod
      rw [uniq_eq.mpr nk, List.length_map, List.length_map, decide_eq_true rfl]
      exact k H3 (s3.trans s4)
end
end Gk
/-! ### _groups_of, for sets as they must be -/
namespace Gk
open PySem PySem.W PySem.Spec PyProof.Rows L2 NdefX
abbrev sGroupsOf : Stmt := (top 23)
/-- the places of the names among ns that are in ws, below i -/
def plTo (ns ws : List Str) : Nat → List Int
  | 0 => []
  | i + 1 => plTo ns ws i ++ (match ns[i]? with
    | some x => if inV (.str x) (ws.map V.str) = true then [(i : Int)] else []
    | none => [])
theorem plTo_len (ns ws : List Str) : ∀ i, (plTo ns ws i).length ≤ i
  | 0 => Nat.zero_le _
  | i + 1 => by
    have := plTo_len ns ws i
    unfold plTo
    rw [List.length_append]
    split
    · split
      · simp; omega
      · simp; omega
    · simp; omega
def groupsOf (ns : List Str) (sets : List (Str × List Str)) : List (Str × List Int) := sets.map fun x => (x.1, plTo ns x.2 ns.length)
def SetIn (K : Frag) (H : Hp) (kv : Key × V) (x : Str × List Str) : Prop := kv.1 = .inr x.1 ∧ ∃ l, kv.2 = .ref l ∧ (SqL K H l (x.2.map V.str) ∨ SqT K H l (x.2.map V.str))
structure SetsGood (ns : List Str) (sets : List (Str × List Str)) : Prop where
  few : sets.length ≤ 3
  nd : (sets.map (·.1)).Nodup
  nm : ∀ x ∈ sets, nameB x.1 = true
  sub : ∀ x ∈ sets, ∀ y ∈ x.2, y ∈ ns
  each : ∀ x ∈ sets, x.2.Nodup
  len : ∀ x ∈ sets, x.2.length ≤ 100
def SetsArg (K : Frag) (H : Hp) (v : V) (ns : List Str) (sets : List (Str × List Str)) : Prop := (v = .non ∧ sets = []) ∨ ∃ d kvs, v = .ref d ∧ H d = some (.dK kvs) ∧ Paired (SetIn K H) kvs sets ∧ SetsGood ns sets
def GrpKV (H : Hp) (kv : Key × V) (x : Str × List Int) : Prop := kv.1 = .inr x.1 ∧ ∃ t, kv.2 = .ref t ∧ H t = some (.tup (x.2.map V.int))
def GroupsAt (H : Hp) (q : Addr) (gs : List (Str × List Int)) : Prop := ∃ kvs, H q = some (.dK kvs) ∧ Paired (GrpKV H) kvs gs
def spGroups (K : Frag) : Sp := fun vs H Q _ => ∃ (v : V) (n : Addr) (ns : List Str) (sets : List (Str × List Str)), vs = [v, .ref n] ∧ SqL K H n (ns.map V.str) ∧ ns.length ≤ 16 ∧ SetsArg K H v ns sets ∧
  ∀ (H' : Hp) (q : Addr), Same H H' → H q = none → GroupsAt H' q (groupsOf ns sets) → Q (.ref q) H'
section
variable {P : Program} {w : World} {K : Frag} {mg : Str → Option Value} {base : Heap}
theorem lc_places {H1 : Hp} {n l : Addr} {ns ws : List Str} {s0 s2 s3 s5 s6 : Option V} {Q : VK} (hn : SqL K H1 n (ns.map V.str)) (hl : SqL K H1 l (ws.map V.str) ∨ SqT K H1 l (ws.map V.str)) (z : ns.length ≤ 16)
    (k : ∀ H' q, Same H1 H' → H1 q = none → H' q = some (.lst ((plTo ns ws ns.length).map V.int)) → Q (.ref q) H') :
    tLc (iEnum K (tCons (tVar 1) tNil)) (gTup K 2 (gCons (gName 5) (gCons (gName 6) gNil))) (tTest (tOp (rIn K false) (tVar 6) (tVar 4))) (tVar 5) [5, 6] [s0, some (.ref n), s2, s3, some (.ref l), s5, s6] H1 Q := by
  refine ⟨_, rfl, n, _, rfl, hn, fun D hD => ?_⟩
  refine lc_it (walk_enum (xs := ns.map V.str)) (fun i H => Same H1 H ∧ H D = some (.lst ((plTo ns ws i).map V.int))) ⟨(Same.refl H1).new hD, upd_same⟩ (fun i H _ z => z.1.seq hn) ?_ ?_
  · rintro i y H2 H3 hi ⟨s1, c1⟩ ⟨T, y1, y2, rfl, hT, rfl, e1, e2⟩
    obtain rfl := Option.some.inj e1
    have e2 : (ns.map V.str)[i]? = some y2 := e2
    obtain ⟨x, hx, rfl⟩ : ∃ x, ns[i]? = some x ∧ y2 = V.str x := by
      rw [List.getElem?_map] at e2
      cases e : ns[i]? with
      | none => rw [e] at e2; cases e2
      | some n => rw [e] at e2; exact ⟨n, rfl, (Option.some.inj e2).symm⟩
    have il : i < ns.length := (List.getElem?_eq_some_iff.mp hx).1
    have s2 : Same H2 (upd H2 T (.tup [V.int (i : Nat), V.str x])) := (Same.refl H2).new hT
    have cT : upd H2 T (.tup [V.int (i : Nat), V.str x]) T = some (.tup [V.int (i : Nat), V.str x]) := upd_same
    generalize upd H2 T (.tup [V.int (i : Nat), V.str x]) = H4 at s2 cT ⊢
    have c4 := s2 _ _ c1
    have s4 := s1.trans s2
    refine ⟨T, _, rfl, SqT.of cT, rfl, _, _, rfl, _, _, rfl, rfl, rfl, ?_⟩
    have ep : plTo ns ws (i + 1) = plTo ns ws i ++ (if inV (.str x) (ws.map V.str) = true then [(i : Int)] else []) := by
      show plTo ns ws i ++ (match ns[i]? with | some x => _ | none => _) = _
      rw [hx]
    refine ⟨_, rfl, _, rfl, l, _, rfl, hl.imp s4.seq s4.sqT, rfl, flat_strs ws, _, rfl, ?_⟩
    simp only [Bool.false_eq_true, if_false]
    refine ite2 (fun c => ?_) (fun c => ?_)
    · rw [c, if_pos rfl] at ep
      refine ⟨_, rfl, _, c4, ?_, s4.mut hD, ?_⟩
      · have := plTo_len ns ws i
        rw [List.length_map]
        exact Nat.lt_of_le_of_lt (show _ ≤ 16 by omega) (by decide)
      · rw [upd_same, ep, List.map_append]
        rfl
    · rw [if_neg c, List.append_nil] at ep
      exact ⟨s4, by rw [ep]; exact c4⟩
  · rintro H2 ⟨s1, c1⟩
    rw [List.length_map] at c1
    exact k H2 D s1 hD c1
theorem seq_far {H H' : Hp} {l d : Addr} {xs : List V} {kvs : List (Key × V)} (hq : SqL K H l xs ∨ SqT K H l xs) (hd : H d = some (.dK kvs)) (far : ∀ b u, b ≠ d → H b = some u → H' b = some u) : SqL K H' l xs ∨ SqT K H' l xs := by
  rcases hq with ((h | ⟨u, h⟩) | h) | ((h | ⟨u, h⟩) | h)
  · exact .inl (.inl (.inl (far _ _ (ne_of h hd fun z => by cases z) h)))
  · exact .inl (.inl (.inr ⟨u, far _ _ (ne_of h hd fun z => by cases z) h⟩))
  · exact .inl (.inr h)
  · exact .inr (.inl (.inl (far _ _ (ne_of h hd fun z => by cases z) h)))
  · exact .inr (.inl (.inr ⟨u, far _ _ (ne_of h hd fun z => by cases z) h⟩))
  · exact .inr (.inr h)
theorem seqL_far {H H' : Hp} {l d : Addr} {xs : List V} {kvs : List (Key × V)} (hq : SqL K H l xs) (hd : H d = some (.dK kvs)) (far : ∀ b u, b ≠ d → H b = some u → H' b = some u) : SqL K H' l xs := by
  rcases hq with (h | ⟨u, h⟩) | h
  · exact .inl (.inl (far _ _ (ne_of h hd fun z => by cases z) h))
  · exact .inl (.inr ⟨u, far _ _ (ne_of h hd fun z => by cases z) h⟩)
  · exact .inr h
theorem GrpKV.far {H H' : Hp} {d : Addr} {o : HO} {kv : Key × V} {x : Str × List Int} (h : GrpKV H kv x) (hd : H d = some o) (no : ∀ xs, o ≠ .tup xs) (far : ∀ b u, b ≠ d → H b = some u → H' b = some u) : GrpKV H' kv x := by
  obtain ⟨e, t, e2, h1⟩ := h
  exact ⟨e, t, e2, far _ _ (ne_of h1 hd fun z => no _ z.symm) h1⟩
theorem grp_none {H : Hp} {n : Str} : ∀ {kvs : List (Key × V)} {gs : List (Str × List Int)}, Paired (GrpKV H) kvs gs → n ∉ gs.map (·.1) → valV kvs (.inr n : Key) = none
  | _, _, .nil, _ => rfl
  | (k, v) :: kvs, x :: gs, .cons r t, h => by
    have e : k = .inr x.1 := r.1
    rw [valV_neg (by rw [e]; exact fun z => h (by rw [List.map_cons]; exact List.mem_cons.mpr (.inl (Sum.inr.inj z).symm)))]
    exact grp_none t fun z => h (List.mem_cons_of_mem _ z)
abbrev nGroups : List Str := ["sets", "names", "groups", "key", "entry", "place", "name"]
theorem scGroups : FnScope nGroups ["sets", "names"] (defScope sGroupsOf) := ⟨rfl, rfl, rfl, by decide +kernel, rfl, by decide +kernel, by decide +kernel⟩
theorem boot_dict' : bootBuiltins "dict" = some (.type "dict") := by decide +kernel
theorem ok_groups {f fN fC : Addr} {fd fdN fdC : FuncData} (F : Fun K "_groups_of" "_groups_of" sGroupsOf f fd) (ti : mg "isinstance" = none) (td : mg "dict" = none) (tl : mg "len" = none) (tt : mg "tuple" = none) (te : mg "enumerate" = none) {t3 : Tok} (g3 : mg "MOST_SETS" = some (.int 3 t3))
    (GN : FnOk P w K mg base CX0 1 fN fdN ["value"] (spIsName K)) (bN : Binds K fdN ["value"] []) (gN : mg "is_name" = some (.ref fN)) (kN : PySem.W.keepIn K (.ref fN) = true)
    (GC : FnOk P w K mg base CX0 1 fC fdC ["value", "names"] (spChoice K)) (bC : Binds K fdC ["value", "names"] []) (gC : mg "_is_choice" = some (.ref fC)) (kC : PySem.W.keepIn K (.ref fC) = true) : FnOk P w K mg base CX0 2 f fd ["sets", "names"] (spGroups K) := by
  refine F.ok scGroups (fun vs H Q E h => ?_) (fun cdv A outer s H vs Q E hr h => ?_)
  · obtain ⟨v, n, ns, sets, rfl, _⟩ := h
    rfl
  · obtain ⟨v, n, ns, sets, rfl, hn, lns, hA, k⟩ := h
    have nd := scGroups.nd
    have hu := hu_of hr
    refine ⟨_, pss_cons (ps_if (pt_cmp (pc_isN (pv 0))) (pss_one (ps_ret pe_dnewK)) pss_nil)
      (pss_cons (ps_if (PW.pt (pw_or (pt_not (pt_val (pe_callB call_isi (by rfl) ti boot_isi' (pa_cons (pv 0) (pa_cons (pe_bltn (v := .ty "dict") (by rfl) td boot_dict' rfl) pa_nil)))))
          (pw_or1 (pt_cmpR op_gt (pe_callB call_lenD (by rfl) tl PySem.boot_len (pa_cons (pv 0) pa_nil)) (pe_glob (v := .int 3) (by rfl) g3 ⟨_, rfl⟩) (nomark _))))) pss_dead pss_nil)
      (pss_cons (ps_set (i := 2) nd rfl (Or.inl rfl) pe_dnewK)
      (pss_cons (ps_lock (ps_for PassesOwn.never rfl (pi_items (pv 0)) (pg_tup rfl (pgs_cons (pg_name (i := 3) nd rfl (Or.inl rfl)) (pgs_cons (pg_name (i := 4) nd rfl (Or.inr rfl)) pgs_nil)))
        (pss_cons (ps_if (PW.pt (pw_or (pt_not (pt_val (pe_call GN hr (by rfl) gN kN bN .nil pass0 (pa_cons (pv 3) pa_nil)))) (pw_or1 (pt_not (pt_val (pe_call GC hr (by rfl) gC kC bC .nil pass0 (pa_cons (pv 4) (pa_cons (pv 1) pa_nil)))))))) pss_dead pss_nil)
        (pss_one (ps_asg (by exact (pe_callTy call_tuple_of (by rfl) tt boot_tuple' (pa_cons (pe_lc (own := [("place", 5), ("name", 6)]) (te := tVar 5) (g := gTup K 2 (gCons (gName 5) (gCons (gName 6) gNil))) (tt := tTest (tOp (rIn K false) (tVar 6) (tVar 4))) rfl nd (pi_enum (by rfl) te (pa_cons (pv 1) pa_nil)) (blkOk_by (N := nGroups) (sc := defScope sGroupsOf) (by decide +kernel))
          (fun _ _ _ _ _ => pg_tup rfl (pgs_cons (pg_name (i := 5) nd rfl (Or.inl rfl)) (pgs_cons (pg_name (i := 6) nd rfl (Or.inl rfl)) pgs_nil))) (fun _ _ _ _ _ => by exact (pts_one (pt_cmpR op_in_seq (pv 6) (pv 4) (by rfl)))) (fun _ _ _ _ _ => by exact (pv 5))) pa_nil))) (by exact (pg_sub (pv 2) (pv 3) (L2.set_dict hu))))))))
      (pss_one (ps_ret (pv 2)))))), ?_⟩
    refine rd_seq (rd_if ?_)
    rcases hA with ⟨rfl, rfl⟩ | ⟨d, kvs, rfl, hd, pd, ok⟩
    · refine ⟨_, rfl, _, rfl, ite_yes rfl (rd_ret fun p hp => ?_)⟩
      exact k _ p ((Same.refl H).new hp) hp ⟨[], upd_same, .nil⟩
    refine ⟨_, rfl, _, rfl, ite_no rfl (rd_next ?_)⟩
    walk_at "rd"
    refine (AnyV.dic d kvs hd).isi (b := true) (by decide +kernel) ⟨true, rfl, ite_no rfl ?_⟩
    have lk : kvs.length ≤ 3 := by have := paired_len pd; have := ok.few; omega
    refine rd_test (rd_op (rd_cb (rd_cons (rd_var rfl (rd_nil ⟨d, kvs, rfl, hd, rd_c ⟨_, _, rfl, rfl, _, rfl, ite_no (by rw [decide_eq_false_iff_not]; omega) (rd_next ?_)⟩⟩)))))
    walk_at "rd"
    intro g hg
    have s1 : Same H (upd H g (.dK [])) := (Same.refl H).new hg
    have cg : upd H g (.dK []) g = some (.dK []) := upd_same
    have ndg : d ≠ g := ne_of_none hd hg
    generalize upd H g (.dK []) = H1 at s1 cg
    refine rd_gn (rd_seq ⟨d, _, s1 _ _ hd, trivial, fun od => ?_⟩)
    have nd1 : H1 d = some (.dK kvs) := s1 _ _ hd
    have far0 : ∀ b u, b ≠ d → H b = some u → upd H1 d (.frz od (.dK kvs)) b = some u := fun b u e z => by rw [upd_ne e]; exact s1 b u z
    have cd : upd H1 d (.frz od (.dK kvs)) d = some (.frz od (.dK kvs)) := upd_same
    have cg : upd H1 d (.frz od (.dK kvs)) g = some (.dK []) := by rw [upd_ne ndg.symm]; exact cg
    generalize upd H1 d (.frz od (.dK kvs)) = H2 at far0 cd cg
    refine ⟨_, rfl, d, od, kvs, rfl, cd, ?_⟩
    refine for_it (walk_items (d := d) (o := od) (kvs := kvs)) (fun i σ H' => ∃ v3 v4 v5 v6 gk, σ = [some (.ref d), some (.ref n), some (.ref g), v3, v4, v5, v6] ∧ (∀ b u, b ≠ d → H b = some u → H' b = some u) ∧ H' d = some (.frz od (.dK kvs)) ∧ H' g = some (.dK gk) ∧ Paired (GrpKV H') gk (groupsOf ns (sets.take i)))
      ⟨_, _, _, _, [], rfl, far0, cd, cg, .nil⟩ ?_ ?_ ?_
    · rintro i σ H' _ ⟨v3, v4, v5, v6, gk, rfl, _, c, _⟩
      exact c
    · rintro i y σ Ha Hb hi ⟨v3, v4, v5, v6, gk, rfl, far, cd, cg, pg⟩ ⟨T, y1, y2, rfl, hT, rfl, e1, e2⟩
      obtain ⟨kv, hkv⟩ : ∃ kv, kvs[i]? = some kv := ⟨_, List.getElem?_eq_getElem hi⟩
      have e1 : kvs[i]?.map (fun kv => kV kv.1) = some y1 := e1
      have e2 : kvs[i]?.map Prod.snd = some y2 := e2
      rw [hkv] at e1 e2
      obtain rfl := Option.some.inj e1
      obtain rfl := Option.some.inj e2
      obtain ⟨x, hx, ekey, l, eval, hl⟩ := paired_left pd hkv
      have il : i < sets.length := (List.getElem?_eq_some_iff.mp hx).1
      have mem := List.mem_of_getElem? hx
      have q2 : Same Ha (upd Ha T (.tup [kV kv.1, kv.2])) := (Same.refl Ha).new hT
      have cT : upd Ha T (.tup [kV kv.1, kv.2]) T = some (.tup [kV kv.1, kv.2]) := upd_same
      generalize upd Ha T (.tup [kV kv.1, kv.2]) = Hc at q2 cT ⊢
      refine ⟨T, _, rfl, SqT.of cT, rfl, _, _, rfl, _, _, rfl, rfl, ?_⟩
      rw [ekey, eval]
      have farc : ∀ b u, b ≠ d → H b = some u → Hc b = some u := fun b u e z => q2 b u (far b u e z)
      have okn := ok.nm x mem
      refine rd_seq (rd_if (rd_or (rd_not (rd_b (rd_call (rd_cons (rd_var rfl (rd_nil ⟨.str x.1, "str", rfl, .str _ (nameB_len okn), fun H3 s3 => ⟨true, by rw [← okn]; rfl, ite_no rfl ?_⟩⟩))))))))
      have far3 : ∀ b u, b ≠ d → H b = some u → H3 b = some u := fun b u e z => s3 b u (farc b u e z)
      refine rd_not (rd_b (rd_call (rd_cons (rd_var rfl (rd_cons (rd_var rfl (rd_nil ⟨l, n, x.2, ns, rfl, seq_far hl hd far3, seqL_far hn hd far3, ok.sub x mem, ok.each x mem, ok.len x mem, fun H4 s4 => ⟨true, rfl, ite_no rfl (rd_next ?_)⟩⟩)))))))
      have far4 : ∀ b u, b ≠ d → H b = some u → H4 b = some u := fun b u e z => s4 b u (far3 b u e z)
      have s4 : Same Ha H4 := q2.trans (s3.trans s4)
      walk_at "rd"
      refine lc_places (K := K) (seqL_far hn hd far4) (seq_far hl hd far4) lns fun H5 q s5 nq c5 => ?_
      refine rd_nil ⟨q, _, rfl, .inl ⟨SqL.of c5, fun t ht => ?_⟩⟩
      have s6 : Same H5 (upd H5 t (.tup ((plTo ns x.2 ns.length).map V.int))) := (Same.refl H5).new ht
      have c6 : upd H5 t (.tup ((plTo ns x.2 ns.length).map V.int)) t = some (.tup ((plTo ns x.2 ns.length).map V.int)) := upd_same
      generalize upd H5 t (.tup ((plTo ns x.2 ns.length).map V.int)) = H6 at s6 c6
      have sA : Same Ha H6 := s4.trans (s5.trans s6)
      have cg6 := sA _ _ cg
      have cd6 := sA _ _ cd
      have lg : gk.length ≤ 3 := by
        have h1 := paired_len pg
        have h2 := ok.few
        unfold groupsOf at h1
        rw [List.length_map, List.length_take] at h1
        omega
      have fresh : x.1 ∉ (groupsOf ns (sets.take i)).map (·.1) := by
        have e3 : (groupsOf ns (sets.take i)).map (·.1) = (sets.map (·.1)).take i := by unfold groupsOf; rw [List.map_map, List.map_take]; rfl
        rw [e3]
        intro hm
        obtain ⟨j, hj⟩ := List.mem_iff_getElem?.mp hm
        rw [List.getElem?_take] at hj
        split at hj
        · have hx1 : (sets.map (·.1))[i]? = some x.1 := by rw [List.getElem?_map, hx]; rfl
          have := (List.getElem?_inj (by rw [List.length_map]; omega) ok.nd).mp (hj.trans hx1.symm)
          omega
        · cases hj
      have pg6 : Paired (GrpKV H6) gk (groupsOf ns (sets.take i)) := paired_map (fun kv y z => by obtain ⟨e, t, e2, h1⟩ := z; exact ⟨e, t, e2, sA _ _ h1⟩) pg
      refine ⟨_, rfl, _, rfl, g, _, rfl, DPut.k (k := .inr x.1) cg6 (Nat.lt_of_le_of_lt lg (by decide)), ?_⟩
      rw [putK_new _ (grp_none pg6 fresh)]
      have hg0 : H g = none := hg
      refine ⟨_, _, _, _, gk ++ [(.inr x.1, .ref t)], rfl, fun b u e z => ?_, by rw [upd_ne ndg]; exact cd6, upd_same, ?_⟩
      · rw [upd_ne (ne_of_none z hg0)]
        exact sA b u (far b u e z)
      · have et : groupsOf ns (sets.take (i + 1)) = groupsOf ns (sets.take i) ++ [(x.1, plTo ns x.2 ns.length)] := by
          unfold groupsOf
          rw [List.take_add_one, hx, List.map_append]
          rfl
        rw [et]
        have up : ∀ b u, b ≠ g → H6 b = some u → upd H6 g (.dK (gk ++ [(.inr x.1, .ref t)])) b = some u := fun b u e z => by rw [upd_ne e]; exact z
        exact paired_more ⟨rfl, t, rfl, up _ _ (ne_of c6 cg6 fun z => by cases z) c6⟩ (paired_map (fun kv y z => z.far cg6 (fun xs z => by cases z) up) pg6)
    · rintro σ H' ⟨v3, v4, v5, v6, gk, rfl, far, cd, cg, pg⟩
      rw [show sets.take kvs.length = sets by rw [paired_len pd, List.take_length]] at pg
      refine ⟨cd, _, rfl, k _ g (fun b u e => ?_) hg ⟨gk, by rw [upd_ne ndg.symm]; exact cg, paired_map (fun kv y z => z.far cd (fun xs z => by cases z) fun b u e z => by rw [upd_ne e]; exact z) pg⟩⟩
      by_cases hb : b = d
      · subst hb
        rw [upd_same, ← e, hd]
      · rw [upd_ne hb]
        exact far b u hb e
end
end Gk
/-! ### {k: v for a in xs for b in ys} -/
namespace Gk
open PySem PySem.Spec PyProof.Rows L2
section
variable {prog : Program} {w : World} {A : Around} {R : Result → Shared → Prop} {s : Shared} {kx vx t0 i0 t1 i1 : Expr} {c0 c1 : List Expr} {scope : Scope} {pos : Pos} {it : Value} {D : Addr} {env : Env}
abbrev DC2 (kx vx t0 i0 t1 i1 : Expr) (c0 c1 : List Expr) (scope : Scope) (pos : Pos) : Expr := .DictComp kx vx [⟨t0, i0, c0, 0⟩, ⟨t1, i1, c1, 0⟩] scope pos
abbrev testsOf (cs : List Expr) (env : Env) : Sem Bool := forIn cs true fun c r => if r = true then do let ok ← isTrue c env (eval c env); pure (ForInStep.yield ok) else pure (ForInStep.yield r)
abbrev NBy (prog : Program) (w : World) (A : Around) (env : Env) (R : Result → Shared → Prop) : Value → Shared → Prop := notedBy (model prog w) A env fun e s' => R (.error e) s'
theorem turn2_out (acc : Value) : compTurn (DC2 kx vx t0 i0 t1 i1 c0 c1 scope pos) 0 it acc env = (do
    standAt i0.pos
    match ← pyNext it with
    | none => pure (.done .next)
    | some v =>
      letOwnedTupleGo t0 it v
      assign t0 env v
      let mut ok := true
      for c in c0 do
        if ok then ok ← isTrue c env (eval c env)
      if ok then
        let x ← eval i1 env
        standAt i1.pos
        let x ← foldedSetIterable i1 env x
        let _ ← runOwn (.compStart (DC2 kx vx t0 i0 t1 i1 c0 c1 scope pos) 1 (← holding [x] (pyIter x)) acc env) env
      again (.compLoop (DC2 kx vx t0 i0 t1 i1 c0 c1 scope pos) 0 it acc env)) := by rfl
theorem turn2_in : compTurn (DC2 kx vx t0 i0 t1 i1 c0 c1 scope pos) 1 it (.ref D) env = (do
    standAt i1.pos
    match ← pyNext it with
    | none => pure (.done .next)
    | some v =>
      letOwnedTupleGo t1 it v
      assign t1 env v
      let mut ok := true
      for c in c1 do
        if ok then ok ← isTrue c env (eval c env)
      if ok then
        (do
          let kv ← eval kx env
          let vv ← holding [kv] (eval vx env)
          standAt { kx.pos with endLine := vx.pos.endLine, endCol := vx.pos.endCol }
          holding [kv, vv] (dictSet D kv vv))
      again (.compLoop (DC2 kx vx t0 i0 t1 i1 c0 c1 scope pos) 1 it (.ref D) env)) := by rfl
theorem loop2_out (fs : ∀ x, foldedSetIterable i1 env x = pure x) (I : Nat → Shared → Prop) (acc : Value)
    (turn : ∀ n s, I n s → wpAny (model prog w) A (pyNext it) (fun r a1 => match r with
      | none => R (.ok .next) a1
      | some v => wpAny (model prog w) A (letOwnedTupleGo t0 it v) (fun _ a2 => wpAny (model prog w) A (assign t0 env v) (fun _ a3 => wpAny (model prog w) A (testsOf c0 env) (fun ok a4 =>
          if ok = true then wpAny (model prog w) A (eval i1 env) (fun x a5 => wpAny (model prog w) A (pyIter x) (fun it1 a6 => codeAny (model prog w) A (.compStart (DC2 kx vx t0 i0 t1 i1 c0 c1 scope pos) 1 it1 acc env)
            (fun r a7 => match r with
              | .ok _ => ∃ m, m < n ∧ I m a7
              | .error _ => False) a6) (NBy prog w A env R) a5) (NBy prog w A env R) a4
          else ∃ m, m < n ∧ I m a4) (NBy prog w A env R) a3) (NBy prog w A env R) a2) (NBy prog w A env R) a1) (NBy prog w A env R) s) (n : Nat) (h : I n s) :
    codeAny (model prog w) A (.compLoop (DC2 kx vx t0 i0 t1 i1 c0 c1 scope pos) 0 it acc env) R s := by
  refine codeAny_loop rfl I (fun n s hI => ?_) n h
  show wpAny _ A ((compTurn (DC2 kx vx t0 i0 t1 i1 c0 c1 scope pos) 0 it acc env).onRaise (fun x => do noteFrame x env; theTreesLotGoes x)) _ _ s
  refine wpAny_noted ?_; rw [turn2_out]
  refine wpAny_bind (wpAny_standAt (wpAny_bind (wpAny_mono (turn n s hI) (fun r a1 b1 => ?_) fun _ _ z => z)))
  cases r with
  | none => exact wpAny_pure b1
  | some v =>
    refine wpAny_bind (wpAny_mono b1 (fun _ a2 b2 => ?_) fun _ _ z => z)
    refine wpAny_bind (wpAny_mono b2 (fun _ a3 b3 => wpAny_bind (wpAny_mono b3 (fun ok a4 b4 => ?_) fun _ _ z => z)) fun _ _ z => z)
    cases ok with
    | false => exact wpAny_pure ⟨rfl, b4⟩
    | true =>
      refine wpAny_bind (wpAny_mono b4 (fun x a5 b5 => ?_) fun _ _ z => z)
      refine wpAny_bind (wpAny_standAt (wpAny_bind (wpAny_of_eq (fs x) (wpAny_bind (wpAny_holding (wpAny_mono b5 (fun it1 a6 b6 => ?_) fun _ _ z => z))))))
      refine wpAny_bind (wpAny_runOwn ?_); rw [Around.mark_none]
      refine codeAny_mono b6 fun r a7 b7 => ?_
      cases r with
      | error e => exact b7.elim
      | ok f => first | exact wpAny_pure ⟨rfl, b7⟩ | exact wpAny_bind (wpAny_pure (wpAny_pure ⟨rfl, b7⟩))
theorem loop2_in (I : Nat → Shared → Prop)
    (turn : ∀ n s, I n s → wpAny (model prog w) A (pyNext it) (fun r a1 => match r with
      | none => R (.ok .next) a1
      | some v => wpAny (model prog w) A (letOwnedTupleGo t1 it v) (fun _ a2 => wpAny (model prog w) A (assign t1 env v) (fun _ a3 => wpAny (model prog w) A (testsOf c1 env) (fun ok a4 =>
          if ok = true then wpAny (model prog w) A (eval kx env) (fun kv a5 => wpAny (model prog w) A (eval vx env) (fun vv a6 => wpAny (model prog w) A (dictSet D kv vv) (fun _ a7 => ∃ m, m < n ∧ I m a7) (NBy prog w A env R) a6) (NBy prog w A env R) a5) (NBy prog w A env R) a4
          else ∃ m, m < n ∧ I m a4) (NBy prog w A env R) a3) (NBy prog w A env R) a2) (NBy prog w A env R) a1) (NBy prog w A env R) s) (n : Nat) (h : I n s) :
    codeAny (model prog w) A (.compLoop (DC2 kx vx t0 i0 t1 i1 c0 c1 scope pos) 1 it (.ref D) env) R s := by
  refine codeAny_loop rfl I (fun n s hI => ?_) n h
  show wpAny _ A ((compTurn (DC2 kx vx t0 i0 t1 i1 c0 c1 scope pos) 1 it (.ref D) env).onRaise (fun x => do noteFrame x env; theTreesLotGoes x)) _ _ s
  refine wpAny_noted ?_; rw [turn2_in]
  refine wpAny_bind (wpAny_standAt (wpAny_bind (wpAny_mono (turn n s hI) (fun r a1 b1 => ?_) fun _ _ z => z)))
  cases r with
  | none => exact wpAny_pure b1
  | some v =>
    refine wpAny_bind (wpAny_mono b1 (fun _ a2 b2 => ?_) fun _ _ z => z)
    refine wpAny_bind (wpAny_mono b2 (fun _ a3 b3 => wpAny_bind (wpAny_mono b3 (fun ok a4 b4 => ?_) fun _ _ z => z)) fun _ _ z => z)
    cases ok with
    | false => exact wpAny_pure ⟨rfl, b4⟩
    | true => exact wpAny_bind (wpAny_bind (wpAny_mono b4 (fun kv a5 b5 => wpAny_bind (wpAny_holding (wpAny_mono b5 (fun vv a6 b6 => wpAny_bind (wpAny_standAt (wpAny_holding (wpAny_mono b6 (fun _ a7 b7 => wpAny_pure ⟨rfl, b7⟩) fun _ _ z => z)))) fun _ _ z => z))) fun _ _ z => z))
theorem start2_in {acc : Value} (h0 : codeAny (model prog w) A (.compLoop (DC2 kx vx t0 i0 t1 i1 c0 c1 scope pos) 1 it acc env) R s)
    (h : wpAny (model prog w) A (pyIter it) (fun j a => codeAny (model prog w) A (.compLoop (DC2 kx vx t0 i0 t1 i1 c0 c1 scope pos) 1 j acc env) R a) (NBy prog w A env R) s) :
    codeAny (model prog w) A (.compStart (DC2 kx vx t0 i0 t1 i1 c0 c1 scope pos) 1 it acc env) R s := by
  refine codeAny_of_tree ?_
  show wpAny _ _ ((compStart (DC2 kx vx t0 i0 t1 i1 c0 c1 scope pos) 1 it acc env).onRaise (fun x => do noteFrame x env; standAt theWindowsPlace)) _ _ s
  refine wpAny_notedAt ?_; unfold compStart; show wpAny _ _ (ask >>= _) _ _ s
  refine wpAny_bind (wpAny_askSetting (wpAny_ite ?_)); split
  · first | exact wpAny_bind (wpAny_pure (wpAny_pure (And.intro rfl h0))) | exact wpAny_pure (And.intro rfl h0)
  · first
      | exact wpAny_bind (wpAny_rule (wpAny_bind (wpAny_standAt (wpAny_bind (wpAny_mono h (fun _ _ b => wpAny_pure (And.intro rfl b)) fun _ _ z => z)))))
      | (refine wpAny_bind (wpAny_rule ?_); show wpAny _ _ (standAt i1.pos >>= _) _ _ s; exact wpAny_bind (wpAny_standAt (wpAny_bind (wpAny_mono h (fun _ _ b => wpAny_pure (And.intro rfl b)) fun _ _ z => z))))
end
section
variable {X : Cx}
/-- {k: v for g in wi if tt for g1 in w1 if u1}: D the new dict; the inner source's loop stands behind each store of the outer target; vs the block's names, vs1 those of the inner target -/
def tDc2 (wi : TI) (g : TG) (tt : TT) (w1 : TI) (g1 : TG) (u1 : TT) (tk tv : TE) (vs vs1 : List Nat) : TE := fun σ H Q => wi σ H fun J H1 => ∀ D, H1 D = none → ∃ W : Nat → Nat → Hp → Prop, (∃ m, W 0 m (upd H1 D (.dK []))) ∧ ∀ i m H, W i m H →
  (J.stop i H ∧ Q (.ref D) H) ∨ (J.go i H ∧ ∃ Nx : Hp → Prop, (∀ H', Nx H' → ∃ m', m' < m ∧ W (i + 1) m' H') ∧ ∀ x H', J.yld i H x H' → g x (wipe σ vs) H' fun σ2 H2 => wipe σ2 vs = wipe σ vs ∧ tt σ2 H2 fun b H3 =>
    if b = true then w1 σ2 H3 fun J1 H4 => ∃ W1 : Nat → Nat → Hp → Prop, (∃ m, W1 0 m H4) ∧ ∀ j k H, W1 j k H →
      (J1.stop j H ∧ Nx H) ∨ (J1.go j H ∧ ∃ Nx1 : Hp → Prop, (∀ H', Nx1 H' → ∃ k', k' < k ∧ W1 (j + 1) k' H') ∧ ∀ x H', J1.yld j H x H' → g1 x (wipe σ2 vs1) H' fun σ3 H5 => wipe σ3 vs1 = wipe σ2 vs1 ∧ u1 σ3 H5 fun b H6 =>
        if b = true then tk σ3 H6 fun y H7 => tv σ3 H7 fun z H8 => ∃ kvs k, y = kV k ∧ H8 D = some (.dK kvs) ∧ kvs.length < sizeLine ∧ Nx1 (upd H8 D (.dK (putK kvs k z))) else Nx1 H6)
    else Nx H3)
abbrev OnB (X : Cx) (scope : Scope) (p : Cx → Prop) : Prop := ∀ (s : Shared) (H : Hp) (C : Addr) (cl : List (Str × Addr)) (fp : List Addr), p (X.blk s H scope (compEnvC scope cl C X.env) fp)
theorem dc2_core {pins : List (Addr × Obj)} {s : Shared} {σ : L2.St} {H : Hp} {Q : VK} {kx vx t0 i0 t1 i1 : Expr} {c0 c1 : List Expr} {scope : Scope} {own : List (Str × Nat)} {vs1 : List Nat} {pos : Pos} {wi w1 : TI} {g g1 : TG} {tt u1 : TT} {tk tv : TE} (hc : X.calm = true) (hN : X.N.Nodup) (I : Inv X pins σ H s)
    (hi : PI X t0 i0 wi) (ok : BlkOk X.N X.env.scope scope own) (hv : ∀ i ∈ vs1, i ∈ own.map (·.2)) (hg : OnB X scope fun Y => PG Y t0 g) (ht : OnB X scope fun Y => PTs Y c0 tt) (hk : OnB X scope fun Y => PE Y kx tk) (he : OnB X scope fun Y => PE Y vx tv)
    (fs : ∀ x, foldedSetIterable i0 X.env x = pure x) (hi1 : OnB X scope fun Y => PI Y t1 i1 w1) (hg1 : OnB X scope fun Y => PG Y t1 g1) (ht1 : OnB X scope fun Y => PTs Y c1 u1) (fs1 : ∀ env x, foldedSetIterable i1 env x = pure x)
    (h : tDc2 wi g tt w1 g1 u1 tk tv (own.map (·.2)) vs1 σ H Q) {pos' : Pos} {use : Option (Value → Sem Unit)} {Qf : Value → Shared → Prop} (hR : ∀ D C s' m H', Inv X pins σ H' s' → Q (.ref D) H' → s'.heap.Ns C m → FpOk X pins H' C → compPost (model X.prog X.w) X.A X.xe use Qf (.ref D) C (.ok .next) s') :
    wpAny (model X.prog X.w) X.A (comprehension (DC2 kx vx t0 i0 t1 i1 c0 c1 scope pos) scope X.env pos' newDict false (eval i0 X.env) use) Qf X.xe s := by
  have free : ∀ y ∈ scope.names, y.2 = .free → ∃ c, X.env.cells.lookup y.1 = some c := fun y hy e => (ok.free y hy e).elim (fun z => I.ok.has _ (.inl z)) fun z => I.ok.has _ (.inr z)
  refine wpAny_comprehension_free (use := use) rfl fs (closure_ok free) ok.kind (fun y hy e => by rw [ok.uniq y hy, e]) (thn (hi.run pins s σ H _ I h) fun x0 a1 hx => thn hx fun j0 a2 h2 => ?_)
  obtain ⟨it, fp, tn, J, H2, e, I2, T, st2, f2, q⟩ := h2
  subst e
  refine wpAny_newObj_type (newEnv_comp ?_)
  generalize hD : a2.heap.objs.size = D
  obtain ⟨W, ⟨m0, w0⟩, turn⟩ := q D (I2.hok.fresh (Nat.le_of_eq hD))
  generalize ha3 : ({ a2 with heap := a2.heap.push { cls := .type "dict", data := .dict #[] } } : Shared) = a3
  have I3 : Inv X pins σ (upd H2 D (.dK [])) a3 := by
    rw [← ha3]; refine I2.laid (t' := a2.toks) (fun b o e => Heap.get?_push_of_some _ e) (Nat.le_of_eq hD) ?_
    rw [← hD]; exact dk_empty a2.heap I2.big
  have h3 : a3.heap = a2.heap.push { cls := .type "dict", data := .dict #[] } := by rw [← ha3]
  have f3 : ∀ b ∈ fp, FpOk X pins (upd H2 D (.dK [])) b ∧ b < a3.heap.objs.size := fun b hb => by
    have lt : b < a2.heap.objs.size := by obtain ⟨o, e, _⟩ := T.obj _ _ st2 b hb; exact Heap.lt_size e
    refine ⟨⟨?_, (f2 b hb).2⟩, by rw [h3, Heap.size_push]; exact Nat.lt_succ_of_lt lt⟩
    rw [upd_ne (by rw [← hD]; exact Nat.ne_of_lt lt)]; exact (f2 b hb).1
  have st3 : tn 0 a3.heap := T.keep _ _ _ st2 fun b _ o e => by rw [h3]; exact Heap.get?_push_of_some _ e
  have I4 := block_start I3 ok hN f3
  generalize hcl : cellsFrom (a3.heap.objs.size + 1) scope.names (cloFrom X.env.cells scope.names []) = cl at I4 ⊢
  have pg := hg a3 (upd H2 D (.dK [])) a3.heap.objs.size cl fp; have pt := ht a3 (upd H2 D (.dK [])) a3.heap.objs.size cl fp
  have pk := hk a3 (upd H2 D (.dK [])) a3.heap.objs.size cl fp; have pe := he a3 (upd H2 D (.dK [])) a3.heap.objs.size cl fp
  have pi1 := hi1 a3 (upd H2 D (.dK [])) a3.heap.objs.size cl fp; have pg1 := hg1 a3 (upd H2 D (.dK [])) a3.heap.objs.size cl fp; have pt1 := ht1 a3 (upd H2 D (.dK [])) a3.heap.objs.size cl fp
  have nfp : ∀ b ∈ fp, (upd H2 D (.dK [])) b = none := fun b hb => (f3 b hb).1.1
  show codeAny _ _ (.compStart (DC2 kx vx t0 i0 t1 i1 c0 c1 scope pos) 0 (.ref it) (.ref D) (compEnvC scope cl a3.heap.objs.size X.env)) (compPost (model X.prog X.w) X.A X.xe use Qf (.ref D) a3.heap.objs.size) { a3 with heap := pushCells (a3.heap.push { cls := .type "dict", data := .dict #[] }) scope.names }
  generalize hce : compEnvC scope cl a3.heap.objs.size X.env = ce at I4 pg pt pk pe pi1 pg1 pt1 ⊢
  have cL : ce.locals = a3.heap.objs.size := by subst hce; rfl
  generalize hH3 : upd H2 D (.dK []) = H3 at I3 I4 pg pt pk pe pi1 pg1 pt1 w0 nfp f3
  generalize ha4 : ({ a3 with heap := pushCells (a3.heap.push { cls := .type "dict", data := .dict #[] }) scope.names } : Shared) = a4 at I4 ⊢
  have st4 : tn 0 a4.heap := T.keep _ _ _ st3 fun b _ o e => by rw [← ha4]; exact pushCells_keeps _ _ _ _ (Heap.get?_push_of_some _ e)
  have stat : ∀ {σ' : L2.St} {H' : Hp} {s' : Shared}, Inv (X.blk a3 H3 scope ce fp) [] σ' H' s' → (∀ b ∈ fp, H' b = none) → ∀ b ∈ fp, FpOk (X.blk a3 H3 scope ce fp) [] H' b := fun {σ' H' s'} I' hn b hb =>
    ⟨hn b hb, (I'.ok.exf b hb).1, I'.ok.exfs b hb, .inl hb, fun x c e => (I'.ok.exf b hb).2 x c e, fun p hp => absurd (show p ∈ ([] : List (Addr × Obj)) ++ [] from hp) (by simp)⟩
  have loop : codeAny (model X.prog X.w) X.A (.compLoop (DC2 kx vx t0 i0 t1 i1 c0 c1 scope pos) 0 (.ref it) (.ref D) ce) (compPost (model X.prog X.w) X.A X.xe use Qf (.ref D) a3.heap.objs.size) a4 := by
    refine loop2_out (fs1 ce) (fun n s' => ∃ i H', Inv (X.blk a3 H3 scope ce fp) [] (wipe σ (own.map (·.2))) H' s' ∧ tn i s'.heap ∧ (∀ b ∈ fp, H' b = none) ∧ W i n H') _ ?_ m0 ⟨0, H3, I4, st4, nfp, w0⟩
    rintro n a5 ⟨i, H5, I5, st5, n5, w5⟩
    rcases turn i n H5 w5 with ⟨stop, qq⟩ | ⟨go, Nx, hNx, step⟩
    · refine thnF (T.done (X.blk a3 H3 scope ce fp) rfl rfl rfl hc i [] a5 _ H5 (fun _ _ => False) I5 (stat I5 n5) st5 stop) fun r a6 ⟨hr, I6⟩ => ?_
      subst hr
      have I7 : Inv X pins σ H5 a6 := I3.call' (ch := fp) I6.os I6.base I6.hok I6.bare fun b hb => ⟨(f3 b hb).1.2.2.2.1, (f3 b hb).1.2.1, (f3 b hb).1.2.2.2.2.1, (f3 b hb).1.2.2.2.2.2⟩
      have nC : H5 a3.heap.objs.size = none := cL ▸ (show H5 ce.locals = none from I6.free)
      obtain ⟨m, hn, _⟩ := I6.loc
      exact hR D a3.heap.objs.size a6 m H5 I7 qq (cL ▸ (show a6.heap.Ns ce.locals m from hn)) (I3.fpOk (Nat.le_refl _) nC)
    · refine thnF (T.item (X.blk a3 H3 scope ce fp) rfl rfl rfl hc i [] a5 _ H5 (fun _ _ => False) I5 (stat I5 n5) st5 go) fun r a6 ⟨u, hr, h6⟩ => ?_
      subst hr
      refine thnF h6 fun _ a7 ⟨x, H7, I7, r7, y7, st7, n7⟩ => ?_
      have J7 := I7.pinned (stat I7 n7) (T.obj _ _ st7)
      refine thnF (pg.run _ a7 _ H7 x u _ J7 r7 (step x H7 y7)) fun _ a8 ⟨σ8, H8, I8, w8, q8⟩ => ?_
      refine thnF (pt.run _ a8 σ8 H8 _ I8 q8) fun b a9 ⟨H9, I9, q9⟩ => ?_
      have fin : ∀ {σ9 : L2.St} {s' : Shared} {H' : Hp}, Inv (X.blk a3 H3 scope ce fp) ([] ++ pinsAt fp a7.heap) σ9 H' s' → (wipe σ (own.map (·.2))).length = σ9.length → (∀ (j : Nat) v, (wipe σ (own.map (·.2)))[j]? = some (some v) → σ9[j]? = some (some v)) → Nx H' →
          ∃ m, m < n ∧ ∃ i H', Inv (X.blk a3 H3 scope ce fp) [] (wipe σ (own.map (·.2))) H' s' ∧ tn i s'.heap ∧ (∀ b ∈ fp, H' b = none) ∧ W i m H' := fun {σ9 s' H'} I' l' k' nx => by
        obtain ⟨m', lt, w'⟩ := hNx H' nx
        have pin : ∀ b ∈ fp, ∀ o, a7.heap.get? b = some o → s'.heap.get? b = some o ∧ H' b = none := fun b hb o e =>
          let z := I'.pin (b, o) (List.mem_append_right _ (List.mem_append_right _ (mem_pinsAt hb e)))
          ⟨z.1, z.2.1⟩
        refine ⟨m', lt, i + 1, H', (I'.unpinned (pins := [])).weak l' k', T.keep _ _ _ st7 fun b hb o e => (pin b hb o e).1, fun b hb => ?_, w'⟩
        obtain ⟨o, e, _⟩ := T.obj _ _ st7 b hb; exact (pin b hb o e).2
      have l8 : (wipe σ (own.map (·.2))).length = σ8.length := by rw [← w8, wipe_length]
      have k8 : ∀ (j : Nat) v, (wipe σ (own.map (·.2)))[j]? = some (some v) → σ8[j]? = some (some v) := fun j v e => (wipe_some (w8 ▸ e)).1
      have k9 : ∀ (j : Nat) v, (wipe σ (own.map (·.2)))[j]? = some (some v) → (wipe σ8 vs1)[j]? = some (some v) := fun j v e => by
        obtain ⟨e1, e2⟩ := wipe_some (w8 ▸ e)
        rw [wipe_out fun z => e2 (hv j z)]; exact e1
      cases b with
      | false =>
        simp only [Bool.false_eq_true, if_false] at q9 ⊢; exact fin I9 l8 k8 q9
      | true =>
        simp only [if_true] at q9 ⊢
        refine thnF (pi1.run _ a9 σ8 H9 _ I9 q9) fun x1 b1 z1 => thnF z1 fun j1 b2 h11 => ?_
        obtain ⟨it1, fp1, tn1, J1, H11, e1, I11, T1, st11, f11, W1, ⟨m1, w1'⟩, turn1⟩ := h11
        subst e1
        have stat1 : ∀ {H' : Hp}, (∀ b ∈ fp1, H' b = none) → ∀ b ∈ fp1, FpOk (X.blk a3 H3 scope ce fp) ([] ++ pinsAt fp a7.heap) H' b := fun hn b hb => ⟨hn b hb, (f11 b hb).2⟩
        have inner : codeAny (model X.prog X.w) X.A (.compLoop (DC2 kx vx t0 i0 t1 i1 c0 c1 scope pos) 1 (.ref it1) (.ref D) ce) (fun r s' => match r with
            | .ok _ => ∃ m, m < n ∧ ∃ i H', Inv (X.blk a3 H3 scope ce fp) [] (wipe σ (own.map (·.2))) H' s' ∧ tn i s'.heap ∧ (∀ b ∈ fp, H' b = none) ∧ W i m H'
            | .error _ => False) b2 := by
          refine loop2_in (fun k s' => ∃ j H', Inv (X.blk a3 H3 scope ce fp) ([] ++ pinsAt fp a7.heap) (wipe σ8 vs1) H' s' ∧ tn1 j s'.heap ∧ (∀ b ∈ fp1, H' b = none) ∧ W1 j k H') ?_ m1 ⟨0, H11, I11.weak (wipe_length _ _) (fun j v e => (wipe_some e).1), st11, fun b hb => (f11 b hb).1, w1'⟩
          rintro k b3 ⟨j, H12, I12, st12, n12, w12⟩
          rcases turn1 j k H12 w12 with ⟨stop1, nx1⟩ | ⟨go1, Nx1, hNx1, step1⟩
          · refine thnF (T1.done (X.blk a3 H3 scope ce fp) rfl rfl rfl hc j _ b3 (wipe σ8 vs1) H12 (fun _ _ => False) I12 (stat1 n12) st12 stop1) fun r b4 ⟨hr, I13⟩ => ?_
            subst hr; exact fin I13 (l8.trans (wipe_length σ8 vs1).symm) k9 nx1
          · refine thnF (T1.item (X.blk a3 H3 scope ce fp) rfl rfl rfl hc j _ b3 (wipe σ8 vs1) H12 (fun _ _ => False) I12 (stat1 n12) st12 go1) fun r b4 ⟨u2, hr, h13⟩ => ?_
            subst hr
            refine thnF h13 fun _ b5 ⟨x2, H14, I14, r14, y14, st14, n14⟩ => ?_
            refine thnF (pg1.run _ b5 (wipe σ8 vs1) H14 x2 u2 _ (I14.pinned (stat1 n14) (T1.obj _ _ st14)) r14 (step1 x2 H14 y14)) fun _ b6 ⟨σ15, H15, I15, w15, q15⟩ => ?_
            refine thnF (pt1.run _ b6 σ15 H15 _ I15 q15) fun b b7 ⟨H16, I16, q16⟩ => ?_
            have fin1 : ∀ {s' : Shared} {H' : Hp}, Inv (X.blk a3 H3 scope ce fp) (([] ++ pinsAt fp a7.heap) ++ pinsAt fp1 b5.heap) σ15 H' s' → Nx1 H' → ∃ m, m < k ∧ ∃ j H', Inv (X.blk a3 H3 scope ce fp) ([] ++ pinsAt fp a7.heap) (wipe σ8 vs1) H' s' ∧ tn1 j s'.heap ∧ (∀ b ∈ fp1, H' b = none) ∧ W1 j m H' := fun {s' H'} I' nx => by
              obtain ⟨m', lt, w'⟩ := hNx1 H' nx
              have pin : ∀ b ∈ fp1, ∀ o, b5.heap.get? b = some o → s'.heap.get? b = some o ∧ H' b = none := fun b hb o e =>
                let z := I'.pin (b, o) (List.mem_append_right _ (List.mem_append_right _ (mem_pinsAt hb e)))
                ⟨z.1, z.2.1⟩
              refine ⟨m', lt, j + 1, H', I'.unpinned.weak (by rw [← w15, wipe_length]) (fun j v e => (wipe_some (w15 ▸ e)).1), T1.keep _ _ _ st14 fun b hb o e => (pin b hb o e).1, fun b hb => ?_, w'⟩
              obtain ⟨o, e, _⟩ := T1.obj _ _ st14 b hb; exact (pin b hb o e).2
            cases b with
            | false =>
              simp only [Bool.false_eq_true, if_false] at q16 ⊢; exact fin1 I16 q16
            | true =>
              simp only [if_true] at q16 ⊢
              refine thnF (pk.run _ b7 σ15 H16 _ I16 q16) fun z b8 ⟨yk, H17, I17, r17, q17⟩ => ?_
              refine thnF (pe.run _ b8 σ15 H17 _ I17 q17) fun z2 b9 ⟨yv, H18, I18, r18, kvs, k', ek, hD18, hz18, nx⟩ => ?_
              subst ek
              exact d_dictSet (X := X.blk a3 H3 scope ce fp) I18 hD18 hz18 r17 r18 fun b10 I19 => fin1 I19 nx
        exact start2_in inner (T1.self X.A 0 _ _ _ st11 inner)
  exact codeAny_compStart_dict loop (T.self X.A 0 _ _ _ st4 loop)
theorem pe_dc2 {kx vx t0 i0 t1 i1 : Expr} {c0 c1 : List Expr} {scope : Scope} {own : List (Str × Nat)} {vs1 : List Nat} {pos : Pos} {wi w1 : TI} {g g1 : TG} {tt u1 : TT} {tk tv : TE} (hc : X.calm = true) (hN : X.N.Nodup) (hi : PI X t0 i0 wi) (ok : BlkOk X.N X.env.scope scope own) (hv : ∀ i ∈ vs1, i ∈ own.map (·.2))
    (hg : OnB X scope fun Y => PG Y t0 g) (ht : OnB X scope fun Y => PTs Y c0 tt) (hk : OnB X scope fun Y => PE Y kx tk) (he : OnB X scope fun Y => PE Y vx tv) (hi1 : OnB X scope fun Y => PI Y t1 i1 w1) (hg1 : OnB X scope fun Y => PG Y t1 g1) (ht1 : OnB X scope fun Y => PTs Y c1 u1)
    (fs : ∀ x, foldedSetIterable i0 X.env x = pure x := by intro _; rfl) (fs1 : ∀ env x, foldedSetIterable i1 env x = pure x := by intro _ _; rfl) : PE X (.DictComp kx vx [⟨t0, i0, c0, 0⟩, ⟨t1, i1, c1, 0⟩] scope pos) (tDc2 wi g tt w1 g1 u1 tk tv (own.map (·.2)) vs1) := by
  refine ⟨fun pins s σ H Q I h => ?_⟩
  rw [arm_eval_DictComp]
  refine dc2_core hc hN I hi ok hv hg ht hk he fs hi1 hg1 ht1 fs1 h fun D C s' m H' I' q hn f => ⟨m, hn, fun h2 sb => ?_⟩
  obtain ⟨e0, e1, e2, e3, e4, e5⟩ := f
  exact ⟨.ref D, H', I'.turned (t' := s'.toks) (fun b o hb e => (sb.2 b hb).trans e) e0 e1 e3 e4 e5, rfl, q⟩
end
end Gk
/-! ### Edition.__init__ and the property names -/
namespace Gk
open PySem PySem.W PySem.Spec PyProof.Rows L2 NdefX
abbrev sEdInit : Stmt := (inClass (top 20) 0)
abbrev sEdNames : Stmt := (inClass (top 20) 1)
def spEdNames (C : Addr) : Sp := fun vs H Q _ => ∃ (x dx r : Addr) (fs : List (Str × V)) (rows : List Row), vs = [.ref x] ∧ H x = some (.ins C dx fs) ∧ fs.lookup ("_rows" : Str) = some (V.ref r) ∧ RowsAt H r rows ∧ rows.length ≤ 16 ∧
  ∀ (H' : Hp) (q : Addr), Same H H' → H q = none → H' q = some (.lst ((rows.map (·.name)).map V.str)) → Q (.ref q) H'
/-- what the text says of the class -/
structure EdTxt (K : Frag) (C : Addr) : Prop where
  cl : Cls K C
  nR : NoAttr K C "_rows"
  nG : NoAttr K C "_groups"
  nP : NoAttr K C "_places"
  nN : NoAttr K C "_numbers"
section
variable {P : Program} {w : World} {K : Frag} {mg : Str → Option Value} {base : Heap}
theorem scEdNames : FnScope ["self", "row"] ["self"] (defScope sEdNames) := ⟨rfl, rfl, rfl, by decide +kernel, rfl, by decide +kernel, by decide +kernel⟩
theorem ok_ednames {f C : Addr} {fd : FuncData} (F : Fun K "names" "Edition.names" sEdNames f fd) (T : EdTxt K C) : FnOk P w K mg base CX0 1 f fd ["self"] (spEdNames C) := by
  refine F.ok scEdNames (fun vs H Q E h => ?_) (fun cdv A outer s H vs Q E hr h => ?_)
  · obtain ⟨x, dx, r, fs, rows, rfl, _⟩ := h
    rfl
  · obtain ⟨x, dx, r, fs, rows, rfl, hx, hf, hR, l16, k⟩ := h
    have nd := scEdNames.nd
    refine ⟨_, pss_one (ps_ret (pe_lc (own := [("row", 1)]) (te := tOp (rIxT K) (tVar 1) (tC (.int 0))) (g := gName 1) (tt := tYes) rfl nd (pi_list (pe_fld (pv 0) rfl)) (blkOk_by (N := ["self", "row"]) (sc := defScope sEdNames) (by decide +kernel)) (fun _ _ _ _ _ => pg_name (i := 1) nd rfl (Or.inl rfl))
      (fun _ _ _ _ _ => pts_nil) (fun _ _ _ _ _ => by exact (pe_ix ix_tup (pv 1) pe_int (fun _ _ => rfl))))), ?_⟩
    obtain ⟨vs, c1, hv⟩ := id hR
    have len := paired_len hv
    refine ⟨_, rfl, x, C, dx, fs, _, rfl, hx, T.cl, T.nR, hf, r, rfl, ⟨vs, SqL.of c1⟩, fun D hD => ?_⟩
    refine lc_list (K := K) (a := r) (xs := vs) (fun i H' => Same H H' ∧ H' D = some (.lst (((rows.take i).map (·.name)).map V.str))) ⟨(Same.refl H).new hD, upd_same⟩ (fun i H' _ z => SqL.of (z.1 _ _ c1)) ?_ ?_
    · rintro i v H1 hi ⟨s1, c2⟩
      obtain ⟨y, hy, t, a, rfl, ht, ha⟩ := paired_left hv hi
      have il : i < rows.length := (List.getElem?_eq_some_iff.mp hy).1
      refine rd_gn ⟨rfl, rd_yes (rd_op (rd_var rfl (rd_c ⟨t, _, _, _, rfl, rfl, SqT.of (s1 _ _ ht), rfl, _, c2, ?_, s1.mut hD, ?_⟩)))⟩
      · rw [List.length_map, List.length_map, List.length_take]
        exact Nat.lt_of_le_of_lt (show min i rows.length ≤ 16 by omega) (by decide)
      · rw [upd_same, List.take_add_one, hy, List.map_append, List.map_append]
        rfl
    · rintro H1 ⟨s1, c2⟩
      rw [len, List.take_length] at c2
      exact k H1 D s1 hD c2
abbrev nEdInit : List Str := ["self", "members", "sets", "place", "row", "word"]
theorem scEdInit : FnScope nEdInit ["self", "members", "sets"] (defScope sEdInit) := ⟨rfl, rfl, rfl, by decide +kernel, rfl, by decide +kernel, by decide +kernel⟩
def plKV (rows : List Row) : Nat → List (Key × V)
  | 0 => []
  | i + 1 => plKV rows i ++ (match rows[i]? with
    | some r => (r.name :: r.al).map fun y => (Sum.inr y, V.int (i : Nat))
    | none => [])
def nuKV (rows : List Row) : Nat → List (Key × V)
  | 0 => []
  | i + 1 => nuKV rows i ++ (match rows[i]? with
    | some r => [(Sum.inl r.num, V.int (i : Nat))]
    | none => [])
def edFs (r g pl nu : Addr) : List (Str × V) := putF "_numbers" (.ref nu) (putF "_places" (.ref pl) (putF "_groups" (.ref g) (putF "_rows" (.ref r) [])))
/-- an edition with these rows and groups -/
structure EdAt (C : Addr) (H : Hp) (x : Addr) (rows : List Row) (gs : List (Str × List Int)) : Prop where
  ob : ∃ dx r g pl nu, H x = some (.ins C dx (edFs r g pl nu)) ∧ RowsAt H r rows ∧ GroupsAt H g gs ∧ H pl = some (.dK (plKV rows rows.length)) ∧ H nu = some (.dK (nuKV rows rows.length))
/-- all but x stands as it stood -/
def But (x : Addr) (H H' : Hp) : Prop := ∀ b u, b ≠ x → H b = some u → H' b = some u
theorem But.same {x : Addr} {H H1 H2 : Hp} (a : But x H H1) (s : Same H1 H2) : But x H H2 := fun b u n e => s b u (a b u n e)
theorem But.trans {x : Addr} {H H1 H2 : Hp} (a : But x H H1) (c : But x H1 H2) : But x H H2 := fun b u n e => c b u n (a b u n e)
theorem But.of {x : Addr} {H : Hp} {o : HO} : But x H (upd H x o) := fun b u n e => by rw [upd_ne n]; exact e
theorem But.keep {x b C dx : Addr} {fs : List (Str × V)} {H H1 : Hp} {o : HO} (a : But x H H1) (hx : H x = some (.ins C dx fs)) (e : H b = some o) (n : ∀ C dx fs, o ≠ .ins C dx fs) : H1 b = some o := a b o (ne_of e hx (n _ _ _)) e
theorem RowsAt.but {x r C dx : Addr} {fs : List (Str × V)} {H H1 : Hp} {rows : List Row} (h : RowsAt H r rows) (a : But x H H1) (hx : H x = some (.ins C dx fs)) : RowsAt H1 r rows := by
  obtain ⟨vs, h1, h2⟩ := h
  refine ⟨vs, a.keep hx h1 (fun _ _ _ z => by cases z), paired_map (fun v y z => ?_) h2⟩
  obtain ⟨t, b, e, g1, g2⟩ := z
  exact ⟨t, b, e, a.keep hx g1 (fun _ _ _ z => by cases z), a.keep hx g2 (fun _ _ _ z => by cases z)⟩
theorem GroupsAt.but {x q C dx : Addr} {fs : List (Str × V)} {H H1 : Hp} {gs : List (Str × List Int)} (h : GroupsAt H q gs) (a : But x H H1) (hx : H x = some (.ins C dx fs)) : GroupsAt H1 q gs := by
  obtain ⟨kvs, h1, h2⟩ := h
  refine ⟨kvs, a.keep hx h1 (fun _ _ _ z => by cases z), paired_map (fun v y z => ?_) h2⟩
  obtain ⟨e, t, e2, g1⟩ := z
  exact ⟨e, t, e2, a.keep hx g1 (fun _ _ _ z => by cases z)⟩
theorem seq_but {K : Frag} {x l C dx : Addr} {fs : List (Str × V)} {xs : List V} {H H1 : Hp} (hq : SqL K H l xs ∨ SqT K H l xs) (a : But x H H1) (hx : H x = some (.ins C dx fs)) : SqL K H1 l xs ∨ SqT K H1 l xs := by
  rcases hq with ((h | ⟨u, h⟩) | h) | ((h | ⟨u, h⟩) | h)
  · exact .inl (.inl (.inl (a.keep hx h (fun _ _ _ z => by cases z))))
  · exact .inl (.inl (.inr ⟨u, a.keep hx h (fun _ _ _ z => by cases z)⟩))
  · exact .inl (.inr h)
  · exact .inr (.inl (.inl (a.keep hx h (fun _ _ _ z => by cases z))))
  · exact .inr (.inl (.inr ⟨u, a.keep hx h (fun _ _ _ z => by cases z)⟩))
  · exact .inr (.inr h)
theorem SetsArg.but {K : Frag} {x C dx : Addr} {fs : List (Str × V)} {H H1 : Hp} {v : V} {ns : List Str} {sets : List (Str × List Str)} (h : SetsArg K H v ns sets) (a : But x H H1) (hx : H x = some (.ins C dx fs)) : SetsArg K H1 v ns sets := by
  rcases h with h | ⟨d, kvs, e, hd, pd, ok⟩
  · exact .inl h
  · exact .inr ⟨d, kvs, e, a.keep hx hd (fun _ _ _ z => by cases z), paired_map (fun kv y z => by obtain ⟨e, l, e2, h1⟩ := z; exact ⟨e, l, e2, seq_but h1 a hx⟩) pd, ok⟩
theorem names_sorted {rows rows' : List Row} (h : Paired SortedRow rows rows') : rows'.map (·.name) = rows.map (·.name) := by
  induction h with
  | nil => rfl
  | cons r t ih => rw [List.map_cons, List.map_cons, ih, r.nm]
theorem walk_any {J : It} {n : Nat} {G : Hp → Prop} {Y : Nat → Hp → V → Hp → Prop} (wk : Walk J n G Y) {H0 : Hp} {Qd : Hp → Prop} {B : (Hp → Prop) → V → Hp → Prop} (Pv : Nat → Hp → Prop) (h0 : Pv 0 H0) (hG : ∀ i H, i ≤ n → Pv i H → G H)
    (hs : ∀ i x H H', i < n → Pv i H → Y i H x H' → B (Pv (i + 1)) x H') (hd : ∀ H, Pv n H → Qd H) :
    ∃ W : Nat → Nat → Hp → Prop, (∃ m, W 0 m H0) ∧ ∀ i m H, W i m H → (J.stop i H ∧ Qd H) ∨ (J.go i H ∧ ∃ Nx : Hp → Prop, (∀ H', Nx H' → ∃ m', m' < m ∧ W (i + 1) m' H') ∧ ∀ x H', J.yld i H x H' → B Nx x H') := by
  refine ⟨fun i m H => m = n - i ∧ i ≤ n ∧ Pv i H, ⟨n, by simp, Nat.zero_le _, h0⟩, ?_⟩
  rintro i m H ⟨rfl, hi, p⟩
  have q := hG i H hi p
  by_cases lt : i < n
  · exact .inr ⟨wk.goes i H lt q, Pv (i + 1), fun H' p' => ⟨n - (i + 1), by omega, rfl, lt, p'⟩, fun x H' y => hs i x H H' lt p (wk.yields i H x H' lt q y)⟩
  · obtain rfl : i = n := by omega
    exact .inl ⟨wk.stops H q, hd H p⟩
theorem marks_cons (x : Row) (l : List Row) : marksOf (x :: l) = marksOf [x] ++ marksOf l := by
  rw [← List.singleton_append]
  unfold marksOf
  rw [List.flatMap_append]
theorem marks_perm {rows rows' : List Row} (h : Paired SortedRow rows rows') : (marksOf rows').Perm (marksOf rows) := by
  induction h with
  | nil => exact List.Perm.refl _
  | @cons x y l l' r t ih =>
    rw [marks_cons x, marks_cons y]
    refine List.Perm.append ?_ ih
    simp only [marksOf, List.flatMap_cons, List.flatMap_nil, List.append_nil, r.nm, r.num]
    exact ((r.perm.map Sum.inr).cons _).append_right _
theorem marks_split {rows : List Row} {i : Nat} {x : Row} (hx : rows[i]? = some x) : ∃ post, marksOf rows = marksOf (rows.take i) ++ (marksOf [x] ++ post) := by
  refine ⟨marksOf (rows.drop (i + 1)), ?_⟩
  have e : rows = rows.take i ++ (x :: rows.drop (i + 1)) := by
    have h := List.take_append_drop i rows
    have lt := (List.getElem?_eq_some_iff.mp hx).1
    rw [List.drop_eq_getElem_cons lt, (List.getElem?_eq_some_iff.mp hx).2] at h
    exact h.symm
  conv => lhs; rw [e]
  rw [← marks_cons]
  unfold marksOf
  rw [List.flatMap_append]
theorem pl_keys (rows : List Row) : ∀ i, ∀ k ∈ (plKV rows i).map (·.1), k ∈ marksOf (rows.take i)
  | 0 => fun k h => by cases h
  | i + 1 => fun k h => by
    unfold plKV at h
    rw [List.map_append] at h
    rw [List.take_add_one]
    rcases List.mem_append.mp h with h | h
    · have := pl_keys rows i k h
      unfold marksOf at this ⊢
      rw [List.flatMap_append]
      exact List.mem_append_left _ this
    · cases e : rows[i]? with
      | none => rw [e] at h; cases h
      | some x =>
        rw [e] at h
        simp only [List.map_map] at h
        obtain ⟨y, hy, rfl⟩ := List.mem_map.mp h
        unfold marksOf
        rw [List.flatMap_append]
        refine List.mem_append_right _ ?_
        simp only [Option.toList, List.flatMap_cons, List.flatMap_nil, List.append_nil]
        refine List.mem_append_left _ ?_
        rcases List.mem_cons.mp hy with rfl | hy
        · exact List.mem_cons_self
        · exact List.mem_cons_of_mem _ (List.mem_map_of_mem hy)
theorem pl_size (rows : List Row) (h : ∀ x ∈ rows, x.al.length < 20) : ∀ i, (plKV rows i).length ≤ i * 21
  | 0 => Nat.zero_le _
  | i + 1 => by
    have ih := pl_size rows h i
    unfold plKV
    rw [List.length_append]
    cases e : rows[i]? with
    | none => simp; omega
    | some x =>
      have := h x (List.mem_of_getElem? e)
      simp
      omega
theorem nu_keys (rows : List Row) : ∀ i, ∀ k ∈ (nuKV rows i).map (·.1), k ∈ marksOf (rows.take i)
  | 0 => fun k h => by cases h
  | i + 1 => fun k h => by
    unfold nuKV at h
    rw [List.map_append] at h
    rw [List.take_add_one]
    rcases List.mem_append.mp h with h | h
    · have := nu_keys rows i k h
      unfold marksOf at this ⊢
      rw [List.flatMap_append]
      exact List.mem_append_left _ this
    · cases e : rows[i]? with
      | none => rw [e] at h; cases h
      | some x =>
        rw [e] at h
        obtain rfl := List.mem_singleton.mp h
        unfold marksOf
        rw [List.flatMap_append]
        refine List.mem_append_right _ ?_
        simp
theorem nu_size (rows : List Row) : ∀ i, (nuKV rows i).length ≤ i
  | 0 => Nat.zero_le _
  | i + 1 => by
    have ih := nu_size rows i
    unfold nuKV
    rw [List.length_append]
    cases rows[i]? with
    | none => simp; omega
    | some x => simp; omega
theorem nodup_of_inr : ∀ {ws : List Str}, (ws.map Sum.inr : List Key).Nodup → ws.Nodup
  | [], _ => List.nodup_nil
  | x :: ws, h => by
    rw [List.map_cons, List.nodup_cons] at h
    rw [List.nodup_cons]
    exact ⟨fun z => h.1 (List.mem_map_of_mem z), nodup_of_inr h.2⟩
def spEdInit (K : Frag) (C : Addr) : Sp := fun vs H Q _ => ∃ (x dx m : Addr) (v : V) (rows : List Row) (sets : List (Str × List Str)), vs = [.ref x, .ref m, v] ∧ H x = some (.ins C dx []) ∧ MembersK K H m rows ∧ RowsOk rows ∧ SetsArg K H v (rows.map (·.name)) sets ∧
  ∀ H' rows', But x H H' → Paired SortedRow rows rows' → EdAt C H' x rows' (groupsOf (rows.map (·.name)) sets) → Q .non H'
/-- a def with defaults, by its body -/
theorem fund_ok {x qual : Str} {st : Stmt} {dvs : List V} {kws : List (Str × V)} {f : Addr} {fd : FuncData} {N ps : List Str} {k : Nat} {sp : Sp} (F : FunD K x qual (defArgs st) (defBody st) (defScope st) dvs kws f fd) (S : FnScope N ps (defScope st)) (len : ∀ vs H Q E, sp vs H Q E → vs.length = ps.length)
    (hbody : ∀ (cdv : Value) (A : Around) (outer : List Env) (s : Shared) (H : Hp) (vs : List V) (Q : VK) (E : XK), Room k (A.deeper (envOfC qual (defScope st) s.heap.objs.size f cdv)) → sp vs H Q E →
      ∃ t, PSs (cxOf CX0 P w K mg base N qual (defScope st) f cdv A outer s H E).nox (defBody st) t ∧ t { nx := fun _ H' => Q .non H', rt := Q } (L2.start N vs) H) : FnOk P w K mg base CX0 (k + 1) f fd ps sp := by
  obtain ⟨oc, od, dV, kV, doc, pm, an, cdv, ct, osl, rfl, lk, hcd, _⟩ := F.ex
  refine fn_of lk hcd S len fun A outer s H vs Q E hr hsp => ?_
  obtain ⟨t, h, q⟩ := hbody cdv A outer s H vs Q E hr hsp
  exact ⟨t, h.nox, q⟩
theorem ok_edinit {f C fR fG fN pN : Addr} {fd fdR fdG fdN : FuncData} (F : FunD K "__init__" "Edition.__init__" (defArgs sEdInit) (defBody sEdInit) (defScope sEdInit) [.non] [] f fd) (T : EdTxt K C) (te : mg "enumerate" = none)
    (GR : FnOk P w K mg base CX0 3 fR fdR ["members"] (spRowsOf K)) (bR : Binds K fdR ["members"] []) (gR : mg "_rows_of" = some (.ref fR)) (kR : PySem.W.keepIn K (.ref fR) = true)
    (GG : FnOk P w K mg base CX0 2 fG fdG ["sets", "names"] (spGroups K)) (bG : Binds K fdG ["sets", "names"] []) (gG : mg "_groups_of" = some (.ref fG)) (kG : PySem.W.keepIn K (.ref fG) = true)
    (GN : FnOk P w K mg base CX0 1 fN fdN ["self"] (spEdNames C)) (bN : Binds K fdN ["self"] []) (pN : PropOf K C "names" pN fN) : FnOk P w K mg base CX0 4 f fd ["self", "members", "sets"] (spEdInit K C) := by
  refine fund_ok F scEdInit (fun vs H Q E h => ?_) (fun cdv A outer s H vs Q E hr h => ?_)
  · obtain ⟨x, dx, m, v, rows, sets, rfl, _⟩ := h
    rfl
  · obtain ⟨x, dx, m, v, rows, sets, rfl, hx, hM, ok, hA, k⟩ := h
    have nd := scEdInit.nd
    have hr2 : Room 2 _ := hr.mono (by decide)
    refine ⟨_, pss_cons (ps_fld (pv 0) (pe_call GR hr (by rfl) gR kR bR .nil pass0 (pa_cons (pv 1) pa_nil)) rfl)
      (pss_cons (ps_fld (pv 0) (pe_call GG hr2 (by rfl) gG kG bG .nil pass0 (pa_cons (pv 2) (pa_cons (pe_prop (pv 0) T.cl pN GN hr2 bN .nil pass0 rfl) pa_nil))) rfl)
      (pss_cons (ps_fld (pv 0) (by exact (pe_dc2 (own := [("place", 3), ("row", 4), ("word", 5)]) (vs1 := [5]) (g := gTup K 2 (gCons (gName 3) (gCons (gName 4) gNil))) (tt := tYes) (w1 := iTup K (tTup (tCons (tOp (rIxT K) (tVar 4) (tC (.int 0))) (StX.tStar K (tOp (rIxT K) (tVar 4) (tC (.int 1))) tNil)))) (g1 := gName 5) (u1 := tYes) (tk := tVar 5) (tv := tVar 3) rfl nd (pi_enum (by rfl) te (pa_cons (pe_fld (pv 0) rfl) pa_nil)) (blkOk_by (N := nEdInit) (sc := defScope sEdInit) (by decide +kernel)) (by decide)
          (fun _ _ _ _ _ => pg_tup rfl (pgs_cons (pg_name (i := 3) nd rfl (Or.inl rfl)) (pgs_cons (pg_name (i := 4) nd rfl (Or.inl rfl)) pgs_nil))) (fun _ _ _ _ _ => pts_nil) (fun _ _ _ _ _ => by exact (pv 5)) (fun _ _ _ _ _ => by exact (pv 3))
          (fun _ _ _ _ _ => by exact (pi_tup (pe_tup (pa_cons (pe_ix ix_tup (pv 4) pe_int (fun _ _ => rfl)) (StX.pa_star (pe_ix ix_tup (pv 4) pe_int (fun _ _ => rfl)) pa_nil))))) (fun _ _ _ _ _ => pg_name (i := 5) nd rfl (Or.inl rfl)) (fun _ _ _ _ _ => pts_nil))) rfl)
      (pss_one (ps_fld (pv 0) (by exact (pe_dc (own := [("place", 3), ("row", 4)]) (g := gTup K 2 (gCons (gName 3) (gCons (gName 4) gNil))) (tt := tYes) (tk := tOp (rIxT K) (tVar 4) (tC (.int 2))) (tv := tVar 3) rfl nd (pi_enum (by rfl) te (pa_cons (pe_fld (pv 0) rfl) pa_nil)) (blkOk_by (N := nEdInit) (sc := defScope sEdInit) (by decide +kernel))
          (fun _ _ _ _ _ => pg_tup rfl (pgs_cons (pg_name (i := 3) nd rfl (Or.inl rfl)) (pgs_cons (pg_name (i := 4) nd rfl (Or.inl rfl)) pgs_nil))) (fun _ _ _ _ _ => pts_nil) (fun _ _ _ _ _ => by exact (pe_ix ix_tup (pv 4) pe_int (fun _ _ => rfl))) (fun _ _ _ _ _ => by exact (pv 3)))) rfl)))), ?_⟩
    refine rd_seq (rd_call (rd_cons (rd_var rfl (rd_nil ⟨m, rows, rfl, hM, ok, fun H1 r rows' s1 nr hR ps => ?_⟩))))
    have hx1 := s1 _ _ hx
    have l16 : rows'.length ≤ 16 := by have := paired_len ps; have := ok.hi; omega
    refine ⟨_, rfl, x, C, dx, [], rfl, hx1, T.cl, T.nR, by decide, ?_⟩
    have b2 : But x H1 (upd H1 x (.ins C dx (putF "_rows" (.ref r) []))) := But.of
    have hx2 : upd H1 x (.ins C dx (putF "_rows" (.ref r) [])) x = some (.ins C dx (putF "_rows" (.ref r) [])) := upd_same
    have hR := hR.but b2 hx1
    have hA := (hA.but (x := x) (fun b u _ e => s1 b u e) hx).but b2 hx1
    have bb : But x H (upd H1 x (.ins C dx (putF "_rows" (.ref r) []))) := But.trans (fun b u _ e => s1 b u e) b2
    generalize upd H1 x (.ins C dx (putF "_rows" (.ref r) [])) = H2 at hx2 hR hA bb
    refine rd_seq (rd_call (rd_cons (rd_var rfl (rd_cons ⟨_, rfl, x, dx, _, rfl, hx2, x, dx, r, _, rows', rfl, hx2, by rw [lookup_putF, if_pos rfl], hR, l16, fun H3 q s3 nq c3 => ?_⟩))))
    rw [names_sorted ps] at c3
    have ln : (rows.map (·.name)).length ≤ 16 := by rw [List.length_map]; exact ok.hi
    have hA := hA.but (x := x) (fun b u _ e => s3 b u e) hx2
    refine rd_nil ⟨v, q, rows.map (·.name), sets, rfl, SqL.of c3, ln, hA, fun H4 g s4 ng hG => ?_⟩
    have s4 := s3.trans s4
    have hx4 := s4 _ _ hx2
    have hR := hR.later s4
    refine ⟨_, rfl, x, C, dx, _, rfl, hx4, T.cl, T.nG, by show 1 < 1000; decide, ?_⟩
    have b5 : But x H4 (upd H4 x (.ins C dx (putF "_groups" (.ref g) (putF "_rows" (.ref r) [])))) := But.of
    have hx5 : upd H4 x (.ins C dx (putF "_groups" (.ref g) (putF "_rows" (.ref r) []))) x = some (.ins C dx (putF "_groups" (.ref g) (putF "_rows" (.ref r) []))) := upd_same
    have hR := hR.but b5 hx4
    have hG := hG.but b5 hx4
    have bb := (bb.same s4).trans b5
    generalize upd H4 x (.ins C dx (putF "_groups" (.ref g) (putF "_rows" (.ref r) []))) = H5 at hx5 hR hG bb
    obtain ⟨us, hus, pu⟩ := id hR
    have lus := paired_len pu
    have gr : ¬ (("_groups" : Str) = "_rows") := by decide +kernel
    have rg : ¬ (("_rows" : Str) = "_groups") := by decide +kernel
    refine rd_seq ⟨_, rfl, x, C, dx, _, _, rfl, hx5, T.cl, T.nR, by rw [lookup_putF, if_neg rg, lookup_putF, if_pos rfl], r, us, rfl, SqL.of hus, fun pl hpl => ?_⟩
    have nd' : (marksOf rows').Nodup := (marks_perm ps).nodup_iff.mpr ok.nd
    have few' : ∀ y ∈ rows', y.al.length < 20 := by
      have : ∀ {l l' : List Row}, Paired SortedRow l l' → (∀ y ∈ l, y.al.length < 20) → ∀ y ∈ l', y.al.length < 20 := by
        intro l l' h
        induction h with
        | nil => exact fun _ y hy => by cases hy
        | cons r t ih =>
          intro a y hy
          rcases List.mem_cons.mp hy with rfl | hy
          · rw [r.perm.length_eq]
            exact a _ List.mem_cons_self
          · exact ih (fun z hz => a z (List.mem_cons_of_mem _ hz)) y hy
      exact this ps ok.few
    refine walk_any (walk_enum (xs := us)) (fun i H' => Same H5 H' ∧ H' pl = some (.dK (plKV rows' i))) ⟨(Same.refl H5).new hpl, upd_same⟩ (fun i H' _ z => SqL.of (z.1 _ _ hus)) ?_ ?_
    · rintro i v Ha Hb hi ⟨q1, cpl⟩ ⟨T0, y1, y2, rfl, hT0, rfl, e1, e2⟩
      obtain rfl := Option.some.inj e1
      have e2 : us[i]? = some y2 := e2
      obtain ⟨y, hy, t, al, rfl, ht, hal⟩ := paired_left pu e2
      have q2 : Same Ha (upd Ha T0 (.tup [V.int (i : Nat), .ref t])) := (Same.refl Ha).new hT0
      have c2 : upd Ha T0 (.tup [V.int (i : Nat), .ref t]) T0 = some (.tup [V.int (i : Nat), .ref t]) := upd_same
      generalize upd Ha T0 (.tup [V.int (i : Nat), .ref t]) = Hc at q2 c2 ⊢
      have q3 := q1.trans q2
      refine ⟨T0, _, rfl, SqT.of c2, rfl, _, _, rfl, _, _, rfl, rfl, rfl, rd_yes ?_⟩
      refine ⟨_, rfl, t, _, _, _, rfl, rfl, SqT.of (q3 _ _ ht), rfl, _, rfl, t, _, _, _, rfl, rfl, SqT.of (q3 _ _ ht), rfl, al, _, rfl, .inl (SqT.of (q3 _ _ hal)), ?_⟩
      have fy := few' y (List.mem_of_getElem? hy)
      refine rd_nil ⟨?_, fun tt htt => ?_⟩
      · simp only [List.length_cons, List.length_append, List.length_map, List.length_nil]
        exact Nat.le_trans (show y.al.length + 0 + 1 ≤ 100 by omega) (by decide)
      have ew : V.str y.name :: (y.al.map V.str ++ []) = (y.name :: y.al).map V.str := by rw [List.append_nil]; rfl
      rw [ew]
      have q4 : Same Hc (upd Hc tt (.tup ((y.name :: y.al).map V.str))) := (Same.refl Hc).new htt
      have c4 : upd Hc tt (.tup ((y.name :: y.al).map V.str)) tt = some (.tup ((y.name :: y.al).map V.str)) := upd_same
      generalize upd Hc tt (.tup ((y.name :: y.al).map V.str)) = Hd at q4 c4
      have q5 : Same H5 Hd := q3.trans q4
      have cpl := q4 _ _ (q2 _ _ cpl)
      refine ⟨tt, rfl, ⟨_, SqT.of c4⟩, ?_⟩
      obtain ⟨post, em⟩ := marks_split hy
      rw [em] at nd'
      have ep : plKV rows' (i + 1) = plKV rows' i ++ (y.name :: y.al).map fun z => (Sum.inr z, V.int (i : Nat)) := by
        show plKV rows' i ++ (match rows'[i]? with | some r => _ | none => _) = _
        rw [hy]
      obtain ⟨ndA, ndB, ndC⟩ := List.nodup_append.mp nd'
      have inM : ∀ z ∈ (y.name :: y.al), (Sum.inr z : Key) ∈ marksOf [y] := fun z hz => by
        simp only [marksOf, List.flatMap_cons, List.flatMap_nil, List.append_nil]
        refine List.mem_append_left _ ?_
        rcases List.mem_cons.mp hz with rfl | hz
        · exact List.mem_cons_self
        · exact List.mem_cons_of_mem _ (List.mem_map_of_mem hz)
      have ndY : (y.name :: y.al).Nodup := by
        have h1 := (List.nodup_append.mp ndB).1
        simp only [marksOf, List.flatMap_cons, List.flatMap_nil, List.append_nil] at h1
        have h2 := (List.nodup_append.mp h1).1
        have h3 : ((y.name :: y.al).map Sum.inr : List Key).Nodup := h2
        exact nodup_of_inr h3
      refine walk_any (walk_tup (xs := (y.name :: y.al).map V.str)) (fun j H' => Same H5 H' ∧ H' tt = some (.tup ((y.name :: y.al).map V.str)) ∧ H' pl = some (.dK (plKV rows' i ++ ((y.name :: y.al).take j).map fun z => (Sum.inr z, V.int (i : Nat))))) ⟨q5, c4, by simpa using cpl⟩ (fun j H' _ z => SqT.of z.2.1) ?_ ?_
      · rintro j w' He Hf hj ⟨r1, r2, r3⟩ ⟨rfl, hw⟩
        obtain ⟨z, hz, rfl⟩ : ∃ z, (y.name :: y.al)[j]? = some z ∧ w' = V.str z := by
          rw [List.getElem?_map] at hw
          cases e : (y.name :: y.al)[j]? with
          | none => rw [e] at hw; cases hw
          | some n => rw [e] at hw; exact ⟨n, rfl, (Option.some.inj hw).symm⟩
        have jl : j < (y.name :: y.al).length := (List.getElem?_eq_some_iff.mp hz).1
        have fresh : valV (plKV rows' i ++ ((y.name :: y.al).take j).map fun z => ((Sum.inr z : Key), V.int (i : Nat))) (.inr z : Key) = none := valV_no fun hm => by
          rw [List.map_append] at hm
          rcases List.mem_append.mp hm with hm | hm
          · exact ndC _ (pl_keys rows' i _ hm) _ (List.mem_append_left _ (inM z (List.mem_of_getElem? hz))) rfl
          · rw [List.map_map] at hm
            obtain ⟨z2, hz2, e⟩ := List.mem_map.mp hm
            obtain rfl := Sum.inr.inj e
            obtain ⟨b, hb⟩ := List.mem_iff_getElem?.mp hz2
            rw [List.getElem?_take] at hb
            split at hb
            · have := (List.getElem?_inj (by omega) ndY).mp (hb.trans hz.symm)
              omega
            · cases hb
        have sz : (plKV rows' i ++ ((y.name :: y.al).take j).map fun z => ((Sum.inr z : Key), V.int (i : Nat))).length ≤ 1000 := by
          have h1 := pl_size rows' few' i
          have h2 : i < rows'.length := (List.getElem?_eq_some_iff.mp hy).1
          rw [List.length_append, List.length_map, List.length_take]
          rw [List.length_cons] at jl ⊢
          omega
        refine rd_gn ⟨rfl, rd_yes ⟨_, rfl, _, rfl, _, .inr z, rfl, r3, Nat.lt_of_le_of_lt sz (by decide), r1.mut hpl, ?_, ?_⟩⟩
        · rw [upd_ne (ne_of r2 r3 fun z => by cases z)]
          exact r2
        · rw [upd_same, putK_new _ fresh, List.append_assoc, List.take_add_one, hz, List.map_append]
          rfl
      · rintro He ⟨r1, r2, r3⟩
        rw [List.length_map, List.take_length, ← ep] at r3
        exact ⟨r1, r3⟩
    · rintro H6 ⟨q6, c6⟩
      have lq : us.length = rows'.length := lus
      rw [lq] at c6
      have hx6 := q6 _ _ hx5
      have hR := hR.later q6
      have hG : GroupsAt H6 g (groupsOf (rows.map (·.name)) sets) := by
        obtain ⟨kvs, g1, g2⟩ := hG
        exact ⟨kvs, q6 _ _ g1, paired_map (fun kv y z => by obtain ⟨e, t, e2, h1⟩ := z; exact ⟨e, t, e2, q6 _ _ h1⟩) g2⟩
      have bb := bb.same q6
      have npx : pl ≠ x := (ne_of_none hx5 hpl).symm
      refine ⟨_, rfl, x, C, dx, _, rfl, hx6, T.cl, T.nP, by show 2 < 1000; decide, ?_⟩
      have b7 : But x H6 (upd H6 x (.ins C dx (putF "_places" (.ref pl) (putF "_groups" (.ref g) (putF "_rows" (.ref r) []))))) := But.of
      have hx7 : upd H6 x (.ins C dx (putF "_places" (.ref pl) (putF "_groups" (.ref g) (putF "_rows" (.ref r) [])))) x = some (.ins C dx (putF "_places" (.ref pl) (putF "_groups" (.ref g) (putF "_rows" (.ref r) [])))) := upd_same
      have hR := hR.but b7 hx6
      have hG := hG.but b7 hx6
      have c7 := b7 _ _ npx c6
      have bb := bb.trans b7
      generalize upd H6 x (.ins C dx (putF "_places" (.ref pl) (putF "_groups" (.ref g) (putF "_rows" (.ref r) [])))) = H7 at hx7 hR hG c7 bb
      obtain ⟨us, hus, pu⟩ := id hR
      have lus := paired_len pu
      have rp : ¬ (("_rows" : Str) = "_places") := by decide +kernel
      refine ⟨_, rfl, x, C, dx, _, _, rfl, hx7, T.cl, T.nR, by rw [lookup_putF, if_neg rp, lookup_putF, if_neg rg, lookup_putF, if_pos rfl], r, us, rfl, SqL.of hus, fun nu hnu => ?_⟩
      refine walk_any (walk_enum (xs := us)) (fun i H' => Same H7 H' ∧ H' nu = some (.dK (nuKV rows' i))) ⟨(Same.refl H7).new hnu, upd_same⟩ (fun i H' _ z => SqL.of (z.1 _ _ hus)) ?_ ?_
      · rintro i v Ha Hb hi ⟨q1, cnu⟩ ⟨T0, y1, y2, rfl, hT0, rfl, e1, e2⟩
        obtain rfl := Option.some.inj e1
        have e2 : us[i]? = some y2 := e2
        obtain ⟨y, hy, t, al, rfl, ht, hal⟩ := paired_left pu e2
        have q2 : Same Ha (upd Ha T0 (.tup [V.int (i : Nat), .ref t])) := (Same.refl Ha).new hT0
        have c2 : upd Ha T0 (.tup [V.int (i : Nat), .ref t]) T0 = some (.tup [V.int (i : Nat), .ref t]) := upd_same
        generalize upd Ha T0 (.tup [V.int (i : Nat), .ref t]) = Hc at q2 c2 ⊢
        have q3 := q1.trans q2
        have cnu := q2 _ _ cnu
        obtain ⟨post, em⟩ := marks_split hy
        rw [em] at nd'
        obtain ⟨ndA, ndB, ndC⟩ := List.nodup_append.mp nd'
        have fresh : valV (nuKV rows' i) (.inl y.num : Key) = none := valV_no fun hm => ndC _ (nu_keys rows' i _ hm) _ (List.mem_append_left _ (by simp [marksOf])) rfl
        have il : i < rows'.length := (List.getElem?_eq_some_iff.mp hy).1
        have sz := nu_size rows' i
        have ep : nuKV rows' (i + 1) = nuKV rows' i ++ [(Sum.inl y.num, V.int (i : Nat))] := by
          show nuKV rows' i ++ (match rows'[i]? with | some r => _ | none => _) = _
          rw [hy]
        refine ⟨T0, _, rfl, SqT.of c2, rfl, _, _, rfl, _, _, rfl, rfl, rfl, rd_yes ?_⟩
        refine ⟨_, rfl, t, _, _, _, rfl, rfl, SqT.of (q3 _ _ ht), rfl, _, rfl, _, .inl y.num, rfl, cnu, Nat.lt_of_le_of_lt (show (nuKV rows' i).length ≤ 16 by omega) (by decide), q3.mut hnu, ?_⟩
        rw [upd_same, putK_new _ fresh, ep]
      · rintro H8 ⟨q8, c8⟩
        rw [lus] at c8
        have hx8 := q8 _ _ hx7
        have nnx : nu ≠ x := (ne_of_none hx7 hnu).symm
        refine ⟨_, rfl, x, C, dx, _, rfl, hx8, T.cl, T.nN, by show 3 < 1000; decide, ?_⟩
        have b9 : But x H8 (upd H8 x (.ins C dx (edFs r g pl nu))) := But.of
        refine k _ rows' ((bb.same q8).trans b9) ps ⟨dx, r, g, pl, nu, upd_same, (hR.later q8).but b9 hx8, ?_, b9 _ _ npx (q8 _ _ c7), b9 _ _ nnx c8⟩
        have hG8 : GroupsAt H8 g (groupsOf (rows.map (·.name)) sets) := by
          obtain ⟨kvs, g1, g2⟩ := hG
          exact ⟨kvs, q8 _ _ g1, paired_map (fun kv y z => by obtain ⟨e, t, e2, h1⟩ := z; exact ⟨e, t, e2, q8 _ _ h1⟩) g2⟩
        exact hG8.but b9 hx8
end
end Gk
/-! ### a drawn model is right -/
namespace Gk
open PySem PySem.W PySem.Spec PyProof.Rows L2 NdefX
theorem pool_names : ∀ x ∈ poolL, nameB x = true := by decide +kernel
theorem set_names : ∀ x ∈ setNames, nameB x = true := by decide +kernel
theorem num_far : ∀ n ∈ numL, -farI ≤ n ∧ n ≤ farI := by decide +kernel
theorem words_cons (x : Row) (l : List Row) : wordsOf (x :: l) = (x.name :: x.al) ++ wordsOf l := rfl
theorem marks_apart : ∀ l : List Row, (marksOf l).Perm ((wordsOf l).map Sum.inr ++ (l.map (·.num)).map Sum.inl)
  | [] => List.Perm.refl _
  | x :: l => by
    rw [marks_cons, words_cons, List.map_cons, List.map_cons, List.map_append]
    have e : marksOf [x] = (x.name :: x.al).map Sum.inr ++ [Sum.inl x.num] := by simp [marksOf]
    rw [e, List.append_assoc, List.append_assoc]
    refine List.Perm.append_left _ ?_
    refine ((marks_apart l).cons (Sum.inl x.num)).trans ?_
    exact (List.perm_middle (a := (Sum.inl x.num : Key)) (l₁ := (wordsOf l).map Sum.inr) (l₂ := (l.map (·.num)).map Sum.inl)).symm
theorem nodup_map_inl : ∀ {ws : List Int}, ws.Nodup → (ws.map Sum.inl : List Key).Nodup
  | [], _ => List.nodup_nil
  | x :: ws, h => by
    rw [List.nodup_cons] at h
    rw [List.map_cons, List.nodup_cons]
    refine ⟨fun z => ?_, nodup_map_inl h.2⟩
    obtain ⟨y, hy, e⟩ := List.mem_map.mp z
    exact h.1 (Sum.inl.inj e ▸ hy)
theorem mem_words {l : List Row} {x : Row} (h : x ∈ l) : ∀ y ∈ x.name :: x.al, y ∈ wordsOf l := fun y hy => by
  unfold wordsOf
  exact List.mem_flatMap.mpr ⟨x, h, hy⟩
theorem ModelOk.rows {rows : List Row} {sets : List (Str × List Str)} (m : ModelOk rows sets) (lo : 1 ≤ rows.length) (hi : rows.length ≤ 16) : RowsOk rows := by
  refine ⟨lo, hi, fun x hx => ?_, fun x hx => Nat.lt_of_le_of_lt (m.few x hx) (by decide), ?_⟩
  · have far := num_far x.num (m.numm _ (List.mem_map_of_mem hx))
    exact ⟨pool_names _ (m.mem _ (mem_words hx _ List.mem_cons_self)), fun y hy => pool_names _ (m.mem _ (mem_words hx _ (List.mem_cons_of_mem _ hy))), far.1, far.2, Nat.le_trans (m.few x hx) (by decide)⟩
  · refine (marks_apart rows).nodup_iff.mpr (List.nodup_append.mpr ⟨nodup_inr m.nd, nodup_map_inl m.nums, fun a ha b hb e => ?_⟩)
    obtain ⟨y, _, rfl⟩ := List.mem_map.mp ha
    obtain ⟨z, _, rfl⟩ := List.mem_map.mp hb
    cases e
theorem three_of {ws : List Str} (nd : ws.Nodup) (sub : ∀ x ∈ ws, x ∈ setNames) : ws.length ≤ 3 := by
  have h : ∀ (l m : List Str), l.Nodup → (∀ x ∈ l, x ∈ m) → l.length ≤ m.length := by
    intro l
    induction l with
    | nil => exact fun m _ _ => Nat.zero_le _
    | cons x l ih =>
      intro m hn hs
      rw [List.nodup_cons] at hn
      obtain ⟨a, b, rfl⟩ := List.append_of_mem (hs x List.mem_cons_self)
      have := ih (a ++ b) hn.2 fun y hy => by
        rcases List.mem_append.mp (hs y (List.mem_cons_of_mem _ hy)) with z | z
        · exact List.mem_append_left _ z
        · rcases List.mem_cons.mp z with rfl | z
          · exact absurd hy hn.1
          · exact List.mem_append_right _ z
      rw [List.length_append] at this ⊢
      rw [List.length_cons, List.length_cons]
      omega
  exact h ws setNames nd sub
theorem ModelOk.good {rows : List Row} {sets : List (Str × List Str)} (m : ModelOk rows sets) (hi : rows.length ≤ 16) : SetsGood (rows.map (·.name)) sets := by
  have ndN : (rows.map (·.name)).Nodup := by
    have : ∀ l : List Row, (l.map (·.name)).Sublist (wordsOf l) := by
      intro l
      induction l with
      | nil => exact List.Sublist.refl _
      | cons x l ih =>
        rw [List.map_cons, words_cons, List.cons_append]
        exact List.Sublist.cons₂ _ (ih.trans (List.sublist_append_right _ _))
    exact m.nd.sublist (this rows)
  refine ⟨?_, m.sets.nd, fun x hx => set_names _ (m.sets.mem x hx), fun x hx y hy => (m.sets.sub x hx).subset hy, fun x hx => ndN.sublist (m.sets.sub x hx), fun x hx => ?_⟩
  · have := three_of m.sets.nd fun y hy => by
      obtain ⟨x, hx, rfl⟩ := List.mem_map.mp hy
      exact m.sets.mem x hx
    rwa [List.length_map] at this
  · have := (m.sets.sub x hx).length_le
    rw [List.length_map] at this
    omega
end Gk
/-! ### _law_edition -/
namespace Gk
open PySem PySem.W PySem.Spec PyProof.Rows L2 NdefX
abbrev sLawEd : Stmt := (top 33)
def spLawEd (C : Addr) : Sp := fun vs H Q _ => ∃ (a rw d : Addr) (rows : List Row) (sets : List (Str × List Str)), vs = [.ref a] ∧ H a = some (.tup [.ref rw, .ref d]) ∧ RowsAt H rw rows ∧ SetsAt H d sets ∧ RowsOk rows ∧ SetsGood (rows.map (·.name)) sets ∧
  ∀ (H' : Hp) (x : Addr) (rows' : List Row), Same H H' → H x = none → Paired SortedRow rows rows' → EdAt C H' x rows' (groupsOf (rows.map (·.name)) sets) → Q (.ref x) H'
section
variable {P : Program} {w : World} {K : Frag} {mg : Str → Option Value} {base : Heap}
theorem scLawEd : FnScope ["model"] ["model"] (defScope sLawEd) := ⟨rfl, rfl, rfl, by decide +kernel, rfl, by decide +kernel, by decide +kernel⟩
theorem ok_lawed {f C fI : Addr} {fd fdI : FuncData} (F : Fun K "_law_edition" "_law_edition" sLawEd f fd) (tL : mg "list" = none) (tD : mg "dict" = none) (M : Mk K C fI) (gC : mg "Edition" = some (.ref C))
    (GI : FnOk P w K mg base CX0 4 fI fdI ["self", "members", "sets"] (spEdInit K C)) (bI : Binds K fdI ["self", "members", "sets"] []) : FnOk P w K mg base CX0 6 f fd ["model"] (spLawEd C) := by
  refine F.ok scLawEd (fun vs H Q E h => ?_) (fun cdv A outer s H vs Q E hr h => ?_)
  · obtain ⟨a, rw, d, rows, sets, rfl, _⟩ := h
    rfl
  · obtain ⟨a, rw, d, rows, sets, rfl, ha, hR, hS, ok, good, k⟩ := h
    refine ⟨_, pss_one (ps_ret (pe_make M GI hr (by rfl) gC bI .nil pass0 (pa_cons (pe_callTy call_list_of (by rfl) tL boot_list2 (pa_cons (pe_ix ix_tup (pv 0) pe_int (fun _ _ => rfl)) pa_nil)) (pa_cons (pe_callTy call_dictD (by rfl) tD boot_dict' (pa_cons (pe_ix ix_tup (pv 0) pe_int (fun _ _ => rfl)) pa_nil)) pa_nil)))), ?_⟩
    obtain ⟨us, hus, pu⟩ := hR
    obtain ⟨kvs, hd, pk⟩ := hS
    refine rd_ret ?_
    unfold tMake
    refine rd_cons (rd_cb (rd_cons (rd_op (rd_var rfl (rd_c ⟨a, _, _, _, rfl, rfl, SqT.of ha, rfl, rd_nil ⟨rw, us, rfl, .inl (SqL.of hus), fun l hl => ?_⟩⟩)))))
    have s1 : Same H (upd H l (.lst us)) := (Same.refl H).new hl
    have cl : upd H l (.lst us) l = some (.lst us) := upd_same
    generalize upd H l (.lst us) = H1 at s1 cl
    refine rd_cons (rd_cb (rd_cons (rd_op (rd_var rfl (rd_c ⟨a, _, _, _, rfl, rfl, SqT.of (s1 _ _ ha), rfl, rd_nil ⟨d, kvs, rfl, .inl (s1 _ _ hd), fun e he => ?_⟩⟩)))))
    have s2 : Same H1 (upd H1 e (.dK kvs)) := (Same.refl H1).new he
    have ce : upd H1 e (.dK kvs) e = some (.dK kvs) := upd_same
    refine rd_nil fun x dx hx hdx ne => ?_
    generalize upd H1 e (.dK kvs) = H2 at s2 ce hx hdx
    have s3 : Same H2 (upd (upd H2 dx (.own x)) x (.ins C dx [])) := ((Same.refl H2).new hdx).new (by rw [upd_ne ne.symm]; exact hx)
    have cx : upd (upd H2 dx (.own x)) x (.ins C dx []) x = some (.ins C dx []) := upd_same
    show spEdInit K C _ (upd (upd H2 dx (.own x)) x (.ins C dx [])) _ _
    generalize upd (upd H2 dx (.own x)) x (.ins C dx []) = H3 at s3 cx
    have sA : Same H H3 := s1.trans (s2.trans s3)
    refine ⟨x, dx, l, .ref e, rows, sets, rfl, cx, ⟨us, .inl (SqL.of (s3 _ _ (s2 _ _ cl))), paired_map (fun v y z => (z.later sA).k) pu⟩, ok, .inr ⟨e, kvs, rfl, s3 _ _ ce, paired_map (fun kv y z => ?_) pk, good⟩, fun H' rows' bt ps ea => ⟨rfl, k H' x rows' (fun b u z => ?_) ((s1.trans s2).free hx) ps ea⟩⟩
    · obtain ⟨e1, l1, e2, h1⟩ := z
      exact ⟨e1, l1, e2, .inl (SqL.of (sA _ _ h1))⟩
    · exact bt b u (ne_of_none z ((s1.trans s2).free hx)) (sA b u z)
end
end Gk
/-! ### == of two dicts by their data, either answer -/
namespace Gk
open PySem PySem.Spec PyProof.Rows L2
def DKV (K : PySem.W.Frag) (H : Hp) (kv : Key × V) (e : Key × PyData) : Prop := kv.1 = e.1 ∧ Dp K H kv.2 e.2 ∧ SeqAt.shaped e.2 = true
def lookD (db : List (Key × PyData)) (k : Key) : Option PyData := (db.find? fun e => decide (e.1 = k)).map (·.2)
def hitsD (db : List (Key × PyData)) : List (Key × PyData) → Bool
  | [] => true
  | (k, d) :: r => match lookD db k with
    | none => false
    | some e => PyData.eqv d e && hitsD db r
def eqDD (da db : List (Key × PyData)) : Bool := decide (da.length = db.length) && hitsD db da
theorem lookD_of {K : PySem.W.Frag} {H : Hp} {k : Key} : ∀ {ls : List (Key × V)} {db : List (Key × PyData)}, Paired (DKV K H) ls db → (valV ls k = none ∧ lookD db k = none) ∨ ∃ v d, valV ls k = some v ∧ lookD db k = some d ∧ Dp K H v d ∧ SeqAt.shaped d = true
  | _, _, .nil => .inl ⟨rfl, rfl⟩
  | p :: ls, e :: db, .cons h t => by
    obtain ⟨h1, h2, h3⟩ := h
    by_cases hk : p.1 = k
    · refine .inr ⟨p.2, e.2, valV_pos hk, ?_, h2, h3⟩
      unfold lookD
      rw [List.find?_cons, decide_eq_true (h1 ▸ hk)]
      rfl
    · have hk2 : ¬ e.1 = k := h1 ▸ hk
      rw [valV_neg hk]
      have := lookD_of (k := k) t
      unfold lookD at this ⊢
      rw [List.find?_cons, decide_eq_false hk2]
      exact this
def rEqDD (K : PySem.W.Frag) : R2 := fun x y H Q => ∃ a b ks ls da db, x = .ref a ∧ y = .ref b ∧ H a = some (.dK ks) ∧ H b = some (.dK ls) ∧ Paired (DKV K H) ks da ∧ Paired (DKV K H) ls db ∧ Q (.bl (eqDD da db)) H
theorem op_eqDD {X : Cx} (hu : X.A.units + 66 < cLine) : OpR X (compareOp .Eq) (rEqDD X.K) := by
  intro pins s σ H x y v u Q I rx ry h
  obtain ⟨a, b, ks, ls, da, db, rfl, rfl, ea, eb, pa, pb, q⟩ := h
  obtain rfl : v = Value.ref a := rx
  obtain rfl : u = Value.ref b := ry
  obtain ⟨_, ya, va, ra, ia⟩ := (show ObjOk X.prog X.w H s.heap a (.dK ks) from I.hok a _ ea)
  obtain ⟨_, yb, vb, rb, ib⟩ := (show ObjOk X.prog X.w H s.heap b (.dK ls) from I.hok b _ eb)
  have hits : ∀ {ks' : List (Key × V)} {va' : List (Key × Value)} {da' : List (Key × PyData)}, KV ks' va' → Paired (DKV X.K H) ks' da' → PySem.W.KeqHits X.A.in1 s vb va' (hitsD db da') := by
    intro ks' va' da' r
    unfold KV at r
    induction r generalizing da' with
    | nil =>
      intro p
      cases p
      exact .nil
    | @cons p q ps qs h t ih =>
      intro pd
      cases pd with
      | @cons _ e _ es hd td =>
        obtain ⟨k, w⟩ := q
        obtain ⟨h1, h2⟩ := h
        obtain ⟨k', d⟩ := e
        obtain ⟨e1, e2, e3⟩ := hd
        obtain rfl : k' = k := e1.symm.trans h1
        have rv := rb.val k'
        rcases lookD_of (k := k') pb with ⟨n1, n2⟩ | ⟨v2, d2, n1, n2, n3, n4⟩
        · rw [n1] at rv
          have hn : valueAt vb k' = none := by
            cases z : valueAt vb k' with
            | none => rfl
            | some y => rw [z] at rv; exact rv.elim
          show PySem.W.KeqHits X.A.in1 s vb ((k', w) :: qs) (match lookD db k' with | none => false | some e => PyData.eqv d e && hitsD db es)
          rw [n2]
          exact .miss hn
        · rw [n1] at rv
          obtain ⟨y, hy, ry⟩ := rv.some_of
          show PySem.W.KeqHits X.A.in1 s vb ((k', w) :: qs) (match lookD db k' with | none => false | some e => PyData.eqv d e && hitsD db es)
          rw [n2]
          obtain ⟨as, r1⟩ := Dp.reads I d p.2 w e2 h2
          obtain ⟨bs, r2⟩ := Dp.reads I d2 v2 y n3 ry
          have dp : d.depth ≤ 64 := SeqAt.depth_of_shaped e3
          exact .hit hy (SeqAt.eqAt_reads d d2 X.A.in1 s w y as bs r1 r2 (SeqAt.canLay_of_shaped e3) (SeqAt.canLay_of_shaped n4) (by show X.A.units + 1 + min d.depth d2.depth < cLine; omega)) (ih td)
  have hl : va.length = da.length := by rw [← ra.length]; exact paired_len pa
  have hm : vb.length = db.length := by rw [← rb.length]; exact paired_len pb
  refine PySem.W.keq_eq (knd := mixKind X.prog X.w) (r := hitsD db da) ya yb ia ib (by omega) (fun _ => hits ra pa) (fin_bl I q ?_)
  unfold eqDD
  rw [hl, hm]
  by_cases e : da.length = db.length
  · rw [decide_eq_true e, beq_iff_eq.mpr e]
  · rw [decide_eq_false e, beq_eq_false_iff_ne.mpr e]
end Gk
/-! ### t[::-1] of a tuple -/
namespace HT
open PySem PySem.Spec PyProof.Rows
section
variable {prog : Program} {w : World} {A : Around} {E : Value → Shared → Prop} {s : Shared}
theorem rev_adjust (n : Nat) : Builtin.Slice.sliceAdjust none none (-1) (n : Int) = ((n : Int) - 1, -1) := by
  unfold Builtin.Slice.sliceAdjust
  have h1 : ((-1 : Int) < 0) := by decide
  simp only [h1, if_true]
theorem rev_places (n : Nat) : Builtin.Slice.slicePlaces ((n : Int) - 1) (-1) (-1) = n := by
  unfold Builtin.Slice.slicePlaces
  have h1 : ¬ ((-1 : Int) > 0) := by decide
  simp only [h1, if_false]
  by_cases h : (n : Int) - 1 > -1
  · rw [if_pos h, show (-(-1) : Int) = 1 by decide, Int.ediv_one]
    omega
  · rw [if_neg h]
    omega
theorem fm_congr {α β : Type} {f g : α → Option β} : ∀ {l : List α}, (∀ x ∈ l, f x = g x) → l.filterMap f = l.filterMap g
  | [], _ => rfl
  | x :: l, h => by rw [List.filterMap_cons, List.filterMap_cons, h x List.mem_cons_self, fm_congr fun y hy => h y (List.mem_cons_of_mem _ hy)]
theorem rev_pick (xs : Array Value) : ((List.range xs.size).filterMap fun (k : Nat) => xs[(((xs.size : Int) - 1) + (k : Int) * (-1)).toNat]?).toArray = xs.toList.reverse.toArray := by
  have e : ∀ k ∈ List.range xs.size, xs[(((xs.size : Int) - 1) + (k : Int) * (-1)).toNat]? = xs[xs.size - 1 - k]? := fun k hk => by
    have := List.mem_range.mp hk
    have h : (((xs.size : Int) - 1) + (k : Int) * (-1)).toNat = xs.size - 1 - k := by omega
    rw [h]
  rw [fm_congr e]
  have g : (List.range xs.size).filterMap (fun k => xs[xs.size - 1 - k]?) = ((List.range xs.size).map fun k => xs.size - 1 - k).filterMap (fun j => xs[j]?) := by
    rw [List.filterMap_map]
    rfl
  rw [g, PySem.W.krv_range, List.filterMap_reverse, PySem.W.krv_all]
theorem sliceApplied_rev {sl : Addr} {vl vu vs : Value} {n : Nat} {Q : Int × Int × Nat → Shared → Prop} (hs : s.heap.IsSliceOf sl vl vu vs) (pl : IsPart vl none) (pu : IsPart vu none) (ps : IsPart vs (some (-1)))
    (h : Q ((n : Int) - 1, -1, n) s) : wpAny (model prog w) A (Builtin.Slice.sliceApplied (.ref sl) (pure (n : Int))) Q E s := by
  obtain ⟨os, hos, hcs, hds⟩ := id hs
  unfold Builtin.Slice.sliceApplied Builtin.Slice.sliceFields
  refine wpAny_bind (wpAny_bind (wpAny_field hos hds (x := vl) rfl (wpAny_bind (wpAny_field hos hds (x := vu) rfl (wpAny_bind (wpAny_field hos hds (x := vs) rfl (wpAny_pure ?_)))))))
  refine wpAny_bind (slicePart_ ps ?_)
  show wpAny _ _ (if ((-1 : Int) == 0) = true then _ else _) _ _ s
  rw [if_neg (by decide)]
  refine wpAny_bind (slicePart_ pl (wpAny_bind (slicePart_ pu (wpAny_bind (wpAny_pure ?_)))))
  show wpAny _ _ (match Builtin.Slice.sliceAdjust none none (-1) (n : Int) with | (lo, hi) => pure (lo, (-1 : Int), Builtin.Slice.slicePlaces lo hi (-1))) _ _ s
  rw [rev_adjust n]
  show wpAny _ _ (pure ((n : Int) - 1, (-1 : Int), Builtin.Slice.slicePlaces ((n : Int) - 1) (-1) (-1))) _ _ s
  rw [rev_places]
  exact wpAny_pure h
theorem getItem_tuple_rev {t sl : Addr} {items : Array Value} {vl vu vs : Value} {Q : Value → Shared → Prop} (ht : IsTup s.heap t items) (hs : s.heap.IsSliceOf sl vl vu vs) (pl : IsPart vl none) (pu : IsPart vu none) (ps : IsPart vs (some (-1)))
    (h : Q (.ref s.heap.objs.size) { s with heap := s.heap.push { cls := .type "tuple", data := .seq items.toList.reverse.toArray } }) (hsz : items.size ≤ sizeLine) : wpAny (model prog w) A (getItem (.ref t) (.ref sl)) Q E s := by
  have htake : sizeOk (.seq items.toList.reverse.toArray) := by
    show items.toList.reverse.toArray.size ≤ sizeLine
    rw [List.size_toArray, List.length_reverse, Array.length_toList]
    omega
  obtain ⟨os, hos, hcs, hds⟩ := id hs
  have hTs : s.TypeIs (.ref sl) "slice" := ⟨os, hos, hcs⟩
  unfold getItem
  try with_reducible refine wpAny_holding ?_
  first | refine wpAny_bind (wpAny_pure ?_) | skip
  refine wpAny_bind (wpAny_sequenceKey ht.typeIs (by decide) ?_)
  refine wpAny_bind (wpAny_callSpecial?_slot (name := Str.ofString "__getitem__") ht.typeIs PyProof.Rows.slot_tuple_getitem
    (wpAny_call_entry PyProof.Rows.slot_tuple_getitem ht.typeIs entry_tuple_getitem ?_ (args_tuple_getitem _ _)))
  show wpAny _ _ (Builtin.Tuple.tupleItemsOf (.ref t) >>= _) _ _ s
  refine wpAny_bind (tupleItemsOf_ ht ?_)
  refine wpAny_bind (wpAny_typeOf hTs ?_)
  rw [if_pos (by decide)]
  refine wpAny_bind (sliceApplied_rev hs pl pu ps ?_)
  have hno : ¬ ((((items.size : Int) - 1) == 0 && (-1 : Int) == 1 && items.size == items.size) = true) := by
    intro q
    rw [Bool.and_eq_true, Bool.and_eq_true] at q
    exact absurd q.1.2 (by decide)
  show wpAny _ _ (if (((items.size : Int) - 1) == 0 && (-1 : Int) == 1 && items.size == items.size) = true then _ else _) _ _ s
  rw [if_neg hno, rev_pick]
  first
    | exact wpAny_bind (m := Builtin.Tuple.tupleExact _) (wpAny_newObj_type (wpAny_pure ⟨_, rfl, wpAny_pure h⟩) htake)
    | exact wpAny_bind (m := Builtin.Tuple.tupleExact _) (wpAny_newObj_type (wpAny_bind (wpAny_pure (wpAny_pure ⟨_, rfl, wpAny_pure h⟩))) htake)
    | exact wpAny_bind (wpAny_bind (m := Builtin.Tuple.tupleExact _) (wpAny_newObj_type (wpAny_pure (wpAny_pure ⟨_, rfl, wpAny_pure h⟩)) htake))
    | exact wpAny_bind (wpAny_bind (m := Builtin.Tuple.tupleExact _) (wpAny_newObj_type (wpAny_pure ⟨_, rfl, wpAny_pure h⟩) htake))
end
end HT
namespace Gk
open PySem PySem.W PySem.Spec PyProof.Rows L2
def tRevT (K : PySem.W.Frag) (te : TE) : TE := fun σ H Q => te σ H fun x H1 => ∃ a xs, x = .ref a ∧ SqT K H1 a xs ∧ ∀ p, H1 p = none → Q (.ref p) (upd H1 p (.tup xs.reverse))
theorem pe_revT {X : Cx} {e : Expr} {te : TE} {k : Nat} {p1 p2 p3 pos : Pos} (he : PE X e te) : PE X (.Subscript e (.Slice none none (some (.UnaryOp .USub (.Constant (.int 1) k p1) p2)) p3) pos) (tRevT X.K te) := by
  refine ⟨fun pins s σ H Q I h => ?_⟩
  refine Subscript_ (thn (he.run pins s σ H _ I h) fun v s1 ⟨x, H1, I1, r1, q1⟩ => ?_)
  obtain ⟨a, xs, ex, hx, q⟩ := q1
  subst ex
  cases r1
  have hst : PO X (some (.UnaryOp .USub (.Constant (.int 1) k p1) p2)) (tPart (tUn (rU fun i => .int (-i)) (tC (.int 1)))) := po_some (pe_un un_neg pe_int)
  refine wpAny_Slice (thn (po_none.run pins s1 σ H1 (fun o H2 => o = none ∧ H2 = H1) I1 ⟨rfl, rfl⟩) fun vl s2 ⟨l, H2, I2, pl, el, e2⟩ => ?_)
  subst el e2
  refine thn (po_none.run pins s2 σ H2 (fun o H3 => o = none ∧ H3 = H2) I2 ⟨rfl, rfl⟩) fun vu s3 ⟨u, H3, I3, pu, eu, e3⟩ => ?_
  subst eu e3
  refine thn (hst.run pins s3 σ H3 (fun o H4 => o = some (-1) ∧ H4 = H3) I3 ⟨1, rfl, -1, rfl, rfl, rfl⟩) fun vs s4 ⟨o, H4, I4, ps, eo, e4⟩ => ?_
  subst eo e4
  have I5 : Inv X pins σ H4 { s4 with heap := s4.heap.push { cls := .type "slice", data := .fields #[vl, vu, vs] } } := I4.kept (t' := s4.toks) fun b ob q => Heap.get?_push_of_some _ q
  obtain ⟨its, r, ht, hz⟩ := I5.tuple hx
  have hlen := r.length
  show wpAny (model X.prog X.w) X.A (subscriptTail e (.Slice none none (some (.UnaryOp .USub (.Constant (.int 1) k p1) p2)) p3) (.ref a) (.ref s4.heap.objs.size)) (EP X pins σ Q) X.xe { s4 with heap := s4.heap.push { cls := .type "slice", data := .fields #[vl, vu, vs] } }
  refine tail_any (ops := [.ref a, .ref s4.heap.objs.size]) ht.typeIs (PyProof.Rows.slot_tuple_getitem.lookup) ?_ (by with_unfolding_all rfl)
  refine HT.getItem_tuple_rev ht (Heap.IsSliceOf.new _ vl vu vs) pl pu ps ?_ (by rw [List.size_toArray]; omega)
  refine ⟨.ref _, _, I5.laid (t' := s4.toks) (o := .tup xs.reverse) (fun b ob q => Heap.get?_push_of_some _ q) (Nat.le_refl _) ?_, rfl, q _ (I5.hok.fresh (Nat.le_refl _))⟩
  exact ⟨by rw [List.length_reverse]; exact hz, _, r.reverse, IsTup.new _ _⟩
end Gk
/-! ### x == y and x != y by an own __eq__, either answer -/
namespace Gk
open PySem PySem.W PySem.Spec PyProof.Rows L2 NdefX
def rEqI (K : Frag) (C : Addr) (sp : Sp) (E : XK) : R2 := fun x y H Q => ∃ (a dx : Addr) (fs : List (Str × V)) (t : Value), x = .ref a ∧ H a = some (.ins C dx fs) ∧ TyX K H y t ∧ notFirst K C t = true ∧ sp [x, y] H (fun v H' => ∃ b, v = .bl b ∧ Q (.bl b) H') E
def rNeI (K : Frag) (C : Addr) (sp : Sp) (E : XK) : R2 := fun x y H Q => ∃ (a dx : Addr) (fs : List (Str × V)) (t : Value), x = .ref a ∧ H a = some (.ins C dx fs) ∧ TyX K H y t ∧ notFirst K C t = true ∧ sp [x, y] H (fun v H' => ∃ b, v = .bl b ∧ Q (.bl (!b)) H') E
section
variable {X : Cx} {CX : CXT} {C f : Addr} {fd : FuncData} {ps : List Str} {sp : Sp} {E : XK} {n : Nat}
/-- the call of the own def, somewhere in a rich comparison -/
theorem eqI_call (F : FnOk X.prog X.w X.K X.mg X.base CX n f fd ps sp) (hb : Binds X.K fd ps []) (hx : Passes CX X E) {A : Around} (hr : Room n A) (hfr : A.frames = X.A.frames)
    {pins : List (Addr × Obj)} {s : Shared} {σ : L2.St} {H : Hp} {a : Addr} {y : V} {u : Value} {Q : VK} (I : Inv X pins σ H s) (ry : RelV y u) (q : sp [.ref a, y] H Q E) :
    wpAny (model X.prog X.w) A (call (.ref f) [.ref a, u]) (EP X pins σ Q) X.xe s := by
  have e0 : Env0 X.prog X.w X.K X.mg X.base A X.stack s H := by
    have e := I.env0
    exact ⟨by rw [hfr]; exact e.frames, e.mod, e.bs, e.bsz, e.funs, e.frf, e.hok, e.bare⟩
  have hl := F.len _ _ _ _ q
  have r2 : Vals [V.ref a, y] [Value.ref a, u] := .cons rfl (.cons ry .nil)
  refine wpAny_call (codeAny_mono (F.run A X.stack s H ⟨[.ref a, u], []⟩ [.ref a, u] [.ref a, y] _ E hr e0 (by
    have := hb s [.ref a, u] I.kIn (by simpa using hl)
    simpa using this) r2 q) fun r s' hq => ?_)
  cases r with
  | error e => exact hx pins σ H s e s' I hq
  | ok fl =>
    cases fl with
    | ret w =>
      obtain ⟨z, H', I', rz, qz⟩ := I.after hq
      exact ⟨z, H', I', rz, qz⟩
    | next => exact False.elim hq
    | brk => exact False.elim hq
    | cont => exact False.elim hq
theorem op_eqI (F : FnOk X.prog X.w X.K X.mg X.base CX n f fd ps sp) (hr : Room n X.A) (hs : findIn X.K (.ref C) "__eq__" = some (some (.ref f))) (hf : isFn X.K (.ref f) = true) (hb : Binds X.K fd ps []) (hx : Passes CX X E) : OpR X (compareOp .Eq) (rEqI X.K C sp E) := by
  intro pins s σ H x y v u Q I rx ry h
  obtain ⟨a, dx, fs, t, rfl, ha, ty, hn, q⟩ := h
  obtain rfl : v = Value.ref a := rx
  obtain ⟨mA, J, _⟩ := ins_get I.hok ha
  obtain ⟨od, J, _⟩ := J.look
  obtain ⟨m, hF⟩ := I.fr
  obtain ⟨Pp, Z, p, _⟩ := kit_of I ry ty
  show wpAny (model X.prog X.w) X.A (richCompare .Eq (.ref a) u) (EP X pins σ Q) X.xe s
  refine PySem.W.cmp_K (op := .Eq) (tb := t) hr.units0 hF I.ok.mod.kin J (Z.ty _ _ I.kIn p) hn hs hf ?_
  refine wpAny_mono (eqI_call F hb hx hr rfl I ry q) (fun v s' z => ?_) fun _ _ x => x
  obtain ⟨z', H', I', rz, b, ez, qz⟩ := z
  subst ez
  obtain rfl : v = Value.bool b := rz
  exact ⟨.bl b, H', I', rfl, qz⟩
theorem bound_ne {M : Model} {A : Around} {Er : Value → Shared → Prop} {s : Shared} {K : Frag} {x C : Addr} {ox : Obj} {od : Option Obj} {args : List Value} {Q : Option Value → Shared → Prop} (X : K.In s.heap) (I : InstAt s.heap x ox C od)
    (hs : findIn K (.ref C) "__ne__" = some (some (.builtin "object.__ne__"))) (h : wpAny M A (call (.builtin "object.__ne__") (.ref x :: args)) (fun v => Q (some v)) Er s) : wpAny M A (callSpecialIfBound? (.ref x) "__ne__" args) Q Er s := by
  have S := PySem.F.cmp_object.ne
  simp only [callSpecialIfBound?, bindSpecialIfBound?]
  refine wpAny_holding (wpAny_bind (wpAny_bind (wpAny_bind (I.type.here ((looks_findIn X hs).here ?_)))))
  refine wpAny_bind (wpAny_askSetting (wpAny_ite ?_))
  have fin : wpAny M A (call (.builtin "object.__ne__") ([.ref x] ++ args) >>= fun v => pure (some v)) Q Er s := wpAny_bind (wpAny_mono h (fun v s' h' => wpAny_pure h') fun _ _ h' => h')
  have hB : bindSpecial (.builtin "object.__ne__") (.ref x) = pure (.builtin "object.__ne__", [.ref x]) := S.bind _
  split
  · exact wpAny_bind ((Looks.of_pure hB).here (wpAny_pure (by exact fin)))
  · exact wpAny_tryCatch (wpAny_bind ((Looks.of_pure hB).here (wpAny_pure (by exact fin))))
theorem op_neI (F : FnOk X.prog X.w X.K X.mg X.base CX n f fd ps sp) (hr : Room (n + 1) X.A) (hs : findIn X.K (.ref C) "__eq__" = some (some (.ref f))) (hn' : findIn X.K (.ref C) "__ne__" = some (some (.builtin "object.__ne__"))) (hm : mroIn X.K C (.type "object") = some true)
    (hf : isFn X.K (.ref f) = true) (hb : Binds X.K fd ps []) (hx : Passes CX X E) : OpR X (compareOp .NotEq) (rNeI X.K C sp E) := by
  intro pins s σ H x y v u Q I rx ry h
  obtain ⟨a, dx, fs, t, rfl, ha, ty, hn, q⟩ := h
  obtain rfl : v = Value.ref a := rx
  obtain ⟨mA, J, _⟩ := ins_get I.hok ha
  obtain ⟨od, J, _⟩ := J.look
  obtain ⟨Pp, Z, p, _⟩ := kit_of I ry ty
  have hu : X.A.units < cLine := (hr.mono (Nat.zero_le _)).units0
  have hr1 : Room n X.A.in1 := hr.in1
  have hu1 : X.A.in1.units < cLine := hr1.units0
  have hT : Looks (model X.prog X.w) s.heap (typeOf u) t := Z.ty _ _ I.kIn p
  -- object.__ne__ asks the own __eq__
  have two : wpAny (model X.prog X.w) X.A (call (.builtin "object.__ne__") [.ref a, u]) (EP X pins σ Q) X.xe s := by
    have sub : Looks (model X.prog X.w) s.heap (isInstance (.ref a) (.type "object")) true := J.type.andThen (looks_mroIn I.kIn hm)
    refine wpAny_call (codeAny_call_builtin PySem.F.cmp_object.ne.plain PySem.F.cmpEntry_ne (@check_slot (model X.prog X.w) _ _ s "object.__ne__" "object" "__ne__" (.ref a) [u] [] _ PySem.F.cmpKind_ne PySem.F.cmpSplit_ne sub (PySem.F.cmpArgs_ne (.ref a) u) ?_))
    have call1 : wpAny (model X.prog X.w) X.A.in1 (callSpecialIfBound? (.ref a) "__eq__" [u]) (fun r s' => ∃ b, r = some (.bool b) ∧ EP X pins σ Q (.bool (!b)) s') X.xe s := by
      refine PySem.W.ifBound_K I.kIn J hs hf (wpAny_mono (eqI_call F hb hx hr1 rfl I ry q) (fun v s' z => ?_) fun _ _ x => x)
      obtain ⟨z', H', I', rz, b, ez, qz⟩ := z
      subst ez
      obtain rfl : v = Value.bool b := rz
      exact ⟨b, rfl, .bl (!b), H', I', rfl, qz⟩
    show wpAny (model X.prog X.w) X.A.in1 (Builtin.«object.__ne__» ⟨[.ref a, u], []⟩) _ _ s
    unfold Builtin.«object.__ne__»
    repeat (first
      | with_reducible refine wpAny_cRoomFor hu1 ?_
      | (refine wpAny_bind (m := callSpecialIfBound? (.ref a) (Str.ofString "__eq__") [u]) (wpAny_mono call1 (fun r s' hr => by
          obtain ⟨b, rfl, hq⟩ := hr
          repeat (first | exact hq | exact wpAny_pure hq | exact wpAny_truthy_bool hq | (refine wpAny_bind (m := truthy (.bool _)) (wpAny_truthy_bool ?_)) | wp_step)) fun _ _ e => e))
      | wp_step)
  have one : wpAny (model X.prog X.w) X.A (tryCompare (.ref a) (cmpInfo .NotEq).2.1 u) (fun r s' => ∃ v, r = some v ∧ EP X pins σ Q v s') X.xe s := by
    unfold tryCompare
    refine wpAny_bind (bound_ne I.kIn J hn' (wpAny_mono two (fun v s' hv => ?_) fun _ _ e => e))
    have hv' := hv
    obtain ⟨z, H', I', rz, qz⟩ := hv'
    cases v <;> first | exact wpAny_pure ⟨_, rfl, hv⟩ | (exfalso; cases z <;> first | exact rz.elim | (obtain ⟨_, rz⟩ := rz; cases rz) | cases rz)
  show wpAny (model X.prog X.w) X.A (richCompare .NotEq (.ref a) u) (EP X pins σ Q) X.xe s
  unfold richCompare
  simp only [oneThing_ref]
  refine wpAny_holding (wpAny_bind (wpAny_cRoomFor hu ?_))
  refine wpAny_bind (J.type.here (wpAny_bind (hT.here ?_)))
  split
  · rename_i q
    have e : subIn X.K t (.ref C) = some false := by
      rcases Bool.or_eq_true_iff.mp hn with e | e
      · rw [beq_iff_eq.mp e] at q; simp at q
      · exact beq_iff_eq.mp e
    refine wpAny_bind ((looks_subIn I.kIn e).here ?_)
    simp only [Bool.false_eq_true, if_false]
    refine wpAny_bind (wpAny_mono one (fun r s' z => ?_) fun _ _ e => e)
    obtain ⟨v, rfl, hq⟩ := z
    exact wpAny_pure hq
  · refine wpAny_bind (wpAny_pure ?_)
    simp only [Bool.false_eq_true, if_false]
    refine wpAny_bind (wpAny_mono one (fun r s' z => ?_) fun _ _ e => e)
    obtain ⟨v, rfl, hq⟩ := z
    exact wpAny_pure hq
end
end Gk
/-! ### operators of own classes: x in y, len(x), x op y, x[y] -/
namespace Gk
open PySem PySem.W PySem.Spec PyProof.Rows L2 NdefX
section
variable {X : Cx} {CX : CXT} {C f : Addr} {fd : FuncData} {ps : List Str} {sp : Sp} {E : XK} {n : Nat}
/-- the call of an own def, somewhere below the running body -/
theorem own_call (F : FnOk X.prog X.w X.K X.mg X.base CX n f fd ps sp) (hb : Binds X.K fd ps []) (hx : Passes CX X E) {A : Around} (hr : Room n A) (hfr : A.frames = X.A.frames)
    {pins : List (Addr × Obj)} {s : Shared} {σ : L2.St} {H : Hp} {vs : List V} {us : List Value} {Q : VK} (I : Inv X pins σ H s) (r : Vals vs us) (q : sp vs H Q E) :
    wpAny (model X.prog X.w) A (call (.ref f) us) (EP X pins σ Q) X.xe s := by
  have e0 : Env0 X.prog X.w X.K X.mg X.base A X.stack s H := by
    have e := I.env0
    exact ⟨by rw [hfr]; exact e.frames, e.mod, e.bs, e.bsz, e.funs, e.frf, e.hok, e.bare⟩
  have hl := F.len _ _ _ _ q
  refine wpAny_call (codeAny_mono (F.run A X.stack s H ⟨us, []⟩ us vs _ E hr e0 (by
    have := hb s us I.kIn (by rw [List.append_nil, ← r.length]; exact hl)
    rwa [List.append_nil] at this) r q) fun r s' hq => ?_)
  cases r with
  | error e => exact hx pins σ H s e s' I hq
  | ok fl =>
    cases fl with
    | ret w =>
      obtain ⟨z, H', I', rz, qz⟩ := I.after hq
      exact ⟨z, H', I', rz, qz⟩
    | next => exact False.elim hq
    | brk => exact False.elim hq
    | cont => exact False.elim hq
def rInI (C : Addr) (sp : Sp) (E : XK) : R2 := fun x y H Q => ∃ (a dx : Addr) (fs : List (Str × V)), y = .ref a ∧ H a = some (.ins C dx fs) ∧ sp [y, x] H (fun v H' => ∃ b, v = .bl b ∧ Q (.bl b) H') E
def rNotInI (C : Addr) (sp : Sp) (E : XK) : R2 := fun x y H Q => ∃ (a dx : Addr) (fs : List (Str × V)), y = .ref a ∧ H a = some (.ins C dx fs) ∧ sp [y, x] H (fun v H' => ∃ b, v = .bl b ∧ Q (.bl (!b)) H') E
theorem op_inI (F : FnOk X.prog X.w X.K X.mg X.base CX n f fd ps sp) (hr : Room n X.A) (hs : findIn X.K (.ref C) "__contains__" = some (some (.ref f))) (hf : isFn X.K (.ref f) = true) (hb : Binds X.K fd ps []) (hx : Passes CX X E) : OpR X (compareOp .In) (rInI C sp E) := by
  intro pins s σ H x y v u Q I rx ry h
  obtain ⟨a, dx, fs, rfl, ha, q⟩ := h
  obtain rfl : u = Value.ref a := ry
  obtain ⟨mA, J, _⟩ := ins_get I.hok ha
  obtain ⟨od, J, _⟩ := J.look
  obtain ⟨m, hF⟩ := I.fr
  refine PySem.W.in_K hF I.ok.mod.kin J hs hf (wpAny_mono (own_call (vs := [.ref a, x]) F hb hx hr rfl I (.cons rfl (.cons rx .nil)) q) (fun v s' z => ?_) fun _ _ x => x)
  obtain ⟨z', H', I', rz, b, ez, qz⟩ := z
  subst ez
  obtain rfl : v = Value.bool b := rz
  exact wpAny_truthy_bool ⟨.bl b, H', I', rfl, qz⟩
theorem op_notInI (F : FnOk X.prog X.w X.K X.mg X.base CX n f fd ps sp) (hr : Room n X.A) (hs : findIn X.K (.ref C) "__contains__" = some (some (.ref f))) (hf : isFn X.K (.ref f) = true) (hb : Binds X.K fd ps []) (hx : Passes CX X E) : OpR X (compareOp .NotIn) (rNotInI C sp E) := by
  intro pins s σ H x y v u Q I rx ry h
  obtain ⟨a, dx, fs, rfl, ha, q⟩ := h
  obtain rfl : u = Value.ref a := ry
  obtain ⟨mA, J, _⟩ := ins_get I.hok ha
  obtain ⟨od, J, _⟩ := J.look
  obtain ⟨m, hF⟩ := I.fr
  refine PySem.W.notIn_K hF I.ok.mod.kin J hs hf (wpAny_mono (own_call (vs := [.ref a, x]) F hb hx hr rfl I (.cons rfl (.cons rx .nil)) q) (fun v s' z => ?_) fun _ _ x => x)
  obtain ⟨z', H', I', rz, b, ez, qz⟩ := z
  subst ez
  obtain rfl : v = Value.bool b := rz
  exact wpAny_truthy_bool ⟨.bl (!b), H', I', rfl, qz⟩
def rLenI (C : Addr) (sp : Sp) (E : XK) : List V → Hp → VK → Prop := fun xs H Q => ∃ (a dx : Addr) (fs : List (Str × V)), xs = [.ref a] ∧ H a = some (.ins C dx fs) ∧ sp [.ref a] H (fun v H' => ∃ k : Nat, v = .int k ∧ k ≤ 1000000 ∧ Q (.int k) H') E
theorem call_lenI (F : FnOk X.prog X.w X.K X.mg X.base CX n f fd ps sp) (hr : Room (n + 1) X.A) (hs : findIn X.K (.ref C) "__len__" = some (some (.ref f))) (hf : isFn X.K (.ref f) = true) (hb : Binds X.K fd ps []) (hx : Passes CX X E) : CallR X (.builtin "len") (rLenI C sp E) := by
  intro pins s σ H xs us Q I r h
  obtain ⟨a, dx, fs, rfl, ha, q⟩ := h
  obtain ⟨u, rfl, ru⟩ := r.one
  obtain rfl : u = Value.ref a := ru
  obtain ⟨mA, J, _⟩ := ins_get I.hok ha
  obtain ⟨od, J, _⟩ := J.look
  obtain ⟨m, hF⟩ := I.fr
  refine PySem.W.len_K hF I.ok.mod.kin J hs hf (wpAny_mono (own_call (vs := [.ref a]) F hb hx hr.in1 rfl I (.cons rfl .nil) q) (fun v s' z => ?_) fun _ _ x => x)
  obtain ⟨z', H', I', rz, b, ez, hb, qz⟩ := z
  subst ez
  obtain ⟨t, rfl⟩ := (show ∃ t, v = Value.int b t from rz)
  exact ⟨⟨by omega, by omega⟩, .int b, H', I'.tok _, ⟨_, rfl⟩, qz⟩
/-- x op y, both of the class at C, by its own def -/
def rBinI (C : Addr) (sp : Sp) (E : XK) : R2 := fun x y H Q => ∃ (a b dx dy : Addr) (fs gs : List (Str × V)), x = .ref a ∧ y = .ref b ∧ H a = some (.ins C dx fs) ∧ H b = some (.ins C dy gs) ∧ sp [x, y] H (fun v H' => ∃ c, v = .ref c ∧ Q v H') E
theorem op_binI {op : Operator} (F : FnOk X.prog X.w X.K X.mg X.base CX n f fd ps sp) (hr : Room n X.A) (hc : selfFirst X.K C = true) (hs : findIn X.K (.ref C) (PySem.dunder op.info.2) = some (some (.ref f))) (hf : isFn X.K (.ref f) = true) (hb : Binds X.K fd ps []) (hx : Passes CX X E) : OpR X (binaryOp op) (rBinI C sp E) := by
  intro pins s σ H x y v u Q I rx ry h
  obtain ⟨a, b, dx, dy, fs, gs, rfl, rfl, ha, hb', q⟩ := h
  obtain rfl : v = Value.ref a := rx
  obtain rfl : u = Value.ref b := ry
  obtain ⟨mA, J, _⟩ := ins_get I.hok ha
  obtain ⟨od, J, _⟩ := J.look
  obtain ⟨mB, J', _⟩ := ins_get I.hok hb'
  obtain ⟨od', J', _⟩ := J'.look
  obtain ⟨m, hF⟩ := I.fr
  refine PySem.W.binop_K hF I.ok.mod.kin J J'.type hc hs hf (wpAny_mono (own_call (vs := [.ref a, .ref b]) F hb hx hr rfl I (.cons rfl (.cons rfl .nil)) q) (fun v s' z => ?_) fun _ _ x => x)
  obtain ⟨z', H', I', rz, c, ez, qz⟩ := z
  subst ez
  obtain rfl : v = Value.ref c := rz
  exact ⟨.ref c, H', I', rfl, qz⟩
/-- x[y] by an own __getitem__ -/
def rSubI (C : Addr) (sp : Sp) (E : XK) : R2 := fun x y H Q => ∃ (a dx : Addr) (fs : List (Str × V)), x = .ref a ∧ H a = some (.ins C dx fs) ∧ sp [x, y] H Q E
theorem pe_subI {a b : Expr} {pos : Pos} {ta tb : TE} (F : FnOk X.prog X.w X.K X.mg X.base CX n f fd ps sp) (hr : Room (n + 1) X.A) (hs : findIn X.K (.ref C) "__getitem__" = some (some (.ref f))) (hf : isFn X.K (.ref f) = true) (hfn : fnIn X.K f = true) (hb : Binds X.K fd ps []) (hx : Passes CX X E)
    (ea : PE X a ta) (eb : PE X b tb) (hsl : ∀ v i, subscripted b true v i = runValue (.builtin "lifetime.subscript" ⟨[v, i], []⟩)) : PE X (.Subscript a b pos) (tOp (rSubI C sp E) ta tb) := by
  refine ⟨fun pins s σ H Q I h => ?_⟩
  refine Subscript_ (binT ea eb I h fun v u s2 x y H2 I2 rx ry q => ?_)
  obtain ⟨c, dx, fs, rfl, hc, q⟩ := q
  obtain rfl : v = Value.ref c := rx
  obtain ⟨mA, J, _⟩ := ins_get I2.hok hc
  obtain ⟨od, J, _⟩ := J.look
  obtain ⟨m, hF⟩ := I2.fr
  refine PySem.W.sub_K hF I2.ok.mod.kin J hs hfn hf (own_call (vs := [.ref c, y]) F hb hx hr.in1 rfl I2 (.cons rfl (.cons ry .nil)) q) (hsl _ _)
end
end Gk
/-! ### bool(a tuple), bool(an own object) -/
namespace GBT
open PySem PySem.Builtin PyProof.Rows
open PySem.Sem (wp)
section
variable {prog : Program} {w : World} {A : Around} {E : Value → Shared → Prop} {s : Shared}
theorem noBool_tuple : typeLookup (.type "tuple") "__bool__" = pure none := by rw [typeLookup_type, builtinLookup_eq_fast]; kernel_rfl
theorem len_body_tuple {t : Addr} {items : Array Value} {Q : Value → Shared → Prop} (ht : IsTup s.heap t items) (hfit : (items.size : Int) < 2 ^ 63)
    (h : Q (.int items.size (s.toks + 1)) { s with toks := s.toks + 1 + 1 }) : wpAny (model prog w) A (Builtin.«len» ⟨[.ref t], []⟩) (fun fin s' => ∃ r, fin = .done (.ret r) ∧ Q r s') E s := by
  unfold Builtin.«len»
  refine wpAny_bind (m := oneArg "len" _) (wpAny_pure ?_)
  refine wpAny_bind (m := callSpecial? (.ref t) (Str.ofString "__len__")) (wpAny_callSpecial?_slot (name := Str.ofString "__len__") ht.typeIs slot_tuple_len
    (wpAny_call_entry slot_tuple_len ht.typeIs entry_tuple_len ?_ (args_tuple_len _)))
  · show wpAny _ _ (do retInt (← Builtin.Tuple.tupleItemsOf (.ref t)).size) _ _ s
    refine wpAny_bind (tupleItemsOf_ ht ?_)
    refine wpAny_bind (wpAny_mkInt (wpAny_pure ⟨_, rfl, ?_⟩))
    refine wpAny_bind (wpAny_holding (wpAny_pure ?_))
    refine wpAny_bind (wpAny_letGo ?_)
    show wpAny _ _ (if ((items.size : Nat) : Int) < 0 then _ else _) _ _ _
    rw [if_neg (by omega)]
    show wpAny _ _ (if ((items.size : Nat) : Int) ≥ 2 ^ 63 then _ else _) _ _ _
    rw [if_neg (by omega)]
    exact wpAny_bind (wpAny_mkInt (wpAny_pure ⟨_, rfl, h⟩))
theorem truthy_tuple {t : Addr} {items : Array Value} {Q : Bool → Shared → Prop} (ht : IsTup s.heap t items) (hfit : (items.size : Int) < 2 ^ 63)
    (h : Q (!items.isEmpty) { s with toks := s.toks + 1 + 1 }) : wpAny (model prog w) A (truthy (.ref t)) Q E s := by
  have hT := ht.typeIs
  have hne : ((items.size : Int) != 0) = !items.isEmpty := by
    unfold Array.isEmpty
    rcases Nat.eq_zero_or_pos items.size with e | e
    · rw [e]; rfl
    · have h2 : items.size ≠ 0 := by omega
      have h1 : ((items.size : Int) != 0) = true := bne_iff_ne.mpr (by omega)
      rw [h1, decide_eq_false h2]; rfl
  have key : wpAny (model prog w) A (runValue (.builtin "len" ⟨[.ref t], []⟩)) (fun r s' => r = .int items.size (s.toks + 1) ∧ Q (!items.isEmpty) s') E s := by
    refine wpAny_runValue (codeAny_builtin entry_len ?_)
    rw [Around.under_plainId plain_len _]
    exact wpAny_mono (len_body_tuple (Q := fun r s' => r = .int items.size (s.toks + 1) ∧ Q (!items.isEmpty) s') ht hfit ⟨rfl, h⟩)
      (fun fin s' h' => by obtain ⟨r, rfl, hq⟩ := h'; exact hq) fun _ _ e => e
  unfold truthy
  first
    | refine wpAny_bind (wpAny_callSpecial?_none (name := Str.ofString "__bool__") hT noBool_tuple ?_)
    | refine wpAny_bind (wpAny_pure (wpAny_bind (wpAny_callSpecial?_none (name := Str.ofString "__bool__") hT noBool_tuple ?_)))
  first
    | refine wpAny_bind (wpAny_specialOf (name := Str.ofString "__len__") hT slot_tuple_len.lookup ?_)
    | refine wpAny_bind (wpAny_pure (wpAny_bind (wpAny_specialOf (name := Str.ofString "__len__") hT slot_tuple_len.lookup ?_)))
  first
    | exact wpAny_bind (wpAny_mono key (fun r s' h' => by obtain ⟨rfl, hq⟩ := h'; exact wpAny_pure (hne ▸ hq)) fun _ _ e => e)
    | exact wpAny_bind (wpAny_pure (wpAny_bind (wpAny_mono key (fun r s' h' => by obtain ⟨rfl, hq⟩ := h'; exact wpAny_pure (hne ▸ hq)) fun _ _ e => e)))
/-- bool(x): whatever x's truth asks -/
theorem meets_bool (x : Value) : MeetsIn prog w (Builtin.«bool.__new__» ⟨[.type "bool", x], []⟩) (fun A R s => wpAny (model prog w) A.in1 (truthy x) (fun b s' => R (.ok (.ret (.bool b))) s') (fun e s' => R (.error e) s') s) :=
  .of_wp fun A R s hs => by
    have f1 := F.conv_sub_bool
    obtain ⟨hp, g, d, tk, os⟩ := s
    unfold Builtin.«bool.__new__»
    repeat (any_goals (first
      | assumption
      | (refine wpAny_bind (m := truthy x) (wpAny_mono hs (fun b s' q => ?_) fun _ _ e => e))
      | wp_step))
    all_goals first | exact ⟨_, rfl, q⟩ | exact q | skip
theorem call_bool_any {x : Value} {Q : Value → Shared → Prop} (h : wpAny (model prog w) A.in1.in1 (truthy x) (fun b s' => s'.TypeIs (.bool b) "bool" → Q (.bool b) s') E s) : wpAny (model prog w) A (call (.type "bool") [x]) Q E s :=
  callType_newIn F.called_bool F.newNe_bool (F.typeCall_bool_1 x) (F.newCall_bool_1 x) (fun obj => F.args_object_init_2 obj x) F.entry_bool_new (meets_bool x)
    (wpAny_mono h (fun b s' q => ⟨rfl, q rfl⟩) fun _ _ e => e)
end
end GBT
namespace Gk
open PySem PySem.W PySem.Spec PyProof.Rows L2 NdefX
section
variable {X : Cx} {CX : CXT} {C f : Addr} {fd : FuncData} {ps : List Str} {sp : Sp} {E : XK} {n : Nat}
theorem call_boolT : CallR X (.type "bool") (fun xs H Q => ∃ (a : Addr) (zs : List V), xs = [.ref a] ∧ SqT X.K H a zs ∧ Q (.bl (!zs.isEmpty)) H) := by
  intro pins s σ H xs us Q I r h
  obtain ⟨a, zs, rfl, hq, q⟩ := h
  obtain rfl := Vals.ref1 r
  obtain ⟨its, rv, pl, hz⟩ := I.tuple hq
  have hl := line63
  have hlen := rv.length
  refine GBT.call_bool_any (GBT.truthy_tuple pl (by simp only [List.size_toArray]; omega) fun _ => ?_)
  exact ⟨.bl (!zs.isEmpty), H, I.tok _, by rw [isEmpty_of rv]; rfl, q⟩
/-- bool(x) by an own __bool__ -/
theorem call_boolI (F : FnOk X.prog X.w X.K X.mg X.base CX n f fd ps sp) (hr : Room (n + 2) X.A) (hs : findIn X.K (.ref C) "__bool__" = some (some (.ref f))) (hf : isFn X.K (.ref f) = true) (hb : Binds X.K fd ps []) (hx : Passes CX X E) :
    CallR X (.type "bool") (fun xs H Q => ∃ (a dx : Addr) (fs : List (Str × V)), xs = [.ref a] ∧ H a = some (.ins C dx fs) ∧ sp [.ref a] H (fun v H' => ∃ b, v = .bl b ∧ Q (.bl b) H') E) := by
  intro pins s σ H xs us Q I r h
  obtain ⟨a, dx, fs, rfl, ha, q⟩ := h
  obtain rfl := Vals.ref1 r
  obtain ⟨mA, J, _⟩ := ins_get I.hok ha
  obtain ⟨od, J, _⟩ := J.look
  obtain ⟨m, hF⟩ := I.fr
  have hr2 : Room n X.A.in1.in1 := (show Room (n + 1) X.A.in1 from Room.in1 hr).in1
  refine GBT.call_bool_any (PySem.W.truthy_K hF I.ok.mod.kin J hs hf (wpAny_mono (own_call (vs := [.ref a]) F hb hx hr2 rfl I (.cons rfl .nil) q) (fun v s' z => ?_) fun _ _ x => x))
  obtain ⟨z', H', I', rz, b, ez, qz⟩ := z
  subst ez
  obtain rfl : v = Value.bool b := rz
  exact fun _ => ⟨.bl b, H', I', rfl, qz⟩
end
end Gk
/-! ### Edition.__eq__ -/
namespace Gk
open PySem PySem.W PySem.Spec PyProof.Rows L2 NdefX
abbrev sEdEq : Stmt := (inClass (top 20) 7)
def rowD (x : Row) : PyData := .tuple [.str x.name, .tuple (x.al.map .str), .int x.num]
def rowsD (rows : List Row) : PyData := .list (rows.map rowD)
def gsD (gs : List (Str × List Int)) : List (Key × PyData) := gs.map fun x => (Sum.inr x.1, .tuple (x.2.map .int))
/-- all texts are data -/
def EdLay (rows : List Row) : Prop := ∀ x ∈ rows, PyData.strOk x.name = true ∧ ∀ y ∈ x.al, PyData.strOk y = true
def eqEd (rows : List Row) (gs : List (Str × List Int)) (rows' : List Row) (gs' : List (Str × List Int)) : Bool := PyData.eqv (rowsD rows) (rowsD rows') && eqDD (gsD gs) (gsD gs')
def kinds7 : List String := ["NoneType", "bool", "int", "str", "list", "tuple", "dict"]
/-- what the text says of isinstance(.., C) and of ==, for a class C -/
structure ClsQ (K : Frag) (C : Addr) : Prop where
  cl : Cls K C
  ha : findIn K (.ref C) "__class__" = some (some (.builtin "object.__class__"))
  hn : specialIn K (.builtin "object.__class__") "__get__" = some (some (.builtin "getset_descriptor.__get__"))
  htk : takesIn K (.builtin "object.__class__") = some true
  hm : mroIn K C (.type "object") = some true
  own : kitOne K (.ref C) (.ref C) = some true
  oth : ∀ T ∈ kinds7, kitOne K (.type T) (.ref C) = some false
  nf : ∀ T ∈ kinds7, notFirst K C (.type T) = true
theorem ClsQ.ty {K : Frag} {C : Addr} (Z : ClsQ K C) {H : Hp} {a dx : Addr} {fs : List (Str × V)} (e : H a = some (.ins C dx fs)) : TyX K H (.ref a) (.ref C) := .base (.ins e Z.cl Z.ha Z.hn Z.htk Z.hm)
theorem ClsQ.self {K : Frag} {C : Addr} : notFirst K C (.ref C) = true := by simp [notFirst]
theorem dp_strs {K : Frag} {H : Hp} : ∀ ws : List Str, DpAll K H (ws.map V.str) (ws.map PyData.str)
  | [] => .nil
  | x :: ws => .cons (.str x) (dp_strs ws)
theorem dp_ints {K : Frag} {H : Hp} : ∀ ws : List Int, DpAll K H (ws.map V.int) (ws.map PyData.int)
  | [] => .nil
  | x :: ws => .cons (.int x) (dp_ints ws)
theorem dp_rows {K : Frag} {H : Hp} {vs : List V} {rows : List Row} (h : Paired (RowAt H) vs rows) : DpAll K H vs (rows.map rowD) := by
  induction h with
  | nil => exact .nil
  | cons r t ih =>
    obtain ⟨t, a, rfl, h1, h2⟩ := r
    exact .cons (.tup (SqT.of h1) (.cons (.str _) (.cons (.tup (SqT.of h2) (dp_strs _)) (.cons (.int _) .nil)))) ih
theorem strs_lay : ∀ ws : List Str, (∀ y ∈ ws, PyData.strOk y = true) → PyData.canLayAll0 (ws.map PyData.str) = true ∧ PyData.depthAll (ws.map PyData.str) = 0
  | [], _ => ⟨rfl, rfl⟩
  | x :: ws, h => by simp [PyData.canLayAll0, PyData.canLay0, PyData.depthAll, PyData.depth, h x List.mem_cons_self, strs_lay ws fun k z => h k (List.mem_cons_of_mem _ z)]
theorem ints_lay : ∀ ws : List Int, PyData.canLayAll0 (ws.map PyData.int) = true ∧ PyData.depthAll (ws.map PyData.int) = 0
  | [] => ⟨rfl, rfl⟩
  | x :: ws => by simp [PyData.canLayAll0, PyData.canLay0, PyData.depthAll, PyData.depth, ints_lay ws]
theorem rows_lay : ∀ rows : List Row, EdLay rows → PyData.canLayAll0 (rows.map rowD) = true ∧ PyData.depthAll (rows.map rowD) ≤ 2
  | [], _ => ⟨rfl, Nat.zero_le _⟩
  | x :: rows, h => by
    obtain ⟨h1, h2⟩ := h x List.mem_cons_self
    obtain ⟨a, b⟩ := rows_lay rows fun y z => h y (List.mem_cons_of_mem _ z)
    obtain ⟨c, d⟩ := strs_lay x.al h2
    simp only [List.map_cons, PyData.canLayAll0, PyData.depthAll, rowD, PyData.canLay0, PyData.depth, h1, c, a, d, Bool.and_true, Bool.and_self, true_and]
    omega
theorem rowsD_shaped {rows : List Row} (h : EdLay rows) : SeqAt.shaped (rowsD rows) = true := by
  obtain ⟨a, b⟩ := rows_lay rows h
  unfold rowsD SeqAt.shaped
  rw [PyData.canLay0, PyData.depth, a, Bool.true_and, decide_eq_true_eq]
  omega
theorem dkv_groups {K : Frag} {H : Hp} {kvs : List (Key × V)} {gs : List (Str × List Int)} (h : Paired (GrpKV H) kvs gs) : Paired (DKV K H) kvs (gsD gs) := by
  induction h with
  | nil => exact .nil
  | cons r t ih =>
    obtain ⟨e, t, e2, h1⟩ := r
    refine .cons ⟨e, ?_, ?_⟩ ih
    · rw [e2]
      exact .tup (SqT.of h1) (dp_ints _)
    · obtain ⟨c, d⟩ := ints_lay (by assumption : Str × List Int).2
      unfold SeqAt.shaped
      rw [PyData.canLay0, PyData.depth, c, d]
      rfl
def spEdEq (K : Frag) (C : Addr) : Sp := fun vs H Q _ => ∃ (x : Addr) (y : V) (rows : List Row) (gs : List (Str × List Int)), vs = [.ref x, y] ∧ EdAt C H x rows gs ∧ EdLay rows ∧
  ((∃ (b : Addr) (rows' : List Row) (gs' : List (Str × List Int)), y = .ref b ∧ EdAt C H b rows' gs' ∧ EdLay rows' ∧ Q (.bl (eqEd rows gs rows' gs')) H) ∨ ∃ T, T ∈ kinds7 ∧ TyX K H y (.type T) ∧ Q (.bl false) H)
theorem edFs_rows {r g pl nu : Addr} : (edFs r g pl nu).lookup ("_rows" : Str) = some (V.ref r) := by
  have h1 : ¬ (("_rows" : Str) = "_numbers") := by decide +kernel
  have h2 : ¬ (("_rows" : Str) = "_places") := by decide +kernel
  have h3 : ¬ (("_rows" : Str) = "_groups") := by decide +kernel
  unfold edFs
  rw [lookup_putF, if_neg h1, lookup_putF, if_neg h2, lookup_putF, if_neg h3, lookup_putF, if_pos rfl]
theorem edFs_groups {r g pl nu : Addr} : (edFs r g pl nu).lookup ("_groups" : Str) = some (V.ref g) := by
  have h1 : ¬ (("_groups" : Str) = "_numbers") := by decide +kernel
  have h2 : ¬ (("_groups" : Str) = "_places") := by decide +kernel
  unfold edFs
  rw [lookup_putF, if_neg h1, lookup_putF, if_neg h2, lookup_putF, if_pos rfl]
theorem hu66 {A : Around} {k : Nat} (hr : Room k A) : A.units + 66 < cLine := by have := hr.un; omega
section
variable {P : Program} {w : World} {K : Frag} {mg : Str → Option Value} {base : Heap}
theorem scEdEq : FnScope ["self", "other"] ["self", "other"] (defScope sEdEq) := ⟨rfl, rfl, rfl, by decide +kernel, rfl, by decide +kernel, by decide +kernel⟩
theorem ok_edeq {f C : Addr} {fd : FuncData} (F : Fun K "__eq__" "Edition.__eq__" sEdEq f fd) (T : EdTxt K C) (Z : ClsQ K C) (ti : mg "isinstance" = none) (gC : mg "Edition" = some (.ref C)) : FnOk P w K mg base CX0 1 f fd ["self", "other"] (spEdEq K C) := by
  refine F.ok scEdEq (fun vs H Q E h => ?_) (fun cdv A outer s H vs Q E hr h => ?_)
  · obtain ⟨x, y, rows, gs, rfl, _⟩ := h
    rfl
  · obtain ⟨x, y, rows, gs, rfl, hx, lay, k⟩ := h
    refine ⟨_, pss_cons (ps_if (pt_not (pt_val (pe_callB call_isi (by rfl) ti boot_isi' (pa_cons (pv 1) (pa_cons (pe_glob (v := .ref C) (by rfl) gC rfl) pa_nil))))) (pss_one (ps_ret pe_bl)) pss_nil)
      (pss_one (ps_ret (pe_and (pe_cmpR (op_eqD hr.units) (pe_fld (pv 0) rfl) (pe_fld (pv 1) rfl) (nomark _)) (pe_one (pe_cmpR (op_eqDD (hu66 hr)) (pe_fld (pv 0) rfl) (pe_fld (pv 1) rfl) (nomark _)))))), ?_⟩
    refine rd_seq (rd_if (rd_not (rd_b (rd_cb (rd_cons (rd_var rfl (rd_cons (rd_c (rd_nil ?_)))))))))
    rcases k with ⟨b, rows', gs', rfl, hb, lay', k⟩ | ⟨S, hS, ty, k⟩
    · obtain ⟨dx, r, g, pl, nu, ex, hR, hG, _⟩ := hx
      obtain ⟨dy, r', g', pl', nu', ey, hR', hG', _⟩ := hb
      refine ⟨_, _, _, _, true, rfl, .own C, Z.ty ey, Z.own, true, rfl, ?_⟩
      refine ite_no rfl (rd_next ?_)
      with_reducible refine rd_ret ?_
      obtain ⟨vs, c1, p1⟩ := hR
      obtain ⟨vs', c1', p1'⟩ := hR'
      refine rd_op ⟨_, rfl, x, C, dx, _, _, rfl, ex, T.cl, T.nR, edFs_rows, ?_⟩
      refine ⟨_, rfl, b, C, dy, _, _, rfl, ey, T.cl, T.nR, edFs_rows, ?_⟩
      refine ⟨rowsD rows, rowsD rows', .lst (SqL.of c1) (dp_rows p1), .lst (SqL.of c1') (dp_rows p1'), rowsD_shaped lay, rowsD_shaped lay', _, rfl, ?_⟩
      unfold eqEd at k
      cases e : PyData.eqv (rowsD rows) (rowsD rows') with
      | false =>
        rw [e, Bool.false_and] at k
        exact k
      | true =>
        rw [e, Bool.true_and] at k
        obtain ⟨kv, d1, q1⟩ := hG
        obtain ⟨kv', d1', q1'⟩ := hG'
        refine ite_yes rfl (rd_op ⟨_, rfl, x, C, dx, _, _, rfl, ex, T.cl, T.nG, edFs_groups, ?_⟩)
        refine ⟨_, rfl, b, C, dy, _, _, rfl, ey, T.cl, T.nG, edFs_groups, ?_⟩
        exact ⟨g, g', kv, kv', _, _, rfl, rfl, d1, d1', dkv_groups q1, dkv_groups q1', k⟩
    · exact ⟨_, _, _, _, false, rfl, .own C, ty, Z.oth S hS, false, rfl, ite_yes rfl (rd_ret (rd_c k))⟩
end
end Gk
/-! ### the property sets, everything, and what a Group is made of -/
namespace Gk
open PySem PySem.W PySem.Spec PyProof.Rows L2 NdefX
abbrev sEdSets : Stmt := (inClass (top 20) 2)
abbrev sEdAll : Stmt := (inClass (top 20) 10)
abbrev sGrInit : Stmt := (inClass (top 19) 0)
abbrev sGrEq : Stmt := (inClass (top 19) 5)
def spEdSets (C : Addr) : Sp := fun vs H Q _ => ∃ (x : Addr) (rows : List Row) (gs : List (Str × List Int)), vs = [.ref x] ∧ EdAt C H x rows gs ∧ gs.length < 64 ∧
  ∀ (H' : Hp) (q : Addr) (ys : List Str), Same H H' → H q = none → H' q = some (.lst (ys.map V.str)) → ys.Perm (gs.map (·.1)) → sortedS ys = true → Q (.ref q) H'
theorem grp_keys {H : Hp} {kvs : List (Key × V)} {gs : List (Str × List Int)} (h : Paired (GrpKV H) kvs gs) : kvs.map (·.1) = (gs.map (·.1)).map Sum.inr := by
  induction h with
  | nil => rfl
  | cons r t ih =>
    rw [List.map_cons, List.map_cons, List.map_cons, ih, r.1]
structure GrTxt (K : Frag) (C : Addr) : Prop where
  cl : Cls K C
  nE : NoAttr K C "_edition"
  nP : NoAttr K C "_places"
def grFs (e t : Addr) : List (Str × V) := putF "_places" (.ref t) (putF "_edition" (.ref e) [])
def GrAt (K : Frag) (C : Addr) (H : Hp) (x e : Addr) (ns : List Int) : Prop := ∃ dx t, H x = some (.ins C dx (grFs e t)) ∧ SqT K H t (ns.map V.int)
def spGrInit (K : Frag) (C : Addr) : Sp := fun vs H Q _ => ∃ (x dx e p : Addr) (ns : List Int), vs = [.ref x, .ref e, .ref p] ∧ H x = some (.ins C dx []) ∧ (SqL K H p (ns.map V.int) ∨ SqT K H p (ns.map V.int)) ∧
  ∀ H', But x H H' → GrAt K C H' x e ns → Q .non H'
def spEdAll (K : Frag) (CE CG : Addr) : Sp := fun vs H Q _ => ∃ (x : Addr) (rows : List Row) (gs : List (Str × List Int)), vs = [.ref x] ∧ EdAt CE H x rows gs ∧ rows.length ≤ 16 ∧
  ∀ (H' : Hp) (q : Addr), Same H H' → H q = none → GrAt K CG H' q x ((List.range rows.length).map fun (i : Nat) => (i : Int)) → Q (.ref q) H'
theorem sqt_but {K : Frag} {x l C dx : Addr} {fs : List (Str × V)} {xs : List V} {H H1 : Hp} (hq : SqT K H l xs) (a : But x H H1) (hx : H x = some (.ins C dx fs)) : SqT K H1 l xs := by
  rcases hq with (h | ⟨u, h⟩) | h
  · exact .inl (.inl (a.keep hx h (fun _ _ _ z => by cases z)))
  · exact .inl (.inr ⟨u, a.keep hx h (fun _ _ _ z => by cases z)⟩)
  · exact .inr h
theorem EdAt.later {C : Addr} {H H' : Hp} {x : Addr} {rows : List Row} {gs : List (Str × List Int)} (h : EdAt C H x rows gs) (s : Same H H') : EdAt C H' x rows gs := by
  obtain ⟨dx, r, g, pl, nu, h1, h2, h3, h4, h5⟩ := h.ob
  refine ⟨dx, r, g, pl, nu, s _ _ h1, h2.later s, ?_, s _ _ h4, s _ _ h5⟩
  obtain ⟨kvs, g1, g2⟩ := h3
  exact ⟨kvs, s _ _ g1, paired_map (fun kv y z => by obtain ⟨e, t, e2, q⟩ := z; exact ⟨e, t, e2, s _ _ q⟩) g2⟩
section
variable {P : Program} {w : World} {K : Frag} {mg : Str → Option Value} {base : Heap}
theorem scEdSets : FnScope ["self"] ["self"] (defScope sEdSets) := ⟨rfl, rfl, rfl, by decide +kernel, rfl, by decide +kernel, by decide +kernel⟩
theorem ok_edsets {f C : Addr} {fd : FuncData} (F : Fun K "sets" "Edition.sets" sEdSets f fd) (T : EdTxt K C) (ts : mg "sorted" = none) : FnOk P w K mg base CX0 1 f fd ["self"] (spEdSets C) := by
  refine F.ok scEdSets (fun vs H Q E h => ?_) (fun cdv A outer s H vs Q E hr h => ?_)
  · obtain ⟨x, rows, gs, rfl, _⟩ := h
    rfl
  · obtain ⟨x, rows, gs, rfl, hx, l64, k⟩ := h
    refine ⟨_, pss_one (ps_ret (pe_callB (call_sortedD rfl) (by rfl) ts boot_sorted' (pa_cons (pe_fld (pv 0) rfl) pa_nil))), ?_⟩
    obtain ⟨dx, r, g, pl, nu, ex, hR, hG, _⟩ := hx
    obtain ⟨kv, d1, q1⟩ := hG
    refine rd_ret (rd_cb (rd_cons ?_))
    refine ⟨_, rfl, x, C, dx, _, _, rfl, ex, T.cl, T.nG, edFs_groups, ?_⟩
    refine rd_nil ⟨g, kv, gs.map (·.1), rfl, .inl d1, grp_keys q1, by rw [List.length_map]; exact l64, fun ys p py sy hp => ?_⟩
    exact k _ p ys ((Same.refl H).new hp) hp upd_same py sy
theorem scGrInit : FnScope ["self", "edition", "places"] ["self", "edition", "places"] (defScope sGrInit) := ⟨rfl, rfl, rfl, by decide +kernel, rfl, by decide +kernel, by decide +kernel⟩
theorem ok_grinit {f C : Addr} {fd : FuncData} (F : Fun K "__init__" "Group.__init__" sGrInit f fd) (T : GrTxt K C) (tT : mg "tuple" = none) : FnOk P w K mg base CX0 1 f fd ["self", "edition", "places"] (spGrInit K C) := by
  refine F.ok scGrInit (fun vs H Q E h => ?_) (fun cdv A outer s H vs Q E hr h => ?_)
  · obtain ⟨x, dx, e, p, ns, rfl, _⟩ := h
    rfl
  · obtain ⟨x, dx, e, p, ns, rfl, hx, hp, k⟩ := h
    refine ⟨_, pss_cons (ps_fld (pv 0) (pv 1) rfl) (pss_one (ps_fld (pv 0) (pe_callTy call_tuple_of (by rfl) tT boot_tuple' (pa_cons (pv 2) pa_nil)) rfl)), ?_⟩
    refine rd_seq ⟨_, rfl, _, rfl, x, C, dx, [], rfl, hx, T.cl, T.nE, by decide, ?_⟩
    have b1 : But x H (upd H x (.ins C dx (putF "_edition" (.ref e) []))) := But.of
    have hx1 : upd H x (.ins C dx (putF "_edition" (.ref e) [])) x = some (.ins C dx (putF "_edition" (.ref e) [])) := upd_same
    have hp := seq_but hp b1 hx
    generalize upd H x (.ins C dx (putF "_edition" (.ref e) [])) = H1 at b1 hx1 hp
    refine ⟨_, rfl, p, ns.map V.int, rfl, ?_⟩
    rcases hp with hp | hp
    · refine .inl ⟨hp, fun t ht => ?_⟩
      have s2 : Same H1 (upd H1 t (.tup (ns.map V.int))) := (Same.refl H1).new ht
      have c2 : upd H1 t (.tup (ns.map V.int)) t = some (.tup (ns.map V.int)) := upd_same
      generalize upd H1 t (.tup (ns.map V.int)) = H2 at s2 c2
      have hx2 := s2 _ _ hx1
      refine ⟨_, rfl, x, C, dx, _, rfl, hx2, T.cl, T.nP, by show 1 < 1000; decide, ?_⟩
      have b3 : But x H2 (upd H2 x (.ins C dx (grFs e t))) := But.of
      exact k _ ((b1.same s2).trans b3) ⟨dx, t, upd_same, sqt_but (SqT.of c2) b3 hx2⟩
    · refine .inr ⟨hp, ?_⟩
      refine ⟨_, rfl, x, C, dx, _, rfl, hx1, T.cl, T.nP, by show 1 < 1000; decide, ?_⟩
      have b3 : But x H1 (upd H1 x (.ins C dx (grFs e p))) := But.of
      exact k _ (b1.trans b3) ⟨dx, p, upd_same, sqt_but hp b3 hx1⟩
theorem scEdAll : FnScope ["self"] ["self"] (defScope sEdAll) := ⟨rfl, rfl, rfl, by decide +kernel, rfl, by decide +kernel, by decide +kernel⟩
theorem ok_edall {f CE CG fI : Addr} {fd fdI : FuncData} (F : Fun K "everything" "Edition.everything" sEdAll f fd) (T : EdTxt K CE) (tL : mg "list" = none) (tR : mg "range" = none) (tN : mg "len" = none) (M : Mk K CG fI) (gG : mg "Group" = some (.ref CG))
    (GI : FnOk P w K mg base CX0 1 fI fdI ["self", "edition", "places"] (spGrInit K CG)) (bI : Binds K fdI ["self", "edition", "places"] []) : FnOk P w K mg base CX0 3 f fd ["self"] (spEdAll K CE CG) := by
  refine F.ok scEdAll (fun vs H Q E h => ?_) (fun cdv A outer s H vs Q E hr h => ?_)
  · obtain ⟨x, rows, gs, rfl, _⟩ := h
    rfl
  · obtain ⟨x, rows, gs, rfl, hx, l16, k⟩ := h
    refine ⟨_, pss_one (ps_ret (pe_make M GI hr (by rfl) gG bI .nil pass0 (pa_cons (pv 0) (pa_cons (pe_listRg rfl (by rfl) tL (prg_1 (by rfl) tR (pe_callB call_len_seq (by rfl) tN PySem.boot_len (pa_cons (pe_fld (pv 0) rfl) pa_nil)))) pa_nil)))), ?_⟩
    obtain ⟨dx, r, g, pl, nu, ex, hR, hG, _⟩ := hx
    obtain ⟨vs, c1, p1⟩ := hR
    have len := paired_len p1
    refine rd_ret ?_
    unfold tMake
    refine rd_cons (rd_var rfl (rd_cons ?_))
    refine ⟨_, rfl, x, CE, dx, _, _, rfl, ex, T.cl, T.nR, edFs_rows, ?_⟩
    refine rd_nil ⟨r, vs, rfl, .inl (SqL.of c1), _, rfl, RgOk.of_le (by decide) (by omega) (by decide) (by omega), fun q hq => ?_⟩
    have e1 : rgV 0 (vs.length : Nat) = ((List.range rows.length).map fun (i : Nat) => (i : Int)).map V.int := by
      unfold rgV
      rw [List.map_map, len]
      simp
    rw [e1]
    have s1 : Same H (upd H q (.lst (((List.range rows.length).map fun (i : Nat) => (i : Int)).map V.int))) := (Same.refl H).new hq
    have cq : upd H q (.lst (((List.range rows.length).map fun (i : Nat) => (i : Int)).map V.int)) q = some (.lst (((List.range rows.length).map fun (i : Nat) => (i : Int)).map V.int)) := upd_same
    refine rd_nil fun y dy hy hdy ne => ?_
    generalize upd H q (.lst (((List.range rows.length).map fun (i : Nat) => (i : Int)).map V.int)) = H2 at s1 cq hy hdy
    have s3 : Same H2 (upd (upd H2 dy (.own y)) y (.ins CG dy [])) := ((Same.refl H2).new hdy).new (by rw [upd_ne ne.symm]; exact hy)
    have cy : upd (upd H2 dy (.own y)) y (.ins CG dy []) y = some (.ins CG dy []) := upd_same
    show spGrInit K CG _ (upd (upd H2 dy (.own y)) y (.ins CG dy [])) _ _
    generalize upd (upd H2 dy (.own y)) y (.ins CG dy []) = H3 at s3 cy
    refine ⟨y, dy, x, q, _, rfl, cy, .inl (SqL.of (s3 _ _ cq)), fun H' bt ga => ⟨rfl, k H' y (fun b u z => ?_) (s1.free hy) ga⟩⟩
    exact bt b u (ne_of_none z (s1.free hy)) (s3 _ _ (s1 _ _ z))
/-- Group == another kind of value -/
def spGrEq (K : Frag) (CE CG : Addr) : Sp := fun vs H Q _ => ∃ (x e : Addr) (y : V) (ns : List Int) (rows : List Row) (gs : List (Str × List Int)), vs = [.ref x, y] ∧ GrAt K CG H x e ns ∧ EdAt CE H e rows gs ∧ EdLay rows ∧
  ((∃ (b e' : Addr) (ns' : List Int) (rows' : List Row) (gs' : List (Str × List Int)), y = .ref b ∧ GrAt K CG H b e' ns' ∧ EdAt CE H e' rows' gs' ∧ EdLay rows' ∧ Q (.bl (PyData.eqv (.tuple (ns.map .int)) (.tuple (ns'.map .int)) && eqEd rows gs rows' gs')) H) ∨ ∃ t, TyX K H y t ∧ kitOne K t (.ref CG) = some false ∧ Q (.bl false) H)
theorem grFs_places {e t : Addr} : (grFs e t).lookup ("_places" : Str) = some (V.ref t) := by
  unfold grFs
  rw [lookup_putF, if_pos rfl]
theorem grFs_edition {e t : Addr} : (grFs e t).lookup ("_edition" : Str) = some (V.ref e) := by
  have h1 : ¬ (("_edition" : Str) = "_places") := by decide +kernel
  unfold grFs
  rw [lookup_putF, if_neg h1, lookup_putF, if_pos rfl]
theorem tupI_shaped (ns : List Int) : SeqAt.shaped (.tuple (ns.map .int)) = true := by
  obtain ⟨c, d⟩ := ints_lay ns
  unfold SeqAt.shaped
  rw [PyData.canLay0, PyData.depth, c, d]
  rfl
theorem scGrEq : FnScope ["self", "other"] ["self", "other"] (defScope sGrEq) := ⟨rfl, rfl, rfl, by decide +kernel, rfl, by decide +kernel, by decide +kernel⟩
theorem ok_greq {f CE CG fE : Addr} {fd fdE : FuncData} (F : Fun K "__eq__" "Group.__eq__" sGrEq f fd) (T : GrTxt K CG) (Z : ClsQ K CG) (ZE : ClsQ K CE) (ti : mg "isinstance" = none) (gG : mg "Group" = some (.ref CG))
    (GE : FnOk P w K mg base CX0 1 fE fdE ["self", "other"] (spEdEq K CE)) (bE : Binds K fdE ["self", "other"] []) (hs : findIn K (.ref CE) "__eq__" = some (some (.ref fE))) (hf : isFn K (.ref fE) = true) : FnOk P w K mg base CX0 2 f fd ["self", "other"] (spGrEq K CE CG) := by
  refine F.ok scGrEq (fun vs H Q E h => ?_) (fun cdv A outer s H vs Q E hr h => ?_)
  · obtain ⟨x, e, y, ns, rows, gs, rfl, _⟩ := h
    rfl
  · obtain ⟨x, e, y, ns, rows, gs, rfl, hx, he, lay, k⟩ := h
    refine ⟨_, pss_cons (ps_if (pt_not (pt_val (pe_callB call_isi (by rfl) ti boot_isi' (pa_cons (pv 1) (pa_cons (pe_glob (v := .ref CG) (by rfl) gG rfl) pa_nil))))) (pss_one (ps_ret pe_bl)) pss_nil)
      (pss_one (ps_ret (pe_and (pe_cmpR (op_eqD hr.units) (pe_fld (pv 0) rfl) (pe_fld (pv 1) rfl) (nomark _)) (pe_one (pe_cmpR (op_eqI (E := E0) GE hr hs hf bE pass0) (pe_fld (pv 0) rfl) (pe_fld (pv 1) rfl) (nomark _)))))), ?_⟩
    refine rd_seq (rd_if (rd_not (rd_b (rd_cb (rd_cons (rd_var rfl (rd_cons (rd_c (rd_nil ?_)))))))))
    rcases k with ⟨b, e', ns', rows', gs', rfl, hb, he', lay', k⟩ | ⟨t, ty, ko, k⟩
    · obtain ⟨dx, t, ex, ht⟩ := hx
      obtain ⟨dy, t', ey, ht'⟩ := hb
      refine ⟨_, _, _, _, true, rfl, .own CG, Z.ty ey, Z.own, true, rfl, ?_⟩
      refine ite_no rfl (rd_next ?_)
      with_reducible refine rd_ret ?_
      refine rd_op ⟨_, rfl, x, CG, dx, _, _, rfl, ex, T.cl, T.nP, grFs_places, ?_⟩
      refine ⟨_, rfl, b, CG, dy, _, _, rfl, ey, T.cl, T.nP, grFs_places, ?_⟩
      refine ⟨_, _, .tup ht (dp_ints ns), .tup ht' (dp_ints ns'), tupI_shaped ns, tupI_shaped ns', _, rfl, ?_⟩
      cases h1 : PyData.eqv (.tuple (ns.map .int)) (.tuple (ns'.map .int)) with
      | false =>
        rw [h1, Bool.false_and] at k
        exact k
      | true =>
        rw [h1, Bool.true_and] at k
        refine ite_yes rfl (rd_op ⟨_, rfl, x, CG, dx, _, _, rfl, ex, T.cl, T.nE, grFs_edition, ?_⟩)
        refine ⟨_, rfl, b, CG, dy, _, _, rfl, ey, T.cl, T.nE, grFs_edition, ?_⟩
        obtain ⟨d1, r1, g1, p1, n1, o1, z1⟩ := id he.ob
        obtain ⟨d2, r2, g2, p2, n2, o2, z2⟩ := id he'.ob
        exact ⟨e, _, _, _, rfl, o1, ZE.ty o2, ClsQ.self, e, .ref e', rows, gs, rfl, he, lay, .inl ⟨e', rows', gs', rfl, he', lay', _, rfl, k⟩⟩
    · exact ⟨_, _, _, _, false, rfl, .own CG, ty, ko, false, rfl, ite_yes rfl (rd_ret (rd_c k))⟩
end
end Gk
/-! ### what equality of editions means -/
namespace Gk
open PySem PySem.W PySem.Spec PyProof.Rows L2 NdefX
/-! sorted texts -/
def leT (x y : Str) : Prop := ltCps y.cps.toList x.cps.toList = false
theorem leT_iff {x y : Str} : leT x y ↔ ¬ y.cps.toList < x.cps.toList := by
  unfold leT
  rw [PyProof.Rows.ltCps_eq, decide_eq_false_iff_not]
theorem leT_trans {x y z : Str} (h1 : leT x y) (h2 : leT y z) : leT x z := by
  rw [leT_iff] at h1 h2 ⊢
  exact List.not_lt.mpr (List.le_trans (List.not_lt.mp h1) (List.not_lt.mp h2))
theorem leT_anti {x y : Str} (h1 : leT x y) (h2 : leT y x) : x = y := by
  rw [leT_iff] at h1 h2
  have e : x.cps.toList = y.cps.toList := List.le_antisymm (List.not_lt.mp h1) (List.not_lt.mp h2)
  cases x
  cases y
  simp only [Array.toList_inj] at e
  rw [e]
theorem rising_pw : ∀ (l : List Str) (p : Str), risingS p l = true → (p :: l).Pairwise leT
  | [], p, _ => List.pairwise_cons.mpr ⟨fun _ h => (by cases h), List.Pairwise.nil⟩
  | x :: r, p, h => by
    have h' : (!ltCps x.cps.toList p.cps.toList && risingS x r) = true := h
    rw [Bool.and_eq_true, Bool.not_eq_true'] at h'
    have ih := rising_pw r x h'.2
    refine List.pairwise_cons.mpr ⟨fun y hy => ?_, ih⟩
    rcases List.mem_cons.mp hy with rfl | hy
    · exact h'.1
    · exact leT_trans h'.1 ((List.pairwise_cons.mp ih).1 y hy)
theorem sorted_pw : ∀ {l : List Str}, sortedS l = true → l.Pairwise leT
  | [], _ => List.Pairwise.nil
  | x :: r, h => rising_pw r x h
theorem pw_unique : ∀ {l m : List Str}, l.Pairwise leT → m.Pairwise leT → l.Perm m → l = m
  | [], m, _, _, p => (List.nil_perm.mp p).symm ▸ rfl
  | x :: l, [], _, _, p => absurd p.length_eq (by simp)
  | x :: l, y :: m, h1, h2, p => by
    rw [List.pairwise_cons] at h1 h2
    have e : x = y := by
      rcases List.mem_cons.mp (p.mem_iff.mp List.mem_cons_self) with e | hx
      · exact e
      · rcases List.mem_cons.mp (p.mem_iff.mpr List.mem_cons_self) with e | hy
        · exact e.symm
        · exact leT_anti (h1.1 y hy) (h2.1 x hx)
    subst e
    rw [pw_unique h1.2 h2.2 p.cons_inv]
theorem sorted_unique {l m : List Str} (h1 : sortedS l = true) (h2 : sortedS m = true) (p : l.Perm m) : l = m := pw_unique (sorted_pw h1) (sorted_pw h2) p
theorem Row.ext' {x y : Row} (h1 : x.name = y.name) (h2 : x.al = y.al) (h3 : x.num = y.num) : x = y := by
  cases x
  cases y
  simp only at h1 h2 h3
  rw [h1, h2, h3]
/-- rows with the same names and numbers, and aliases in whatever sequence -/
def LikeRow (x y : Row) : Prop := y.name = x.name ∧ y.num = x.num ∧ y.al.Perm x.al
theorem sorted_same {rows rows' : List Row} (h : Paired LikeRow rows rows') : ∀ {r1 r2 : List Row}, Paired SortedRow rows r1 → Paired SortedRow rows' r2 → r1 = r2 := by
  induction h with
  | nil =>
    intro r1 r2 h1 h2
    cases h1
    cases h2
    rfl
  | cons r t ih =>
    intro r1 r2 h1 h2
    cases h1 with
    | cons a1 b1 =>
      cases h2 with
      | cons a2 b2 =>
        rw [ih b1 b2]
        congr 1
        refine Row.ext' (by rw [a1.nm, a2.nm, r.1]) (sorted_unique a1.srt a2.srt ?_) (by rw [a1.num, a2.num, r.2.1])
        exact a1.perm.trans (r.2.2.symm.trans a2.perm.symm)
/-! == of rows -/
theorem eqvAll_strs : ∀ a b : List Str, PyData.eqvAll (a.map .str) (b.map .str) = true → a = b
  | [], [], _ => rfl
  | [], _ :: _, h => by simp [PyData.eqvAll] at h
  | _ :: _, [], h => by simp [PyData.eqvAll] at h
  | x :: a, y :: b, h => by
    simp only [List.map_cons, PyData.eqvAll, PyData.eqv, Bool.and_eq_true, beq_iff_eq] at h
    rw [h.1, eqvAll_strs a b h.2]
theorem eqvAll_ints : ∀ a b : List Int, PyData.eqvAll (a.map .int) (b.map .int) = true → a = b
  | [], [], _ => rfl
  | [], _ :: _, h => by simp [PyData.eqvAll] at h
  | _ :: _, [], h => by simp [PyData.eqvAll] at h
  | x :: a, y :: b, h => by
    simp only [List.map_cons, PyData.eqvAll, PyData.eqv, Bool.and_eq_true, beq_iff_eq] at h
    rw [h.1, eqvAll_ints a b h.2]
theorem eqv_rows_of : ∀ a b : List Row, PyData.eqvAll (a.map rowD) (b.map rowD) = true → a = b
  | [], [], _ => rfl
  | [], _ :: _, h => by simp [PyData.eqvAll] at h
  | _ :: _, [], h => by simp [PyData.eqvAll] at h
  | x :: a, y :: b, h => by
    simp only [List.map_cons, PyData.eqvAll, rowD, PyData.eqv, Bool.and_eq_true, beq_iff_eq, Bool.and_true] at h
    obtain ⟨⟨h1, h2, h3⟩, h4⟩ := h
    rw [Row.ext' h1 (eqvAll_strs _ _ h2) h3, eqv_rows_of a b h4]
theorem eqv_rows {a b : List Row} (h : PyData.eqv (rowsD a) (rowsD b) = true) : a = b := by
  unfold rowsD at h
  rw [PyData.eqv] at h
  exact eqv_rows_of a b h
theorem eqv_rows_refl {a : List Row} (h : EdLay a) : PyData.eqv (rowsD a) (rowsD a) = true := SeqAt.eqv_refl _ (SeqAt.canLay_of_shaped (rowsD_shaped h))
theorem eqv_ints (a : List Int) : PyData.eqv (.tuple (a.map .int)) (.tuple (a.map .int)) = true := SeqAt.eqv_refl _ (SeqAt.canLay_of_shaped (tupI_shaped a))
/-! == of groups -/
theorem lookD_mem {gs : List (Str × List Int)} {k : Str} {d : PyData} (h : lookD (gsD gs) (.inr k) = some d) : ∃ x ∈ gs, x.1 = k ∧ d = .tuple (x.2.map .int) := by
  induction gs with
  | nil => cases h
  | cons x gs ih =>
    unfold lookD gsD at h
    rw [List.map_cons, List.find?_cons] at h
    by_cases e : x.1 = k
    · rw [decide_eq_true (by rw [e])] at h
      exact ⟨x, List.mem_cons_self, e, (Option.some.inj h).symm⟩
    · rw [decide_eq_false (fun z => e (Sum.inr.inj z))] at h
      obtain ⟨y, hy, e1, e2⟩ := ih h
      exact ⟨y, List.mem_cons_of_mem _ hy, e1, e2⟩
theorem lookD_of_mem {gs : List (Str × List Int)} (nd : (gs.map (·.1)).Nodup) {x : Str × List Int} (h : x ∈ gs) : lookD (gsD gs) (.inr x.1) = some (.tuple (x.2.map .int)) := by
  induction gs with
  | nil => cases h
  | cons y gs ih =>
    rw [List.map_cons, List.nodup_cons] at nd
    unfold lookD gsD
    rw [List.map_cons, List.find?_cons]
    rcases List.mem_cons.mp h with rfl | h
    · rw [decide_eq_true rfl]
      rfl
    · have ne : ¬ y.1 = x.1 := fun e => nd.1 (e ▸ List.mem_map_of_mem h)
      rw [decide_eq_false (fun z => ne (Sum.inr.inj z))]
      exact ih nd.2 h
theorem hits_of {gs : List (Str × List Int)} : ∀ {as : List (Str × List Int)}, hitsD (gsD gs) (gsD as) = true → ∀ x ∈ as, x ∈ gs
  | [], _, x, hx => by cases hx
  | a :: as, h, x, hx => by
    have h' : (match lookD (gsD gs) (.inr a.1) with | none => false | some e => PyData.eqv (.tuple (a.2.map .int)) e && hitsD (gsD gs) (gsD as)) = true := h
    cases e : lookD (gsD gs) (.inr a.1) with
    | none => rw [e] at h'; cases h'
    | some d =>
      rw [e] at h'
      have h' : (PyData.eqv (.tuple (a.2.map .int)) d && hitsD (gsD gs) (gsD as)) = true := h'
      rw [Bool.and_eq_true] at h'
      rcases List.mem_cons.mp hx with rfl | hx
      · obtain ⟨y, hy, e1, e2⟩ := lookD_mem e
        rw [e2, PyData.eqv] at h'
        have e3 := eqvAll_ints _ _ h'.1
        have : x = y := Prod.ext e1.symm e3
        rw [this]
        exact hy
      · exact hits_of h'.2 x hx
theorem hits_all {gs : List (Str × List Int)} (nd : (gs.map (·.1)).Nodup) : ∀ {as : List (Str × List Int)}, (∀ x ∈ as, x ∈ gs) → hitsD (gsD gs) (gsD as) = true
  | [], _ => rfl
  | a :: as, h => by
    show (match lookD (gsD gs) (.inr a.1) with | none => false | some e => PyData.eqv (.tuple (a.2.map .int)) e && hitsD (gsD gs) (gsD as)) = true
    rw [lookD_of_mem nd (h a List.mem_cons_self)]
    show (PyData.eqv (.tuple (a.2.map .int)) (.tuple (a.2.map .int)) && hitsD (gsD gs) (gsD as)) = true
    rw [eqv_ints, Bool.true_and]
    exact hits_all nd fun x hx => h x (List.mem_cons_of_mem _ hx)
theorem eqDD_all {as gs : List (Str × List Int)} (nd : (gs.map (·.1)).Nodup) (hl : as.length = gs.length) (h : ∀ x ∈ as, x ∈ gs) : eqDD (gsD as) (gsD gs) = true := by
  unfold eqDD
  rw [hits_all nd h, Bool.and_true, decide_eq_true_eq]
  unfold gsD
  rw [List.length_map, List.length_map, hl]
theorem eqDD_of {as gs : List (Str × List Int)} (h : eqDD (gsD as) (gsD gs) = true) : as.length = gs.length ∧ ∀ x ∈ as, x ∈ gs := by
  unfold eqDD at h
  rw [Bool.and_eq_true, decide_eq_true_eq] at h
  refine ⟨?_, hits_of h.2⟩
  have := h.1
  unfold gsD at this
  rwa [List.length_map, List.length_map] at this
theorem len_sub {α : Type} [DecidableEq α] : ∀ (l m : List α), l.Nodup → (∀ x ∈ l, x ∈ m) → l.length ≤ m.length := by
  intro l
  induction l with
  | nil => exact fun m _ _ => Nat.zero_le _
  | cons x l ih =>
    intro m hn hs
    rw [List.nodup_cons] at hn
    obtain ⟨a, b, rfl⟩ := List.append_of_mem (hs x List.mem_cons_self)
    have := ih (a ++ b) hn.2 fun y hy => by
      rcases List.mem_append.mp (hs y (List.mem_cons_of_mem _ hy)) with z | z
      · exact List.mem_append_left _ z
      · rcases List.mem_cons.mp z with rfl | z
        · exact absurd hy hn.1
        · exact List.mem_append_right _ z
    rw [List.length_append] at this ⊢
    rw [List.length_cons, List.length_cons]
    omega
theorem sub_back {α : Type} [DecidableEq α] {l m : List α} (hn : l.Nodup) (hs : ∀ x ∈ l, x ∈ m) (hl : m.length ≤ l.length) : ∀ x ∈ m, x ∈ l := fun x hx => by
  by_cases h : x ∈ l
  · exact h
  · have := len_sub (x :: l) m (List.nodup_cons.mpr ⟨h, hn⟩) fun y hy => by
      rcases List.mem_cons.mp hy with rfl | hy
      · exact hx
      · exact hs y hy
    rw [List.length_cons] at this
    omega
theorem eqDD_keys {as gs : List (Str × List Int)} (nd : (as.map (·.1)).Nodup) (h : eqDD (gsD as) (gsD gs) = true) : ∀ k, k ∈ as.map (·.1) ↔ k ∈ gs.map (·.1) := by
  obtain ⟨hl, hs⟩ := eqDD_of h
  have sub : ∀ k ∈ as.map (·.1), k ∈ gs.map (·.1) := fun k hk => by
    obtain ⟨x, hx, rfl⟩ := List.mem_map.mp hk
    exact List.mem_map_of_mem (hs x hx)
  exact fun k => ⟨sub k, sub_back nd sub (by rw [List.length_map, List.length_map, hl]; exact Nat.le_refl _) k⟩
end Gk
/-! ### a drawn model with one thing changed -/
namespace Gk
open PySem PySem.W PySem.Spec PyProof.Rows L2 NdefX
abbrev otherT : Str := "other"
structure Mod2 (rows : List Row) (sets : List (Str × List Str)) : Prop where
  nd : (wordsOf rows).Nodup
  mem : ∀ x ∈ wordsOf rows, x ∈ otherT :: poolL
  nums : (rows.map (·.num)).Nodup
  numm : ∀ x ∈ rows.map (·.num), x ∈ (4 : Int) :: numL
  few : ∀ r ∈ rows, r.al.length ≤ 3
  snd : (sets.map (·.1)).Nodup
  smem : ∀ x ∈ sets.map (·.1), x ∈ otherT :: setNames
  slen : sets.length ≤ 3
  ssub : ∀ x ∈ sets, ∀ y ∈ x.2, y ∈ rows.map (·.name)
  seach : ∀ x ∈ sets, x.2.Nodup
theorem names_sub (rows : List Row) : (rows.map (·.name)).Sublist (wordsOf rows) := by
  induction rows with
  | nil => exact List.Sublist.refl _
  | cons x l ih =>
    rw [List.map_cons, words_cons, List.cons_append]
    exact List.Sublist.cons₂ _ (ih.trans (List.sublist_append_right _ _))
theorem ModelOk.two {rows : List Row} {sets : List (Str × List Str)} (m : ModelOk rows sets) : Mod2 rows sets := by
  refine ⟨m.nd, fun x hx => List.mem_cons_of_mem _ (m.mem x hx), m.nums, fun x hx => List.mem_cons_of_mem _ (m.numm x hx), fun r hr => Nat.le_succ_of_le (m.few r hr), m.sets.nd, fun x hx => ?_, ?_, fun x hx y hy => (m.sets.sub x hx).subset hy, fun x hx => (m.nd.sublist (names_sub rows)).sublist (m.sets.sub x hx)⟩
  · obtain ⟨y, hy, rfl⟩ := List.mem_map.mp hx
    exact List.mem_cons_of_mem _ (m.sets.mem y hy)
  · have := three_of m.sets.nd fun y hy => by
      obtain ⟨x, hx, rfl⟩ := List.mem_map.mp hy
      exact m.sets.mem x hx
    rwa [List.length_map] at this
theorem pool2_names : ∀ x ∈ otherT :: poolL, nameB x = true := by decide +kernel
theorem pool2_lay : ∀ x ∈ otherT :: poolL, PyData.strOk x = true := by decide +kernel
theorem set2_names : ∀ x ∈ otherT :: setNames, nameB x = true := by decide +kernel
theorem num2_far : ∀ n ∈ (4 : Int) :: numL, -farI ≤ n ∧ n ≤ farI := by decide +kernel
theorem Mod2.rows {rows : List Row} {sets : List (Str × List Str)} (m : Mod2 rows sets) (lo : 1 ≤ rows.length) (hi : rows.length ≤ 16) : RowsOk rows := by
  refine ⟨lo, hi, fun x hx => ?_, fun x hx => Nat.lt_of_le_of_lt (m.few x hx) (by decide), ?_⟩
  · have far := num2_far x.num (m.numm _ (List.mem_map_of_mem hx))
    exact ⟨pool2_names _ (m.mem _ (mem_words hx _ List.mem_cons_self)), fun y hy => pool2_names _ (m.mem _ (mem_words hx _ (List.mem_cons_of_mem _ hy))), far.1, far.2, Nat.le_trans (m.few x hx) (by decide)⟩
  · refine (marks_apart rows).nodup_iff.mpr (List.nodup_append.mpr ⟨nodup_inr m.nd, nodup_map_inl m.nums, fun a ha b hb e => ?_⟩)
    obtain ⟨y, _, rfl⟩ := List.mem_map.mp ha
    obtain ⟨z, _, rfl⟩ := List.mem_map.mp hb
    cases e
theorem Mod2.good {rows : List Row} {sets : List (Str × List Str)} (m : Mod2 rows sets) (hi : rows.length ≤ 16) : SetsGood (rows.map (·.name)) sets := by
  refine ⟨m.slen, m.snd, fun x hx => set2_names _ (m.smem _ (List.mem_map_of_mem hx)), m.ssub, m.seach, fun x hx => ?_⟩
  have := len_sub x.2 _ (m.seach x hx) (m.ssub x hx)
  rw [List.length_map] at this
  omega
theorem Mod2.lay {rows r1 : List Row} {sets : List (Str × List Str)} (m : Mod2 rows sets) (p : Paired SortedRow rows r1) : EdLay r1 := by
  have h : ∀ x ∈ wordsOf rows, PyData.strOk x = true := fun x hx => pool2_lay x (m.mem x hx)
  clear m
  induction p with
  | nil => exact fun x hx => by cases hx
  | @cons x y l l' r t ih =>
    rw [words_cons] at h
    intro z hz
    rcases List.mem_cons.mp hz with rfl | hz
    · refine ⟨?_, fun w hw => ?_⟩
      · rw [r.nm]
        exact h _ (List.mem_append_left _ List.mem_cons_self)
      · exact h _ (List.mem_append_left _ (List.mem_cons_of_mem _ (r.perm.mem_iff.mp hw)))
    · exact ih (fun w hw => h w (List.mem_append_right _ hw)) z hz
theorem nums_sorted {rows rows' : List Row} (h : Paired SortedRow rows rows') : rows'.map (·.num) = rows.map (·.num) := by
  induction h with
  | nil => rfl
  | cons r t ih => rw [List.map_cons, List.map_cons, ih, r.num]
theorem als_sorted {rows rows' : List Row} {y : Str} (h : Paired SortedRow rows rows') : (∃ r ∈ rows, y ∈ r.al) ↔ ∃ r ∈ rows', y ∈ r.al := by
  induction h with
  | nil => exact Iff.rfl
  | cons r t ih =>
    constructor
    · rintro ⟨z, hz, hy⟩
      rcases List.mem_cons.mp hz with rfl | hz
      · exact ⟨_, List.mem_cons_self, r.perm.mem_iff.mpr hy⟩
      · obtain ⟨q, hq, h⟩ := ih.mp ⟨z, hz, hy⟩
        exact ⟨q, List.mem_cons_of_mem _ hq, h⟩
    · rintro ⟨z, hz, hy⟩
      rcases List.mem_cons.mp hz with rfl | hz
      · exact ⟨_, List.mem_cons_self, r.perm.mem_iff.mp hy⟩
      · obtain ⟨q, hq, h⟩ := ih.mpr ⟨z, hz, hy⟩
        exact ⟨q, List.mem_cons_of_mem _ hq, h⟩
theorem groups_keys (ns : List Str) (sets : List (Str × List Str)) : (groupsOf ns sets).map (·.1) = sets.map (·.1) := by
  unfold groupsOf
  rw [List.map_map]
  rfl
def Diff (rows : List Row) (rows' : List Row) (sets' : List (Str × List Str)) : Prop := rows.map (·.name) ≠ rows'.map (·.name) ∨ rows.map (·.num) ≠ rows'.map (·.num) ∨ (∃ r ∈ rows', otherT ∈ r.al) ∨ otherT ∈ sets'.map (·.1)
theorem other_pool : otherT ∉ poolL := by decide +kernel
theorem other_sets : otherT ∉ setNames := by decide +kernel
theorem diff_no {rows rows' r1 r2 : List Row} {sets sets' : List (Str × List Str)} {ns ns' : List Str} (m : ModelOk rows sets) (h : Diff rows rows' sets') (p : Paired SortedRow rows r1) (p' : Paired SortedRow rows' r2) (hr : r1 = r2) (hk : ∀ k, k ∈ sets.map (·.1) ↔ k ∈ sets'.map (·.1)) : False := by
  subst hr
  rcases h with h | h | h | h
  · exact h (by rw [← names_sorted p, ← names_sorted p'])
  · exact h (by rw [← nums_sorted p, ← nums_sorted p'])
  · obtain ⟨r, hr, hy⟩ := (als_sorted p).mpr ((als_sorted p').mp h)
    exact other_pool (m.mem _ (mem_words hr _ (List.mem_cons_of_mem _ hy)))
  · obtain ⟨x, hx, e⟩ := List.mem_map.mp ((hk otherT).mpr h)
    exact other_sets (e ▸ m.sets.mem x hx)
theorem diff_eq {rows rows' r1 r2 : List Row} {sets sets' : List (Str × List Str)} {ns ns' : List Str} (m : ModelOk rows sets) (nd' : (sets'.map (·.1)).Nodup) (h : Diff rows rows' sets') (p : Paired SortedRow rows r1) (p' : Paired SortedRow rows' r2) :
    eqEd r1 (groupsOf ns sets) r2 (groupsOf ns' sets') = false ∧ eqEd r2 (groupsOf ns' sets') r1 (groupsOf ns sets) = false := by
  constructor
  · cases e : eqEd r1 (groupsOf ns sets) r2 (groupsOf ns' sets') with
    | false => rfl
    | true =>
      unfold eqEd at e
      rw [Bool.and_eq_true] at e
      have k := eqDD_keys (by rw [groups_keys]; exact m.sets.nd) e.2
      rw [groups_keys, groups_keys] at k
      exact (diff_no (ns := ns) (ns' := ns') m h p p' (eqv_rows e.1) k).elim
  · cases e : eqEd r2 (groupsOf ns' sets') r1 (groupsOf ns sets) with
    | false => rfl
    | true =>
      unfold eqEd at e
      rw [Bool.and_eq_true] at e
      have k := eqDD_keys (by rw [groups_keys]; exact nd') e.2
      rw [groups_keys, groups_keys] at k
      exact (diff_no (ns := ns) (ns' := ns') m h p p' (eqv_rows e.1).symm fun q => (k q).symm).elim
/-! what is equal -/
theorem inV_strs (x : Str) (ws : List Str) : inV (.str x) (ws.map V.str) = true ↔ x ∈ ws := by
  unfold inV
  rw [List.any_map, List.any_eq_true]
  constructor
  · rintro ⟨y, hy, e⟩
    have : y = x := by simpa [eqV] using e
    exact this ▸ hy
  · exact fun h => ⟨x, h, by simp [eqV]⟩
theorem plTo_like {ns ws vs : List Str} (h : ∀ x, x ∈ ws ↔ x ∈ vs) : ∀ i, plTo ns ws i = plTo ns vs i
  | 0 => rfl
  | i + 1 => by
    unfold plTo
    rw [plTo_like h i]
    congr 1
    cases ns[i]? with
    | none => rfl
    | some x =>
      have : inV (.str x) (ws.map V.str) = inV (.str x) (vs.map V.str) := by
        rw [Bool.eq_iff_iff, inV_strs, inV_strs]
        exact h x
      show (if inV (.str x) (ws.map V.str) = true then [(i : Int)] else []) = (if inV (.str x) (vs.map V.str) = true then [(i : Int)] else [])
      rw [this]
theorem nodup_of_map {α β : Type} {f : α → β} : ∀ {l : List α}, (l.map f).Nodup → l.Nodup
  | [], _ => List.nodup_nil
  | x :: l, h => by
    rw [List.map_cons, List.nodup_cons] at h
    exact List.nodup_cons.mpr ⟨fun z => h.1 (List.mem_map_of_mem z), nodup_of_map h.2⟩
theorem same_eq {rows rows' r1 r2 : List Row} {sets sets' : List (Str × List Str)} (lay : EdLay r1) (nd : (sets.map (·.1)).Nodup) (nd' : (sets'.map (·.1)).Nodup) (hl : sets'.length = sets.length) (h : ∀ x ∈ sets', ∃ y ∈ sets, x.1 = y.1 ∧ ∀ z, z ∈ x.2 ↔ z ∈ y.2)
    (like : Paired LikeRow rows rows') (p : Paired SortedRow rows r1) (p' : Paired SortedRow rows' r2) : eqEd r1 (groupsOf (rows.map (·.name)) sets) r2 (groupsOf (rows'.map (·.name)) sets') = true ∧ eqEd r2 (groupsOf (rows'.map (·.name)) sets') r1 (groupsOf (rows.map (·.name)) sets) = true := by
  have e := sorted_same like p p'
  have en : rows'.map (·.name) = rows.map (·.name) := by rw [← names_sorted p, ← names_sorted p', e]
  subst e
  rw [en]
  have sub : ∀ x ∈ groupsOf (rows.map (·.name)) sets', x ∈ groupsOf (rows.map (·.name)) sets := fun x hx => by
    obtain ⟨y, hy, rfl⟩ := List.mem_map.mp hx
    obtain ⟨z, hz, e1, e2⟩ := h y hy
    refine List.mem_map.mpr ⟨z, hz, ?_⟩
    rw [e1, plTo_like e2]
  have hlg : (groupsOf (rows.map (·.name)) sets').length = (groupsOf (rows.map (·.name)) sets).length := by unfold groupsOf; rw [List.length_map, List.length_map, hl]
  have ndg : (groupsOf (rows.map (·.name)) sets').Nodup := by
    have : ((groupsOf (rows.map (·.name)) sets').map (·.1)).Nodup := by rw [groups_keys]; exact nd'
    exact nodup_of_map this
  unfold eqEd
  rw [eqv_rows_refl lay, Bool.true_and, Bool.true_and]
  exact ⟨eqDD_all (by rw [groups_keys]; exact nd') hlg.symm (sub_back ndg sub (by omega)), eqDD_all (by rw [groups_keys]; exact nd) hlg sub⟩
end Gk
/-! ### the seven changes of a model -/
namespace Gk
open PySem PySem.W PySem.Spec PyProof.Rows L2 NdefX
theorem words_app (a b : List Row) : wordsOf (a ++ b) = wordsOf a ++ wordsOf b := by
  unfold wordsOf
  rw [List.flatMap_append]
theorem words_mid (pre post : List Row) (x : Row) : (wordsOf (pre ++ x :: post)).Perm (x.name :: (wordsOf pre ++ (x.al ++ wordsOf post))) := by
  rw [words_app, words_cons]
  exact List.perm_middle
theorem set_split {α : Type} : ∀ {l : List α} {i : Nat} {x : α}, l[i]? = some x → ∃ pre post, l = pre ++ x :: post ∧ ∀ y, l.set i y = pre ++ y :: post
  | [], _, _, h => by simp at h
  | a :: l, 0, x, h => by
    obtain rfl := Option.some.inj h
    exact ⟨[], l, rfl, fun y => rfl⟩
  | a :: l, i + 1, x, h => by
    obtain ⟨pre, post, e1, e2⟩ := set_split (l := l) (i := i) h
    exact ⟨a :: pre, post, by rw [e1]; rfl, fun y => by rw [List.set_cons_succ, e2]; rfl⟩
theorem four_no : (4 : Int) ∉ numL := by decide +kernel
theorem of_pool {R : List Str} (h : ∀ x ∈ R, x ∈ poolL) : otherT ∉ R := fun z => other_pool (h _ z)
theorem no_other {rows : List Row} {sets : List (Str × List Str)} (m : ModelOk rows sets) : otherT ∉ rows.map (·.name) := fun z => other_pool (m.mem _ ((names_sub rows).subset z))
theorem mod_t0 {rows : List Row} {sets : List (Str × List Str)} (m : ModelOk rows sets) {i : Nat} {x : Row} (hx : rows[i]? = some x) : Mod2 (rows.set i ⟨otherT, x.al, x.num⟩) [] ∧ Diff rows (rows.set i ⟨otherT, x.al, x.num⟩) [] := by
  obtain ⟨pre, post, rfl, e⟩ := set_split hx
  rw [e]
  have p1 := words_mid pre post x
  have p2 := words_mid pre post ⟨otherT, x.al, x.num⟩
  have nd := p1.nodup_iff.mp m.nd
  rw [List.nodup_cons] at nd
  have mem : ∀ y ∈ wordsOf pre ++ (x.al ++ wordsOf post), y ∈ poolL := fun y hy => m.mem y (p1.mem_iff.mpr (List.mem_cons_of_mem _ hy))
  have en : (pre ++ ⟨otherT, x.al, x.num⟩ :: post).map (·.num) = (pre ++ x :: post).map (·.num) := by simp
  refine ⟨⟨p2.nodup_iff.mpr (List.nodup_cons.mpr ⟨of_pool mem, nd.2⟩), fun y hy => ?_, by rw [en]; exact m.nums, fun y hy => List.mem_cons_of_mem _ (m.numm y (en ▸ hy)), fun r hr => ?_, List.nodup_nil, fun y hy => (by cases hy), Nat.zero_le _, fun y hy => (by cases hy), fun y hy => (by cases hy)⟩, .inl fun z => ?_⟩
  · rcases List.mem_cons.mp (p2.mem_iff.mp hy) with rfl | hy
    · exact List.mem_cons_self
    · exact List.mem_cons_of_mem _ (mem y hy)
  · rcases List.mem_append.mp hr with hr | hr
    · exact Nat.le_succ_of_le (m.few r (List.mem_append_left _ hr))
    · rcases List.mem_cons.mp hr with rfl | hr
      · exact Nat.le_succ_of_le (m.few x (List.mem_append_right _ List.mem_cons_self))
      · exact Nat.le_succ_of_le (m.few r (List.mem_append_right _ (List.mem_cons_of_mem _ hr)))
  · refine no_other m ?_
    rw [z]
    simp
theorem sets_two {rows rows' : List Row} {sets : List (Str × List Str)} (m : ModelOk rows sets) (h : ∀ y ∈ rows.map (·.name), y ∈ rows'.map (·.name)) :
    (sets.map (·.1)).Nodup ∧ (∀ x ∈ sets.map (·.1), x ∈ otherT :: setNames) ∧ sets.length ≤ 3 ∧ (∀ x ∈ sets, ∀ y ∈ x.2, y ∈ rows'.map (·.name)) ∧ ∀ x ∈ sets, x.2.Nodup :=
  ⟨m.two.snd, m.two.smem, m.two.slen, fun x hx y hy => h y (m.two.ssub x hx y hy), m.two.seach⟩
theorem mod_t1 {rows : List Row} {sets : List (Str × List Str)} (m : ModelOk rows sets) {i : Nat} {x : Row} (hx : rows[i]? = some x) : Mod2 (rows.set i ⟨x.name, x.al ++ [otherT], x.num⟩) sets ∧ Diff rows (rows.set i ⟨x.name, x.al ++ [otherT], x.num⟩) sets := by
  obtain ⟨pre, post, rfl, e⟩ := set_split hx
  rw [e]
  have p1 := words_mid pre post x
  have p2 : (wordsOf (pre ++ ⟨x.name, x.al ++ [otherT], x.num⟩ :: post)).Perm (otherT :: wordsOf (pre ++ x :: post)) := by
    refine (words_mid pre post ⟨x.name, x.al ++ [otherT], x.num⟩).trans (List.Perm.trans ?_ (p1.symm.cons _))
    have e2 : wordsOf pre ++ ((x.al ++ [otherT]) ++ wordsOf post) = (wordsOf pre ++ x.al) ++ otherT :: wordsOf post := by simp
    show (x.name :: (wordsOf pre ++ ((x.al ++ [otherT]) ++ wordsOf post))).Perm _
    rw [e2]
    refine (List.Perm.cons _ List.perm_middle).trans ((List.Perm.swap _ _ _).trans ?_)
    rw [List.append_assoc]
  have en : (pre ++ ⟨x.name, x.al ++ [otherT], x.num⟩ :: post).map (·.num) = (pre ++ x :: post).map (·.num) := by simp
  have em : (pre ++ ⟨x.name, x.al ++ [otherT], x.num⟩ :: post).map (·.name) = (pre ++ x :: post).map (·.name) := by simp
  obtain ⟨s1, s2, s3, s4, s5⟩ := sets_two (rows' := pre ++ ⟨x.name, x.al ++ [otherT], x.num⟩ :: post) m (fun y hy => by rw [em]; exact hy)
  refine ⟨⟨p2.nodup_iff.mpr (List.nodup_cons.mpr ⟨of_pool m.mem, m.nd⟩), fun y hy => ?_, by rw [en]; exact m.nums, fun y hy => List.mem_cons_of_mem _ (m.numm y (en ▸ hy)), fun r hr => ?_, s1, s2, s3, s4, s5⟩, .inr (.inr (.inl ⟨_, List.mem_append_right _ List.mem_cons_self, List.mem_append_right _ List.mem_cons_self⟩))⟩
  · rcases List.mem_cons.mp (p2.mem_iff.mp hy) with rfl | hy
    · exact List.mem_cons_self
    · exact List.mem_cons_of_mem _ (m.mem y hy)
  · rcases List.mem_append.mp hr with hr | hr
    · exact Nat.le_succ_of_le (m.few r (List.mem_append_left _ hr))
    · rcases List.mem_cons.mp hr with rfl | hr
      · have := m.few x (List.mem_append_right _ List.mem_cons_self)
        show (x.al ++ [otherT]).length ≤ 3
        rw [List.length_append]
        exact Nat.succ_le_succ this
      · exact Nat.le_succ_of_le (m.few r (List.mem_append_right _ (List.mem_cons_of_mem _ hr)))
theorem mod_t2 {rows : List Row} {sets : List (Str × List Str)} (m : ModelOk rows sets) {i : Nat} {x : Row} (hx : rows[i]? = some x) : Mod2 (rows.set i ⟨x.name, x.al, 4⟩) sets ∧ Diff rows (rows.set i ⟨x.name, x.al, 4⟩) sets := by
  obtain ⟨pre, post, rfl, e⟩ := set_split hx
  rw [e]
  have ew : wordsOf (pre ++ ⟨x.name, x.al, 4⟩ :: post) = wordsOf (pre ++ x :: post) := by rw [words_app, words_app, words_cons, words_cons]
  have em : (pre ++ ⟨x.name, x.al, 4⟩ :: post).map (·.name) = (pre ++ x :: post).map (·.name) := by simp
  obtain ⟨s1, s2, s3, s4, s5⟩ := sets_two (rows' := pre ++ ⟨x.name, x.al, 4⟩ :: post) m (fun y hy => by rw [em]; exact hy)
  have q1 : ((pre ++ x :: post).map (·.num)).Perm (x.num :: (pre.map (·.num) ++ post.map (·.num))) := by
    rw [List.map_append, List.map_cons]
    exact List.perm_middle
  have q2 : ((pre ++ ⟨x.name, x.al, 4⟩ :: post).map (·.num)).Perm (4 :: (pre.map (·.num) ++ post.map (·.num))) := by
    rw [List.map_append, List.map_cons]
    exact List.perm_middle
  have nd := q1.nodup_iff.mp m.nums
  rw [List.nodup_cons] at nd
  have mem : ∀ y ∈ pre.map (·.num) ++ post.map (·.num), y ∈ numL := fun y hy => m.numm y (q1.mem_iff.mpr (List.mem_cons_of_mem _ hy))
  refine ⟨⟨by rw [ew]; exact m.nd, fun y hy => List.mem_cons_of_mem _ (m.mem y (ew ▸ hy)), q2.nodup_iff.mpr (List.nodup_cons.mpr ⟨fun z => four_no (mem _ z), nd.2⟩), fun y hy => ?_, fun r hr => ?_, s1, s2, s3, s4, s5⟩, .inr (.inl fun z => ?_)⟩
  · rcases List.mem_cons.mp (q2.mem_iff.mp hy) with rfl | hy
    · exact List.mem_cons_self
    · exact List.mem_cons_of_mem _ (mem y hy)
  · rcases List.mem_append.mp hr with hr | hr
    · exact Nat.le_succ_of_le (m.few r (List.mem_append_left _ hr))
    · rcases List.mem_cons.mp hr with rfl | hr
      · exact Nat.le_succ_of_le (m.few x (List.mem_append_right _ List.mem_cons_self))
      · exact Nat.le_succ_of_le (m.few r (List.mem_append_right _ (List.mem_cons_of_mem _ hr)))
  · refine four_no (m.numm _ ?_)
    rw [z]
    simp
theorem mod_t3 {rows : List Row} {sets : List (Str × List Str)} (m : ModelOk rows sets) : Mod2 (rows ++ [⟨otherT, [], 4⟩]) sets ∧ Diff rows (rows ++ [⟨otherT, [], 4⟩]) sets := by
  have ew : wordsOf (rows ++ [⟨otherT, [], 4⟩]) = wordsOf rows ++ [otherT] := by rw [words_app]; rfl
  obtain ⟨s1, s2, s3, s4, s5⟩ := sets_two (rows' := rows ++ [⟨otherT, [], 4⟩]) m (fun y hy => by rw [List.map_append]; exact List.mem_append_left _ hy)
  refine ⟨⟨?_, fun y hy => ?_, ?_, fun y hy => ?_, fun r hr => ?_, s1, s2, s3, s4, s5⟩, .inl fun z => ?_⟩
  · rw [ew]
    refine List.nodup_append.mpr ⟨m.nd, by simp, fun a ha b hb e => ?_⟩
    obtain rfl := List.mem_singleton.mp hb
    exact other_pool (m.mem _ (e ▸ ha))
  · rw [ew] at hy
    rcases List.mem_append.mp hy with hy | hy
    · exact List.mem_cons_of_mem _ (m.mem y hy)
    · obtain rfl := List.mem_singleton.mp hy
      exact List.mem_cons_self
  · rw [List.map_append]
    refine List.nodup_append.mpr ⟨m.nums, by simp, fun a ha b hb e => ?_⟩
    obtain rfl := List.mem_singleton.mp hb
    have e : a = 4 := e
    exact four_no (m.numm _ (e ▸ ha))
  · rw [List.map_append] at hy
    rcases List.mem_append.mp hy with hy | hy
    · exact List.mem_cons_of_mem _ (m.numm y hy)
    · obtain rfl := List.mem_singleton.mp hy
      exact List.mem_cons_self
  · rcases List.mem_append.mp hr with hr | hr
    · exact Nat.le_succ_of_le (m.few r hr)
    · obtain rfl := List.mem_singleton.mp hr
      exact Nat.zero_le _
  · refine no_other m ?_
    rw [z]
    simp
theorem mod_t4 {rows : List Row} {sets sets' : List (Str × List Str)} (m : ModelOk rows sets) (h : (sets.length < 3 ∧ sets' = sets ++ [(otherT, [])]) ∨ sets' = [(otherT, [])]) : Mod2 rows sets' ∧ Diff rows rows sets' := by
  have d : Diff rows rows sets' := .inr (.inr (.inr (by rcases h with ⟨_, rfl⟩ | rfl <;> simp)))
  have t := m.two
  refine ⟨⟨t.nd, t.mem, t.nums, t.numm, t.few, ?_, fun y hy => ?_, ?_, fun x hx => ?_, fun x hx => ?_⟩, d⟩
  · rcases h with ⟨_, rfl⟩ | rfl
    · rw [List.map_append]
      refine List.nodup_append.mpr ⟨m.sets.nd, by simp, fun a ha b hb e => ?_⟩
      obtain rfl := List.mem_singleton.mp hb
      obtain ⟨x, hx, ex⟩ := List.mem_map.mp ha
      have e : a = otherT := e
      have ex : x.1 = a := ex
      exact other_sets (by rw [← e, ← ex]; exact m.sets.mem x hx)
    · simp
  · rcases h with ⟨_, rfl⟩ | rfl
    · rw [List.map_append] at hy
      rcases List.mem_append.mp hy with hy | hy
      · exact t.smem y hy
      · obtain rfl := List.mem_singleton.mp hy
        exact List.mem_cons_self
    · obtain rfl := List.mem_singleton.mp hy
      exact List.mem_cons_self
  · rcases h with ⟨hl, rfl⟩ | rfl
    · rw [List.length_append]
      exact hl
    · decide
  · rcases h with ⟨_, rfl⟩ | rfl
    · rcases List.mem_append.mp hx with hx | hx
      · exact t.ssub x hx
      · obtain rfl := List.mem_singleton.mp hx
        exact fun y hy => by cases hy
    · obtain rfl := List.mem_singleton.mp hx
      exact fun y hy => by cases hy
  · rcases h with ⟨_, rfl⟩ | rfl
    · rcases List.mem_append.mp hx with hx | hx
      · exact t.seach x hx
      · obtain rfl := List.mem_singleton.mp hx
        exact List.nodup_nil
    · obtain rfl := List.mem_singleton.mp hx
      exact List.nodup_nil
theorem rev_ne {α : Type} {l : List α} (nd : l.Nodup) (h : 2 ≤ l.length) : l ≠ l.reverse := fun e => by
  have h0 : l[0]? = l[l.length - 1]? := by
    conv => lhs; rw [e]
    rw [List.getElem?_reverse (by omega)]
    congr 1
  have := (List.getElem?_inj (by omega) nd).mp h0
  omega
theorem mod_t5 {rows : List Row} {sets : List (Str × List Str)} (m : ModelOk rows sets) (h : 2 ≤ rows.length) : Mod2 rows.reverse sets ∧ Diff rows rows.reverse sets := by
  have t := m.two
  have pw : (wordsOf rows.reverse).Perm (wordsOf rows) := by
    unfold wordsOf
    exact (List.reverse_perm rows).flatMap_right _
  have en : rows.reverse.map (·.num) = (rows.map (·.num)).reverse := List.map_reverse
  have em : rows.reverse.map (·.name) = (rows.map (·.name)).reverse := List.map_reverse
  obtain ⟨s1, s2, s3, s4, s5⟩ := sets_two (rows' := rows.reverse) m (fun y hy => by rw [em]; exact List.mem_reverse.mpr hy)
  refine ⟨⟨pw.nodup_iff.mpr t.nd, fun y hy => t.mem y (pw.mem_iff.mp hy), by rw [en]; exact (List.reverse_perm _).nodup_iff.mpr t.nums, fun y hy => t.numm y (by rw [en] at hy; exact List.mem_reverse.mp hy), fun r hr => t.few r (List.mem_reverse.mp hr), s1, s2, s3, s4, s5⟩, .inl ?_⟩
  rw [em]
  exact rev_ne (m.nd.sublist (names_sub rows)) (by rw [List.length_map]; exact h)
/-- the first of the sorted names of sets is told otherwise -/
def renamed (t0 : Str) (x : Str × List Str) : Str × List Str := (if x.1 = t0 then otherT else x.1, x.2)
theorem mod_t6 {rows : List Row} {sets sets2 : List (Str × List Str)} (m : ModelOk rows sets) {t0 : Str} (p : sets2.Perm sets) (h0 : t0 ∈ sets.map (·.1)) : Mod2 rows (sets2.map (renamed t0)) ∧ Diff rows rows (sets2.map (renamed t0)) := by
  have t := m.two
  have nd2 : (sets2.map (·.1)).Nodup := (p.map (·.1)).nodup_iff.mpr t.snd
  have no : otherT ∉ sets2.map (·.1) := fun z => by
    obtain ⟨x, hx, e⟩ := List.mem_map.mp ((p.map (·.1)).mem_iff.mp z)
    exact other_sets (e ▸ m.sets.mem x hx)
  have back : ∀ x ∈ sets2.map (renamed t0), ∃ y ∈ sets, x.2 = y.2 ∧ (x.1 = otherT ∨ x.1 = y.1) := fun x hx => by
    obtain ⟨y, hy, rfl⟩ := List.mem_map.mp hx
    refine ⟨y, p.mem_iff.mp hy, rfl, ?_⟩
    unfold renamed
    by_cases e : y.1 = t0
    · exact .inl (by simp [e])
    · exact .inr (by simp [e])
  have ndr : ∀ l : List (Str × List Str), (l.map (·.1)).Nodup → otherT ∉ l.map (·.1) → ((l.map (renamed t0)).map (·.1)).Nodup := by
    intro l
    induction l with
    | nil => exact fun _ _ => List.nodup_nil
    | cons x l ih =>
      intro h1 h2
      rw [List.map_cons, List.nodup_cons] at h1
      rw [List.map_cons, List.mem_cons, not_or] at h2
      rw [List.map_cons, List.map_cons, List.nodup_cons]
      refine ⟨fun z => ?_, ih h1.2 h2.2⟩
      obtain ⟨y, hy, e⟩ := List.mem_map.mp z
      obtain ⟨w, hw, rfl⟩ := List.mem_map.mp hy
      have hw1 : w.1 ∈ l.map (·.1) := List.mem_map_of_mem hw
      unfold renamed at e
      by_cases e1 : w.1 = t0
      · by_cases e2 : x.1 = t0
        · exact h1.1 (by rw [e2, ← e1]; exact hw1)
        · simp only [e1, e2, if_true, if_false] at e
          exact h2.1 e
      · by_cases e2 : x.1 = t0
        · simp only [e1, e2, if_true, if_false] at e
          exact h2.2 (e ▸ hw1)
        · simp only [e1, e2, if_false] at e
          exact h1.1 (e ▸ hw1)
  refine ⟨⟨t.nd, t.mem, t.nums, t.numm, t.few, ndr sets2 nd2 no, fun y hy => ?_, by rw [List.length_map, p.length_eq]; exact t.slen, fun x hx => ?_, fun x hx => ?_⟩, .inr (.inr (.inr ?_))⟩
  · obtain ⟨x, hx, rfl⟩ := List.mem_map.mp hy
    obtain ⟨z, hz, _, e⟩ := back x hx
    rcases e with e | e
    · rw [e]; exact List.mem_cons_self
    · rw [e]; exact t.smem _ (List.mem_map_of_mem hz)
  · obtain ⟨z, hz, e, _⟩ := back x hx
    rw [e]
    exact t.ssub z hz
  · obtain ⟨z, hz, e, _⟩ := back x hx
    rw [e]
    exact t.seach z hz
  · obtain ⟨y, hy, e⟩ := List.mem_map.mp h0
    rw [List.map_map]
    refine List.mem_map.mpr ⟨y, p.mem_iff.mpr hy, ?_⟩
    show (renamed t0 y).1 = otherT
    unfold renamed
    simp [e]
end Gk
/-! ### for _law_changed -/
namespace Gk
open PySem PySem.W PySem.Spec PyProof.Rows L2 NdefX
section
variable {t : TS} {D : Ends} {σ : L2.St} {H : Hp} {z c : Int} {i : Nat}
theorem if_skip (e : σ[i]? = some (some (V.int z))) (n : z ≠ c) (h : D.nx σ H) : tIfS (tTest (tOp rEq (tVar i) (tC (.int c)))) t tNext D σ H :=
  ⟨_, e, rfl, _, rfl, ite_no (decide_eq_false fun q => n (V.int.inj q)) h⟩
theorem if_take (e : σ[i]? = some (some (V.int z))) (n : z = c) (h : t D σ H) : tIfS (tTest (tOp rEq (tVar i) (tC (.int c)))) t tNext D σ H :=
  ⟨_, e, rfl, _, rfl, ite_yes (decide_eq_true (by rw [n])) h⟩
theorem fin_skip {tx : TT} (e : σ[i]? = some (some (V.int z))) (n5 : z ≠ 5) (n6 : z ≠ 6) (h : D.nx σ H) : tIfS (tOr (tTest (tOp rEq (tVar i) (tC (.int 5)))) (tAnd (tTest (tOp rEq (tVar i) (tC (.int 6)))) tx)) t tNext D σ H :=
  ⟨_, e, rfl, _, rfl, ite_no (decide_eq_false fun q => n5 (V.int.inj q)) ⟨_, e, rfl, _, rfl, ite_no (decide_eq_false fun q => n6 (V.int.inj q)) h⟩⟩
theorem fin_take5 {tx : TT} (e : σ[i]? = some (some (V.int z))) (n5 : z = 5) (h : t D σ H) : tIfS (tOr (tTest (tOp rEq (tVar i) (tC (.int 5)))) (tAnd (tTest (tOp rEq (tVar i) (tC (.int 6)))) tx)) t tNext D σ H :=
  ⟨_, e, rfl, _, rfl, ite_yes (decide_eq_true (by rw [n5])) h⟩
theorem fin_six {tx : TT} (e : σ[i]? = some (some (V.int z))) (n6 : z = 6) (h : tx σ H fun b H1 => if b = true then t D σ H1 else D.nx σ H1) : tIfS (tOr (tTest (tOp rEq (tVar i) (tC (.int 5)))) (tAnd (tTest (tOp rEq (tVar i) (tC (.int 6)))) tx)) t tNext D σ H :=
  ⟨_, e, rfl, _, rfl, ite_no (decide_eq_false fun q => absurd ((V.int.inj q).symm.trans n6) (by decide)) ⟨_, e, rfl, _, rfl, ite_yes (decide_eq_true (by rw [n6])) h⟩⟩
end
theorem perm_lift {α β : Type} {f : α → β} : ∀ {ys : List β} {l : List α}, ys.Perm (l.map f) → ∃ l2 : List α, l2.Perm l ∧ l2.map f = ys
  | [], l, p => by
    have : l = [] := List.map_eq_nil_iff.mp (List.nil_perm.mp p)
    exact ⟨[], by rw [this], rfl⟩
  | y :: ys, l, p => by
    obtain ⟨x, hx, e⟩ := List.mem_map.mp (p.mem_iff.mp List.mem_cons_self)
    obtain ⟨a, b, rfl⟩ := List.append_of_mem hx
    have q : (y :: ys).Perm (y :: (a ++ b).map f) := by
      refine p.trans ?_
      rw [List.map_append, List.map_cons, e, List.map_append]
      exact List.perm_middle
    obtain ⟨l2, p2, e2⟩ := perm_lift q.cons_inv
    exact ⟨x :: l2, (p2.cons x).trans List.perm_middle.symm, by rw [List.map_cons, e, e2]⟩
theorem sets_val {H : Hp} {kvs : List (Key × V)} {sets : List (Str × List Str)} (h : Paired (SetKV H) kvs sets) (nd : (sets.map (·.1)).Nodup) : ∀ x ∈ sets, ∃ l, valV kvs (.inr x.1 : Key) = some (.ref l) ∧ H l = some (.lst (x.2.map V.str)) := by
  induction h with
  | nil => exact fun x hx => by cases hx
  | @cons kv y kvs sets r t ih =>
    obtain ⟨e, l, e2, hl⟩ := r
    rw [List.map_cons, List.nodup_cons] at nd
    intro x hx
    rcases List.mem_cons.mp hx with rfl | hx
    · exact ⟨l, by rw [← e2]; exact valV_pos e, hl⟩
    · obtain ⟨l', e3, hl'⟩ := ih nd.2 x hx
      refine ⟨l', ?_, hl'⟩
      rw [valV_neg (by rw [e]; exact fun z => nd.1 ((Sum.inr.inj z) ▸ List.mem_map_of_mem hx))]
      exact e3
theorem mergeK_new : ∀ {more kvs : List (Key × V)}, ((kvs ++ more).map (·.1)).Nodup → mergeK kvs more = kvs ++ more
  | [], kvs, _ => (List.append_nil kvs).symm
  | p :: r, kvs, h => by
    have h1 : p.1 ∉ kvs.map (·.1) := by
      rw [List.map_append, List.map_cons] at h
      exact fun z => (List.nodup_append.mp h).2.2 _ z _ List.mem_cons_self rfl
    show mergeK (putK kvs p.1 p.2) r = _
    rw [putK_new _ (valV_no h1), mergeK_new (by rw [List.append_assoc]; exact h), List.append_assoc]
    rfl
theorem sets_keys {H : Hp} {kvs : List (Key × V)} {sets : List (Str × List Str)} (h : Paired (SetKV H) kvs sets) : kvs.map (·.1) = (sets.map (·.1)).map Sum.inr := by
  induction h with
  | nil => rfl
  | cons r t ih =>
    rw [List.map_cons, List.map_cons, List.map_cons, ih, r.1]
def setsD (sets : List (Str × List Str)) : List (Key × PyData) := sets.map fun x => (Sum.inr x.1, .list (x.2.map .str))
theorem dkv_sets {K : Frag} {H : Hp} {kvs : List (Key × V)} {sets : List (Str × List Str)} (h : Paired (SetKV H) kvs sets) (lay : ∀ x ∈ sets, ∀ y ∈ x.2, PyData.strOk y = true) : Paired (DKV K H) kvs (setsD sets) := by
  induction h with
  | nil => exact .nil
  | @cons kv y kvs sets r t ih =>
    obtain ⟨e, l, e2, h1⟩ := r
    refine .cons ⟨e, ?_, ?_⟩ (ih fun x hx => lay x (List.mem_cons_of_mem _ hx))
    · rw [e2]
      exact .lst (SqL.of h1) (dp_strs _)
    · obtain ⟨c, d⟩ := strs_lay y.2 (lay y List.mem_cons_self)
      unfold SeqAt.shaped
      rw [PyData.canLay0, PyData.depth, c, d]
      rfl
theorem eqDD_none (sets : List (Str × List Str)) : eqDD (setsD sets) [] = decide (sets = []) := by
  cases sets with
  | nil => rfl
  | cons x r => rfl
theorem paired_set {α β : Type} {F : α → β → Prop} {v : α} {y : β} (h : F v y) : ∀ {xs : List α} {ys : List β} (i : Nat), Paired F xs ys → Paired F (xs.set i v) (ys.set i y)
  | _, _, _, .nil => .nil
  | _, _, 0, .cons r t => .cons h t
  | _, _, i + 1, .cons r t => .cons r (paired_set h i t)
theorem paired_rev {α β : Type} {F : α → β → Prop} : ∀ {xs : List α} {ys : List β}, Paired F xs ys → Paired F xs.reverse ys.reverse
  | _, _, .nil => .nil
  | _, _, .cons r t => by
    rw [List.reverse_cons, List.reverse_cons]
    exact paired_more r (paired_rev t)
theorem rows_set {H : Hp} {l : Addr} {us : List V} {rows : List Row} {v : V} {x : Row} (i : Nat) (hl : H l = some (.lst us)) (p : Paired (RowAt H) us rows) (hx : RowAt H v x) : RowsAt (upd H l (.lst (us.set i v))) l (rows.set i x) :=
  ⟨_, upd_same, paired_set (hx.put hl) i (paired_map (fun _ _ z => RowAt.put z hl) p)⟩
theorem ixN_of {n j : Nat} (h : j < n) : ixN n (j : Int) = some j := by
  unfold ixN
  rw [if_pos (by omega), if_pos (by omega), Int.toNat_natCast]
end Gk
/-! ### the readings of _law_changed, part by part -/
namespace Gk
open PySem PySem.W PySem.Spec PyProof.Rows L2 NdefX
theorem cat_any {K : Frag} {H : Hp} {a b : Addr} {xs ys : List V} {Q : VK} (ha : SqT K H a xs) (hb : H b = some (.tup ys)) (ne : ys ≠ []) (hz : xs.length + ys.length ≤ sizeLine) (h : ∀ T H', Same H H' → H' T = some (.tup (xs ++ ys)) → Q (.ref T) H') : rCatA K (.ref a) (.ref b) H Q := by
  refine ⟨a, b, xs, ys, rfl, rfl, ha, SqT.of hb, hz, fun e => ?_, fun _ e => absurd e ne, fun _ _ T hT => h T _ ((Same.refl H).new hT) upd_same⟩
  subst e
  exact h b H (Same.refl H) hb
theorem at_row {K : Frag} {σ : L2.St} {H : Hp} {Q : VK} {l : Addr} {us : List V} {j i2 i5 : Nat} {v : V} (e2 : σ[i2]? = some (some (.ref l))) (e5 : σ[i5]? = some (some (.int (j : Nat)))) (hl : H l = some (.lst us)) (hv : us[j]? = some v) (h : Q v H) : tOp (rIxL K) (tVar i2) (tVar i5) σ H Q :=
  ⟨_, e2, _, e5, l, us, _, _, rfl, rfl, SqL.of hl, at_of rfl hv, h⟩
theorem But.refl {x : Addr} {H : Hp} : But x H H := fun _ _ _ e => e
abbrev tR5 (K : Frag) : TE := tOp (rIxL K) (tVar 2) (tVar 5)
abbrev tEq (c : Int) : TT := tTest (tOp rEq (tVar 4) (tC (.int c)))
abbrev rLenD : List V → Hp → VK → Prop := fun xs H Q => ∃ a kvs, xs = [V.ref a] ∧ H a = some (.dK kvs) ∧ Q (.int kvs.length) H
abbrev rSortD : List V → Hp → VK → Prop := fun xs H Q => ∃ (a : Addr) (kvs : List (Key × V)) (ks : List Str), xs = [.ref a] ∧ Rd H a (.dK kvs) ∧ kvs.map (·.1) = ks.map Sum.inr ∧ ks.length < 64 ∧ ∀ ys p, ys.Perm ks → sortedS ys = true → H p = none → Q (.ref p) (upd H p (.lst (ys.map V.str)))
abbrev rDictP (K : Frag) : List V → Hp → VK → Prop := fun xs H Q => ∃ (a : Addr) (ps : List Addr) (kvs : List (Key × V)), xs = [.ref a] ∧ SqL K H a (ps.map V.ref) ∧ Paired (fun p kv => SqT K H p [kV kv.1, kv.2]) ps kvs ∧ ∀ p, H p = none → Q (.ref p) (upd H p (.dK (mergeK [] kvs)))
abbrev b0 (K : Frag) : TS := tSeq (tAsg (tOp (rCatT K) (tTup (tCons (tC (.str "other")) tNil)) (tSl (rSlT K) (tR5 K) (tPart (tC (.int 1))) tNoPart)) (gSub (tVar 2) (tVar 5) rSetL)) (tRet (tTup (tCons (tVar 2) (tCons tDNewK tNil))))
abbrev b1 (K : Frag) : TS := tAsg (tTup (tCons (tOp (rIxT K) (tR5 K) (tC (.int 0))) (tCons (tOp (rCatA K) (tOp (rIxT K) (tR5 K) (tC (.int 1))) (tTup (tCons (tC (.str "other")) tNil))) (tCons (tOp (rIxT K) (tR5 K) (tC (.int 2))) tNil)))) (gSub (tVar 2) (tVar 5) rSetL)
abbrev b2 (K : Frag) : TS := tAsg (tOp (rCatT K) (tSl (rSlT K) (tR5 K) tNoPart (tPart (tC (.int 2)))) (tTup (tCons (tC (.int 4)) tNil))) (gSub (tVar 2) (tVar 5) rSetL)
abbrev b3 (K : Frag) : TS := tDrop (tBM K "list" rAppend (tVar 2) (tCons (tTup (tCons (tC (.str "other")) (tCons (tTup tNil) (tCons (tC (.int 4)) tNil)))) tNil))
abbrev b4 : TS := tSeq (tAsg (tLst tNil) (gSub (tVar 3) (tC (.str "other")) rSetD)) (tAsg (tIf (tTest (tOp (rI0 fun i j => .bl (decide (i < j))) (tCB rLenD (tCons (tVar 3) tNil)) (tC (.int 4)))) (tVar 3) (tDisp [(tC (.str "other"), tLst tNil)])) (gName 3))
abbrev b5 (K : Frag) : TS := tAsg (tIf (tTest (tOp (rI0 fun i j => .bl (decide (j < i))) (tCB (rLenSeq K) (tCons (tVar 2) tNil)) (tC (.int 1)))) (tRevL K (tVar 2)) (tLst (tCons (tOp (rCatT K) (tSl (rSlT K) (tOp (rIxL K) (tVar 2) (tC (.int 0))) tNoPart (tPart (tC (.int 2)))) (tTup (tCons (tC (.int 4)) tNil))) tNil))) (gName 2)
abbrev tPairRen (K : Frag) : TE := tTup (tCons (tIf (tTest (tOp rNe (tVar 7) (tOp (rIxL K) (tVar 6) (tC (.int 0))))) (tVar 7) (tC (.str "other"))) (tCons (tDGet (tVar 3) (tVar 7)) tNil))
abbrev b6 (K : Frag) : TS := tSeq (tAsg (tCB rSortD (tCons (tVar 3) tNil)) (gName 6)) (tAsg (tCB (rDictP K) (tCons (tLc (iList K (tVar 6)) (gName 7) tYes (tPairRen K) [7]) tNil)) (gName 3))
section
variable {K : Frag} {D : Ends} {σ : L2.St} {H : Hp} {l t al : Addr} {us : List V} {rows : List Row} {j : Nat} {x : Row}
theorem s100 {n : Nat} (h : n ≤ 100) : n ≤ sizeLine := Nat.le_trans h (by decide)
/-- the row at j is told anew -/
theorem put_row {r' : Row} {T : Addr} {H H8 : Hp} (e2 : σ[2]? = some (some (.ref l))) (e5 : σ[5]? = some (some (.int (j : Nat)))) (cl : H l = some (.lst us)) (pu : Paired (RowAt H) us rows) (jl : j < us.length) (s : Same H H8) (xr : RowAt H8 (.ref T) r')
    (k : ∀ H', But l H H' → RowsAt H' l (rows.set j r') → D.nx σ H') : gSub (tVar 2) (tVar 5) rSetL (.ref T) σ H8 D.nx := by
  have cl8 := s _ _ cl
  have pu8 := paired_map (fun _ _ z => RowAt.later z s) pu
  refine ⟨_, e2, _, e5, l, us, _, j, rfl, rfl, cl8, ixN_of jl, ?_⟩
  exact k _ (But.trans (fun b u _ e => s b u e) But.of) (rows_set j cl8 pu8 xr)
theorem b1_run (e2 : σ[2]? = some (some (.ref l))) (e5 : σ[5]? = some (some (.int (j : Nat)))) (cl : H l = some (.lst us)) (pu : Paired (RowAt H) us rows) (hv : us[j]? = some (.ref t)) (ht : H t = some (.tup [.str x.name, .ref al, .int x.num])) (hal : H al = some (.tup (x.al.map V.str))) (fw : x.al.length ≤ 90)
    (k : ∀ H', But l H H' → RowsAt H' l (rows.set j ⟨x.name, x.al ++ [otherT], x.num⟩) → D.nx σ H') : b1 K D σ H := by
  have jl : j < us.length := (List.getElem?_eq_some_iff.mp hv).1
  refine rd_asg (rd_tup (rd_cons (at_row e2 e5 cl hv ⟨t, _, _, _, rfl, rfl, SqT.of ht, rfl, rd_cons (rd_op (at_row e2 e5 cl hv ⟨t, _, _, _, rfl, rfl, SqT.of ht, rfl, rd_tup (rd_cons (rd_c (rd_nil ⟨s100 (show 1 ≤ 100 by decide), fun T1 h1 => ?_⟩)))⟩))⟩)))
  have s6 : Same H (upd H T1 (.tup [.str "other"])) := (Same.refl H).new h1
  have c6 : upd H T1 (.tup [.str "other"]) T1 = some (.tup [.str "other"]) := upd_same
  generalize upd H T1 (.tup [.str "other"]) = H6 at s6 c6
  refine cat_any (SqT.of (s6 _ _ hal)) c6 (by simp) (s100 (by rw [List.length_map]; show x.al.length + 1 ≤ 100; omega)) fun T2 H7 s7 c7 => ?_
  have sA := s6.trans s7
  refine rd_cons (at_row e2 e5 (sA _ _ cl) hv ⟨t, _, _, _, rfl, rfl, SqT.of (sA _ _ ht), rfl, rd_nil ⟨s100 (show 3 ≤ 100 by decide), fun T3 h3 => ?_⟩⟩)
  have s8 : Same H7 (upd H7 T3 (.tup [.str x.name, .ref T2, .int x.num])) := (Same.refl H7).new h3
  have c8 : upd H7 T3 (.tup [.str x.name, .ref T2, .int x.num]) T3 = some (.tup [.str x.name, .ref T2, .int x.num]) := upd_same
  refine put_row (r' := ⟨x.name, x.al ++ [otherT], x.num⟩) e2 e5 cl pu jl (sA.trans s8) ⟨T3, T2, rfl, c8, ?_⟩ k
  rw [s8 _ _ c7, List.map_append]
  rfl
theorem b2_run (e2 : σ[2]? = some (some (.ref l))) (e5 : σ[5]? = some (some (.int (j : Nat)))) (cl : H l = some (.lst us)) (pu : Paired (RowAt H) us rows) (hv : us[j]? = some (.ref t)) (ht : H t = some (.tup [.str x.name, .ref al, .int x.num])) (hal : H al = some (.tup (x.al.map V.str)))
    (k : ∀ H', But l H H' → RowsAt H' l (rows.set j ⟨x.name, x.al, 4⟩) → D.nx σ H') : b2 K D σ H := by
  have jl : j < us.length := (List.getElem?_eq_some_iff.mp hv).1
  refine rd_asg (rd_op (at_row e2 e5 cl hv ⟨2, rfl, t, _, rfl, SqT.of ht, fun z => absurd z.2 (show ¬ HT.sIx 3 3 (some 2) = 3 by decide), fun T2 h2 => ?_⟩))
  have s7 : Same H (upd H T2 (.tup [.str x.name, .ref al])) := (Same.refl H).new h2
  have c7 : upd H T2 (.tup [.str x.name, .ref al]) T2 = some (.tup [.str x.name, .ref al]) := upd_same
  show tTup _ _ (upd H T2 (.tup [.str x.name, .ref al])) _
  generalize upd H T2 (.tup [.str x.name, .ref al]) = H7 at s7 c7
  refine rd_tup (rd_cons (rd_c (rd_nil ⟨s100 (show 1 ≤ 100 by decide), fun T1 h1 => ?_⟩)))
  have s6 : Same H7 (upd H7 T1 (.tup [.int 4])) := (Same.refl H7).new h1
  have c6 : upd H7 T1 (.tup [.int 4]) T1 = some (.tup [.int 4]) := upd_same
  generalize upd H7 T1 (.tup [.int 4]) = H8 at s6 c6
  refine ⟨T2, T1, _, _, rfl, rfl, SqT.of (s6 _ _ c7), SqT.of c6, by simp, s100 (show 3 ≤ 100 by decide), fun z => (by cases z), fun _ T3 h3 => ?_⟩
  have s8 : Same H8 (upd H8 T3 (.tup [.str x.name, .ref al, .int 4])) := (Same.refl H8).new h3
  have c8 : upd H8 T3 (.tup [.str x.name, .ref al, .int 4]) T3 = some (.tup [.str x.name, .ref al, .int 4]) := upd_same
  have sA := s7.trans (s6.trans s8)
  exact put_row (r' := ⟨x.name, x.al, 4⟩) e2 e5 cl pu jl sA ⟨T3, al, rfl, c8, sA _ _ hal⟩ k
theorem b0_run (e2 : σ[2]? = some (some (.ref l))) (e5 : σ[5]? = some (some (.int (j : Nat)))) (cl : H l = some (.lst us)) (pu : Paired (RowAt H) us rows) (hv : us[j]? = some (.ref t)) (ht : H t = some (.tup [.str x.name, .ref al, .int x.num])) (hal : H al = some (.tup (x.al.map V.str)))
    (k : ∀ H' e' q, But l H H' → RowsAt H' l (rows.set j ⟨otherT, x.al, x.num⟩) → H' e' = some (.dK []) → H' q = none → D.rt (.ref q) (upd H' q (.tup [.ref l, .ref e']))) : b0 K D σ H := by
  have jl : j < us.length := (List.getElem?_eq_some_iff.mp hv).1
  refine rd_seq (rd_asg (rd_op (rd_tup (rd_cons (rd_c (rd_nil ⟨s100 (show 1 ≤ 100 by decide), fun T1 h1 => ?_⟩))))))
  have s6 : Same H (upd H T1 (.tup [.str "other"])) := (Same.refl H).new h1
  have c6 : upd H T1 (.tup [.str "other"]) T1 = some (.tup [.str "other"]) := upd_same
  generalize upd H T1 (.tup [.str "other"]) = H6 at s6 c6
  refine at_row e2 e5 (s6 _ _ cl) hv ⟨1, rfl, t, _, rfl, SqT.of (s6 _ _ ht), fun z => absurd z.1 (show ¬ HT.sIx 3 0 (some 1) = 0 by decide), fun T2 h2 => ?_⟩
  show rCatT K _ _ (upd H6 T2 (.tup [.ref al, .int x.num])) _
  have s7 : Same H6 (upd H6 T2 (.tup [.ref al, .int x.num])) := (Same.refl H6).new h2
  have c7 : upd H6 T2 (.tup [.ref al, .int x.num]) T2 = some (.tup [.ref al, .int x.num]) := upd_same
  generalize upd H6 T2 (.tup [.ref al, .int x.num]) = H7 at s7 c7
  refine ⟨T1, T2, _, _, rfl, rfl, SqT.of (s7 _ _ c6), SqT.of c7, by simp, s100 (show 3 ≤ 100 by decide), fun z => (by cases z), fun _ T3 h3 => ?_⟩
  have s8 : Same H7 (upd H7 T3 (.tup [.str "other", .ref al, .int x.num])) := (Same.refl H7).new h3
  have c8 : upd H7 T3 (.tup [.str "other", .ref al, .int x.num]) T3 = some (.tup [.str "other", .ref al, .int x.num]) := upd_same
  have sA := s6.trans (s7.trans s8)
  refine put_row (r' := ⟨otherT, x.al, x.num⟩) e2 e5 cl pu jl sA ⟨T3, al, rfl, c8, sA _ _ hal⟩ fun H9 b9 w9 => ?_
  with_reducible refine rd_ret ?_
  refine rd_tup (rd_cons (rd_var e2 (rd_cons fun e' he' => ?_)))
  have s10 : Same H9 (upd H9 e' (.dK [])) := (Same.refl H9).new he'
  have c10 : upd H9 e' (.dK []) e' = some (.dK []) := upd_same
  generalize upd H9 e' (.dK []) = H10 at s10 c10
  exact rd_nil ⟨s100 (show 2 ≤ 100 by decide), fun q hq => k H10 e' q (b9.same s10) (w9.later s10) c10 hq⟩
theorem b3_run (e2 : σ[2]? = some (some (.ref l))) (cl : H l = some (.lst us)) (pu : Paired (RowAt H) us rows) (fw : us.length ≤ 90) (k : ∀ H', But l H H' → RowsAt H' l (rows ++ [⟨otherT, [], 4⟩]) → D.nx σ H') : b3 K D σ H := by
  refine rd_drop (rd_bm (rd_var e2 ⟨.inl ⟨rfl, _, SqL.of cl⟩, rd_cons (rd_tup (rd_cons (rd_c (rd_cons (rd_tup (rd_nil ⟨s100 (show 0 ≤ 100 by decide), fun T1 h1 => ?_⟩))))))⟩))
  have s6 : Same H (upd H T1 (.tup [])) := (Same.refl H).new h1
  have c6 : upd H T1 (.tup []) T1 = some (.tup []) := upd_same
  generalize upd H T1 (.tup []) = H6 at s6 c6
  refine rd_cons (rd_c (rd_nil ⟨s100 (show 3 ≤ 100 by decide), fun T2 h2 => ?_⟩))
  have s7 : Same H6 (upd H6 T2 (.tup [.str "other", .ref T1, .int 4])) := (Same.refl H6).new h2
  have c7 : upd H6 T2 (.tup [.str "other", .ref T1, .int 4]) T2 = some (.tup [.str "other", .ref T1, .int 4]) := upd_same
  have sA := s6.trans s7
  have cl8 := sA _ _ cl
  have pu8 := paired_map (fun _ _ z => RowAt.later z sA) pu
  have xr : RowAt (upd H6 T2 (.tup [.str "other", .ref T1, .int 4])) (.ref T2) ⟨otherT, [], 4⟩ := ⟨T2, T1, rfl, c7, s7 _ _ c6⟩
  refine rd_nil ⟨l, us, .ref T2, rfl, rfl, cl8, Nat.lt_of_le_of_lt (show us.length ≤ 100 by omega) (by decide), ?_⟩
  exact k _ (But.trans (fun b u _ e => sA b u e) But.of) ⟨_, upd_same, paired_more (xr.put cl8) (paired_map (fun _ _ z => RowAt.put z cl8) pu8)⟩
theorem b5_run (e2 : σ[2]? = some (some (.ref l))) (cl : H l = some (.lst us)) (pu : Paired (RowAt H) us rows) (h1 : 1 ≤ rows.length)
    (k : ∀ H' l' rows', Same H H' → RowsAt H' l' rows' → ((2 ≤ rows.length ∧ rows' = rows.reverse) ∨ ∃ x, rows = [x] ∧ rows' = [⟨x.name, x.al, 4⟩]) → D.nx (σ.set 2 (some (.ref l'))) H') : b5 K D σ H := by
  have lu := paired_len pu
  refine rd_asg ⟨_, e2, l, us, rfl, .inl (SqL.of cl), _, _, rfl, rfl, _, rfl, ite2 (fun c => ?_) (fun c => ?_)⟩
  · have c := of_decide_eq_true c
    refine ⟨_, e2, l, us, rfl, SqL.of cl, fun q hq => ?_⟩
    have s6 : Same H (upd H q (.lst us.reverse)) := (Same.refl H).new hq
    exact k _ q rows.reverse s6 ⟨_, upd_same, paired_rev (paired_map (fun _ _ z => RowAt.later z s6) pu)⟩ (.inl ⟨by omega, rfl⟩)
  · have c : ¬ (1 : Int) < us.length := fun z => c (decide_eq_true z)
    obtain ⟨x, rfl⟩ : ∃ x, rows = [x] := by
      match rows, h1, lu with
      | [x], _, _ => exact ⟨x, rfl⟩
      | _ :: _ :: _, _, lu =>
        rw [List.length_cons, List.length_cons] at lu
        omega
    obtain ⟨v, rfl⟩ : ∃ v, us = [v] := by
      match us, lu with
      | [v], _ => exact ⟨v, rfl⟩
    cases pu with
    | cons r _ =>
      obtain ⟨t, al, rfl, ht, hal⟩ := r
      refine rd_lst (rd_cons (rd_op ⟨_, e2, l, [.ref t], _, _, rfl, rfl, SqL.of cl, rfl, 2, rfl, t, _, rfl, SqT.of ht, fun z => absurd z.2 (show ¬ HT.sIx 3 3 (some 2) = 3 by decide), fun T2 h2 => ?_⟩))
      have s7 : Same H (upd H T2 (.tup [.str x.name, .ref al])) := (Same.refl H).new h2
      have c7 : upd H T2 (.tup [.str x.name, .ref al]) T2 = some (.tup [.str x.name, .ref al]) := upd_same
      show tTup _ _ (upd H T2 (.tup [.str x.name, .ref al])) _
      generalize upd H T2 (.tup [.str x.name, .ref al]) = H7 at s7 c7
      refine rd_tup (rd_cons (rd_c (rd_nil ⟨s100 (show 1 ≤ 100 by decide), fun T1 h1 => ?_⟩)))
      have s6 : Same H7 (upd H7 T1 (.tup [.int 4])) := (Same.refl H7).new h1
      have c6 : upd H7 T1 (.tup [.int 4]) T1 = some (.tup [.int 4]) := upd_same
      generalize upd H7 T1 (.tup [.int 4]) = H8 at s6 c6
      refine ⟨T2, T1, _, _, rfl, rfl, SqT.of (s6 _ _ c7), SqT.of c6, by simp, s100 (show 3 ≤ 100 by decide), fun z => (by cases z), fun _ T3 h3 => ?_⟩
      have s8 : Same H8 (upd H8 T3 (.tup [.str x.name, .ref al, .int 4])) := (Same.refl H8).new h3
      have c8 : upd H8 T3 (.tup [.str x.name, .ref al, .int 4]) T3 = some (.tup [.str x.name, .ref al, .int 4]) := upd_same
      show tNil _ (upd H8 T3 (.tup [.str x.name, .ref al, .int 4])) _
      generalize upd H8 T3 (.tup [.str x.name, .ref al, .int 4]) = H9 at s8 c8
      refine rd_nil ⟨s100 (show 1 ≤ 100 by decide), fun q hq => ?_⟩
      have s9 : Same H9 (upd H9 q (.lst [.ref T3])) := (Same.refl H9).new hq
      have sA := s7.trans (s6.trans (s8.trans s9))
      exact k _ q [⟨x.name, x.al, 4⟩] sA ⟨_, upd_same, .cons ⟨T3, al, rfl, s9 _ _ c8, sA _ _ hal⟩ .nil⟩ (.inr ⟨x, rfl, rfl⟩)
end
end Gk
/-! ### one turn of the law, part by part -/
namespace Gk
open PySem PySem.W PySem.Spec PyProof.Rows L2 NdefX
theorem SetsArg.later {K : Frag} {H H' : Hp} {v : V} {ns : List Str} {sets : List (Str × List Str)} (h : SetsArg K H v ns sets) (s : Same H H') : SetsArg K H' v ns sets := by
  rcases h with h | ⟨d, kvs, e, hd, pd, ok⟩
  · exact .inl h
  · exact .inr ⟨d, kvs, e, s _ _ hd, paired_map (fun kv y z => by obtain ⟨e, l, e2, h1⟩ := z; exact ⟨e, l, e2, h1.imp s.seq s.sqT⟩) pd, ok⟩
theorem MembersK.later {K : Frag} {H H' : Hp} {a : Addr} {rows : List Row} (h : MembersK K H a rows) (s : Same H H') : MembersK K H' a rows := by
  obtain ⟨vs, h1, h2⟩ := h
  exact ⟨vs, h1.imp s.seq s.sqT, paired_map (fun _ _ z => RowK.later z s) h2⟩
/-- an edition is made -/
theorem make_run {K : Frag} {C : Addr} {H1 : Hp} {m : Addr} {v : V} {rows : List Row} {sets : List (Str × List Str)} {Q : VK} {E : XK} (hM : MembersK K H1 m rows) (ok : RowsOk rows) (hA : SetsArg K H1 v (rows.map (·.name)) sets)
    (k : ∀ H' x rows', Same H1 H' → H1 x = none → Paired SortedRow rows rows' → EdAt C H' x rows' (groupsOf (rows.map (·.name)) sets) → Q (.ref x) H') :
    ∀ x dx, H1 x = none → H1 dx = none → dx ≠ x → spEdInit K C [.ref x, .ref m, v] (upd (upd H1 dx (.own x)) x (.ins C dx [])) (fun u H2 => u = .non ∧ Q (.ref x) H2) E := by
  intro x dx hx hdx ne
  have s3 : Same H1 (upd (upd H1 dx (.own x)) x (.ins C dx [])) := ((Same.refl H1).new hdx).new (by rw [upd_ne ne.symm]; exact hx)
  have cx : upd (upd H1 dx (.own x)) x (.ins C dx []) x = some (.ins C dx []) := upd_same
  generalize upd (upd H1 dx (.own x)) x (.ins C dx []) = H3 at s3 cx
  refine ⟨x, dx, m, v, rows, sets, rfl, cx, hM.later s3, ok, hA.later s3, fun H' rows' bt ps ea => ⟨rfl, k H' x rows' (fun b u z => ?_) hx ps ea⟩⟩
  exact bt b u (ne_of_none z hx) (s3 b u z)
theorem EdAt.on {C p : Addr} {H H' : Hp} {x : Addr} {rows : List Row} {gs : List (Str × List Int)} (h : EdAt C H x rows gs) (d : Drawn p H H') : EdAt C H' x rows gs := by
  obtain ⟨dx, r, g, pl, nu, h1, h2, h3, h4, h5⟩ := h.ob
  refine ⟨dx, r, g, pl, nu, d.other h1 (fun r m z => by cases z), h2.on d, ?_, d.dic h4, d.dic h5⟩
  obtain ⟨kvs, g1, g2⟩ := h3
  exact ⟨kvs, d.dic g1, paired_map (fun kv y z => by obtain ⟨e, t, e2, q⟩ := z; exact ⟨e, t, e2, d.tup q⟩) g2⟩
abbrev tM (i : Int) (K : Frag) : TE := tOp (rIxT K) (tVar 4) (tC (.int i))
abbrev retF : TS := tRet (tC (.bl false))
abbrev tEqE (K : Frag) (C : Addr) (ta tb : TE) : TE := tOp (rEqI K C (spEdEq K C) E0) ta tb
abbrev tNeE (K : Frag) (C : Addr) (ta tb : TE) : TE := tOp (rNeI K C (spEdEq K C) E0) ta tb
abbrev tNames (C : Addr) (i : Nat) : TE := tProp C (spEdNames C) [] E0 (tVar i)
abbrev tSetsP (C : Addr) (i : Nat) : TE := tProp C (spEdSets C) [] E0 (tVar i)
abbrev T1 : TS := tAsg (tCall spModel [] E0 (tCons (tVar 2) (tCons (tOp (rI0 fun i j => .int (i + j)) (tC (.int 1)) (tCall spDraw [] E0 (tCons (tVar 2) (tCons (tC (.int 5)) tNil)))) tNil))) (gName 4)
abbrev T2 (C : Addr) : TS := tPar 5 6 (tCons (tCall (spLawEd C) [] E0 (tCons (tVar 4) tNil)) (tCons tDNewK tNil))
abbrev T3 (K : Frag) : TS := tFor (iList K (tRevL K (tCB rSortD (tCons (tM 1 K) tNil)))) (gName 7) (tAsg (tCB (rTupOf K) (tCons (tRevL K (tDGet (tM 1 K) (tVar 7))) tNil)) (gSub (tVar 6) (tVar 7) rSetD))
abbrev tRowRev (K : Frag) : TE := tTup (tCons (tOp (rIxT K) (tVar 11) (tC (.int 0))) (tCons (tRevT K (tOp (rIxT K) (tVar 11) (tC (.int 1)))) (tCons (tOp (rIxT K) (tVar 11) (tC (.int 2))) tNil)))
abbrev T4 (K : Frag) (C : Addr) : TS := tAsg (tMake C (spEdInit K C) [] E0 (tCons (tCB (rTupOf K) (tCons (tLc (iList K (tM 0 K)) (gName 11) tYes (tRowRev K) [11]) tNil)) (tCons (tVar 6) tNil))) (gName 8)
abbrev T5 (K : Frag) (C : Addr) : TS := tIfS (tOr (tNot (tTest (tEqE K C (tVar 5) (tVar 8)))) (tOr (tTest (tNeE K C (tVar 5) (tVar 8))) (tNot (tTest (tEqE K C (tVar 8) (tVar 5)))))) retF tNext
/-- the drawn model, in a heap -/
structure Mdl (H : Hp) (a rw d : Addr) (rows : List Row) (sets : List (Str × List Str)) : Prop where
  tup : H a = some (.tup [.ref rw, .ref d])
  rows : RowsAt H rw rows
  sets : SetsAt H d sets
theorem Mdl.later {H H' : Hp} {a rw d : Addr} {rows : List Row} {sets : List (Str × List Str)} (h : Mdl H a rw d rows sets) (s : Same H H') : Mdl H' a rw d rows sets := ⟨s _ _ h.tup, h.rows.later s, h.sets.later s⟩
theorem Mdl.on {p : Addr} {H H' : Hp} {a rw d : Addr} {rows : List Row} {sets : List (Str × List Str)} (h : Mdl H a rw d rows sets) (s : Drawn p H H') : Mdl H' a rw d rows sets := ⟨s.tup h.tup, h.rows.on s, h.sets.on s⟩
/-- the model told in another sequence -/
def revRow (x : Row) : Row := ⟨x.name, x.al.reverse, x.num⟩
def revSet (x : Str × List Str) : Str × List Str := (x.1, x.2.reverse)
theorem words_rev (rows : List Row) : (wordsOf (rows.map revRow)).Perm (wordsOf rows) := by
  induction rows with
  | nil => exact List.Perm.refl _
  | cons x l ih =>
    rw [List.map_cons, words_cons, words_cons]
    exact List.Perm.append ((List.reverse_perm x.al).cons _) ih
theorem rev_names (rows : List Row) : (rows.map revRow).map (·.name) = rows.map (·.name) := by rw [List.map_map]; rfl
theorem rev_nums (rows : List Row) : (rows.map revRow).map (·.num) = rows.map (·.num) := by rw [List.map_map]; rfl
theorem mod_rev {rows : List Row} {sets sets2 : List (Str × List Str)} (m : ModelOk rows sets) (p : sets2.Perm sets) : Mod2 (rows.map revRow) (sets2.map revSet) := by
  have t := m.two
  have back : ∀ x ∈ sets2.map revSet, ∃ y ∈ sets, x.1 = y.1 ∧ x.2 = y.2.reverse := fun x hx => by
    obtain ⟨y, hy, rfl⟩ := List.mem_map.mp hx
    exact ⟨y, p.mem_iff.mp hy, rfl, rfl⟩
  have ek : (sets2.map revSet).map (·.1) = sets2.map (·.1) := by rw [List.map_map]; rfl
  refine ⟨(words_rev rows).nodup_iff.mpr t.nd, fun x hx => t.mem x ((words_rev rows).mem_iff.mp hx), by rw [rev_nums]; exact t.nums, fun x hx => t.numm x (by rw [rev_nums] at hx; exact hx), fun r hr => ?_, by rw [ek]; exact (p.map (·.1)).nodup_iff.mpr t.snd, fun x hx => t.smem x ((p.map (·.1)).mem_iff.mp (by rw [ek] at hx; exact hx)), by rw [List.length_map, p.length_eq]; exact t.slen, fun x hx y hy => ?_, fun x hx => ?_⟩
  · obtain ⟨x, hx, rfl⟩ := List.mem_map.mp hr
    show x.al.reverse.length ≤ 3
    rw [List.length_reverse]
    exact t.few x hx
  · obtain ⟨z, hz, _, e⟩ := back x hx
    rw [e] at hy
    rw [rev_names]
    exact t.ssub z hz y (List.mem_reverse.mp hy)
  · obtain ⟨z, hz, _, e⟩ := back x hx
    rw [e]
    exact (List.reverse_perm _).nodup_iff.mpr (t.seach z hz)
theorem like_rev (rows : List Row) : Paired LikeRow rows (rows.map revRow) := by
  induction rows with
  | nil => exact .nil
  | cons x l ih => exact .cons ⟨rfl, rfl, List.reverse_perm _⟩ ih
theorem like_refl (rows : List Row) : Paired LikeRow rows rows := by
  induction rows with
  | nil => exact .nil
  | cons x l ih => exact .cons ⟨rfl, rfl, List.Perm.refl _⟩ ih
section
variable {K : Frag} {C : Addr} {D : Ends} {H : Hp} {p a rw d one two : Addr} {rows : List Row} {sets : List (Str × List Str)} {s0 s1 s2 s3 s4 s5 s6 s7 s8 s9 s10 s11 : Option V}
theorem T1_run {r m : Int} (hp : H p = some (srcO r m)) (hm : SrcOk m) (k : ∀ H' a rw d rows sets, Drawn p H H' → a ≠ p → rw ≠ p → d ≠ p → Mdl H' a rw d rows sets → ModelOk rows sets → 1 ≤ rows.length → rows.length ≤ 5 → D.nx [s0, s1, some (.ref p), s3, some (.ref a), s5, s6, s7, s8, s9, s10, s11] H') :
    T1 D [s0, s1, some (.ref p), s3, s4, s5, s6, s7, s8, s9, s10, s11] H := by
  refine rd_asg (rd_call (rd_cons (rd_var rfl (rd_cons (rd_op (rd_c (rd_call (rd_cons (rd_var rfl (rd_cons (rd_c (rd_nil ⟨p, 5, r, m, rfl, hp, hm, by decide, by decide, fun z r1 m1 z0 z1 hm1 => ?_⟩))))))))))))
  have d1 := (Drawn.start hp hm).draw (r := r1) hm1
  have c1 : upd H p (srcO r1 m1) p = some (srcO r1 m1) := upd_same
  generalize upd H p (srcO r1 m1) = H1 at d1 c1
  refine ⟨1, z, rfl, rfl, rd_nil ⟨p, r1, m1, 1 + z, rfl, c1, hm1, by omega, by omega, fun H' a rw d rows sets d2 ha na hrw nrw hd nd ca cr cs ok len => rd_gn ?_⟩⟩
  exact k H' a rw d rows sets (d1.trans d2) na nrw nd ⟨ca, cr, cs⟩ ok (by omega) (by omega)
theorem T2_run (M : Mdl H a rw d rows sets) (ok : ModelOk rows sets) (l1 : 1 ≤ rows.length) (l5 : rows.length ≤ 5)
    (k : ∀ Hm H' one e rows1, Same H Hm → Hm e = none → Same Hm H' → H' e = some (.dK []) → Paired SortedRow rows rows1 → EdAt C Hm one rows1 (groupsOf (rows.map (·.name)) sets) → D.nx [s0, s1, s2, s3, some (.ref a), some (.ref one), some (.ref e), s7, s8, s9, s10, s11] H') :
    T2 C D [s0, s1, s2, s3, some (.ref a), s5, s6, s7, s8, s9, s10, s11] H := by
  refine rd_par (rd_cons (rd_call (rd_cons (rd_var rfl (rd_nil ⟨a, rw, d, rows, sets, rfl, M.tup, M.rows, M.sets, ok.rows l1 (by omega), ok.good (by omega), fun H' x rows' s hx ps ea => ?_⟩)))))
  refine rd_cons fun e he => rd_nil ⟨_, _, rfl, ?_⟩
  have s2 : Same H' (upd H' e (.dK [])) := (Same.refl H').new he
  exact k H' _ x e rows' s he s2 upd_same ps ea
end
end Gk
/-! ### members, and what an edition tells by name -/
namespace Gk
open PySem PySem.W PySem.Spec PyProof.Rows L2 NdefX
abbrev sMemInit : Stmt := (inClass (top 18) 0)
abbrev sEdLen : Stmt := (inClass (top 20) 3)
abbrev sEdHas : Stmt := (inClass (top 20) 4)
abbrev sEdGet : Stmt := (inClass (top 20) 5)
def memFs (e al : Addr) (x : Row) (pl : Int) : List (Str × V) := putF "_edition" (.ref e) (putF "place" (.int pl) (putF "number" (.int x.num) (putF "aliases" (.ref al) (putF "name" (.str x.name) []))))
/-- a member, of the edition at e, of this row, at this place -/
def MemAt (C : Addr) (H : Hp) (q e : Addr) (x : Row) (pl : Nat) : Prop := ∃ dx al, H q = some (.ins C dx (memFs e al x (pl : Int))) ∧ H al = some (.tup (x.al.map V.str))
structure MemTxt (K : Frag) (C : Addr) : Prop where
  cl : Cls K C
  nN : NoAttr K C "name"
  nA : NoAttr K C "aliases"
  nU : NoAttr K C "number"
  nP : NoAttr K C "place"
  nE : NoAttr K C "_edition"
def spMemInit (CE CM : Addr) : Sp := fun vs H Q _ => ∃ (x dx e : Addr) (i : Nat) (rows : List Row) (gs : List (Str × List Int)) (r : Row), vs = [.ref x, .ref e, .int (i : Nat)] ∧ H x = some (.ins CM dx []) ∧ EdAt CE H e rows gs ∧ rows[i]? = some r ∧
  ∀ H', But x H H' → MemAt CM H' x e r i → Q .non H'
def spEdLen (CE : Addr) : Sp := fun vs H Q _ => ∃ (x : Addr) (rows : List Row) (gs : List (Str × List Int)), vs = [.ref x] ∧ EdAt CE H x rows gs ∧ Q (.int rows.length) H
/-- value in edition -/
def spEdHas (K : Frag) (CE : Addr) : Sp := fun vs H Q _ => ∃ (x : Addr) (y : V) (rows : List Row) (gs : List (Str × List Int)), vs = [.ref x, y] ∧ EdAt CE H x rows gs ∧
  ((∃ w : Str, y = .str w ∧ Q (.bl (decide (w ∈ wordsOf rows))) H) ∨ ∃ t, TyX K H y t ∧ kitOne K t (.type "str") = some false ∧ Q (.bl false) H)
def spEdGet (CE CM : Addr) : Sp := fun vs H Q _ => ∃ (x : Addr) (w : Str) (rows : List Row) (gs : List (Str × List Int)) (i : Nat) (r : Row), vs = [.ref x, .str w] ∧ EdAt CE H x rows gs ∧ (wordsOf rows).Nodup ∧ rows[i]? = some r ∧ w ∈ r.name :: r.al ∧
  ∀ H' q, Same H H' → H q = none → MemAt CM H' q x r i → Q (.ref q) H'
theorem edFs_places {r g pl nu : Addr} : (edFs r g pl nu).lookup ("_places" : Str) = some (V.ref pl) := by
  have h1 : ¬ (("_places" : Str) = "_numbers") := by decide +kernel
  unfold edFs
  rw [lookup_putF, if_neg h1, lookup_putF, if_pos rfl]
theorem edFs_numbers {r g pl nu : Addr} : (edFs r g pl nu).lookup ("_numbers" : Str) = some (V.ref nu) := by
  unfold edFs
  rw [lookup_putF, if_pos rfl]
/-! what _places holds -/
theorem valV_app_none {a b : List (Key × V)} {k : Key} (h : valV a k = none) : valV (a ++ b) k = valV b k := by
  induction a with
  | nil => rfl
  | cons p a ih =>
    obtain ⟨k', v⟩ := p
    by_cases e : k' = k
    · rw [show valV ((k', v) :: a) k = some v from valV_pos e] at h
      cases h
    · rw [List.cons_append, valV_neg e]
      rw [valV_neg e] at h
      exact ih h
theorem valV_app_some {a b : List (Key × V)} {k : Key} {v : V} (h : valV a k = some v) : valV (a ++ b) k = some v := by
  induction a with
  | nil => cases h
  | cons p a ih =>
    obtain ⟨k', u⟩ := p
    by_cases e : k' = k
    · rw [show valV ((k', u) :: a) k = some u from valV_pos e] at h
      rw [List.cons_append, show valV ((k', u) :: (a ++ b)) k = some u from valV_pos e]
      exact h
    · rw [valV_neg e] at h
      rw [List.cons_append, valV_neg e]
      exact ih h
theorem valV_words {w : Str} {v : V} : ∀ {ws : List Str}, w ∈ ws → valV (ws.map fun y => ((Sum.inr y : Key), v)) (.inr w) = some v
  | [], h => by cases h
  | x :: ws, h => by
    by_cases e : x = w
    · exact valV_pos (by rw [e])
    · rw [List.map_cons, valV_neg (fun z => e (Sum.inr.inj z))]
      exact valV_words (by
        rcases List.mem_cons.mp h with z | z
        · exact absurd z.symm e
        · exact z)
theorem valV_words_no {w : Str} {v : V} {ws : List Str} (h : w ∉ ws) : valV (ws.map fun y => ((Sum.inr y : Key), v)) (.inr w) = none := valV_no fun hm => by
  rw [List.map_map] at hm
  obtain ⟨y, hy, e⟩ := List.mem_map.mp hm
  exact h (Sum.inr.inj e ▸ hy)
theorem pl_val {rows : List Row} (nd : (wordsOf rows).Nodup) {w : Str} {i : Nat} {r : Row} (hr : rows[i]? = some r) (hw : w ∈ r.name :: r.al) : ∀ n, n ≤ rows.length → (i < n → valV (plKV rows n) (.inr w) = some (.int (i : Nat))) ∧ (n ≤ i → valV (plKV rows n) (.inr w) = none)
  | 0, _ => ⟨fun h => absurd h (Nat.not_lt_zero _), fun _ => rfl⟩
  | n + 1, hn => by
    obtain ⟨a, b⟩ := pl_val nd hr hw n (by omega)
    obtain ⟨y, hy⟩ : ∃ y, rows[n]? = some y := ⟨_, List.getElem?_eq_getElem (by omega)⟩
    have ep : plKV rows (n + 1) = plKV rows n ++ (y.name :: y.al).map fun z => (Sum.inr z, V.int (n : Nat)) := by
      show plKV rows n ++ (match rows[n]? with | some r => _ | none => _) = _
      rw [hy]
    rw [ep]
    refine ⟨fun h => ?_, fun h => ?_⟩
    · by_cases e : i < n
      · exact valV_app_some (a e)
      · obtain rfl : i = n := by omega
        rw [valV_app_none (b (Nat.le_refl _))]
        rw [hr] at hy
        obtain rfl := Option.some.inj hy
        exact valV_words hw
    · rw [valV_app_none (b (by omega))]
      refine valV_words_no fun hm => ?_
      -- w would stand in two rows
      have split : ∀ (l : List Row) (i n : Nat) (r y : Row), (wordsOf l).Nodup → l[n]? = some y → l[i]? = some r → n < i → w ∈ y.name :: y.al → w ∈ r.name :: r.al → False := by
        intro l
        induction l with
        | nil => exact fun i n r y _ h => by simp at h
        | cons x l ih =>
          intro i n r y nd hy hr lt h1 h2
          rw [words_cons] at nd
          cases i with
          | zero => omega
          | succ i =>
            cases n with
            | zero =>
              obtain rfl := Option.some.inj hy
              have m2 : w ∈ wordsOf l := List.mem_flatMap.mpr ⟨r, List.mem_of_getElem? hr, h2⟩
              exact (List.nodup_append.mp nd).2.2 w h1 w m2 rfl
            | succ n => exact ih i n r y (List.nodup_append.mp nd).2.1 hy hr (by omega) h1 h2
      exact split rows i n r y nd hy hr (by omega) hm hw
theorem pl_none {rows : List Row} {w : Str} (h : w ∉ wordsOf rows) : ∀ n, valV (plKV rows n) (.inr w) = none
  | 0 => rfl
  | n + 1 => by
    have ih := pl_none h n
    unfold plKV
    rw [valV_app_none ih]
    cases e : rows[n]? with
    | none => rfl
    | some y => exact valV_words_no fun hm => h (List.mem_flatMap.mpr ⟨y, List.mem_of_getElem? e, hm⟩)
theorem mem_row {rows : List Row} {w : Str} (h : w ∈ wordsOf rows) : ∃ (i : Nat) (r : Row), rows[i]? = some r ∧ w ∈ r.name :: r.al := by
  obtain ⟨r, hr, hw⟩ := List.mem_flatMap.mp h
  obtain ⟨i, hi⟩ := List.mem_iff_getElem?.mp hr
  exact ⟨i, r, hi, hw⟩
theorem putF_len (f : Str) (v : V) (fs : List (Str × V)) : (putF f v fs).length ≤ fs.length + 1 := by
  induction fs with
  | nil => exact Nat.le_refl _
  | cons p fs ih =>
    unfold putF
    split
    · simp
    · simp only [List.length_cons]
      omega
section
variable {P : Program} {w : World} {K : Frag} {mg : Str → Option Value} {base : Heap}
theorem scMemInit : FnScope ["self", "edition", "place", "row"] ["self", "edition", "place"] (defScope sMemInit) := ⟨rfl, rfl, rfl, by decide +kernel, rfl, by decide +kernel, by decide +kernel⟩
theorem ok_meminit {f CE CM : Addr} {fd : FuncData} (F : Fun K "__init__" "Member.__init__" sMemInit f fd) (T : EdTxt K CE) (TM : MemTxt K CM) : FnOk P w K mg base CX0 1 f fd ["self", "edition", "place"] (spMemInit CE CM) := by
  refine F.ok scMemInit (fun vs H Q E h => ?_) (fun cdv A outer s H vs Q E hr h => ?_)
  · obtain ⟨x, dx, e, i, rows, gs, r, rfl, _⟩ := h
    rfl
  · obtain ⟨x, dx, e, i, rows, gs, r, rfl, hx, he, hi, k⟩ := h
    have nd := scMemInit.nd
    refine ⟨_, pss_cons (ps_set (i := 3) nd rfl (Or.inl rfl) (pe_ix ix_list (pe_fld (pv 1) rfl) (pv 2) (fun _ _ => rfl)))
      (pss_cons (ps_fld (pv 0) (pe_ix ix_tup (pv 3) pe_int (fun _ _ => rfl)) rfl) (pss_cons (ps_fld (pv 0) (pe_ix ix_tup (pv 3) pe_int (fun _ _ => rfl)) rfl) (pss_cons (ps_fld (pv 0) (pe_ix ix_tup (pv 3) pe_int (fun _ _ => rfl)) rfl) (pss_cons (ps_fld (pv 0) (pv 2) rfl) (pss_one (ps_fld (pv 0) (pv 1) rfl)))))), ?_⟩
    obtain ⟨de, rl, g, pl, nu, h1, h2, h3, h4, h5⟩ := he.ob
    obtain ⟨us, hus, pu⟩ := h2
    have iu : i < us.length := by rw [paired_len pu]; exact (List.getElem?_eq_some_iff.mp hi).1
    obtain ⟨u, hu⟩ : ∃ u, us[i]? = some u := ⟨_, List.getElem?_eq_getElem iu⟩
    obtain ⟨y, hy, t, al, rfl, ht, hal⟩ := paired_left pu hu
    rw [hi] at hy
    obtain rfl := Option.some.inj hy
    have step : ∀ {f : Str} {v : V} {fs : List (Str × V)} {H : Hp}, H x = some (.ins CM dx fs) → H t = some (.tup [.str r.name, .ref al, .int r.num]) → H al = some (.tup (r.al.map V.str)) → But x H (upd H x (.ins CM dx (putF f v fs))) ∧ upd H x (.ins CM dx (putF f v fs)) x = some (.ins CM dx (putF f v fs)) ∧ upd H x (.ins CM dx (putF f v fs)) t = some (.tup [.str r.name, .ref al, .int r.num]) ∧ upd H x (.ins CM dx (putF f v fs)) al = some (.tup (r.al.map V.str)) :=
      fun hx ht hal => ⟨But.of, upd_same, by rw [upd_ne (ne_of ht hx fun z => by cases z)]; exact ht, by rw [upd_ne (ne_of hal hx fun z => by cases z)]; exact hal⟩
    with_reducible refine rd_seq ?_
    refine rd_asg ⟨_, rfl, e, CE, de, _, _, rfl, h1, T.cl, T.nR, edFs_rows, _, rfl, rl, us, _, _, rfl, rfl, SqL.of hus, at_of rfl hu, rd_gn ?_⟩
    obtain ⟨b1, x1, t1, a1⟩ := step (f := "name") (v := .str r.name) hx ht hal
    with_reducible refine rd_seq ?_
    refine ⟨_, rfl, t, _, _, _, rfl, rfl, SqT.of ht, rfl, _, rfl, x, CM, dx, [], rfl, hx, TM.cl, TM.nN, by decide, ?_⟩
    generalize upd H x (.ins CM dx (putF "name" (.str r.name) [])) = H1 at b1 x1 t1 a1
    obtain ⟨b2, x2, t2, a2⟩ := step (f := "aliases") (v := .ref al) x1 t1 a1
    with_reducible refine rd_seq ?_
    refine ⟨_, rfl, t, _, _, _, rfl, rfl, SqT.of t1, rfl, _, rfl, x, CM, dx, _, rfl, x1, TM.cl, TM.nA, by show 1 < 1000; decide, ?_⟩
    generalize upd H1 x (.ins CM dx (putF "aliases" (.ref al) (putF "name" (.str r.name) []))) = H2 at b2 x2 t2 a2
    obtain ⟨b3, x3, t3, a3⟩ := step (f := "number") (v := .int r.num) x2 t2 a2
    with_reducible refine rd_seq ?_
    refine ⟨_, rfl, t, _, _, _, rfl, rfl, SqT.of t2, rfl, _, rfl, x, CM, dx, _, rfl, x2, TM.cl, TM.nU, by show 2 < 1000; decide, ?_⟩
    generalize upd H2 x (.ins CM dx (putF "number" (.int r.num) (putF "aliases" (.ref al) (putF "name" (.str r.name) [])))) = H3 at b3 x3 t3 a3
    obtain ⟨b4, x4, t4, a4⟩ := step (f := "place") (v := .int (i : Nat)) x3 t3 a3
    with_reducible refine rd_seq ?_
    refine ⟨_, rfl, _, rfl, x, CM, dx, _, rfl, x3, TM.cl, TM.nP, by show 3 < 1000; decide, ?_⟩
    generalize upd H3 x (.ins CM dx (putF "place" (.int (i : Nat)) (putF "number" (.int r.num) (putF "aliases" (.ref al) (putF "name" (.str r.name) []))))) = H4 at b4 x4 t4 a4
    obtain ⟨b5, x5, t5, a5⟩ := step (f := "_edition") (v := .ref e) x4 t4 a4
    refine ⟨_, rfl, _, rfl, x, CM, dx, _, rfl, x4, TM.cl, TM.nE, by show 4 < 1000; decide, ?_⟩
    exact k _ ((((b1.trans b2).trans b3).trans b4).trans b5) ⟨dx, al, x5, a5⟩
theorem scEdLen : FnScope ["self"] ["self"] (defScope sEdLen) := ⟨rfl, rfl, rfl, by decide +kernel, rfl, by decide +kernel, by decide +kernel⟩
theorem ok_edlen {f CE : Addr} {fd : FuncData} (F : Fun K "__len__" "Edition.__len__" sEdLen f fd) (T : EdTxt K CE) (tN : mg "len" = none) : FnOk P w K mg base CX0 1 f fd ["self"] (spEdLen CE) := by
  refine F.ok scEdLen (fun vs H Q E h => ?_) (fun cdv A outer s H vs Q E hr h => ?_)
  · obtain ⟨x, rows, gs, rfl, _⟩ := h
    rfl
  · obtain ⟨x, rows, gs, rfl, he, k⟩ := h
    refine ⟨_, pss_one (ps_ret (pe_callB call_len_seq (by rfl) tN PySem.boot_len (pa_cons (pe_fld (pv 0) rfl) pa_nil))), ?_⟩
    obtain ⟨de, rl, g, pl, nu, h1, ⟨us, hus, pu⟩, _⟩ := he.ob
    rw [← paired_len pu] at k
    exact ⟨_, rfl, x, CE, de, _, _, rfl, h1, T.cl, T.nR, edFs_rows, rl, us, rfl, .inl (SqL.of hus), k⟩
theorem scEdHas : FnScope ["self", "value"] ["self", "value"] (defScope sEdHas) := ⟨rfl, rfl, rfl, by decide +kernel, rfl, by decide +kernel, by decide +kernel⟩
theorem ok_edhas {f CE : Addr} {fd : FuncData} (F : Fun K "__contains__" "Edition.__contains__" sEdHas f fd) (T : EdTxt K CE) (ti : mg "isinstance" = none) (ts : mg "str" = none) : FnOk P w K mg base CX0 1 f fd ["self", "value"] (spEdHas K CE) := by
  refine F.ok scEdHas (fun vs H Q E h => ?_) (fun cdv A outer s H vs Q E hr h => ?_)
  · obtain ⟨x, y, rows, gs, rfl, _⟩ := h
    rfl
  · obtain ⟨x, y, rows, gs, rfl, he, k⟩ := h
    have hu := hu_of hr
    refine ⟨_, pss_one (ps_ret (pe_and (pe_callB call_isi (by rfl) ti boot_isi' (pa_cons (pv 1) (pa_cons (pe_bltn (v := .ty "str") (by rfl) ts boot_str' rfl) pa_nil))) (pe_one (pe_cmp (pc_din hu (pv 1) (pe_fld (pv 0) rfl)))))), ?_⟩
    obtain ⟨de, rl, g, pl, nu, h1, h2, h3, h4, h5⟩ := he.ob
    rcases k with ⟨w, rfl, k⟩ | ⟨t, ty, ko, k⟩
    · refine rd_ret (rd_cb (rd_cons (rd_var rfl (rd_cons (rd_c (rd_nil ⟨_, _, _, _, true, rfl, .ty "str", .base (.str w), kit_ty (by decide +kernel), true, rfl, ite_yes rfl ?_⟩))))))
      refine ⟨_, rfl, _, rfl, x, CE, de, _, _, rfl, h1, T.cl, T.nP, edFs_places, pl, _, rfl, DGet.k (k := .inr w) h4, ?_⟩
      by_cases hw : w ∈ wordsOf rows
      · rw [decide_eq_true hw] at k
        have some_ : (valV (plKV rows rows.length) (.inr w : Key)).isSome = true := by
          have : ∀ n, n ≤ rows.length → ∀ (i : Nat) (r : Row), rows[i]? = some r → w ∈ r.name :: r.al → i < n → (valV (plKV rows n) (.inr w : Key)).isSome = true := by
            intro n
            induction n with
            | zero => exact fun _ i r _ _ h => absurd h (Nat.not_lt_zero _)
            | succ n ih =>
              intro hn i r hr hw lt
              cases hv : valV (plKV rows n) (.inr w : Key) with
              | some v =>
                unfold plKV
                rw [valV_app_some hv]
                rfl
              | none =>
                by_cases e : i < n
                · have := ih (by omega) i r hr hw e
                  rw [hv] at this
                  cases this
                · obtain rfl : i = n := by omega
                  unfold plKV
                  rw [valV_app_none hv, hr]
                  show (valV ((r.name :: r.al).map fun y => ((Sum.inr y : Key), V.int (i : Nat))) (.inr w)).isSome = true
                  rw [valV_words hw]
                  rfl
          obtain ⟨i, r, hr, hw⟩ := mem_row hw
          exact this rows.length (Nat.le_refl _) i r hr hw (List.getElem?_eq_some_iff.mp hr).1
        rw [some_]
        exact k
      · rw [decide_eq_false hw] at k
        rw [pl_none hw]
        exact k
    · exact rd_ret (rd_cb (rd_cons (rd_var rfl (rd_cons (rd_c (rd_nil ⟨_, _, _, _, false, rfl, .ty "str", ty, ko, false, rfl, ite_no rfl k⟩))))))
theorem scEdGet : FnScope ["self", "name"] ["self", "name"] (defScope sEdGet) := ⟨rfl, rfl, rfl, by decide +kernel, rfl, by decide +kernel, by decide +kernel⟩
theorem ok_edget {f CE CM fI : Addr} {fd fdI : FuncData} (F : Fun K "__getitem__" "Edition.__getitem__" sEdGet f fd) (T : EdTxt K CE) (ti : mg "isinstance" = none) (ts : mg "str" = none) (M : Mk K CM fI) (gM : mg "Member" = some (.ref CM))
    (GI : FnOk P w K mg base CX0 1 fI fdI ["self", "edition", "place"] (spMemInit CE CM)) (bI : Binds K fdI ["self", "edition", "place"] []) : FnOk P w K mg base CX0 3 f fd ["self", "name"] (spEdGet CE CM) := by
  refine F.ok scEdGet (fun vs H Q E h => ?_) (fun cdv A outer s H vs Q E hr h => ?_)
  · obtain ⟨x, w, rows, gs, i, r, rfl, _⟩ := h
    rfl
  · obtain ⟨x, w, rows, gs, i, r, rfl, he, nd, hi, hw, k⟩ := h
    have hu := hu_of hr
    refine ⟨_, pss_cons (ps_if (PW.pt (pw_or (pt_not (pt_val (pe_callB call_isi (by rfl) ti boot_isi' (pa_cons (pv 1) (pa_cons (pe_bltn (v := .ty "str") (by rfl) ts boot_str' rfl) pa_nil))))) (pw_or1 (pt_cmp (pc_dnotin hu (pv 1) (pe_fld (pv 0) rfl)))))) pss_dead pss_nil)
      (pss_one (ps_ret (pe_make M GI hr (by rfl) gM bI .nil pass0 (pa_cons (pv 0) (pa_cons (pe_dget hu (pe_fld (pv 0) rfl) (pv 1) (fun _ _ => rfl)) pa_nil))))), ?_⟩
    obtain ⟨de, rl, g, pl, nu, h1, h2, h3, h4, h5⟩ := id he.ob
    have il : i < rows.length := (List.getElem?_eq_some_iff.mp hi).1
    have hv : valV (plKV rows rows.length) (.inr w : Key) = some (.int (i : Nat)) := (pl_val nd hi hw rows.length (Nat.le_refl _)).1 il
    have g1 : DGet H pl (.str w) (some (.int (i : Nat))) := by
      have := DGet.k (k := .inr w) h4
      rw [hv] at this
      exact this
    with_reducible refine rd_seq ?_
    refine rd_if (rd_or (rd_not (rd_b (rd_cb (rd_cons (rd_var rfl (rd_cons (rd_c (rd_nil ⟨_, _, _, _, true, rfl, .ty "str", .base (.str w), kit_ty (by decide +kernel), true, rfl, ite_no rfl ?_⟩)))))))))
    refine ⟨_, rfl, _, rfl, x, CE, de, _, _, rfl, h1, T.cl, T.nP, edFs_places, pl, _, rfl, g1, _, rfl, ite_no rfl (rd_next ?_)⟩
    with_reducible refine rd_ret ?_
    unfold tMake
    refine rd_cons (rd_var rfl (rd_cons ?_))
    refine ⟨_, rfl, x, CE, de, _, _, rfl, h1, T.cl, T.nP, edFs_places, _, rfl, pl, _, rfl, g1, rd_nil fun y dy hy hdy ne => ?_⟩
    have s3 : Same H (upd (upd H dy (.own y)) y (.ins CM dy [])) := ((Same.refl H).new hdy).new (by rw [upd_ne ne.symm]; exact hy)
    have cy : upd (upd H dy (.own y)) y (.ins CM dy []) y = some (.ins CM dy []) := upd_same
    show spMemInit CE CM _ (upd (upd H dy (.own y)) y (.ins CM dy [])) _ _
    generalize upd (upd H dy (.own y)) y (.ins CM dy []) = H3 at s3 cy
    exact ⟨y, dy, x, i, rows, gs, r, rfl, cy, he.later s3, hi, fun H' bt ma => ⟨rfl, k H' y (fun b u z => bt b u (ne_of_none z hy) (s3 b u z)) hy ma⟩⟩
end
end Gk
/-! ### what a Group does -/
namespace Gk
open PySem PySem.W PySem.Spec PyProof.Rows L2 NdefX
abbrev sGrNames : Stmt := (inClass (top 19) 1)
abbrev sGrLen : Stmt := (inClass (top 19) 2)
abbrev sGrBool : Stmt := (inClass (top 19) 3)
abbrev sGrHas : Stmt := (inClass (top 19) 4)
abbrev sGrOr : Stmt := (inClass (top 19) 6)
abbrev sGrAnd : Stmt := (inClass (top 19) 7)
abbrev sGrSub : Stmt := (inClass (top 19) 8)
/-- places of an edition of so many members -/
def PlOk (ns : List Int) (n : Nat) : Prop := (∀ z ∈ ns, 0 ≤ z ∧ z < n) ∧ ns.length ≤ n
def namesAt (rows : List Row) (ns : List Int) : List Str := ns.map fun z => ((rows[z.toNat]?).map (·.name)).getD ""
theorem GrAt.later {K : Frag} {C : Addr} {H H' : Hp} {x e : Addr} {ns : List Int} (h : GrAt K C H x e ns) (s : Same H H') : GrAt K C H' x e ns := by
  obtain ⟨dx, t, h1, h2⟩ := h
  exact ⟨dx, t, s _ _ h1, s.sqT h2⟩
theorem MemAt.later {C : Addr} {H H' : Hp} {q e : Addr} {x : Row} {pl : Nat} (h : MemAt C H q e x pl) (s : Same H H') : MemAt C H' q e x pl := by
  obtain ⟨dx, al, h1, h2⟩ := h
  exact ⟨dx, al, s _ _ h1, s _ _ h2⟩
def spGrNames (K : Frag) (CE CG : Addr) : Sp := fun vs H Q _ => ∃ (x e : Addr) (ns : List Int) (rows : List Row) (gs : List (Str × List Int)), vs = [.ref x] ∧ GrAt K CG H x e ns ∧ EdAt CE H e rows gs ∧ PlOk ns rows.length ∧ rows.length ≤ 16 ∧
  ∀ H' q, Same H H' → H q = none → H' q = some (.lst ((namesAt rows ns).map V.str)) → Q (.ref q) H'
def spGrLen (K : Frag) (CG : Addr) : Sp := fun vs H Q _ => ∃ (x e : Addr) (ns : List Int), vs = [.ref x] ∧ GrAt K CG H x e ns ∧ Q (.int ns.length) H
def spGrBool (K : Frag) (CG : Addr) : Sp := fun vs H Q _ => ∃ (x e : Addr) (ns : List Int), vs = [.ref x] ∧ GrAt K CG H x e ns ∧ Q (.bl (!ns.isEmpty)) H
def spGrHas (K : Frag) (CE CG CM : Addr) : Sp := fun vs H Q _ => ∃ (x e : Addr) (y : V) (ns : List Int) (rows : List Row) (gs : List (Str × List Int)), vs = [.ref x, y] ∧ GrAt K CG H x e ns ∧ EdAt CE H e rows gs ∧ EdLay rows ∧
  ((∃ (q e' : Addr) (r : Row) (pl : Nat) (rows' : List Row) (gs' : List (Str × List Int)), y = .ref q ∧ MemAt CM H q e' r pl ∧ EdAt CE H e' rows' gs' ∧ EdLay rows' ∧ Q (.bl (decide ((pl : Int) ∈ ns) && eqEd rows' gs' rows gs)) H) ∨ ∃ t, TyX K H y t ∧ kitOne K t (.ref CM) = some false ∧ Q (.bl false) H)
/-- a new set of members, by the places of two -/
def spGrOp (K : Frag) (CE CG : Addr) (op : Nat → List Int → List Int → List Int) : Sp := fun vs H Q _ => ∃ (x y e e' : Addr) (ns ms : List Int) (rows : List Row) (gs : List (Str × List Int)), vs = [.ref x, .ref y] ∧ GrAt K CG H x e ns ∧ GrAt K CG H y e' ms ∧ EdAt CE H e rows gs ∧ rows.length ≤ 16 ∧ ns.length ≤ 100 ∧ ms.length ≤ 100 ∧
  ∀ H' q, Same H H' → H q = none → GrAt K CG H' q e (op rows.length ns ms) → Q (.ref q) H'
def rangeI (n : Nat) : List Int := (List.range n).map fun (i : Nat) => (i : Int)
def orP (n : Nat) (a b : List Int) : List Int := (rangeI n).filter fun z => decide (z ∈ a ++ b)
def andP (_ : Nat) (a b : List Int) : List Int := a.filter fun z => decide (z ∈ b)
def subP (_ : Nat) (a b : List Int) : List Int := a.filter fun z => !decide (z ∈ b)
theorem inV_ints (z : Int) (ws : List Int) : inV (.int z) (ws.map V.int) = decide (z ∈ ws) := by
  rw [Bool.eq_iff_iff, decide_eq_true_eq]
  unfold inV
  rw [List.any_map, List.any_eq_true]
  constructor
  · rintro ⟨y, hy, e⟩
    have : y = z := by simpa [eqV] using e
    exact this ▸ hy
  · exact fun h => ⟨z, h, by simp [eqV]⟩
theorem flat_ints (ws : List Int) : (ws.map V.int).all flatV = true := by
  rw [List.all_map, List.all_eq_true]
  exact fun _ _ => rfl
theorem filter_take {α : Type} {f : α → Bool} {xs : List α} {i : Nat} {x : α} (h : xs[i]? = some x) : (xs.take (i + 1)).filter f = (xs.take i).filter f ++ (if f x = true then [x] else []) := by
  rw [List.take_add_one, h, List.filter_append]
  congr 1
  by_cases c : f x = true
  · rw [if_pos c]; simp [c]
  · rw [if_neg c]; simp [c]
theorem memFs_place {e al : Addr} {x : Row} {pl : Int} : (memFs e al x pl).lookup ("place" : Str) = some (V.int pl) := by
  have h1 : ¬ (("place" : Str) = "_edition") := by decide +kernel
  unfold memFs
  rw [lookup_putF, if_neg h1, lookup_putF, if_pos rfl]
theorem memFs_edition {e al : Addr} {x : Row} {pl : Int} : (memFs e al x pl).lookup ("_edition" : Str) = some (V.ref e) := by
  unfold memFs
  rw [lookup_putF, if_pos rfl]
section
variable {P : Program} {w : World} {K : Frag} {mg : Str → Option Value} {base : Heap} {CE CG CM : Addr}
theorem scGrNames : FnScope ["self", "place"] ["self"] (defScope sGrNames) := ⟨rfl, rfl, rfl, by decide +kernel, rfl, by decide +kernel, by decide +kernel⟩
theorem ok_grnames {f : Addr} {fd : FuncData} (F : Fun K "names" "Group.names" sGrNames f fd) (TE : EdTxt K CE) (T : GrTxt K CG) : FnOk P w K mg base CX0 1 f fd ["self"] (spGrNames K CE CG) := by
  refine F.ok scGrNames (fun vs H Q E h => ?_) (fun cdv A outer s H vs Q E hr h => ?_)
  · obtain ⟨x, e, ns, rows, gs, rfl, _⟩ := h
    rfl
  · obtain ⟨x, e, ns, rows, gs, rfl, hx, he, ok, l16, k⟩ := h
    have nd := scGrNames.nd
    refine ⟨_, pss_one (ps_ret (by exact (pe_lc (own := [("place", 1)]) (te := tOp (rIxT K) (tOp (rIxL K) (tFld K (tFld K (tVar 0) "_edition") "_rows") (tVar 1)) (tC (.int 0))) (g := gName 1) (tt := tYes) rfl nd (pi_tup (pe_fld (pv 0) rfl)) (blkOk_by (N := ["self", "place"]) (sc := defScope sGrNames) (by decide +kernel)) (fun _ _ _ _ _ => pg_name (i := 1) nd rfl (Or.inl rfl))
      (fun _ _ _ _ _ => pts_nil) (fun _ _ _ _ _ => by exact (pe_ix ix_tup (pe_ix ix_list (pe_fld (pe_fld (pv 0) rfl) rfl) (pv 1) (fun _ _ => rfl)) pe_int (fun _ _ => rfl)))))), ?_⟩
    obtain ⟨dx, t, ex, ht⟩ := hx
    obtain ⟨de, rl, g, pl, nu, h1, ⟨us, hus, pu⟩, _⟩ := he.ob
    have lu := paired_len pu
    refine ⟨_, rfl, x, CG, dx, _, _, rfl, ex, T.cl, T.nP, grFs_places, t, rfl, ⟨_, ht⟩, fun LD hLD => ?_⟩
    refine lc_it (walk_tup (xs := ns.map V.int)) (fun i H' => Same H H' ∧ H' LD = some (.lst ((namesAt rows (ns.take i)).map V.str))) ⟨(Same.refl H).new hLD, upd_same⟩ (fun i H' _ z => z.1.sqT ht) ?_ ?_
    · rintro i v H1 H2 hi ⟨s1, c1⟩ ⟨rfl, hv⟩
      obtain ⟨z, hz, rfl⟩ : ∃ z, ns[i]? = some z ∧ v = V.int z := by
        rw [List.getElem?_map] at hv
        cases e : ns[i]? with
        | none => rw [e] at hv; cases hv
        | some n => rw [e] at hv; exact ⟨n, rfl, (Option.some.inj hv).symm⟩
      obtain ⟨z0, z1⟩ := ok.1 z (List.mem_of_getElem? hz)
      obtain ⟨j, rfl⟩ := Int.eq_ofNat_of_zero_le z0
      have jl : j < us.length := by omega
      obtain ⟨u, hu⟩ : ∃ u, us[j]? = some u := ⟨_, List.getElem?_eq_getElem jl⟩
      obtain ⟨y, hy, t2, al, rfl, ht2, hal⟩ := paired_left pu hu
      refine rd_gn ⟨rfl, rd_yes ?_⟩
      refine ⟨_, rfl, x, CG, dx, _, _, rfl, s1 _ _ ex, T.cl, T.nE, grFs_edition, e, CE, de, _, _, rfl, s1 _ _ h1, TE.cl, TE.nR, edFs_rows, _, rfl, rl, us, _, _, rfl, rfl, SqL.of (s1 _ _ hus), at_of rfl hu, t2, _, _, _, rfl, rfl, SqT.of (s1 _ _ ht2), rfl, ?_⟩
      have ln : (namesAt rows (ns.take i)).length ≤ 16 := by
        unfold namesAt
        rw [List.length_map, List.length_take]
        have := ok.2
        omega
      refine ⟨_, c1, by rw [List.length_map]; exact Nat.lt_of_le_of_lt ln (by decide), s1.mut hLD, ?_⟩
      rw [upd_same]
      unfold namesAt
      rw [List.take_add_one, hz, List.map_append, List.map_append]
      show some (HO.lst (_ ++ [V.str y.name])) = some (HO.lst (_ ++ [V.str (((rows[((j : Nat) : Int).toNat]?).map (·.name)).getD "")]))
      rw [Int.toNat_natCast, hy]
      rfl
    · rintro H1 ⟨s1, c1⟩
      rw [List.length_map, List.take_length] at c1
      exact k H1 LD s1 hLD c1
theorem scGrLen : FnScope ["self"] ["self"] (defScope sGrLen) := ⟨rfl, rfl, rfl, by decide +kernel, rfl, by decide +kernel, by decide +kernel⟩
theorem ok_grlen {f : Addr} {fd : FuncData} (F : Fun K "__len__" "Group.__len__" sGrLen f fd) (T : GrTxt K CG) (tN : mg "len" = none) : FnOk P w K mg base CX0 1 f fd ["self"] (spGrLen K CG) := by
  refine F.ok scGrLen (fun vs H Q E h => ?_) (fun cdv A outer s H vs Q E hr h => ?_)
  · obtain ⟨x, e, ns, rfl, _⟩ := h
    rfl
  · obtain ⟨x, e, ns, rfl, ⟨dx, t, ex, ht⟩, k⟩ := h
    refine ⟨_, pss_one (ps_ret (pe_callB call_len_seq (by rfl) tN PySem.boot_len (pa_cons (pe_fld (pv 0) rfl) pa_nil))), ?_⟩
    rw [← List.length_map (f := V.int)] at k
    exact ⟨_, rfl, x, CG, dx, _, _, rfl, ex, T.cl, T.nP, grFs_places, t, _, rfl, .inr ht, k⟩
theorem scGrBool : FnScope ["self"] ["self"] (defScope sGrBool) := ⟨rfl, rfl, rfl, by decide +kernel, rfl, by decide +kernel, by decide +kernel⟩
theorem boot_boolT : bootBuiltins "bool" = some (.type "bool") := by decide +kernel
theorem ok_grbool {f : Addr} {fd : FuncData} (F : Fun K "__bool__" "Group.__bool__" sGrBool f fd) (T : GrTxt K CG) (tB : mg "bool" = none) : FnOk P w K mg base CX0 1 f fd ["self"] (spGrBool K CG) := by
  refine F.ok scGrBool (fun vs H Q E h => ?_) (fun cdv A outer s H vs Q E hr h => ?_)
  · obtain ⟨x, e, ns, rfl, _⟩ := h
    rfl
  · obtain ⟨x, e, ns, rfl, ⟨dx, t, ex, ht⟩, k⟩ := h
    refine ⟨_, pss_one (ps_ret (pe_callTy call_boolT (by rfl) tB boot_boolT (pa_cons (pe_fld (pv 0) rfl) pa_nil))), ?_⟩
    have e1 : (ns.map V.int).isEmpty = ns.isEmpty := by cases ns <;> rfl
    rw [← e1] at k
    exact ⟨_, rfl, x, CG, dx, _, _, rfl, ex, T.cl, T.nP, grFs_places, t, _, rfl, ht, k⟩
theorem scGrHas : FnScope ["self", "value"] ["self", "value"] (defScope sGrHas) := ⟨rfl, rfl, rfl, by decide +kernel, rfl, by decide +kernel, by decide +kernel⟩
theorem ok_grhas {f fE : Addr} {fd fdE : FuncData} (F : Fun K "__contains__" "Group.__contains__" sGrHas f fd) (T : GrTxt K CG) (TM : MemTxt K CM) (ZM : ClsQ K CM) (ZE : ClsQ K CE) (ti : mg "isinstance" = none) (gM : mg "Member" = some (.ref CM))
    (GE : FnOk P w K mg base CX0 1 fE fdE ["self", "other"] (spEdEq K CE)) (bE : Binds K fdE ["self", "other"] []) (hs : findIn K (.ref CE) "__eq__" = some (some (.ref fE))) (hf : isFn K (.ref fE) = true) : FnOk P w K mg base CX0 2 f fd ["self", "value"] (spGrHas K CE CG CM) := by
  refine F.ok scGrHas (fun vs H Q E h => ?_) (fun cdv A outer s H vs Q E hr h => ?_)
  · obtain ⟨x, e, y, ns, rows, gs, rfl, _⟩ := h
    rfl
  · obtain ⟨x, e, y, ns, rows, gs, rfl, ⟨dx, t, ex, ht⟩, he, lay, k⟩ := h
    refine ⟨_, pss_cons (ps_if (pt_not (pt_val (pe_callB call_isi (by rfl) ti boot_isi' (pa_cons (pv 1) (pa_cons (pe_glob (v := .ref CM) (by rfl) gM rfl) pa_nil))))) (pss_one (ps_ret pe_bl)) pss_nil)
      (pss_one (ps_ret (pe_and (pe_cmpR op_in_seq (pe_fld (pv 1) rfl) (pe_fld (pv 0) rfl) (by rfl)) (pe_one (pe_cmpR (op_eqI (E := E0) GE hr hs hf bE pass0) (pe_fld (pv 1) rfl) (pe_fld (pv 0) rfl) (nomark _)))))), ?_⟩
    refine rd_seq (rd_if (rd_not (rd_b (rd_cb (rd_cons (rd_var rfl (rd_cons (rd_c (rd_nil ?_)))))))))
    rcases k with ⟨q, e', r, pl, rows', gs', rfl, ⟨dq, al, hq, hal⟩, he', lay', k⟩ | ⟨tt, ty, ko, k⟩
    · refine ⟨_, _, _, _, true, rfl, .own CM, ZM.ty hq, ZM.own, true, rfl, ?_⟩
      refine ite_no rfl (rd_next ?_)
      with_reducible refine rd_ret ?_
      refine ⟨_, rfl, q, CM, dq, _, _, rfl, hq, TM.cl, TM.nP, memFs_place, _, rfl, x, CG, dx, _, _, rfl, ex, T.cl, T.nP, grFs_places, t, _, rfl, .inr ht, rfl, flat_ints ns, _, rfl, ?_⟩
      simp only [Bool.false_eq_true, if_false]
      rw [inV_ints]
      cases h1 : decide ((pl : Int) ∈ ns) with
      | false =>
        rw [h1, Bool.false_and] at k
        exact k
      | true =>
        rw [h1, Bool.true_and] at k
        refine ite_yes rfl ⟨_, rfl, q, CM, dq, _, _, rfl, hq, TM.cl, TM.nE, memFs_edition, _, rfl, x, CG, dx, _, _, rfl, ex, T.cl, T.nE, grFs_edition, ?_⟩
        obtain ⟨d1, r1, g1, p1, n1, o1, z1⟩ := id he'.ob
        obtain ⟨d2, r2, g2, p2, n2, o2, z2⟩ := id he.ob
        exact ⟨e', _, _, _, rfl, o1, ZE.ty o2, ClsQ.self, e', .ref e, rows', gs', rfl, he', lay', .inl ⟨e, rows, gs, rfl, he, lay, _, rfl, k⟩⟩
    · exact ⟨_, _, _, _, false, rfl, .own CM, ty, ko, false, rfl, ite_yes rfl (rd_ret (rd_c k))⟩
/-- a Group is made of an edition and a list of places -/
theorem make_gr {H1 : Hp} {e l : Addr} {ns : List Int} {Q : VK} {E : XK} (hl : SqL K H1 l (ns.map V.int) ∨ SqT K H1 l (ns.map V.int)) (k : ∀ H' q, Same H1 H' → H1 q = none → GrAt K CG H' q e ns → Q (.ref q) H') :
    ∀ y dy, H1 y = none → H1 dy = none → dy ≠ y → spGrInit K CG [.ref y, .ref e, .ref l] (upd (upd H1 dy (.own y)) y (.ins CG dy [])) (fun u H2 => u = .non ∧ Q (.ref y) H2) E := by
  intro y dy hy hdy ne
  have s3 : Same H1 (upd (upd H1 dy (.own y)) y (.ins CG dy [])) := ((Same.refl H1).new hdy).new (by rw [upd_ne ne.symm]; exact hy)
  have cy : upd (upd H1 dy (.own y)) y (.ins CG dy []) y = some (.ins CG dy []) := upd_same
  generalize upd (upd H1 dy (.own y)) y (.ins CG dy []) = H3 at s3 cy
  exact ⟨y, dy, e, l, ns, rfl, cy, hl.imp s3.seq s3.sqT, fun H' bt ga => ⟨rfl, k H' y (fun b u z => bt b u (ne_of_none z hy) (s3 b u z)) hy ga⟩⟩
end
end Gk
/-! ### sets made of two -/
namespace Gk
open PySem PySem.W PySem.Spec PyProof.Rows L2 NdefX
section
variable {P : Program} {w : World} {K : Frag} {mg : Str → Option Value} {base : Heap} {CE CG : Addr}
theorem scGrAnd : FnScope ["self", "other", "place"] ["self", "other"] (defScope sGrAnd) := ⟨rfl, rfl, rfl, by decide +kernel, rfl, by decide +kernel, by decide +kernel⟩
theorem scGrSub : FnScope ["self", "other", "place"] ["self", "other"] (defScope sGrSub) := ⟨rfl, rfl, rfl, by decide +kernel, rfl, by decide +kernel, by decide +kernel⟩
/-- the places of one that do, or do not, stand in the other -/
theorem lc_filter {H : Hp} {x y e e' : Addr} {ns ms : List Int} {Q : VK} (neg : Bool) (T : GrTxt K CG) (hx : GrAt K CG H x e ns) (hy : GrAt K CG H y e' ms) (ln : ns.length ≤ 100)
    (k : ∀ H' l, Same H H' → H l = none → H' l = some (.lst ((ns.filter fun z => if neg = true then !decide (z ∈ ms) else decide (z ∈ ms)).map V.int)) → Q (.ref l) H') :
    tLc (iTup K (tFld K (tVar 0) "_places")) (gName 2) (tTest (tOp (rIn K neg) (tVar 2) (tFld K (tVar 1) "_places"))) (tVar 2) [2] [some (.ref x), some (.ref y), none] H Q := by
  obtain ⟨dx, t, ex, ht⟩ := hx
  obtain ⟨dy, t', ey, ht'⟩ := hy
  refine ⟨_, rfl, x, CG, dx, _, _, rfl, ex, T.cl, T.nP, grFs_places, t, rfl, ⟨_, ht⟩, fun LD hLD => ?_⟩
  refine lc_it (walk_tup (xs := ns.map V.int)) (fun i H' => Same H H' ∧ H' LD = some (.lst (((ns.take i).filter fun z => if neg = true then !decide (z ∈ ms) else decide (z ∈ ms)).map V.int))) ⟨(Same.refl H).new hLD, upd_same⟩ (fun i H' _ z => z.1.sqT ht) ?_ ?_
  · rintro i v H1 H2 hi ⟨s1, c1⟩ ⟨rfl, hv⟩
    obtain ⟨z, hz, rfl⟩ : ∃ z, ns[i]? = some z ∧ v = V.int z := by
      rw [List.getElem?_map] at hv
      cases e : ns[i]? with
      | none => rw [e] at hv; cases hv
      | some n => rw [e] at hv; exact ⟨n, rfl, (Option.some.inj hv).symm⟩
    have et := filter_take (f := fun z => if neg = true then !decide (z ∈ ms) else decide (z ∈ ms)) hz
    refine rd_gn ⟨rfl, ?_⟩
    refine ⟨_, rfl, _, rfl, y, CG, dy, _, _, rfl, s1 _ _ ey, T.cl, T.nP, grFs_places, t', _, rfl, .inr (s1.sqT ht'), rfl, flat_ints ms, _, rfl, ?_⟩
    rw [inV_ints]
    refine ite2 (fun c => ?_) (fun c => ?_)
    · rw [if_pos c] at et
      have lf : ((ns.take i).filter fun z => if neg = true then !decide (z ∈ ms) else decide (z ∈ ms)).length ≤ 100 := Nat.le_trans (List.length_filter_le _ _) (by rw [List.length_take]; omega)
      refine ⟨_, rfl, _, c1, by rw [List.length_map]; exact Nat.lt_of_le_of_lt lf (by decide), s1.mut hLD, ?_⟩
      rw [upd_same, et, List.map_append]
      rfl
    · rw [if_neg c, List.append_nil] at et
      exact ⟨s1, by rw [et]; exact c1⟩
  · rintro H1 ⟨s1, c1⟩
    rw [List.length_map, List.take_length] at c1
    exact k H1 LD s1 hLD c1
theorem ok_grand {f fI : Addr} {fd fdI : FuncData} (F : Fun K "__and__" "Group.__and__" sGrAnd f fd) (T : GrTxt K CG) (M : Mk K CG fI) (gG : mg "Group" = some (.ref CG))
    (GI : FnOk P w K mg base CX0 1 fI fdI ["self", "edition", "places"] (spGrInit K CG)) (bI : Binds K fdI ["self", "edition", "places"] []) : FnOk P w K mg base CX0 3 f fd ["self", "other"] (spGrOp K CE CG andP) := by
  refine F.ok scGrAnd (fun vs H Q E h => ?_) (fun cdv A outer s H vs Q E hr h => ?_)
  · obtain ⟨x, y, e, e', ns, ms, rows, gs, rfl, _⟩ := h
    rfl
  · obtain ⟨x, y, e, e', ns, ms, rows, gs, rfl, hx, hy, he, l16, ln, lm, k⟩ := h
    have nd := scGrAnd.nd
    refine ⟨_, pss_one (ps_ret (by exact (pe_make M GI hr (by rfl) gG bI .nil pass0 (pa_cons (pe_fld (pv 0) rfl) (pa_cons (pe_lc (own := [("place", 2)]) (te := tVar 2) (g := gName 2) (tt := tTest (tOp (rIn K false) (tVar 2) (tFld K (tVar 1) "_places"))) rfl nd (pi_tup (pe_fld (pv 0) rfl)) (blkOk_by (N := ["self", "other", "place"]) (sc := defScope sGrAnd) (by decide +kernel)) (fun _ _ _ _ _ => pg_name (i := 2) nd rfl (Or.inl rfl))
      (fun _ _ _ _ _ => by exact (pts_one (pt_cmpR op_in_seq (pv 2) (pe_fld (pv 1) rfl) (by rfl)))) (fun _ _ _ _ _ => by exact (pv 2))) pa_nil))))), ?_⟩
    refine rd_ret ?_
    unfold tMake
    obtain ⟨dx, t, ex, ht⟩ := id hx
    refine ⟨_, rfl, x, CG, dx, _, _, rfl, ex, T.cl, T.nE, grFs_edition, ?_⟩
    refine rd_cons (lc_filter false T hx hy ln fun H1 l s1 hl cl => rd_nil ?_)
    exact make_gr (Q := Q) (E := E0) (.inl (SqL.of cl)) fun H' q s2 hq ga => k H' q (s1.trans s2) (s1.free hq) ga
theorem ok_grsub {f fI : Addr} {fd fdI : FuncData} (F : Fun K "__sub__" "Group.__sub__" sGrSub f fd) (T : GrTxt K CG) (M : Mk K CG fI) (gG : mg "Group" = some (.ref CG))
    (GI : FnOk P w K mg base CX0 1 fI fdI ["self", "edition", "places"] (spGrInit K CG)) (bI : Binds K fdI ["self", "edition", "places"] []) : FnOk P w K mg base CX0 3 f fd ["self", "other"] (spGrOp K CE CG subP) := by
  refine F.ok scGrSub (fun vs H Q E h => ?_) (fun cdv A outer s H vs Q E hr h => ?_)
  · obtain ⟨x, y, e, e', ns, ms, rows, gs, rfl, _⟩ := h
    rfl
  · obtain ⟨x, y, e, e', ns, ms, rows, gs, rfl, hx, hy, he, l16, ln, lm, k⟩ := h
    have nd := scGrSub.nd
    refine ⟨_, pss_one (ps_ret (by exact (pe_make M GI hr (by rfl) gG bI .nil pass0 (pa_cons (pe_fld (pv 0) rfl) (pa_cons (pe_lc (own := [("place", 2)]) (te := tVar 2) (g := gName 2) (tt := tTest (tOp (rIn K true) (tVar 2) (tFld K (tVar 1) "_places"))) rfl nd (pi_tup (pe_fld (pv 0) rfl)) (blkOk_by (N := ["self", "other", "place"]) (sc := defScope sGrSub) (by decide +kernel)) (fun _ _ _ _ _ => pg_name (i := 2) nd rfl (Or.inl rfl))
      (fun _ _ _ _ _ => by exact (pts_one (pt_cmpR op_notIn_seq (pv 2) (pe_fld (pv 1) rfl) (by rfl)))) (fun _ _ _ _ _ => by exact (pv 2))) pa_nil))))), ?_⟩
    refine rd_ret ?_
    unfold tMake
    obtain ⟨dx, t, ex, ht⟩ := id hx
    refine ⟨_, rfl, x, CG, dx, _, _, rfl, ex, T.cl, T.nE, grFs_edition, ?_⟩
    refine rd_cons (lc_filter true T hx hy ln fun H1 l s1 hl cl => rd_nil ?_)
    exact make_gr (Q := Q) (E := E0) (.inl (SqL.of cl)) fun H' q s2 hq ga => k H' q (s1.trans s2) (s1.free hq) ga
abbrev nGrOr : List Str := ["self", "other", "places", "place"]
theorem scGrOr : FnScope nGrOr ["self", "other"] (defScope sGrOr) := ⟨rfl, rfl, rfl, by decide +kernel, rfl, by decide +kernel, by decide +kernel⟩
theorem ok_gror {f fI fL : Addr} {fd fdI fdL : FuncData} (F : Fun K "__or__" "Group.__or__" sGrOr f fd) (T : GrTxt K CG) (M : Mk K CG fI) (gG : mg "Group" = some (.ref CG)) (tR : mg "range" = none) (tN : mg "len" = none)
    (GI : FnOk P w K mg base CX0 1 fI fdI ["self", "edition", "places"] (spGrInit K CG)) (bI : Binds K fdI ["self", "edition", "places"] [])
    (GL : FnOk P w K mg base CX0 1 fL fdL ["self"] (spEdLen CE)) (bL : Binds K fdL ["self"] []) (hL : findIn K (.ref CE) "__len__" = some (some (.ref fL))) (iL : isFn K (.ref fL) = true) : FnOk P w K mg base CX0 3 f fd ["self", "other"] (spGrOp K CE CG orP) := by
  refine F.ok scGrOr (fun vs H Q E h => ?_) (fun cdv A outer s H vs Q E hr h => ?_)
  · obtain ⟨x, y, e, e', ns, ms, rows, gs, rfl, _⟩ := h
    rfl
  · obtain ⟨x, y, e, e', ns, ms, rows, gs, rfl, hx, hy, he, l16, ln, lm, k⟩ := h
    have nd := scGrOr.nd
    refine ⟨_, pss_cons (ps_set (i := 2) nd rfl (Or.inr rfl) (pe_lst (StX.pa_star (pe_fld (pv 0) rfl) (StX.pa_star (pe_fld (pv 1) rfl) pa_nil))))
      (pss_one (ps_ret (by exact (pe_make M GI hr (by rfl) gG bI .nil pass0 (pa_cons (pe_fld (pv 0) rfl) (pa_cons (pe_lc (own := [("place", 3)]) (te := tVar 3) (g := gName 3) (tt := tTest (tOp (rIn K false) (tVar 3) (tVar 2))) rfl nd (pi_range1 (by rfl) tR (pa_cons (pe_callB (call_lenI (E := E0) GL hr hL iL bL pass0) (by rfl) tN PySem.boot_len (pa_cons (pe_fld (pv 0) rfl) pa_nil)) pa_nil)) (blkOk_by (N := nGrOr) (sc := defScope sGrOr) (by decide +kernel)) (fun _ _ _ _ _ => pg_name (i := 3) nd rfl (Or.inl rfl))
        (fun _ _ _ _ _ => by exact (pts_one (pt_cmpR op_in_seq (pv 3) (pv 2) (by rfl)))) (fun _ _ _ _ _ => by exact (pv 3))) pa_nil)))))), ?_⟩
    obtain ⟨dx, t, ex, ht⟩ := id hx
    obtain ⟨dy, t', ey, ht'⟩ := id hy
    with_reducible refine rd_seq ?_
    refine rd_asg ⟨_, rfl, x, CG, dx, _, _, rfl, ex, T.cl, T.nP, grFs_places, t, _, rfl, .inl ht, _, rfl, y, CG, dy, _, _, rfl, ey, T.cl, T.nP, grFs_places, t', _, rfl, .inl ht', rd_nil ⟨?_, fun l hl => rd_gn ?_⟩⟩
    · rw [List.append_nil, List.length_append, List.length_map, List.length_map]
      exact Nat.le_trans (show ns.length + ms.length ≤ 200 by omega) (by decide)
    rw [List.append_nil, ← List.map_append]
    have s1 : Same H (upd H l (.lst ((ns ++ ms).map V.int))) := (Same.refl H).new hl
    have c1 : upd H l (.lst ((ns ++ ms).map V.int)) l = some (.lst ((ns ++ ms).map V.int)) := upd_same
    generalize upd H l (.lst ((ns ++ ms).map V.int)) = H1 at s1 c1
    with_reducible refine rd_ret ?_
    unfold tMake
    have he1 := he.later s1
    obtain ⟨de, rl, g, pl, nu, h1, _⟩ := id he1.ob
    refine ⟨_, rfl, x, CG, dx, _, _, rfl, s1 _ _ ex, T.cl, T.nE, grFs_edition, ?_⟩
    refine ⟨_, rfl, x, CG, dx, _, _, rfl, s1 _ _ ex, T.cl, T.nE, grFs_edition, e, de, _, rfl, h1, e, rows, gs, rfl, he1, rows.length, rfl, by omega, _, rfl, by omega, by omega, fun LD hLD => ?_⟩
    refine lc_it (walk_range (lo := 0) (n := (rows.length : Int).toNat)) (fun i H' => Same H1 H' ∧ H' LD = some (.lst ((((rangeI rows.length).take i).filter fun z => decide (z ∈ ns ++ ms)).map V.int))) ⟨(Same.refl H1).new hLD, upd_same⟩ (fun _ _ _ _ => True.intro) ?_ ?_
    · rintro i v H2 H3 hi ⟨s2, c2⟩ ⟨rfl, hv⟩
      obtain rfl : v = V.int (0 + (i : Nat)) := by first | exact hv | exact hv.symm | exact (Option.some.inj hv).symm
      rw [Int.toNat_natCast] at hi
      have hz : (rangeI rows.length)[i]? = some ((i : Nat) : Int) := by
        unfold rangeI
        rw [List.getElem?_map, List.getElem?_range hi]
        rfl
      have et := filter_take (f := fun z => decide (z ∈ ns ++ ms)) hz
      rw [Int.zero_add]
      refine rd_gn ⟨rfl, ?_⟩
      refine ⟨_, rfl, _, rfl, l, _, rfl, .inl (SqL.of (s2 _ _ c1)), rfl, flat_ints (ns ++ ms), _, rfl, ?_⟩
      simp only [Bool.false_eq_true, if_false]
      rw [inV_ints]
      refine ite2 (fun c => ?_) (fun c => ?_)
      · rw [if_pos c] at et
        have lf : (((rangeI rows.length).take i).filter fun z => decide (z ∈ ns ++ ms)).length ≤ 100 := Nat.le_trans (List.length_filter_le _ _) (by rw [List.length_take]; omega)
        refine ⟨_, rfl, _, c2, by rw [List.length_map]; exact Nat.lt_of_le_of_lt lf (by decide), s2.mut hLD, ?_⟩
        rw [upd_same, et, List.map_append]
        rfl
      · rw [if_neg c, List.append_nil] at et
        exact ⟨s2, by rw [et]; exact c2⟩
    · rintro H2 ⟨s2, c2⟩
      have lr : (rangeI rows.length).length = rows.length := by unfold rangeI; rw [List.length_map, List.length_range]
      rw [Int.toNat_natCast, List.take_of_length_le (by rw [lr]; exact Nat.le_refl _)] at c2
      refine rd_nil ?_
      exact make_gr (Q := Q) (E := E0) (ns := orP rows.length ns ms) (.inl (SqL.of c2)) fun H' q s3 hq ga => k H' q (s1.trans (s2.trans s3)) (s1.free (s2.free hq)) ga
end
end Gk
/-! ## the error classes of the text: class X(GrowError): def __init__(self, f): super().__init__("..") ; self.f = f -/
namespace Gk
open PySem PySem.W PySem.Spec PySem.Calls PyProof.Rows L2 NdefX
/-- what its __init__ says, as a tree -/
def errBody (txt fld : Str) (j : Nat) (p0 p1 p2 p3 p4 p5 p6 p7 p8 p9 : Pos) : List Stmt :=
  [.Expr (.Call (.Attribute (.Call (.Name "super" p0) [] [] p1) "__init__" p2) [.Constant (.str txt) j p3] [] p4) p5, .Assign [.Attribute (.Name "self" p6) fld p7] (.Name fld p8) p9]
/-- how super().__init__("..") is evaluated: its positions are plain -/
def SupEval (txt : Str) (j : Nat) (p0 p1 p2 p3 p4 : Pos) : Prop := ∀ env : Env, ∃ pl : Sem Bool, eval (.Call (.Attribute (.Call (.Name "super" p0) [] [] p1) "__init__" p2) [.Constant (.str txt) j p3] [] p4) env = (do
  let ov ← attributeBase (.Call (.Name "super" p0) [] [] p1) "__init__" env (eval (.Call (.Name "super" p0) [] [] p1) env)
  standAt p2.atName
  let (f, first) ← holding [ov] (getMethod ov "__init__" pl)
  callWith p4 f first (backTo p4 (starEach [.Constant (.str txt) j p3] env)) [])
/-- __init__ promises: the field stands in a new dict of the exception -/
def spErr (C : Addr) (fld : Str) : Sp := fun vs H Q _ => ∃ (a : Addr) (v : V), vs = [.ref a, v] ∧ H a = some (exo a C none) ∧
  ∀ dx, H dx = none → dx ≠ a → Q .non (upd (upd H dx (exd dx [(fld, v)])) a (exo a C (some dx)))
/-- what the written part says of the class at C and of its __init__ at fI -/
structure ErrTxt (P : Program) (K : Frag) (mg : Str → Option Value) (x : Str) (C fI : Addr) (fd : FuncData) (fld : Str) : Prop where
  ox : OexC K C
  gC : mg x = some (.ref C)
  iC : findIn K (.ref C) "__init__" = some (some (.ref fI))
  tI : typeIn K (.ref fI) = some (.type "function")
  nof : findIn K (.ref C) fld = some none
  hB : subIn K (.ref C) (.type "ValueError") = some true
  hS : mroIn K C (.ref C) = some true
  hm : ks_superIn K C C "__init__" = some (some (.builtin "ValueError.__init__"))
  sup : mg "super" = none
  fn : ∃ (oc kV doc pm ct ccl cl : Value) (od an cdd cld : Option Addr) (osl ccs csl : Array (Option Value)) (q : Str) (pa : Arguments) (sc : Scope) (txt : Str) (j : Nat) (p0 p1 p2 p3 p4 p5 p6 p7 p8 p9 : Pos) (cc cd : Addr) (vs : Array Value) (file : Str) (tf : Tok) (ar : Arg),
    fd = fnX "__init__" q pa (errBody txt fld j p0 p1 p2 p3 p4 p5 p6 p7 p8 p9) sc [("__class__", cc)] .none kV doc pm an (.ref cd) ct ∧
    K.lookup fI = some ⟨oc, od, .func fd, osl⟩ ∧ codeIn K (.ref cd) q = true ∧ K.lookup cd = some ⟨ccl, cdd, .fields vs, ccs⟩ ∧ vs[2]? = some (.str file tf) ∧ ((P.main.file : Str) == file) = true ∧
    K.lookup cc = some ⟨cl, cld, .cell (some (.ref C)), csl⟩ ∧ NScope ["self", fld, "__class__"] ["self", fld] ["__class__"] sc ∧ sc.names.lookup ("super" : Str) = some .globalImplicit ∧ (pa.posonlyargs ++ pa.args).head? = some ar ∧ ar.arg = "self" ∧ SupEval txt j p0 p1 p2 p3 p4
  fd1 : (fld == ("__debug__" : Str)) = false
  fd2 : (fld == ("__classdict__" : Str)) = false
  top : (P.main.scope.names.lookup ("super" : Str)).isSome = false
  opq : nsIn K cStatics "thirdparty.any" = some none
section
variable {P : Program} {w : World} {K : Frag} {mg : Str → Option Value} {base : Heap} {x : Str} {C fI : Addr} {fd : FuncData} {fld : Str}
theorem boot_super : bootBuiltins "super" = some (.type "super") := by decide +kernel
theorem err_init (T : ErrTxt P K mg x C fI fd fld) : FnOk P w K mg base CX0 2 fI fd ["self", fld] (spErr C fld) := by
  obtain ⟨oc, kV, doc, pm, ct, ccl, cl, od, an, cdd, cld, osl, ccs, csl, q, pa, sc, txt, j, p0, p1, p2, p3, p4, p5, p6, p7, p8, p9, cc, cd, cvs, file, tf, ar, rfl, lk, hcd, lcd, hfl, hfile, lcc, S, ks, hpar, har, hev⟩ := T.fn
  refine ⟨fun vs H Q E h => ?_, fun A outer s H args us vs Q E hr e0 hb r hsp => ?_⟩
  · obtain ⟨a, v, rfl, _⟩ := h
    rfl
  obtain ⟨a, v, rfl, ha, k⟩ := hsp
  have KX : K.In s.heap := e0.mod.kin.keeps fun b o e => (e0.bs b o e).1
  have lim : s.heap.NoLimit := e0.mod.nolimit.keeps fun b o e => (e0.bs b o e).1
  let NFv : NF := ⟨"__init__", q, pa, errBody txt fld j p0 p1 p2 p3 p4 p5 p6 p7 p8 p9, sc, [("__class__", cc)], cd⟩
  refine codeAny_call_function hr.depth (KX _ _ lk) rfl S.co S.gen rfl (codeRec_of KX hcd) (hb _ _ _ _ ?_)
  refine wpAny_newFunctionEnv S.nocell (fun ⟨n, _⟩ hy => S.par n (List.of_mem_zip hy).1) (fun h₁ hns hsb => ⟨lim.fresh _ hsb, ?_⟩) S.kind
  show codeAny _ _ (.func NFv.body (envF NFv fI s.heap.objs.size)) _ _
  refine ks_codeAny_funcAt ?_
  have kp : ∀ b o, s.heap.get? b = some o → h₁.get? b = some o := fun b o e => hsb.extBut b o (Nat.ne_of_lt (Heap.lt_size e)) (Heap.get?_push_of_some _ e)
  have Cs : CellsAt NFv.cl ["__class__"] [some (.ref C)] s.heap H := by
    have one : ∀ y c, List.lookup y ([("__class__", cc)] : List (Str × Addr)) = some c → y = "__class__" ∧ c = cc := fun y c e => by
      have := PySem.mem_of_lookup e
      simp at this
      exact this
    refine ⟨rfl, fun y c e => ?_, fun y z c e e' => (one y c e).1.trans (one z c e').1.symm, fun i y hi => ?_⟩
    · obtain ⟨_, rfl⟩ := one y c e
      exact ⟨(e0.bs _ _ (e0.mod.kin _ _ lcc)).2, _, _, KX _ _ lcc, rfl⟩
    · cases i with
      | zero =>
        have e : ("__class__" : Str) = y := Option.some.inj hi
        subst e
        refine ⟨cc, rfl, fun v hv => ?_⟩
        have e2 : v = .ref C := (Option.some.inj (Option.some.inj hv)).symm
        subst e2
        exact ⟨_, rfl, _, KX _ _ lcc, rfl⟩
      | succ i => cases hi
  have I := inv_startN (CX := CX0) (N := ["self", fld, "__class__"]) (F := NFv) (f := fI) (E := E) (tk := s.toks + ((["self", fld] : List Str).zip us).length) S hr.hd e0 rfl r Cs hns kp
  -- super().__init__("..")
  have hint : interactive (envF NFv fI s.heap.objs.size) = false := by
    unfold interactive
    have : (envF NFv fI s.heap.objs.size).scope.kind = .function := S.kind
    rw [this]
    rfl
  obtain ⟨pl, hpl⟩ := hev (envF NFv fI s.heap.objs.size)
  have hself : startF ["self", fld, "__class__"] [V.ref a, v] [some (V.ref C)] = [some (V.ref a), some v, some (V.ref C)] := rfl
  refine ks_wpAt_execs_cons (ks_wpAt_Expr_any (ks_wpAt_MethodCall (pl := pl) ?_ hpl) hint rfl)
  have k1 : ∀ b o, base.get? b = some o → h₁.get? b = some o := fun b o e => kp b o (e0.bs b o e).1
  have X1 : K.In h₁ := KX.keeps kp
  refine ks_wpAt_super_base (env := envF NFv fI s.heap.objs.size) ks (S.frk _ (List.mem_cons_self ..)) rfl rfl (X1 _ _ lk) rfl hpar rfl (X1 _ _ lcd) rfl hfl hfile T.top ?_
  obtain ⟨mb, hb1, hb2⟩ := e0.mod.blt
  refine ks_loadName_global S.kind ks (loadGlobal_builtin (env := envF NFv fI s.heap.objs.size) (e0.mod.glob.keeps k1) T.sup (hb1.keeps k1) ((hb2 _ (by decide +kernel)).trans boot_super) ⟨rfl, ?_⟩)
  refine wpAny_loadName_free S.kind (S.frk _ (List.mem_cons_self ..)) rfl ⟨_, X1 _ _ lcc, rfl⟩ ?_
  obtain ⟨m, hm1, hm2⟩ := I.loc
  obtain ⟨u, ru, hlook⟩ := hm2 0 "self" (V.ref a) rfl rfl (Or.inl (S.par _ (List.mem_cons_self ..)))
  have u_eq : u = Value.ref a := ru
  subst u_eq
  have hmself : m "self" = some (Value.ref a) := by
    rcases hlook with ⟨_, e⟩ | ⟨e, _⟩
    · exact e
    · have e0 : (envF NFv fI s.heap.objs.size).kindOf "self" = some .local := S.par _ (List.mem_cons_self ..)
      have e' : (envF NFv fI s.heap.objs.size).kindOf "self" = some .cell ∨ (envF NFv fI s.heap.objs.size).kindOf "self" = some .free := e
      rw [e0] at e'
      rcases e' with z | z <;> cases z
  obtain ⟨nm, qn, N, bs, bm, sn, sub, ab, col, dd, c0, c1, c2, c3, c5, hC, hbm⟩ := T.ox.cls
  obtain ⟨t1, hobj⟩ := exo_at I.hok ha
  have hobj1 : h₁.get? a = some (excObj C t1 none .none) := hobj
  have hcl : clsIn K C = some { name := nm, bases := bs, mro := .ref C :: bm, ns := N, qualname := qn, hasDict := true, slotNames := sn, subclasses := sub, abstract := ab, collection := col, hasDel := false } := by
    unfold clsIn
    rw [hC] <;> rfl
  have IA : InstAt h₁ a (excObj C t1 none .none) C none := ⟨hobj1, rfl, rfl, trivial⟩
  refine wpAny_loadName_local S.kind (by rw [har]; exact S.par _ (List.mem_cons_self ..)) hm1 (by rw [har]; exact hmself) ?_
  refine ks_wpAny_isType_cls (X1 _ _ hC) rfl ⟨rfl, ?_⟩
  refine ks_wpAny_call_super (X1 _ _ hC) rfl hobj1 rfl (fun c e => by cases e) (looks_mroIn X1 T.hS) (fun h2 hso k2 => ?_)
  -- .__init__
  have X2 : K.In h2 := X1.keeps k2
  have IA2 : InstAt h2 a (excObj C t1 none .none) C none := ⟨k2 _ _ hobj1, rfl, rfl, trivial⟩
  have hsm := T.hm
  unfold ks_superIn at hsm
  rw [hcl] at hsm
  refine kxs_getMethod kxs_ValueError hso (looks_opaque X2 T.opq) (l₀ := .ref C :: bm) (fun A Q E s k q => wpAny_bind ((looks_clsIn X2 hcl) A _ E s k (wpAny_pure q))) rfl X2 hsm (IA2.type.andThen (looks_subIn X2 T.hB)) (ks_ne X2 IA2 hcl) (by decide +kernel) ?_
  -- (..)
  refine kxs_callWith (i := "ValueError.__init__") (x := a) rfl ?_
  refine evalArgs_plain (spliced_cons (Constant_str (pos := p3) (k := j) (spliced_nil ?_)))
  have hu : (h2.push (kxs_mw "ValueError.__init__" a)).get? h2.objs.size = some (kxs_mw "ValueError.__init__" a) := Heap.get?_push_at rfl rfl
  have k3 : ∀ b o, h2.get? b = some o → (h2.push (kxs_mw "ValueError.__init__" a)).get? b = some o := fun b o e => Heap.get?_push_of_some _ e
  refine ⟨hu, ?_⟩
  refine wpAny_call (codeAny_of_tree ?_)
  show wpAny _ _ (callAny (.ref h2.objs.size) ⟨[] ++ [Value.str txt _], []⟩) _ _ _
  simp only [callAny]
  refine wpAny_bind (wpAny_load hu ?_)
  simp only [kxs_mw, show (Value.type "method-wrapper" == Value.type "method" || Value.type "method-wrapper" == Value.type "builtin_function_or_method" || Value.type "method-wrapper" == Value.type "method-wrapper") = true by decide, if_true]
  refine KFB.if_so (by decide) ?_
  refine wpAny_bind (check_bound_init F.excBase_ValueError.toExcCallFacts (k3 _ _ (X2 _ _ hC)) (k3 _ _ (k2 _ _ hobj1)) rfl ?_)
  refine wpAny_bind (wpAny_pure (wpAny_pure ?_))
  refine ⟨plainId_quiet F.excBase_ValueError.init.plain _, codeAny_builtin F.excBase_ValueError.initEntry ?_⟩
  refine exc_init_tree (cls := .ref C) (t0 := t1) (dv := none) (c2 := .none) (c3 := .none) (b4 := .bool false) (k3 _ _ (k2 _ _ hobj1)) (by show 1 ≤ sizeLine; rw [sizeLine_eq]; omega) (fun h4 k4 e4 _ => ?_)
  show PySem.wpAt _ _ _ (execs [_] _) _ _ _
  refine wpAt_of_wpAny ?_
  have J := I.write (t' := s.toks + ((["self", fld] : List Str).zip us).length + 1 + 1) (h' := h4) (x := a) (e := a) (o := exo a C none) (by rw [ha]; exact True.intro) (.inl rfl) (fun b o hb e => k4 b o hb (k3 _ _ (k2 _ _ e))) ⟨_, e4⟩ (exo_ok e4)
  have eu : upd H a (exo a C none) = H := by
    funext b
    by_cases hb : b = a
    · rw [hb, upd_same, ha]
    · rw [upd_ne hb]
  rw [eu] at J
  have hfl1 : sc.names.lookup fld = some .local := S.par _ (List.mem_cons_of_mem _ (List.mem_cons_self ..))
  have hse1 : sc.names.lookup ("self" : Str) = some .local := S.par _ (List.mem_cons_self ..)
  have B : PSs (ncx CX0 P w K mg base ["self", fld, "__class__"] NFv fI A outer s H E) [Stmt.Assign [(Expr.Name (Str.ofString "self") p6).Attribute fld p7] (Expr.Name fld p8) p9] _ :=
    pss_one (ps_ost (pe_var (i := 0) rfl (Or.inl hse1) (by decide) (by decide)) (pe_var (i := 1) rfl (Or.inl hfl1) T.fd1 T.fd2))
  refine wpAny_mono (B.run [] _ _ H { nx := fun _ H' => Q .non H', rt := Q } J ?_) (fun fl s' hs => ?_) fun e s' h => h
  · refine ⟨v, rfl, _, rfl, a, C, rfl, T.ox, T.nof, .inl ⟨ha, fun dx h1 h2 => k dx h1 h2⟩⟩
  · have fin : ∀ {σ' : L2.St} {H' : Hp} {z : V} {u : Value}, L2.Inv (ncx CX0 P w K mg base ["self", fld, "__class__"] NFv fI A outer s H E) [] σ' H' s' → L2.RelV z u → Q z H' → CE outer P w H s Q u s' :=
      fun {σ' H' z u} J rv q => ⟨z, H', J.os, J.bare, J.base, J.hok, rv, q⟩
    cases fl with
    | ret u =>
      obtain ⟨z, σ', H', J', rv, q⟩ := hs
      exact fin J' rv q
    | next =>
      obtain ⟨σ', H', J', q⟩ := hs
      exact fin (z := V.non) (u := Value.none) J' rfl q
    | brk =>
      obtain ⟨_, _, _, q⟩ := hs
      exact False.elim q
    | cont =>
      obtain ⟨_, _, _, q⟩ := hs
      exact False.elim q
end
end Gk
/-! ### errors of the text that are raised, and methods that raise -/
namespace Gk
open PySem PySem.W PySem.Spec PyProof.Rows L2 NdefX
/-- as Fun.ok, the context with all that may leave it -/
theorem fun_okC {CX : CXT} {P : Program} {w : World} {K : Frag} {mg : Str → Option Value} {base : Heap} {x qual : Str} {st : Stmt} {f : Addr} {fd : FuncData} {N ps : List Str} {k : Nat} {sp : Sp} (F : Fun K x qual st f fd) (S : FnScope N ps (defScope st)) (len : ∀ vs H Q E, sp vs H Q E → vs.length = ps.length)
    (hbody : ∀ (cdv : Value) (A : Around) (outer : List Env) (s : Shared) (H : Hp) (vs : List V) (Q : VK) (E : XK), Room k (A.deeper (envOfC qual (defScope st) s.heap.objs.size f cdv)) → sp vs H Q E →
      ∃ t, PSs (cxOf CX P w K mg base N qual (defScope st) f cdv A outer s H E) (defBody st) t ∧ t { nx := fun _ H' => Q .non H', rt := Q } (L2.start N vs) H) : FnOk P w K mg base CX (k + 1) f fd ps sp := by
  obtain ⟨oc, od, kV, doc, pm, an, cdv, ct, osl, rfl, lk, hcd⟩ := F.ex
  exact fn_of lk hcd S len fun A outer s H vs Q E hr hsp => hbody cdv A outer s H vs Q E hr hsp
/-- o.m(..) of a method that may raise -/
def tMethR (C : Addr) (m : Str) (sp : Sp) (E : L2.St → XK) (ta : TE) (t : TA) : TE := fun σ H Q => ta σ H fun x H1 => ∃ a dx fs, x = .ref a ∧ H1 a = some (.ins C dx fs) ∧ fs.lookup m = none ∧ t σ H1 fun vs H2 => sp (x :: vs) H2 Q (E σ)
theorem pe_methR {X : Cx} {CX : CXT} {k : Nat} {f C : Addr} {fd : FuncData} {ps : List Str} {sp : Sp} {E : L2.St → XK} {m : Str} {pos apos : Pos} {e o : Expr} {es : List Expr} {ta : TE} {t : TA} {pl : Sem Bool} (he : PE X o ta) (c : Cls X.K C) (hm : Meth X.K C m f) (F : FnOk X.prog X.w X.K X.mg X.base CX k f fd ps sp) (hr : Room k X.A) (hb : Binds X.K fd ps []) (hx : ∀ σ, PassesAt CX X σ (E σ)) (ha : PA X (e :: es) t)
    (hst : starEach (e :: es) X.env = (false, eval e X.env) :: starEach es X.env := by rfl) (hpl : (backTo pos (starEach es X.env)).any (·.1) = false := by rfl)
    (ht : eval (.Call (.Attribute o m apos) (e :: es) [] pos) X.env = (do
      let ov ← eval o X.env
      standAt apos.atName
      let (f, first) ← holding [ov] (getMethod ov m pl)
      callWith pos f first (backTo pos (starEach (e :: es) X.env)) (backToKw pos (keywordEach [] X.env))) := by rfl) :
    PE X (.Call (.Attribute o m apos) (e :: es) [] pos) (tMethR C m sp E ta t) := by
  refine ⟨fun pins s σ H Q I h => ?_⟩
  refine PySem.W.methodCall_KW (pl := pl) (thn (he.run pins s σ H _ I h) fun u s1 ⟨x, H1, I1, rx, a, dx, fs, ex, ea, l, q⟩ => ?_) ht
  subst ex
  obtain rfl : u = Value.ref a := rx
  refine getmeth_ok I1 ea c hm l ?_
  refine PySem.W.callWith_K (first := [.ref a]) (h₀ := X.base) I.ok.mod.kin hm.kp (thn (ha.run pos pins s1 σ H1 _ I1 q) fun us s2 ⟨vs, H2, I2, r, q2⟩ => ⟨I2.kIn, ?_⟩) hst hpl
  exact run_fnS (us := .ref a :: us) (vs := .ref a :: vs) F hr hb (hx σ) I2 (.cons rfl r) q2
/-- what the making of such an error leads to: it stands alone in the heap, by its dict -/
theorem err_made {C : Addr} {fld : Str} {v : V} {H1 : Hp} {W : XK} (k : ∀ d, H1 d = none → W (.ref C) (some d) (upd H1 d (.xd [(fld, v)]))) : [v].length ≤ 1000 ∧ ∀ a, H1 a = none → spErr C fld (.ref a :: ([v] ++ [])) (upd H1 a (exo a C none))
    (fun v H2 => v = .non ∧ ∃ (d : Addr) (fs : List (Str × V)), H2 a = some (exo a C (some d)) ∧ H2 d = some (exd d fs) ∧ H1 d = none ∧ W (.ref C) (some d) (upd (del H2 a) d (.xd fs))) (fun _ _ _ => False) := by
  refine ⟨by show 1 ≤ 1000; decide, fun a ha => ⟨a, v, rfl, upd_same, fun dx hdx ne => ?_⟩⟩
  have hd1 : H1 dx = none := by rw [upd_ne ne] at hdx; exact hdx
  refine ⟨rfl, dx, [(fld, v)], upd_same, ?_, hd1, ?_⟩
  · rw [upd_ne ne, upd_same]
  · have e : upd (del (upd (upd (upd H1 a (exo a C none)) dx (exd dx [(fld, v)])) a (exo a C (some dx))) a) dx (.xd [(fld, v)]) = upd H1 dx (.xd [(fld, v)]) := by
      funext b
      by_cases hb : b = dx
      · rw [hb, upd_same, upd_same]
      · rw [upd_ne hb, upd_ne hb]
        by_cases hba : b = a
        · rw [hba, del_same, ha]
        · rw [del_ne hba, upd_ne hba, upd_ne hb, upd_ne hba]
    rw [e]
    exact k dx hd1
theorem err_read {C : Addr} {fld : Str} {σ : L2.St} {H : Hp} {i : Nat} {v : V} {W : XK} (e : σ[i]? = some (some v)) (k : ∀ d, H d = none → W (.ref C) (some d) (upd H d (.xd [(fld, v)]))) : tMkO C (spErr C fld) [] (tCons (tVar i) tNil) σ H W := ⟨v, e, err_made k⟩
abbrev sEdGroup : Stmt := (inClass (top 20) 9)
/-- a value that is no name of a set -/
def NoKey (K : Frag) (H : Hp) (y : V) (ks : List Str) : Prop := (∃ k : Str, y = .str k ∧ k ∉ ks) ∨ ∃ t, TyX K H y t ∧ kitOne K t (.type "str") = some false
def spEdGroup (K : Frag) (CE CG CN : Addr) : Sp := fun vs H Q E => ∃ (x : Addr) (y : V) (rows : List Row) (gs : List (Str × List Int)), vs = [.ref x, y] ∧ EdAt CE H x rows gs ∧ (gs.map (·.1)).Nodup ∧
  ((∃ (z : Str × List Int), y = .str z.1 ∧ z ∈ gs ∧ ∀ H' q, Same H H' → H q = none → GrAt K CG H' q x z.2 → Q (.ref q) H') ∨ (NoKey K H y (gs.map (·.1)) ∧ ∀ d, H d = none → E (.ref CN) (some d) (upd H d (.xd [("value", y)]))))
theorem grp_val {H : Hp} {kvs : List (Key × V)} {gs : List (Str × List Int)} (h : Paired (GrpKV H) kvs gs) (nd : (gs.map (·.1)).Nodup) : ∀ z ∈ gs, ∃ t, valV kvs (.inr z.1 : Key) = some (.ref t) ∧ H t = some (.tup (z.2.map V.int)) := by
  induction h with
  | nil => exact fun x hx => by cases hx
  | @cons kv y kvs gs r t ih =>
    obtain ⟨e, l, e2, hl⟩ := r
    rw [List.map_cons, List.nodup_cons] at nd
    intro x hx
    rcases List.mem_cons.mp hx with rfl | hx
    · exact ⟨l, by rw [← e2]; exact valV_pos e, hl⟩
    · obtain ⟨l', e3, hl'⟩ := ih nd.2 x hx
      refine ⟨l', ?_, hl'⟩
      rw [valV_neg (by rw [e]; exact fun z => nd.1 ((Sum.inr.inj z) ▸ List.mem_map_of_mem hx))]
      exact e3
section
variable {P : Program} {w : World} {K : Frag} {mg : Str → Option Value} {base : Heap} {CE CG CN : Addr}
theorem scEdGroup : FnScope ["self", "name"] ["self", "name"] (defScope sEdGroup) := ⟨rfl, rfl, rfl, by decide +kernel, rfl, by decide +kernel, by decide +kernel⟩
theorem ok_edgroup {f fI fN : Addr} {fd fdI fdN : FuncData} (F : Fun K "group" "Edition.group" sEdGroup f fd) (T : EdTxt K CE) (ti : mg "isinstance" = none) (ts : mg "str" = none) (M : Mk K CG fI) (gG : mg "Group" = some (.ref CG))
    (GI : FnOk P w K mg base CX0 1 fI fdI ["self", "edition", "places"] (spGrInit K CG)) (bI : Binds K fdI ["self", "edition", "places"] []) (TN : ErrTxt P K mg "NoSet" CN fN fdN "value") (bN : Binds K fdN ["self", "value"] []) : FnOk P w K mg base (L2.CX P w) 4 f fd ["self", "name"] (spEdGroup K CE CG CN) := by
  refine fun_okC F scEdGroup (fun vs H Q E h => ?_) (fun cdv A outer s H vs Q E hr h => ?_)
  · obtain ⟨x, y, rows, gs, rfl, _⟩ := h
    rfl
  · obtain ⟨x, y, rows, gs, rfl, he, nd, k⟩ := h
    have hu := hu_of hr
    refine ⟨_, pss_cons (ps_if (PW.pt (pw_or (pt_not (pt_val (pe_callB call_isi (by rfl) ti boot_isi' (pa_cons (pv 1) (pa_cons (pe_bltn (v := .ty "str") (by rfl) ts boot_str' rfl) pa_nil))))) (pw_or1 (pt_cmp (pc_dnotin hu (pv 1) (pe_fld (pv 0) rfl))))))
        (pss_one (by exact (ps_raise rfl (takes_of rfl rfl rfl rfl) (pmk_oex TN.ox TN.iC TN.tI (err_init TN) hr bN .nil pass0 (by rfl) TN.gC (pa_cons (pv 1) pa_nil))))) pss_nil)
      (pss_one (ps_ret (pe_make M GI (hr.mono (by decide)) (by rfl) gG bI .nil pass0 (pa_cons (pv 0) (pa_cons (pe_dget hu (pe_fld (pv 0) rfl) (pv 1) (fun _ _ => rfl)) pa_nil))))), ?_⟩
    obtain ⟨de, rl, g, pl, nu, h1, h2, ⟨kvs, hg, pg⟩, h4, h5⟩ := id he.ob
    with_reducible refine rd_seq ?_
    refine rd_if (rd_or (rd_not (rd_b (rd_cb (rd_cons (rd_var rfl (rd_cons (rd_c (rd_nil ?_)))))))))
    rcases k with ⟨z, rfl, hz, k⟩ | ⟨bad, k⟩
    · obtain ⟨t, hv, ht⟩ := grp_val pg nd z hz
      have g1 : DGet H g (.str z.1) (some (.ref t)) := by
        have := DGet.k (k := .inr z.1) hg
        rw [hv] at this
        exact this
      refine ⟨_, _, _, _, true, rfl, .ty "str", .base (.str _), kit_ty (by decide +kernel), true, rfl, ite_no rfl ?_⟩
      refine ⟨_, rfl, _, rfl, x, CE, de, _, _, rfl, h1, T.cl, T.nG, edFs_groups, g, _, rfl, g1, _, rfl, ite_no rfl (rd_next ?_)⟩
      with_reducible refine rd_ret ?_
      unfold tMake
      refine rd_cons (rd_var rfl (rd_cons ?_))
      refine ⟨_, rfl, x, CE, de, _, _, rfl, h1, T.cl, T.nG, edFs_groups, _, rfl, g, _, rfl, g1, rd_nil ?_⟩
      exact make_gr (Q := Q) (E := E0) (.inr (SqT.of ht)) fun H' q s hq ga => k H' q s hq ga
    · have last := err_read (C := CN) (fld := "value") (σ := L2.start ["self", "name"] [.ref x, y]) (i := 1) (v := y) (W := E) rfl k
      rcases bad with ⟨w, rfl, hw⟩ | ⟨t, ty, ko⟩
      · have g1 : DGet H g (.str w) none := by
          have := DGet.k (k := .inr w) hg
          rw [grp_none pg hw] at this
          exact this
        refine ⟨_, _, _, _, true, rfl, .ty "str", .base (.str _), kit_ty (by decide +kernel), true, rfl, ite_no rfl ?_⟩
        exact ⟨_, rfl, _, rfl, x, CE, de, _, _, rfl, h1, T.cl, T.nG, edFs_groups, g, _, rfl, g1, _, rfl, ite_yes rfl last⟩
      · exact ⟨_, _, _, _, false, rfl, .ty "str", ty, ko, false, rfl, ite_yes rfl (ite_yes rfl last)⟩
end
end Gk
/-! ## defs that run where no repr is under way (repr of lists asks for that) -/
namespace Gk
open PySem PySem.Spec PyProof.Rows L2
/-- a promise that holds where no guard is up -/
structure FnG (P : Program) (w : World) (K : PySem.W.Frag) (mg : Str → Option Value) (base : Heap) (CX : CXT) (k : Nat) (f : Addr) (fd : FuncData) (ps : List Str) (sp : Sp) : Prop where
  len : ∀ vs H Q E, sp vs H Q E → vs.length = ps.length
  run : ∀ (A : Around) (outer : List Env) (s : Shared) (H : Hp) (args : Args) (us : List Value) (vs : List V) (Q : VK) (E : XK), A.guards = some [] → Room k A → Env0 P w K mg base A outer s H → BindsTo s fd args (ps.zip us) → Vals vs us → sp vs H Q E →
    codeAny (model P w) A (.call (.ref f) args) (CR CX outer P w H s Q E) s
section
variable {P : Program} {w : World} {K : PySem.W.Frag} {mg : Str → Option Value} {base : Heap}
theorem FnG.of {CX : CXT} {k : Nat} {f : Addr} {fd : FuncData} {ps : List Str} {sp : Sp} (F : FnOk P w K mg base CX k f fd ps sp) : FnG P w K mg base CX k f fd ps sp :=
  ⟨F.len, fun A outer s H args us vs Q E _ => F.run A outer s H args us vs Q E⟩
theorem Fun.okG {x qual : Str} {st : Stmt} {f : Addr} {fd : FuncData} {N ps : List Str} {k : Nat} {sp : Sp} (F : Fun K x qual st f fd) (S : FnScope N ps (defScope st)) (len : ∀ vs H Q E, sp vs H Q E → vs.length = ps.length)
    (hbody : ∀ (cdv : Value) (A : Around) (outer : List Env) (s : Shared) (H : Hp) (vs : List V) (Q : VK) (E : XK), A.guards = some [] → Room k (A.deeper (envOfC qual (defScope st) s.heap.objs.size f cdv)) → sp vs H Q E →
      ∃ t, PSs (cxOf CX0 P w K mg base N qual (defScope st) f cdv A outer s H E).nox (defBody st) t ∧ t { nx := fun _ H' => Q .non H', rt := Q } (start N vs) H) : FnG P w K mg base CX0 (k + 1) f fd ps sp := by
  obtain ⟨oc, od, kV, doc, pm, an, cdv, ct, osl, rfl, lk, hcd⟩ := F.ex
  refine ⟨len, fun A outer s H args us vs Q E hG hr e0 hb r hsp => ?_⟩
  have hl := len _ _ _ _ hsp
  have KX : K.In s.heap := e0.mod.kin.keeps fun b o e => (e0.bs b o e).1
  have lim : s.heap.NoLimit := e0.mod.nolimit.keeps fun b o e => (e0.bs b o e).1
  have hkind : ∀ y ∈ ps.zip us, (defScope st).names.lookup y.1 = some .local ∨ ((defScope st).names.lookup y.1 = some .cell ∧ ((cellsFrom (s.heap.objs.size + 1) (defScope st).names []).lookup y.1).isSome = true) := fun ⟨n, v⟩ hy => by
    rcases S.par n (List.of_mem_zip hy).1 with q | q
    · exact .inl q
    · exact .inr ⟨q, PySem.W.cellsFrom_some _ _ _ (.inl q)⟩
  refine codeAny_call_function hr.depth (KX _ _ lk) rfl S.co S.gen rfl (PySem.W.codeRec_of KX hcd) (hb _ _ _ _ ?_)
  refine wpAny_newFunctionEnv_cells S.kind hkind fun env he s1 x => ?_
  subst he
  refine ⟨lim.keeps x.toInCall.keep, codeAny_func ?_⟩
  obtain ⟨t, ht0, hq⟩ := hbody cdv A outer s H vs Q E hG (hr.deeper _) hsp
  have ht := ht0.nox
  have I : Inv (cxOf CX0 P w K mg base N qual (defScope st) f cdv A outer s H E) [] (start N vs) H s1 := inv_start S hr.hd e0 hl r x
  refine wpAny_mono (ht.run [] s1 (start N vs) H _ I hq) (fun fl s' hs => ?_) fun e s' hs => hs
  have fin : ∀ {σ' : L2.St} {H' : Hp} {v : V} {u : Value}, Inv (cxOf CX0 P w K mg base N qual (defScope st) f cdv A outer s H E) [] σ' H' s' → RelV v u → Q v H' → CE outer P w H s Q u s' :=
    fun {σ' H' v u} J rv q => ⟨v, H', J.os, J.bare, J.base, J.hok, rv, q⟩
  cases fl with
  | ret u =>
    obtain ⟨v, σ', H', J, rv, q⟩ := hs
    exact fin J rv q
  | next =>
    obtain ⟨σ', H', J, q⟩ := hs
    exact fin (v := V.non) (u := Value.none) J rfl q
  | brk =>
    obtain ⟨_, _, _, q⟩ := hs
    exact False.elim q
  | cont =>
    obtain ⟨_, _, _, q⟩ := hs
    exact False.elim q
end
section
variable {X : Cx} {CX : CXT} {k : Nat} {f : Addr} {fd : FuncData} {ps : List Str} {sp : Sp} {E : XK} {ds : List Value} {dvs : List V} {x : Str} {e : Expr} {es : List Expr} {t : TA} {p pos : Pos}
theorem pe_callG (F : FnG X.prog X.w X.K X.mg X.base CX k f fd ps sp) (hG : X.A.guards = some []) (hr : Room k X.A) (hg : Gl X x) (hm : X.mg x = some (.ref f)) (hk : PySem.W.keepIn X.K (.ref f) = true) (hb : Binds X.K fd ps ds) (hd : Vals dvs ds) (hx : Passes CX X E)
    (ha : PA X (e :: es) t) (hdb : (x == ("__debug__" : Str)) = false := by decide) (he : starEach (e :: es) X.env = (false, eval e X.env) :: starEach es X.env := by rfl) (hpl : (backTo pos (starEach es X.env)).any (·.1) = false := by rfl) :
    PE X (.Call (.Name x p) (e :: es) [] pos) (tCall sp dvs E t) := by
  refine ⟨fun pins s σ H Q I h => ?_⟩
  refine wpAny_Call_Name_kw (ld_glob I hg hm ?_ hdb)
  refine PySem.W.callWith_K (h₀ := X.base) I.ok.mod.kin hk (thn (ha.run pos pins s σ H _ I h) fun us s1 ⟨vs, H1, I1, r, q⟩ => ⟨I1.kIn, ?_⟩) he hpl
  have r2 : Vals (vs ++ dvs) (us ++ ds) := r.append hd
  have hl : (us ++ ds).length = ps.length := by rw [← r2.length]; exact F.len _ _ _ _ q
  refine wpAny_call (codeAny_mono (F.run X.A X.stack s1 H1 ⟨us, []⟩ (us ++ ds) (vs ++ dvs) Q E hG hr I1.env0 (hb s1 us I1.kIn hl) r2 q) fun r s' hq => ?_)
  cases r with
  | error e => exact hx pins σ H1 s1 e s' I1 hq
  | ok fl =>
    cases fl with
    | ret u => exact I1.after hq
    | next => exact False.elim hq
    | brk => exact False.elim hq
    | cont => exact False.elim hq
/-- repr of data: a text that hangs on the data alone -/
def rRepr (K : PySem.W.Frag) : List V → Hp → VK → Prop := fun xs H Q => ∃ a d, xs = [.ref a] ∧ Dp K H (.ref a) d ∧ d.showable = true ∧ d.hasDict = false ∧ d.depth ≤ 40 ∧ d.shown.length ≤ sizeLine ∧ Q (.str d.shown) H
theorem call_reprD (hG : X.A.guards = some []) (hu : X.A.units + 60 < cLine) : CallR X (.builtin "repr") (rRepr X.K) := by
  intro pins s σ H xs us Q I r h
  obtain ⟨a, d, rfl, hd, hs, hh, hdp, hz, q⟩ := h
  cases r with
  | cons rx rr =>
    cases rr
    cases rx
    obtain ⟨as, hr⟩ := Dp.reads I d _ _ hd rfl
    refine repr_of_reads' hr hs (fun z => by rw [hh] at z; cases z) hG (by omega) (fun b o e => e) (fun h' u tk hk => ?_) hz
    exact ⟨.str d.shown, H, I.kept hk, ⟨_, rfl⟩, q⟩
end
/-! ### the law's own call -/
theorem law_callG {P : Program} {w : World} {K : PySem.W.Frag} {mg mb : Str → Option Value} {CX : CXT} {k : Nat} {fa a : Addr} {fd : FuncData} {x : Str} {sp : Sp} {s₁ : Shared} {vs : List Value} {ns : List Int}
    (KX : K.In s₁.heap) (hns : s₁.heap.Ns mainGlobals mg) (hb : s₁.heap.Ns builtinsNs mb) (hbb : ∀ x : Str, x ≠ "__name__" → mb x = bootBuiltins x) (hlim : s₁.heap.NoLimit) (hg : s₁.gens = #[])
    (ha : s₁.heap.get? a = some { cls := .type "list", data := .seq vs.toArray }) (hi : IntsAre vs ns) (hl : ns.length ≤ sizeLine) (hr : Room k callerA)
    (FG : ∀ base : Heap, K.In base → base.Ns mainGlobals mg → FnG P w K mg base CX k fa fd [x] sp) (hbind : ∀ (s : Shared) (u : Value), BindsTo s fd ⟨[u], []⟩ [(x, u)])
    (hsp : ∀ H : Hp, Only H → SqL K H a (ns.map V.int) → sp [.ref a] H (fun v _ => v = .bl true) fun _ _ _ => False)
    (hCX : ∀ H e s', CX [] H s₁ (fun _ _ _ => False) e s' → False) :
    codeAny (model P w) callerA (.call (.ref fa) ⟨[.ref a], []⟩) (fun r s' => r = .ok (.ret (.bool true)) ∧ OldK s₁.heap s'.heap ∧ s'.os = s₁.os ∧ AllBare s'.gens) s₁ := by
  have rv := vals_ints hi
  have lenV := hi.length
  have core : ∀ H : Hp, Only H → SqL K H a (ns.map V.int) → HOk P w H s₁.heap → (∀ b, H b ≠ none → b = a) → (H a ≠ none → K.lookup a = none) →
      codeAny (model P w) callerA (.call (.ref fa) ⟨[.ref a], []⟩) (fun r s' => r = .ok (.ret (.bool true)) ∧ OldK s₁.heap s'.heap ∧ s'.os = s₁.os ∧ AllBare s'.gens) s₁ := by
    intro H hO hS hok hA hK
    have free_of : ∀ {b : Addr}, b ≠ a → H b = none := fun {b} hb => by
      cases q : H b with
      | none => rfl
      | some u => exact absurd (hA b (by rw [q]; simp)) hb
    have noD : ∀ {b : Addr} {o : Obj} {es : Array DictEntry} {ep : Nat}, s₁.heap.get? b = some o → o.data = .dict es ep → H b = none := fun {b o es ep} e d => free_of fun z => by
      subst z
      rw [ha] at e; cases e
      have d' : Data.seq vs.toArray _ = Data.dict es ep := d
      cases d'
    have nsK : ∀ {b : Addr} {m : Str → Option Value}, s₁.heap.Ns b m → (hidT s₁.heap H).Ns b m := fun {b m} ⟨o, es, ep, e, d, r⟩ => ⟨o, es, ep, hidT_get e (noD e d), d, r⟩
    have hKb : K.In (hidT s₁.heap H) := fun b o e => hidT_get (KX b o e) (by
      cases q : H b with
      | none => rfl
      | some u =>
        have z : b = a := hA b (by rw [q]; simp)
        subst z
        rw [hK (by rw [q]; simp)] at e; cases e)
    have hM : Mod K mg (hidT s₁.heap H) := ⟨hKb, nsK hns, ⟨mb, nsK hb, hbb⟩, let ⟨mc, h1, h2⟩ := hlim; ⟨mc, nsK h1, h2⟩⟩
    have e0 : Env0 P w K mg (hidT s₁.heap H) callerA [] s₁ H := ⟨rfl, hM, fun b o e => of_hidT e, Nat.le_of_eq (hidT_size _ _), trivial, fun b hb => absurd (show b ∈ ([] : List Addr) from hb) (by simp), hok, .of_eq hg⟩
    refine codeAny_mono ((FG _ hKb (nsK hns)).run callerA [] s₁ H ⟨[.ref a], []⟩ [.ref a] [.ref a] _ _ rfl hr e0 (hbind s₁ (.ref a)) (.cons rfl .nil) (hsp H hO hS)) fun r s' h => ?_
    cases r with
    | error e => exact (hCX H e s' h).elim
    | ok fl =>
      cases fl with
      | next => exact False.elim h
      | brk => exact False.elim h
      | cont => exact False.elim h
      | ret u =>
        obtain ⟨v, H', os, bare, un, hok', r', q⟩ := h
        have q' : v = .bl true := q
        subst q'
        obtain rfl : u = Value.bool true := r'
        refine ⟨rfl, OldK.of_keep fun b o e => ?_, os, bare⟩
        cases q : H b with
        | none => exact un.keep b o e q (by intro z; exact absurd (show b ∈ ([] : List Addr) from z) (by simp)) (by simp)
        | some u =>
          rcases hO b with z | ⟨ob, xs, z⟩
          · rw [q] at z; cases z
          · obtain ⟨e1, _⟩ := hok b _ z
            obtain ⟨e2, _⟩ := hok' b _ (un.frzs b ob _ z)
            rw [e] at e1; cases e1
            exact e2
  cases hk : K.lookup a with
  | some o =>
    have e := KX a o hk
    rw [ha] at e
    cases e
    refine core (fun _ => none) (fun _ => .inl rfl) (.inr ⟨_, vs.toArray, _, hk, rfl, rfl, rfl, by rw [List.size_toArray, lenV]; exact hl, by simpa using rv⟩) (fun b u z => by have z' : (none : Option HO) = some u := z; cases z') (fun b z => absurd rfl z) fun z => absurd rfl z
  | none =>
    refine core (fun b => if b = a then some (.frz { cls := .type "list", data := .seq vs.toArray } (.lst (ns.map V.int))) else none) (fun b => ?_) (.inl (.inr ⟨{ cls := .type "list", data := .seq vs.toArray }, if_pos rfl⟩)) (fun b u z => ?_) (fun b z => ?_) fun _ => hk
    · by_cases hb : b = a
      · exact .inr ⟨_, _, if_pos hb⟩
      · exact .inl (if_neg hb)
    · by_cases hb : b = a
      · have z' := (if_pos hb).symm.trans z
        cases z'
        subst hb
        exact ⟨ha, by rw [List.length_map]; exact hl, vs, _, rv, ha⟩
      · have z' := (if_neg hb).symm.trans z
        cases z'
    · by_cases hb : b = a
      · exact hb
      · exact absurd (if_neg hb) z
theorem walk_ofG {l : PySem.W.OpenLaw} {n k : Nat} {q : Program} {loose : List Str} {XP : (Str → Option Value) → Heap → Prop} {YP : World → Heap → Prop} {d : DefRec} {K : Params → PySem.W.Frag} {CX : World → CXT} {sp : World → Sp} {x : Str}
    (hn : l.most = some n) (hn2 : n ≤ sizeLine) (hdf : d.params.defaults = []) (hr : Room k callerA)
    (hY : ∀ (w : World) (h : Heap), YP w h → (K w.params).In h)
    (FG : ∀ (w : World) (mg : Str → Option Value) (fa : Addr) (h : Heap), (K w.params).In h → h.Ns mainGlobals mg → mg d.name = some (.ref fa) →
      ∃ fd : FuncData, (∀ (s : Shared) (u : Value), BindsTo s fd ⟨[u], []⟩ [(x, u)]) ∧
        ∀ base : Heap, (K w.params).In base → base.Ns mainGlobals mg → FnG l.prog w (K w.params) mg base (CX w) k fa fd [x] (sp w))
    (hsp : ∀ (w : World) (H : Hp) (a : Addr) (ns : List Int), ns.length ≤ n → (∀ z ∈ ns, Builtin.Int.intBits z ≤ 1048576) → Only H → SqL (K w.params) H a (ns.map V.int) → sp w [.ref a] H (fun v _ => v = .bl true) fun _ _ _ => False)
    (hCX : ∀ (w : World) (H : Hp) (s : Shared) (e : Value) (s' : Shared), CX w [] H s (fun _ _ _ => False) e s' → False) :
    PySem.W.WalkO q loose XP YP l.row.toRowW d [] (fun f vs => PySem.call f vs) := by
  refine Att.attach_callB hn hdf fun w s₀ s₁ mg mb fa o pm cd doc a vs ns G Y ho hd hcd hmg hobj hints hlen hbits hg => ?_
  obtain ⟨fd, hb, hF⟩ := FG w mg fa _ (hY w _ Y) G.T.g hmg
  exact law_callG (hY w _ Y) G.T.g G.T.b G.T.builtins G.T.nolimit hg hobj hints (Nat.le_trans hlen hn2) hr hF hb (fun H hO hS => hsp w H a ns hlen hbits hO hS) fun H e s' => hCX w H s₁ e s'
end Gk
/-! ### k03: a value refused, and one set looked at -/
namespace Gk
open PySem PySem.W PySem.Spec PyProof.Rows L2 NdefX
abbrev sRefused : Stmt := (top 34)
abbrev sGrRight : Stmt := (top 35)
theorem edFs_other {r g pl nu : Addr} {f : Str} (h : f ∉ (["_rows", "_groups", "_places", "_numbers"] : List Str)) : (edFs r g pl nu).lookup f = (none : Option V) := by
  simp only [List.mem_cons, List.not_mem_nil, or_false, not_or] at h
  obtain ⟨h1, h2, h3, h4⟩ := h
  unfold edFs
  rw [lookup_putF, if_neg h4, lookup_putF, if_neg h3, lookup_putF, if_neg h2, lookup_putF, if_neg h1]
  rfl
def spRefused (K : Frag) (CE : Addr) : Sp := fun vs H Q _ => ∃ (x : Addr) (y : V) (rows : List Row) (gs : List (Str × List Int)), vs = [.ref x, y] ∧ EdAt CE H x rows gs ∧ (gs.map (·.1)).Nodup ∧ NoKey K H y (gs.map (·.1)) ∧
  ∀ H' q, Same H H' → H q = none → H' q = some (.lst [y]) → Q (.ref q) H'
abbrev nRefused : List Str := ["edition", "thing", "caught", "error"]
section
variable {P : Program} {w : World} {K : Frag} {mg : Str → Option Value} {base : Heap} {CE CG CN CM : Addr}
theorem scRefused : FnScope nRefused ["edition", "thing"] (defScope sRefused) := ⟨rfl, rfl, rfl, by decide +kernel, rfl, by decide +kernel, by decide +kernel⟩
theorem ok_refused {f fG : Addr} {fd fdG : FuncData} (F : Fun K "_law_refused" "_law_refused" sRefused f fd) (T : EdTxt K CE) (hm : Meth K CE "group" fG) (gN : mg "NoSet" = some (.ref CN)) (XF : XfC K CN) (hno : findIn K (.ref CN) "value" = some none) (em : exmOne K (.ref CN) (.ref CN) = some true)
    (GG : FnOk P w K mg base (L2.CX P w) 4 fG fdG ["self", "name"] (spEdGroup K CE CG CN)) (bG : Binds K fdG ["self", "name"] []) : FnOk P w K mg base CX0 5 f fd ["edition", "thing"] (spRefused K CE) := by
  refine fun_okC F scRefused (fun vs H Q E h => ?_) (fun cdv A outer s H vs Q E hr h => ?_)
  · obtain ⟨x, y, rows, gs, rfl, _⟩ := h
    rfl
  · obtain ⟨x, y, rows, gs, rfl, he, nd, bad, k⟩ := h
    have ndN := scRefused.nd
    refine ⟨_, pss_cons (ps_set (i := 2) ndN rfl (Or.inl rfl) pe_non)
      (pss_cons (ps_try_as (i := 3) rfl rfl ndN rfl rfl ⟨rfl, by decide, .inl gN⟩ takes0 (fun W pn xe tk _ => pss_one (ps_expr (pe_methR (pv 0) T.cl hm GG hr bG (fun σ => passAt tk σ) (pa_cons (pv 1) pa_nil))))
        (fun a oe cls d pn hz hf => pss_one (ps_set (i := 2) ndN rfl (Or.inl rfl) (pe_lst (pa_cons (pe_xf XF hno hz hf (pv 3)) pa_nil)))))
      (pss_one (ps_ret (pv 2)))), ?_⟩
    obtain ⟨de, rl, g, pl, nu, h1, _⟩ := id he.ob
    with_reducible refine rd_seq ?_
    refine rd_asg (rd_c (rd_gn ?_))
    with_reducible refine rd_seq ?_
    refine ⟨_, rfl, x, de, _, rfl, h1, edFs_other (by decide +kernel), _, rfl, x, y, rows, gs, rfl, he, nd, .inr ⟨bad, fun d hd => ?_⟩⟩
    refine ⟨true, em, fun _ a ha => ?_, fun q => Bool.noConfusion q⟩
    have s1 : Same H (upd H d (.xd [("value", y)])) := (Same.refl H).new hd
    have c1 : upd H d (.xd [("value", y)]) d = some (.xd [("value", y)]) := upd_same
    generalize upd H d (.xd [("value", y)]) = H1 at s1 c1
    refine ⟨_, rfl, rfl, rfl, d, _, y, rfl, c1, rfl, Nat.le_trans (show 1 ≤ 100 by decide) (by decide), fun q hq => rd_gn ?_⟩
    with_reducible refine rd_ret ?_
    exact ⟨_, rfl, k _ q (s1.new hq) (s1.free hq) upd_same⟩
end
end Gk
/-! ### k03: one set looked at -/
namespace Gk
open PySem PySem.W PySem.Spec PyProof.Rows L2 NdefX
/-- what the text gives of editions and sets, gathered -/
structure GrAll (P : Program) (w : World) (K : Frag) (mg : Str → Option Value) (base : Heap) (CE CG CM : Addr) : Prop where
  TE : EdTxt K CE
  TG : GrTxt K CG
  TM : MemTxt K CM
  ZE : ClsQ K CE
  ZG : ClsQ K CG
  ZM : ClsQ K CM
  nmG : ∃ p f fd, FnOk P w K mg base CX0 1 f fd ["self"] (spGrNames K CE CG) ∧ Binds K fd ["self"] [] ∧ PropOf K CG "names" p f
  lenG : ∃ f fd, FnOk P w K mg base CX0 1 f fd ["self"] (spGrLen K CG) ∧ Binds K fd ["self"] [] ∧ findIn K (.ref CG) "__len__" = some (some (.ref f)) ∧ isFn K (.ref f) = true
  boolG : ∃ f fd, FnOk P w K mg base CX0 1 f fd ["self"] (spGrBool K CG) ∧ Binds K fd ["self"] [] ∧ findIn K (.ref CG) "__bool__" = some (some (.ref f)) ∧ isFn K (.ref f) = true
  hasG : ∃ f fd, FnOk P w K mg base CX0 2 f fd ["self", "value"] (spGrHas K CE CG CM) ∧ Binds K fd ["self", "value"] [] ∧ findIn K (.ref CG) "__contains__" = some (some (.ref f)) ∧ isFn K (.ref f) = true
  eqG : ∃ f fd, FnOk P w K mg base CX0 2 f fd ["self", "other"] (spGrEq K CE CG) ∧ Binds K fd ["self", "other"] [] ∧ findIn K (.ref CG) "__eq__" = some (some (.ref f)) ∧ isFn K (.ref f) = true
  neG : findIn K (.ref CG) "__ne__" = some (some (.builtin "object.__ne__"))
  getE : ∃ f fd, FnOk P w K mg base CX0 3 f fd ["self", "name"] (spEdGet CE CM) ∧ Binds K fd ["self", "name"] [] ∧ findIn K (.ref CE) "__getitem__" = some (some (.ref f)) ∧ isFn K (.ref f) = true ∧ fnIn K f = true
  koGM : kitOne K (.ref CG) (.ref CM) = some false
  koEG : kitOne K (.ref CE) (.ref CG) = some false
  koMG : kitOne K (.ref CM) (.ref CG) = some false
  nfEG : notFirst K CG (.ref CE) = true
abbrev rBoolI (K : Frag) (CG : Addr) : List V → Hp → VK → Prop := fun xs H Q => ∃ (a dx : Addr) (fs : List (Str × V)), xs = [.ref a] ∧ H a = some (.ins CG dx fs) ∧ spGrBool K CG [.ref a] H (fun v H' => ∃ b, v = .bl b ∧ Q (.bl b) H') E0
abbrev tGrNames (K : Frag) (CE CG : Addr) (i : Nat) : TE := tProp CG (spGrNames K CE CG) [] E0 (tVar i)
abbrev G1 (K : Frag) (CE CG : Addr) : TS := tDrop (tBM K "list" rAppend (tGrNames K CE CG 2) (tCons (tC (.str "more")) tNil))
abbrev G2 (K : Frag) (CE CG : Addr) : TS := tIfS (tOr (tTest (tOp (rNeD K) (tGrNames K CE CG 2) (tLc (iList K (tVar 3)) (gName 4) tYes (tOp (rIxT K) (tOp (rIxL K) (tVar 1) (tVar 4)) (tC (.int 0))) [4]))) (tTest (tOp rNe (tCB (rLenI CG (spGrLen K CG) E0) (tCons (tVar 2) tNil)) (tCB (rLenSeq K) (tCons (tVar 3) tNil))))) (tRet (tC (.bl false))) tNext
abbrev G3 (K : Frag) (CG : Addr) : TS := tIfS (tTest (tOp rNe (tCB (rBoolI K CG) (tCons (tVar 2) tNil)) (tOp (rNeD K) (tVar 3) (tLst tNil)))) (tRet (tC (.bl false))) tNext
abbrev G4 (K : Frag) (CE CG CM : Addr) : TS := tFor (iEnum K (tCons (tVar 1) tNil)) (gTup K 2 (gCons (gName 4) (gCons (gName 5) gNil)))
  (tIfS (tTest (tOp rNe (tOp (rInI CG (spGrHas K CE CG CM) E0) (tOp (rSubI CE (spEdGet CE CM) E0) (tVar 0) (tOp (rIxT K) (tVar 5) (tC (.int 0)))) (tVar 2)) (tOp (rIn K false) (tVar 4) (tVar 3)))) (tRet (tC (.bl false))) tNext)
abbrev G5 (K : Frag) (CE CG CM : Addr) : TS := tRet (tOp (rEqD K) (tLc (iList K (tLst (tCons (tC .non) (tCons (tC (.int 0)) (tCons (tOp (rIxT K) (tOp (rIxL K) (tVar 1) (tC (.int 0))) (tC (.int 0))) (tCons (tTup tNil) (tCons (tLst tNil) (tCons (tVar 2) tNil)))))))) (gName 6) (tTest (tOp (rInI CG (spGrHas K CE CG CM) E0) (tVar 6) (tVar 2))) (tVar 6) [6]) (tLst tNil))
theorem strs_shaped2 {ws : List Str} (h : ∀ y ∈ ws, PyData.strOk y = true) : SeqAt.shaped (.list (ws.map .str)) = true := by
  obtain ⟨c, d⟩ := strs_lay ws h
  unfold SeqAt.shaped
  rw [PyData.canLay0, PyData.depth, c, d]
  rfl
theorem strs_refl2 {ws : List Str} (h : ∀ y ∈ ws, PyData.strOk y = true) : PyData.eqv (.list (ws.map .str)) (.list (ws.map .str)) = true := SeqAt.eqv_refl _ (SeqAt.canLay_of_shaped (strs_shaped2 h))
/-- the names that the rows have at some places -/
theorem namesAt_sorted {rows rows' : List Row} (h : Paired SortedRow rows rows') (ns : List Int) : namesAt rows' ns = namesAt rows ns := by
  unfold namesAt
  refine List.map_congr_left fun z _ => ?_
  have : ∀ i : Nat, (rows'[i]?).map (·.name) = (rows[i]?).map (·.name) := fun i => by
    rw [← List.getElem?_map, ← List.getElem?_map, names_sorted h]
  rw [this]
section
variable {P : Program} {w : World} {K : Frag} {mg : Str → Option Value} {base : Heap} {CE CG CM : Addr} {D : Ends} {H : Hp} {x rw g pl : Addr} {rows rows1 : List Row} {gs : List (Str × List Int)} {ns : List Int} {s4 s5 s6 : Option V}
theorem grn_read {σ : L2.St} {Q : VK} {i : Nat} (e : σ[i]? = some (some (.ref g))) (hg : GrAt K CG H g x ns) (he : EdAt CE H x rows1 gs) (ok : PlOk ns rows1.length) (l16 : rows1.length ≤ 16) (k : ∀ H' q, Same H H' → H q = none → H' q = some (.lst ((namesAt rows1 ns).map V.str)) → Q (.ref q) H') : tGrNames K CE CG i σ H Q := by
  obtain ⟨dx, t, ex, ht⟩ := id hg
  exact ⟨_, e, g, dx, _, rfl, ex, g, x, ns, rows1, gs, rfl, hg, he, ok, l16, k⟩
theorem G1_run (hg : GrAt K CG H g x ns) (he : EdAt CE H x rows1 gs) (ok : PlOk ns rows1.length) (l16 : rows1.length ≤ 16) {σ : L2.St} (e : σ[2]? = some (some (.ref g))) (k : ∀ H', Same H H' → D.nx σ H') : G1 K CE CG D σ H := by
  refine rd_drop (rd_bm (grn_read e hg he ok l16 fun H1 q s hq cq => ⟨.inl ⟨rfl, _, SqL.of cq⟩, rd_cons (rd_c (rd_nil ⟨q, _, _, rfl, rfl, cq, ?_, k _ (s.mut hq)⟩))⟩))
  rw [List.length_map]
  unfold namesAt
  rw [List.length_map]
  exact Nat.lt_of_le_of_lt (show ns.length ≤ 16 by have := ok.2; omega) (by decide)
theorem G2_run (hR : RowsAt H rw rows) (hg : GrAt K CG H g x ns) (he : EdAt CE H x rows1 gs) (ps : Paired SortedRow rows rows1) (lay : EdLay rows1) (hp : H pl = some (.lst (ns.map V.int))) (ok : PlOk ns rows1.length) (l16 : rows1.length ≤ 16)
    (k : ∀ H' v4, Same H H' → D.nx [some (.ref x), some (.ref rw), some (.ref g), some (.ref pl), v4, s5, s6] H') : G2 K CE CG D [some (.ref x), some (.ref rw), some (.ref g), some (.ref pl), s4, s5, s6] H := by
  obtain ⟨us, hus, pu⟩ := hR
  have lu := paired_len pu
  have lr := paired_len ps
  refine rd_if (rd_or (rd_test (rd_op (grn_read rfl hg he ok l16 fun H1 q s1 hq cq => ?_))))
  refine ⟨_, rfl, pl, rfl, ⟨_, SqL.of (s1 _ _ hp)⟩, fun LD hLD => ?_⟩
  refine lc_list (K := K) (a := pl) (xs := ns.map V.int) (fun i H' => Same H1 H' ∧ H' LD = some (.lst ((namesAt rows (ns.take i)).map V.str))) ⟨(Same.refl H1).new hLD, upd_same⟩ (fun i H' _ z => SqL.of (z.1 _ _ (s1 _ _ hp))) ?_ ?_
  · rintro i v H2 hi ⟨s2, c2⟩
    obtain ⟨z, hz, rfl⟩ : ∃ z, ns[i]? = some z ∧ v = V.int z := by
      rw [List.getElem?_map] at hi
      cases e : ns[i]? with
      | none => rw [e] at hi; cases hi
      | some n => rw [e] at hi; exact ⟨n, rfl, (Option.some.inj hi).symm⟩
    obtain ⟨z0, z1⟩ := ok.1 z (List.mem_of_getElem? hz)
    obtain ⟨j, rfl⟩ := Int.eq_ofNat_of_zero_le z0
    have jl : j < us.length := by omega
    obtain ⟨u, hu⟩ : ∃ u, us[j]? = some u := ⟨_, List.getElem?_eq_getElem jl⟩
    obtain ⟨y, hy, t2, al, rfl, ht2, hal⟩ := paired_left pu hu
    have sA := s1.trans s2
    refine rd_gn ⟨rfl, rd_yes ?_⟩
    refine ⟨_, rfl, _, rfl, rw, us, _, _, rfl, rfl, SqL.of (sA _ _ hus), at_of rfl hu, t2, _, _, _, rfl, rfl, SqT.of (sA _ _ ht2), rfl, ?_⟩
    have ln : (namesAt rows (ns.take i)).length ≤ 16 := by
      unfold namesAt
      rw [List.length_map, List.length_take]
      have := ok.2
      omega
    refine ⟨_, c2, by rw [List.length_map]; exact Nat.lt_of_le_of_lt ln (by decide), s2.mut hLD, ?_⟩
    rw [upd_same]
    unfold namesAt
    rw [List.take_add_one, hz, List.map_append, List.map_append]
    show some (HO.lst (_ ++ [V.str y.name])) = some (HO.lst (_ ++ [V.str (((rows[((j : Nat) : Int).toNat]?).map (·.name)).getD "")]))
    rw [Int.toNat_natCast, hy]
    rfl
  · rintro H2 ⟨s2, c2⟩
    rw [List.length_map, List.take_length, ← namesAt_sorted ps] at c2
    have sA := s1.trans s2
    have ln : ∀ y ∈ namesAt rows1 ns, PyData.strOk y = true := fun y hy => by
      obtain ⟨z, hz, rfl⟩ := List.mem_map.mp hy
      obtain ⟨z0, z1⟩ := ok.1 z hz
      obtain ⟨j, rfl⟩ := Int.eq_ofNat_of_zero_le z0
      have jl : j < rows1.length := by omega
      rw [Int.toNat_natCast, List.getElem?_eq_getElem jl]
      exact (lay _ (List.getElem_mem jl)).1
    refine ⟨_, _, .lst (SqL.of (s2 _ _ cq)) (dp_strs _), .lst (SqL.of c2) (dp_strs _), strs_shaped2 ln, strs_shaped2 ln, _, rfl, ?_⟩
    rw [strs_refl2 ln]
    refine ite_no rfl ?_
    obtain ⟨dx, t, ex, ht⟩ := hg.later sA
    refine ⟨_, rfl, g, dx, _, rfl, ex, g, x, ns, rfl, ⟨dx, t, ex, ht⟩, ns.length, rfl, by have := ok.2; omega, _, rfl, pl, _, rfl, .inl (SqL.of (sA _ _ hp)), rfl, _, rfl, ?_⟩
    rw [List.length_map, decide_eq_true rfl]
    exact ite_no rfl (k H2 _ sA)
end
end Gk
/-! ### k03: one set looked at, the other parts -/
namespace Gk
open PySem PySem.W PySem.Spec PyProof.Rows L2 NdefX
theorem ints_shaped2 (ns : List Int) : SeqAt.shaped (.list (ns.map .int)) = true := by
  obtain ⟨c, d⟩ := ints_lay ns
  unfold SeqAt.shaped
  rw [PyData.canLay0, PyData.depth, c, d]
  rfl
theorem eqv_intsL (a b : List Int) : PyData.eqv (.list (a.map .int)) (.list (b.map .int)) = decide (a = b) := by
  by_cases c : a = b
  · subst c
    rw [decide_eq_true rfl]
    exact SeqAt.eqv_refl _ (SeqAt.canLay_of_shaped (ints_shaped2 a))
  · rw [decide_eq_false c]
    refine Bool.eq_false_iff.mpr fun h => c ?_
    rw [PyData.eqv] at h
    exact eqvAll_ints _ _ h
theorem eqv_intsT (a b : List Int) : PyData.eqv (.tuple (a.map .int)) (.tuple (b.map .int)) = decide (a = b) := by
  by_cases c : a = b
  · subst c
    rw [decide_eq_true rfl]
    exact eqv_ints a
  · rw [decide_eq_false c]
    refine Bool.eq_false_iff.mpr fun h => c ?_
    rw [PyData.eqv] at h
    exact eqvAll_ints _ _ h
theorem s100k {n : Nat} (h : n ≤ 100) : n ≤ sizeLine := Nat.le_trans h (by decide)
theorem sorted_al {r : Row} {x : Row} (h : SortedRow x r) : r.name = x.name := h.1
section
variable {P : Program} {w : World} {K : Frag} {mg : Str → Option Value} {base : Heap} {CE CG CM : Addr} {D : Ends} {H : Hp} {x rw g pl : Addr} {rows rows1 : List Row} {gs : List (Str × List Int)} {ns : List Int} {s4 s5 s6 : Option V}
theorem G3_run {σ : L2.St} (hg : GrAt K CG H g x ns) (e2 : σ[2]? = some (some (.ref g))) (e3 : σ[3]? = some (some (.ref pl))) (hp : H pl = some (.lst (ns.map V.int)))
    (k : ∀ H', Same H H' → D.nx σ H') : G3 K CG D σ H := by
  obtain ⟨dx, t, ex, ht⟩ := id hg
  refine rd_if (rd_test (rd_op ⟨_, e2, g, dx, _, rfl, ex, g, x, ns, rfl, hg, _, rfl, ?_⟩))
  refine ⟨_, e3, s100k (show 0 ≤ 100 by decide), fun L hL => ?_⟩
  have s1 : Same H (upd H L (.lst [])) := (Same.refl H).new hL
  have c1 : upd H L (.lst []) L = some (.lst []) := upd_same
  show rNeD K _ _ (upd H L (.lst [])) _
  generalize upd H L (.lst []) = H1 at s1 c1
  refine ⟨.list (ns.map .int), .list (([] : List Int).map .int), .lst (SqL.of (s1 _ _ hp)) (dp_ints ns), .lst (SqL.of c1) .nil, ints_shaped2 ns, ints_shaped2 [], rfl, _, rfl, ?_⟩
  rw [eqv_intsL]
  refine ite_no ?_ (k _ s1)
  cases ns <;> simp
theorem G4_run (hR : RowsAt H rw rows) (hg : GrAt K CG H g x ns) (he : EdAt CE H x rows1 gs) (ps : Paired SortedRow rows rows1) (lay : EdLay rows1) (ee : eqEd rows1 gs rows1 gs = true) (nd : (wordsOf rows1).Nodup) (hp : H pl = some (.lst (ns.map V.int)))
    (k : ∀ H' v4 v5, Same H H' → D.nx [some (.ref x), some (.ref rw), some (.ref g), some (.ref pl), v4, v5, s6] H') : G4 K CE CG CM D [some (.ref x), some (.ref rw), some (.ref g), some (.ref pl), s4, s5, s6] H := by
  obtain ⟨us, hus, pu⟩ := hR
  have lu := paired_len pu
  unfold G4 tFor
  refine ⟨_, rfl, rw, us, rfl, SqL.of hus, ?_⟩
  refine for_it (walk_enum (xs := us)) (fun i σ H' => ∃ v4 v5, σ = [some (.ref x), some (.ref rw), some (.ref g), some (.ref pl), v4, v5, s6] ∧ Same H H') ⟨_, _, rfl, Same.refl H⟩ (fun i σ H' _ z => by
    obtain ⟨_, _, _, s⟩ := z
    exact SqL.of (s _ _ hus)) ?_ ?_
  · rintro i y σ H1 H2 hi ⟨v4, v5, rfl, s1⟩ ⟨T, y1, y2, rfl, hT, rfl, e1, e2⟩
    obtain rfl := Option.some.inj e1
    have e2 : us[i]? = some y2 := e2
    obtain ⟨r, hr, t, al, rfl, ht, hal⟩ := paired_left pu e2
    obtain ⟨r1, hr1, hs⟩ := paired_left ps hr
    have s2 : Same H1 (upd H1 T (.tup [V.int (i : Nat), V.ref t])) := (Same.refl H1).new hT
    have cT : upd H1 T (.tup [V.int (i : Nat), V.ref t]) T = some (.tup [V.int (i : Nat), V.ref t]) := upd_same
    generalize upd H1 T (.tup [V.int (i : Nat), V.ref t]) = H3 at s2 cT ⊢
    have sA := s1.trans s2
    refine ⟨T, _, rfl, SqT.of cT, rfl, _, _, rfl, _, _, rfl, rfl, ?_⟩
    refine rd_if (rd_test (rd_op (rd_op ?_)))
    obtain ⟨dx, _, _, _, _, hx, _⟩ := id (he.later sA).ob
    refine ⟨_, rfl, _, rfl, t, _, _, _, rfl, rfl, SqT.of (sA _ _ ht), rfl, ?_⟩
    refine ⟨x, dx, _, rfl, hx, x, r.name, rows1, gs, i, r1, rfl, he.later sA, nd, hr1, by rw [sorted_al hs]; exact List.mem_cons_self, fun H4 q s3 hq mq => ?_⟩
    have sB := sA.trans s3
    obtain ⟨dg, tg, hgg, htg⟩ := id (hg.later sB)
    refine ⟨_, rfl, g, dg, _, rfl, hgg, g, x, .ref q, ns, rows1, gs, rfl, hg.later sB, he.later sB, lay, .inl ⟨q, x, r1, i, rows1, gs, rfl, mq, he.later sB, lay, _, rfl, ?_⟩⟩
    rw [ee, Bool.and_true]
    refine ⟨_, rfl, _, rfl, pl, _, rfl, .inl (SqL.of (sB _ _ hp)), rfl, flat_ints ns, ?_⟩
    simp only [Bool.false_eq_true, if_false]
    rw [inV_ints]
    refine ⟨rfl, _, rfl, ite_no ?_ ⟨_, _, rfl, sB⟩⟩
    simp
  · rintro σ H1 ⟨v4, v5, rfl, s1⟩
    exact k _ _ _ s1
theorem G5_run {v4 v5 : Option V} (ZG : ClsQ K CG) (ZM : ClsQ K CM) (koGM : kitOne K (.ref CG) (.ref CM) = some false) (hR : RowsAt H rw rows) (l1 : 1 ≤ rows.length) (hg : GrAt K CG H g x ns) (he : EdAt CE H x rows1 gs) (lay : EdLay rows1)
    (k : ∀ H', Same H H' → D.rt (.bl true) H') : G5 K CE CG CM D [some (.ref x), some (.ref rw), some (.ref g), some (.ref pl), v4, v5, s6] H := by
  obtain ⟨us, hus, pu⟩ := hR
  have lu := paired_len pu
  obtain ⟨u, hu⟩ : ∃ u, us[0]? = some u := ⟨_, List.getElem?_eq_getElem (by omega)⟩
  obtain ⟨r, hr, t, al, rfl, ht, hal⟩ := paired_left pu hu
  unfold G5
  refine rd_ret (rd_op ?_)
  unfold tLc iList
  refine rd_lst (rd_cons (rd_c (rd_cons (rd_c (rd_cons ⟨_, rfl, rw, us, _, _, rfl, rfl, SqL.of hus, at_of (j := 0) rfl hu, t, _, _, _, rfl, rfl, SqT.of ht, rfl, ?_⟩)))))
  refine rd_cons (rd_tup (rd_nil ⟨s100k (show 0 ≤ 100 by decide), fun T hT => ?_⟩))
  have q1 : Same H (upd H T (.tup [])) := (Same.refl H).new hT
  have c1 : upd H T (.tup []) T = some (.tup []) := upd_same
  generalize upd H T (.tup []) = H1 at q1 c1
  refine rd_cons (rd_lst (rd_nil ⟨s100k (show 0 ≤ 100 by decide), fun L0 hL0 => ?_⟩))
  have q2 : Same H1 (upd H1 L0 (.lst [])) := (Same.refl H1).new hL0
  have c2 : upd H1 L0 (.lst []) L0 = some (.lst []) := upd_same
  generalize upd H1 L0 (.lst []) = H2 at q2 c2
  refine rd_cons (rd_var rfl (rd_nil ⟨s100k (show 6 ≤ 100 by decide), fun L hL => ?_⟩))
  have q3 : Same H2 (upd H2 L (.lst [.non, .int 0, .str r.name, .ref T, .ref L0, .ref g])) := (Same.refl H2).new hL
  have c3 : upd H2 L (.lst [.non, .int 0, .str r.name, .ref T, .ref L0, .ref g]) L = some (.lst [.non, .int 0, .str r.name, .ref T, .ref L0, .ref g]) := upd_same
  generalize upd H2 L (.lst [.non, .int 0, .str r.name, .ref T, .ref L0, .ref g]) = H3 at q3 c3
  have sA := (q1.trans q2).trans q3
  have c1 := q3 _ _ (q2 _ _ c1)
  have c2 := q3 _ _ c2
  have hgA := hg.later sA
  have heA := he.later sA
  refine ⟨L, rfl, ⟨_, SqL.of c3⟩, fun LD hLD => ?_⟩
  refine lc_list (K := K) (a := L) (xs := [.non, .int 0, .str r.name, .ref T, .ref L0, .ref g]) (fun i H' => Same H3 H' ∧ H' LD = some (.lst [])) ⟨(Same.refl H3).new hLD, upd_same⟩ (fun i H' _ z => SqL.of (z.1 _ _ c3)) ?_ ?_
  · rintro i y H4 hi ⟨s4, cD⟩
    have sB := sA.trans s4
    obtain ⟨dg, tg, hgg, htg⟩ := id (hgA.later s4)
    have ty : ∃ tt, TyX K H4 y tt ∧ kitOne K tt (.ref CM) = some false := by
      have i6 : i < 6 := (List.getElem?_eq_some_iff.mp hi).1
      rcases (show i = 0 ∨ i = 1 ∨ i = 2 ∨ i = 3 ∨ i = 4 ∨ i = 5 by omega) with rfl | rfl | rfl | rfl | rfl | rfl
      · cases hi; exact ⟨_, .base .non, ZM.oth "NoneType" (by decide)⟩
      · cases hi; exact ⟨_, .base (.int 0), ZM.oth "int" (by decide)⟩
      · cases hi; exact ⟨_, .base (.str _), ZM.oth "str" (by decide)⟩
      · cases hi; exact ⟨_, .base (.tup (s4 _ _ c1)), ZM.oth "tuple" (by decide)⟩
      · cases hi; exact ⟨_, .base (.lst (s4 _ _ c2)), ZM.oth "list" (by decide)⟩
      · cases hi; exact ⟨_, ZG.ty hgg, koGM⟩
    obtain ⟨tt, ty, ko⟩ := ty
    refine rd_gn ⟨rfl, rd_test (rd_op (rd_var rfl (rd_var rfl ⟨g, dg, _, rfl, hgg, g, x, y, ns, rows1, gs, rfl, hgA.later s4, heA.later s4, lay, .inr ⟨tt, ty, ko, _, rfl, _, rfl, ?_⟩⟩)))⟩
    exact ite_no rfl ⟨s4, cD⟩
  · rintro H4 ⟨s4, cD⟩
    refine rd_lst (rd_nil ⟨s100k (show 0 ≤ 100 by decide), fun L2 hL2 => ?_⟩)
    have q5 : Same H4 (upd H4 L2 (.lst [])) := (Same.refl H4).new hL2
    have c5 : upd H4 L2 (.lst []) L2 = some (.lst []) := upd_same
    show rEqD K _ _ (upd H4 L2 (.lst [])) _
    generalize upd H4 L2 (.lst []) = H5 at q5 c5
    refine ⟨.list (([] : List Int).map .int), .list (([] : List Int).map .int), .lst (SqL.of (q5 _ _ cD)) .nil, .lst (SqL.of c5) .nil, ints_shaped2 [], ints_shaped2 [], ?_⟩
    rw [eqv_intsL]
    exact k _ ((sA.trans s4).trans q5)
end
end Gk
/-! ### k03: _law_group_right -/
namespace Gk
open PySem PySem.W PySem.Spec PyProof.Rows L2 NdefX
abbrev nGrRight : List Str := ["edition", "rows", "group", "places", "place", "row", "thing"]
/-- an edition and its rows, as drawn -/
structure EdRow (CE : Addr) (H : Hp) (x rw : Addr) (rows rows1 : List Row) (gs : List (Str × List Int)) : Prop where
  ra : RowsAt H rw rows
  ps : Paired SortedRow rows rows1
  ed : EdAt CE H x rows1 gs
  lay : EdLay rows1
  ee : eqEd rows1 gs rows1 gs = true
  nd : (wordsOf rows1).Nodup
  l1 : 1 ≤ rows.length
  l16 : rows.length ≤ 16
theorem EdRow.later {CE : Addr} {H H' : Hp} {x rw : Addr} {rows rows1 : List Row} {gs : List (Str × List Int)} (h : EdRow CE H x rw rows rows1 gs) (s : Same H H') : EdRow CE H' x rw rows rows1 gs := ⟨h.ra.later s, h.ps, h.ed.later s, h.lay, h.ee, h.nd, h.l1, h.l16⟩
def spGrRight (K : Frag) (CE CG : Addr) : Sp := fun vs H Q _ => ∃ (x rw g pl : Addr) (rows rows1 : List Row) (gs : List (Str × List Int)) (ns : List Int), vs = [.ref x, .ref rw, .ref g, .ref pl] ∧ EdRow CE H x rw rows rows1 gs ∧ GrAt K CG H g x ns ∧ H pl = some (.lst (ns.map V.int)) ∧ PlOk ns rows.length ∧
  ∀ H', Same H H' → Q (.bl true) H'
section
variable {P : Program} {w : World} {K : Frag} {mg : Str → Option Value} {base : Heap} {CE CG CM : Addr}
theorem scGrRight : FnScope nGrRight ["edition", "rows", "group", "places"] (defScope sGrRight) := ⟨rfl, rfl, rfl, by decide +kernel, rfl, by decide +kernel, by decide +kernel⟩
theorem grright_run {D : Ends} {H : Hp} {x rw g pl : Addr} {rows rows1 : List Row} {gs : List (Str × List Int)} {ns : List Int} {s4 s5 s6 : Option V} (T : GrAll P w K mg base CE CG CM) (E : EdRow CE H x rw rows rows1 gs) (hg : GrAt K CG H g x ns) (hp : H pl = some (.lst (ns.map V.int))) (ok : PlOk ns rows.length)
    (k : ∀ H', Same H H' → D.rt (.bl true) H') : tSeq (G1 K CE CG) (tSeq (G2 K CE CG) (tSeq (G3 K CG) (tSeq (G4 K CE CG CM) (G5 K CE CG CM)))) D [some (.ref x), some (.ref rw), some (.ref g), some (.ref pl), s4, s5, s6] H := by
  have lr := paired_len E.ps
  have ok1 : PlOk ns rows1.length := by rw [← lr]; exact ok
  have l16 : rows1.length ≤ 16 := by rw [← lr]; exact E.l16
  with_reducible refine rd_seq ?_
  refine G1_run hg E.ed ok1 l16 rfl fun H1 q1 => ?_
  have E1 := E.later q1
  with_reducible refine rd_seq ?_
  refine G2_run E1.ra (hg.later q1) E1.ed E1.ps E1.lay (q1 _ _ hp) ok1 l16 fun H2 v4 q2 => ?_
  have qB := q1.trans q2
  with_reducible refine rd_seq ?_
  refine G3_run (hg.later qB) rfl rfl (qB _ _ hp) fun H3 q3 => ?_
  have qC := qB.trans q3
  have E3 := E.later qC
  with_reducible refine rd_seq ?_
  refine G4_run E3.ra (hg.later qC) E3.ed E3.ps E3.lay E3.ee E3.nd (qC _ _ hp) fun H4 v4 v5 q4 => ?_
  have qD := qC.trans q4
  have E4 := E.later qD
  exact G5_run T.ZG T.ZM T.koGM E4.ra E4.l1 (hg.later qD) E4.ed E4.lay fun H5 q5 => k _ (qD.trans q5)
theorem ok_grright {f : Addr} {fd : FuncData} (F : Fun K "_law_group_right" "_law_group_right" sGrRight f fd) (T : GrAll P w K mg base CE CG CM) (tl : mg "len" = none) (tb : mg "bool" = none) (te : mg "enumerate" = none) : FnOk P w K mg base CX0 5 f fd ["edition", "rows", "group", "places"] (spGrRight K CE CG) := by
  obtain ⟨p1, f1, d1, F1, b1, h1⟩ := T.nmG
  obtain ⟨f2, d2, F2, b2, h2, i2⟩ := T.lenG
  obtain ⟨f3, d3, F3, b3, h3, i3⟩ := T.boolG
  obtain ⟨f4, d4, F4, b4, h4, i4⟩ := T.hasG
  obtain ⟨f6, d6, F6, b6, h6, i6, j6⟩ := T.getE
  refine F.ok scGrRight (fun vs H Q E h => ?_) (fun cdv A outer s H vs Q E hr h => ?_)
  · obtain ⟨x, rw', g, pl, rows, rows1, gs, ns, rfl, _⟩ := h
    rfl
  · obtain ⟨x, rw', g, pl, rows, rows1, gs, ns, rfl, he, hg, hp, ok, k⟩ := h
    have nd := scGrRight.nd
    have hr1 : Room 1 _ := hr.mono (by decide)
    have hr2 : Room 2 _ := hr.mono (by decide)
    have hr3 : Room 3 _ := hr.mono (by decide)
    have hu := hu_of hr
    refine ⟨_, pss_cons (ps_expr (pe_bm PySem.F.plainAttrs_list PySem.F.slot_list_append PySem.F.type_list_append mt_append (pe_prop (pv 2) T.ZG.cl h1 F1 hr2 b1 .nil pass0 rfl) (pa_cons pe_str pa_nil)))
      (pss_cons (ps_if (PW.pt (pw_or (pt_cmpR (op_neD hr.units) (pe_prop (pv 2) T.ZG.cl h1 F1 hr2 b1 .nil pass0 rfl) (pe_lc (own := [("place", 4)]) (te := tOp (rIxT K) (tOp (rIxL K) (tVar 1) (tVar 4)) (tC (.int 0))) (g := gName 4) (tt := tYes) rfl nd (pi_list (pv 3)) (blkOk_by (N := nGrRight) (sc := defScope sGrRight) (by decide +kernel)) (fun _ _ _ _ _ => pg_name (i := 4) nd rfl (Or.inl rfl)) (fun _ _ _ _ _ => pts_nil) (fun _ _ _ _ _ => by exact (pe_ix ix_tup (pe_ix ix_list (pv 1) (pv 4) (fun _ _ => rfl)) pe_int (fun _ _ => rfl)))) (nomark _))
          (pw_or1 (pt_cmpR op_ne (pe_callB (call_lenI F2 hr2 h2 i2 b2 pass0) (by rfl) tl PySem.boot_len (pa_cons (pv 2) pa_nil)) (pe_callB call_len_seq (by rfl) tl PySem.boot_len (pa_cons (pv 3) pa_nil)) (nomark _))))) (pss_one (ps_ret pe_bl)) pss_nil)
      (pss_cons (ps_if (pt_cmpR op_ne (pe_callTy (call_boolI F3 hr3 h3 i3 b3 pass0) (by rfl) tb boot_boolT (pa_cons (pv 2) pa_nil)) (pe_cmpR (op_neD hr.units) (pv 3) (pe_lst pa_nil) (nomark _)) (nomark _)) (pss_one (ps_ret pe_bl)) pss_nil)
      (pss_cons (ps_for PassesOwn.never rfl (pi_enum (by rfl) te (pa_cons (pv 1) pa_nil)) (pg_tup rfl (pgs_cons (pg_name (i := 4) nd rfl (Or.inl rfl)) (pgs_cons (pg_name (i := 5) nd rfl (Or.inl rfl)) pgs_nil)))
          (pss_one (ps_if (pt_cmpR op_ne (pe_cmpR (op_inI (E := E0) F4 hr2 h4 i4 b4 pass0) (pe_subI (E := E0) F6 hr h6 i6 j6 b6 pass0 (pv 0) (pe_ix ix_tup (pv 5) pe_int (fun _ _ => rfl)) (fun _ _ => rfl)) (pv 2) (by rfl)) (pe_cmpR op_in_seq (pv 4) (pv 3) (by rfl)) (nomark _)) (pss_one (ps_ret pe_bl)) pss_nil)))
      (pss_one (ps_ret (pe_cmpR (op_eqD hr.units) (pe_lc (own := [("thing", 6)]) (te := tVar 6) (g := gName 6) (tt := tTest (tOp (rInI CG (spGrHas K CE CG CM) E0) (tVar 6) (tVar 2))) rfl nd
          (pi_list (pe_lst (pa_cons pe_non (pa_cons pe_int (pa_cons (pe_ix ix_tup (pe_ix ix_list (pv 1) pe_int (fun _ _ => rfl)) pe_int (fun _ _ => rfl)) (pa_cons (pe_tup pa_nil) (pa_cons (pe_lst pa_nil) (pa_cons (pv 2) pa_nil)))))))) (blkOk_by (N := nGrRight) (sc := defScope sGrRight) (by decide +kernel)) (fun _ _ _ _ _ => pg_name (i := 6) nd rfl (Or.inl rfl))
          (fun _ _ _ _ _ => by exact (pts_one (pt_cmpR (op_inI (E := E0) F4 hr2 h4 i4 b4 pass0) (pv 6) (pv 2) (by rfl)))) (fun _ _ _ _ _ => by exact (pv 6))) (pe_lst pa_nil) (nomark _))))))), ?_⟩
    exact grright_run (D := { nx := fun _ H' => Q .non H', rt := Q }) T he hg hp ok k
end
end Gk
/-! ### k03: _law_all_right -/
namespace Gk
open PySem PySem.W PySem.Spec PyProof.Rows L2 NdefX
abbrev sAllRight : Stmt := (top 36)
abbrev nAllRight : List Str := ["edition", "rows", "some", "group", "places", "other", "others"]
/-- a couple of a set and its places -/
def GP (K : Frag) (CG : Addr) (x : Addr) (H : Hp) (v : V) (ns : List Int) : Prop := ∃ t g pl, v = .ref t ∧ H t = some (.tup [.ref g, .ref pl]) ∧ GrAt K CG H g x ns ∧ H pl = some (.lst (ns.map V.int))
theorem GP.later {K : Frag} {CG x : Addr} {H H' : Hp} {v : V} {ns : List Int} (h : GP K CG x H v ns) (s : Same H H') : GP K CG x H' v ns := by
  obtain ⟨t, g, pl, e, h1, h2, h3⟩ := h
  exact ⟨t, g, pl, e, s _ _ h1, h2.later s, s _ _ h3⟩
def spAllRight (K : Frag) (CE CG : Addr) : Sp := fun vs H Q _ => ∃ (x rw sm : Addr) (us : List V) (rows rows1 : List Row) (gs : List (Str × List Int)) (nss : List (List Int)), vs = [.ref x, .ref rw, .ref sm] ∧ EdRow CE H x rw rows rows1 gs ∧ H sm = some (.lst us) ∧ Paired (GP K CG x H) us nss ∧ (∀ ns ∈ nss, PlOk ns rows.length) ∧
  ∀ H', Same H H' → Q (.bl true) H'
abbrev tGeq (K : Frag) (CE CG : Addr) (ta tb : TE) : TE := tOp (rEqI K CG (spGrEq K CE CG) E0) ta tb
abbrev A1 (K : Frag) (CE CG : Addr) : TS := tIfS (tNot (tB (tCall (spGrRight K CE CG) [] E0 (tCons (tVar 0) (tCons (tVar 1) (tCons (tVar 3) (tCons (tVar 4) tNil))))))) (tRet (tC (.bl false))) tNext
abbrev A2 (K : Frag) (CE CG : Addr) : TS := tFor (iList K (tVar 2)) (gTup K 2 (gCons (gName 5) (gCons (gName 6) gNil))) (tIfS (tTest (tOp rNe (tGeq K CE CG (tVar 3) (tVar 5)) (tOp (rEqD K) (tVar 4) (tVar 6)))) (tRet (tC (.bl false))) tNext)
abbrev AT (K : Frag) (CE CG : Addr) : TS := tSeq (tFor (iList K (tVar 2)) (gTup K 2 (gCons (gName 3) (gCons (gName 4) gNil))) (tSeq (A1 K CE CG) (A2 K CE CG))) (tRet (tC (.bl true)))
section
variable {P : Program} {w : World} {K : Frag} {mg : Str → Option Value} {base : Heap} {CE CG CM : Addr} {D : Ends} {H : Hp} {x rw sm g pl : Addr} {us : List V} {rows rows1 : List Row} {gs : List (Str × List Int)} {ns : List Int} {nss : List (List Int)} {s0 s1 s2 s3 s4 s5 s6 : Option V}
theorem geq_read {g1 g2 x1 x2 : Addr} {n1 n2 : List Int} {r1 r2 : List Row} {q1 q2 : List (Str × List Int)} {Q : VK} (ZG : ClsQ K CG) (h1 : GrAt K CG H g1 x1 n1) (h2 : GrAt K CG H g2 x2 n2) (e1 : EdAt CE H x1 r1 q1) (e2 : EdAt CE H x2 r2 q2) (l1 : EdLay r1) (l2 : EdLay r2)
    (h : Q (.bl (decide (n1 = n2) && eqEd r1 q1 r2 q2)) H) : rEqI K CG (spGrEq K CE CG) E0 (.ref g1) (.ref g2) H Q := by
  obtain ⟨d1, t1, k1, _⟩ := id h1
  obtain ⟨d2, t2, k2, _⟩ := id h2
  refine ⟨g1, d1, _, _, rfl, k1, ZG.ty k2, ClsQ.self, g1, x1, .ref g2, n1, r1, q1, rfl, h1, e1, l1, .inl ⟨g2, x2, n2, r2, q2, rfl, h2, e2, l2, _, rfl, ?_⟩⟩
  rw [eqv_intsT]
  exact h
theorem A2_run (ZG : ClsQ K CG) (E : EdRow CE H x rw rows rows1 gs) (hs : H sm = some (.lst us)) (pu : Paired (GP K CG x H) us nss) (hg : GrAt K CG H g x ns) (hp : H pl = some (.lst (ns.map V.int)))
    (k : ∀ v5 v6, D.nx [s0, s1, some (.ref sm), some (.ref g), some (.ref pl), v5, v6] H) : A2 K CE CG D [s0, s1, some (.ref sm), some (.ref g), some (.ref pl), s5, s6] H := by
  unfold A2 tFor
  refine ⟨_, rfl, sm, rfl, ⟨_, SqL.of hs⟩, ?_⟩
  refine for_list (K := K) (a := sm) (xs := us) (fun i σ H' => ∃ v5 v6, σ = [s0, s1, some (.ref sm), some (.ref g), some (.ref pl), v5, v6] ∧ H' = H) ⟨_, _, rfl, rfl⟩ (fun i σ H' _ z => by
    obtain ⟨_, _, _, rfl⟩ := z
    exact SqL.of hs) ?_ ?_
  · rintro i y σ H' hi ⟨v5, v6, rfl, rfl⟩
    obtain ⟨ms, hms, t, g2, p2, rfl, ht, hg2, hp2⟩ := paired_left pu hi
    refine ⟨t, _, rfl, SqT.of ht, rfl, _, _, rfl, _, _, rfl, rfl, ?_⟩
    refine rd_if (rd_test (rd_op (rd_op (rd_var rfl (rd_var rfl (geq_read ZG hg hg2 E.ed E.ed E.lay E.lay ?_))))))
    rw [E.ee, Bool.and_true]
    refine ⟨_, rfl, _, rfl, .list (ns.map .int), .list (ms.map .int), .lst (SqL.of hp) (dp_ints ns), .lst (SqL.of hp2) (dp_ints ms), ints_shaped2 ns, ints_shaped2 ms, ?_⟩
    rw [eqv_intsL]
    refine ⟨rfl, _, rfl, ite_no ?_ ⟨_, _, rfl, rfl⟩⟩
    simp
  · rintro σ H' ⟨v5, v6, rfl, rfl⟩
    exact k _ _
theorem AT_run (ZG : ClsQ K CG) (E : EdRow CE H x rw rows rows1 gs) (hs : H sm = some (.lst us)) (pu : Paired (GP K CG x H) us nss) (ok : ∀ ns ∈ nss, PlOk ns rows.length)
    (k : ∀ H', Same H H' → D.rt (.bl true) H') : AT K CE CG D [some (.ref x), some (.ref rw), some (.ref sm), s3, s4, s5, s6] H := by
  refine rd_seq ?_
  unfold tFor
  refine ⟨_, rfl, sm, rfl, ⟨_, SqL.of hs⟩, ?_⟩
  refine for_list (K := K) (a := sm) (xs := us) (fun i σ H' => ∃ v3 v4 v5 v6, σ = [some (.ref x), some (.ref rw), some (.ref sm), v3, v4, v5, v6] ∧ Same H H') ⟨_, _, _, _, rfl, Same.refl H⟩ (fun i σ H' _ z => by
    obtain ⟨_, _, _, _, _, s⟩ := z
    exact SqL.of (s _ _ hs)) ?_ ?_
  · rintro i y σ H1 hi ⟨v3, v4, v5, v6, rfl, q1⟩
    obtain ⟨ns, hns, t, g, pl, rfl, ht, hg, hp⟩ := paired_left pu hi
    refine ⟨t, _, rfl, SqT.of (q1 _ _ ht), rfl, _, _, rfl, _, _, rfl, rfl, ?_⟩
    refine rd_seq (rd_if (rd_not (rd_b (rd_call (rd_cons (rd_var rfl (rd_cons (rd_var rfl (rd_cons (rd_var rfl (rd_cons (rd_var rfl (rd_nil ?_)))))))))))))
    refine ⟨x, rw, g, pl, rows, rows1, gs, ns, rfl, E.later q1, hg.later q1, q1 _ _ hp, ok ns (List.mem_of_getElem? hns), fun H2 q2 => ?_⟩
    have qB := q1.trans q2
    refine ⟨_, rfl, ite_no rfl ?_⟩
    exact A2_run ZG (E.later qB) (qB _ _ hs) (paired_map (fun _ _ z => GP.later z qB) pu) (hg.later qB) (qB _ _ hp) fun v5 v6 => ⟨_, _, _, _, rfl, qB⟩
  · rintro σ H1 ⟨v3, v4, v5, v6, rfl, q1⟩
    exact k _ q1
theorem scAllRight : FnScope nAllRight ["edition", "rows", "some"] (defScope sAllRight) := ⟨rfl, rfl, rfl, by decide +kernel, rfl, by decide +kernel, by decide +kernel⟩
theorem ok_allright {f fR : Addr} {fd fdR : FuncData} (F : Fun K "_law_all_right" "_law_all_right" sAllRight f fd) (T : GrAll P w K mg base CE CG CM)
    (GR : FnOk P w K mg base CX0 5 fR fdR ["edition", "rows", "group", "places"] (spGrRight K CE CG)) (bR : Binds K fdR ["edition", "rows", "group", "places"] []) (gR : mg "_law_group_right" = some (.ref fR)) (kR : PySem.W.keepIn K (.ref fR) = true) : FnOk P w K mg base CX0 6 f fd ["edition", "rows", "some"] (spAllRight K CE CG) := by
  obtain ⟨f6, d6, F6, b6, h6, i6⟩ := T.eqG
  refine F.ok scAllRight (fun vs H Q E h => ?_) (fun cdv A outer s H vs Q E hr h => ?_)
  · obtain ⟨x, rw', sm, us, rows, rows1, gs, nss, rfl, _⟩ := h
    rfl
  · obtain ⟨x, rw', sm, us, rows, rows1, gs, nss, rfl, he, hs, pu, ok, k⟩ := h
    have nd := scAllRight.nd
    have hr2 : Room 2 _ := hr.mono (by decide)
    refine ⟨_, pss_cons (ps_for PassesOwn.never rfl (pi_list (pv 2)) (pg_tup rfl (pgs_cons (pg_name (i := 3) nd rfl (Or.inl rfl)) (pgs_cons (pg_name (i := 4) nd rfl (Or.inl rfl)) pgs_nil)))
        (pss_cons (ps_if (pt_not (pt_val (pe_call GR hr (by rfl) gR kR bR .nil pass0 (pa_cons (pv 0) (pa_cons (pv 1) (pa_cons (pv 3) (pa_cons (pv 4) pa_nil))))))) (pss_one (ps_ret pe_bl)) pss_nil)
        (pss_one (ps_for PassesOwn.never rfl (pi_list (pv 2)) (pg_tup rfl (pgs_cons (pg_name (i := 5) nd rfl (Or.inl rfl)) (pgs_cons (pg_name (i := 6) nd rfl (Or.inl rfl)) pgs_nil)))
          (pss_one (ps_if (pt_cmpR op_ne (pe_cmpR (op_eqI (E := E0) F6 hr2 h6 i6 b6 pass0) (pv 3) (pv 5) (nomark _)) (pe_cmpR (op_eqD hr.units) (pv 4) (pv 6) (nomark _)) (nomark _)) (pss_one (ps_ret pe_bl)) pss_nil))))))
      (pss_one (ps_ret pe_bl)), ?_⟩
    exact AT_run (D := { nx := fun _ H' => Q .non H', rt := Q }) T.ZG he hs pu ok k
end
end Gk
/-! ### k03: the other editions, their readings -/
namespace Gk
open PySem PySem.W PySem.Spec PyProof.Rows L2 NdefX
abbrev sEdsRight : Stmt := (top 37)
abbrev nEdsRight : List Str := ["edition", "model", "rows", "same", "near", "turned", "name", "wider", "none", "one"]
theorem scEdsRight : FnScope nEdsRight ["edition", "model"] (defScope sEdsRight) := ⟨rfl, rfl, rfl, by decide +kernel, rfl, by decide +kernel, by decide +kernel⟩
abbrev rListOf3 (K : Frag) : List V → Hp → VK → Prop := fun xs H Q => ∃ p ys, xs = [.ref p] ∧ (SqL K H p ys ∨ SqT K H p ys) ∧ ∀ l, H l = none → Q (.ref l) (upd H l (.lst ys))
abbrev rDictC : List V → Hp → VK → Prop := fun xs H Q => ∃ (a : Addr) (kvs : List (Key × V)), xs = [.ref a] ∧ Rd H a (.dK kvs) ∧ ∀ p, H p = none → Q (.ref p) (upd H p (.dK kvs))
abbrev rKeysD : List V → Hp → VK → Prop := fun xs H Q => ∃ (a : Addr) (kvs : List (Key × V)), xs = [.ref a] ∧ Rd H a (.dK kvs) ∧ ∀ p, H p = none → Q (.ref p) (upd H p (.lst (kvs.map fun kv => kV kv.1)))
abbrev tMo (i : Int) (K : Frag) : TE := tOp (rIxT K) (tVar 1) (tC (.int i))
abbrev tNeg1 : TE := tUn (rU fun i => .int (-i)) (tC (.int 1))
abbrev tEvE (K : Frag) (CE CG : Addr) (te : TE) : TE := tMeth CE "everything" (spEdAll K CE CG) [] E0 te tNil
abbrev tEv (K : Frag) (CE CG : Addr) (i : Nat) : TE := tEvE K CE CG (tVar i)
abbrev tFst (K : Frag) (CE CM : Addr) (i : Nat) : TE := tOp (rSubI CE (spEdGet CE CM) E0) (tVar i) (tOp (rIxT K) (tOp (rIxL K) (tVar 2) (tC (.int 0))) (tC (.int 0)))
abbrev tIn (K : Frag) (CE CG CM : Addr) (ta tb : TE) : TE := tOp (rInI CG (spGrHas K CE CG CM) E0) ta tb
abbrev tNotIn (K : Frag) (CE CG CM : Addr) (ta tb : TE) : TE := tOp (rNotInI CG (spGrHas K CE CG CM) E0) ta tb
abbrev retF3 : TS := tRet (tC (.bl false))
abbrev B1 (K : Frag) (CE : Addr) : TS := tPar 2 3 (tCons (tCB (rListOf3 K) (tCons (tMo 0 K) tNil)) (tCons (tCall (spLawEd CE) [] E0 (tCons (tVar 1) tNil)) tNil))
abbrev B2 (K : Frag) (CE : Addr) : TS := tAsg (tMake CE (spEdInit K CE) [] E0 (tCons (tOp rCat (tSl (rSlL K) (tVar 2) tNoPart (tPart tNeg1)) (tLst (tCons (tOp (rCatT K) (tSl (rSlT K) (tOp (rIxL K) (tVar 2) tNeg1) tNoPart (tPart (tC (.int 2)))) (tTup (tCons (tC (.int 4)) tNil))) tNil))) (tCons (tCB rDictC (tCons (tMo 1 K) tNil)) tNil))) (gName 4)
abbrev B3 (K : Frag) (CE CG : Addr) : TS := tIfS (tOr (tNot (tTest (tGeq K CE CG (tEv K CE CG 0) (tEv K CE CG 3)))) (tTest (tGeq K CE CG (tEv K CE CG 0) (tEv K CE CG 4)))) retF3 tNext
abbrev B4 (K : Frag) (CE CG CM : Addr) : TS := tIfS (tOr (tTest (tGeq K CE CG (tEv K CE CG 0) (tProp CE (spEdNames CE) [] E0 (tVar 0)))) (tTest (tNotIn K CE CG CM (tFst K CE CM 0) (tEv K CE CG 3)))) retF3 tNext
abbrev B5 (K : Frag) (CE CG CM : Addr) : TS := tIfS (tTest (tIn K CE CG CM (tFst K CE CM 4) (tEv K CE CG 0))) retF3 tNext
abbrev B6 (K : Frag) (CE : Addr) : TS := tAsg (tMake CE (spEdInit K CE) [] E0 (tCons (tVar 2) (tCons (tCB (rDictP K) (tCons (tLc (iList K (tRevL K (tCB rKeysD (tCons (tMo 1 K) tNil)))) (gName 6) tYes (tTup (tCons (tVar 6) (tCons (tDGet (tMo 1 K) (tVar 6)) tNil))) [6]) tNil)) tNil))) (gName 5)
abbrev B7 (K : Frag) (CE : Addr) : TS := tAsg (tMake CE (spEdInit K CE) [] E0 (tCons (tVar 2) (tCons (tCB (rDictP K) (tCons (tOp rCat (tSl (rSlL K) (LiI.tListItems (tMo 1 K)) tNoPart (tPart (tC (.int 2)))) (tLst (tCons (tTup (tCons (tC (.str "extra")) (tCons (tLst tNil) tNil))) tNil))) tNil)) tNil))) (gName 7)
abbrev B8 (K : Frag) (CE CG CM : Addr) : TS := tIfS (tOr (tNot (tTest (tGeq K CE CG (tEv K CE CG 0) (tEv K CE CG 5)))) (tTest (tNotIn K CE CG CM (tFst K CE CM 5) (tEv K CE CG 0)))) retF3 tNext
abbrev B9 (K : Frag) (CE CG : Addr) : TS := tAsg (tLc (iList K (tLst (tCons (tVar 0) (tCons (tVar 3) (tCons (tVar 4) (tCons (tVar 7) (tCons (tVar 5) tNil))))))) (gName 9) tYes (tOp (rBinI CG (spGrOp K CE CG subP) E0) (tEv K CE CG 9) (tEv K CE CG 9)) [9]) (gName 8)
abbrev B10 (K : Frag) (CE CG : Addr) : TS := tIfS (tTest (tOp (rNeD K) (tLc (iList K (tVar 8)) (gName 9) tYes (tGeq K CE CG (tOp (rIxL K) (tVar 8) (tC (.int 0))) (tVar 9)) [9]) (tLst (tCons (tC (.bl true)) (tCons (tC (.bl true)) (tCons (tC (.bl false)) (tCons (tC (.bl false)) (tCons (tC (.bl true)) tNil)))))))) retF3 tNext
section
variable {K : Frag} {CE CG CM : Addr} {D : Ends} {H : Hp} {x g1 g2 x1 x2 q m : Addr} {σ : L2.St} {rows1 r1 r2 : List Row} {gs q1 q2 : List (Str × List Int)} {n1 n2 : List Int} {Q : VK}
theorem ev_readE {te : TE} (e : ∀ Q' : VK, Q' (.ref x) H → te σ H Q') (he : EdAt CE H x rows1 gs) (l16 : rows1.length ≤ 16) (k : ∀ H' q, Same H H' → H q = none → GrAt K CG H' q x (rangeI rows1.length) → Q (.ref q) H') : tEvE K CE CG te σ H Q := by
  obtain ⟨dx, _, _, _, _, h1, _⟩ := id he.ob
  exact e _ ⟨x, dx, _, rfl, h1, edFs_other (by decide +kernel), x, rows1, gs, rfl, he, l16, k⟩
theorem ev_read {i : Nat} (e : σ[i]? = some (some (.ref x))) (he : EdAt CE H x rows1 gs) (l16 : rows1.length ≤ 16) (k : ∀ H' q, Same H H' → H q = none → GrAt K CG H' q x (rangeI rows1.length) → Q (.ref q) H') : tEv K CE CG i σ H Q :=
  ev_readE (fun _ h => ⟨_, e, h⟩) he l16 k
theorem fst_read {i : Nat} {l t al : Addr} {us : List V} {nm : Str} {num : Int} {r : Row} (e : σ[i]? = some (some (.ref x))) (e2 : σ[2]? = some (some (.ref l))) (hl : H l = some (.lst us)) (hu : us[0]? = some (.ref t)) (ht : H t = some (.tup [.str nm, .ref al, .int num])) (he : EdAt CE H x rows1 gs) (nd : (wordsOf rows1).Nodup) (h0 : rows1[0]? = some r) (hn : r.name = nm)
    (k : ∀ H' q, Same H H' → H q = none → MemAt CM H' q x r 0 → Q (.ref q) H') : tFst K CE CM i σ H Q := by
  obtain ⟨dx, _, _, _, _, h1, _⟩ := id he.ob
  exact ⟨_, e, _, e2, l, us, _, _, rfl, rfl, SqL.of hl, at_of (j := 0) rfl hu, t, _, _, _, rfl, rfl, SqT.of ht, rfl, x, dx, _, rfl, h1, x, nm, rows1, gs, 0, r, rfl, he, nd, h0, by rw [hn]; exact List.mem_cons_self, k⟩
theorem gne_read (ZG : ClsQ K CG) (h1 : GrAt K CG H g1 x1 n1) (h2 : GrAt K CG H g2 x2 n2) (e1 : EdAt CE H x1 r1 q1) (e2 : EdAt CE H x2 r2 q2) (l1 : EdLay r1) (l2 : EdLay r2)
    (h : Q (.bl (!(decide (n1 = n2) && eqEd r1 q1 r2 q2))) H) : rNeI K CG (spGrEq K CE CG) E0 (.ref g1) (.ref g2) H Q := by
  obtain ⟨d1, t1, k1, _⟩ := id h1
  obtain ⟨d2, t2, k2, _⟩ := id h2
  refine ⟨g1, d1, _, _, rfl, k1, ZG.ty k2, ClsQ.self, g1, x1, .ref g2, n1, r1, q1, rfl, h1, e1, l1, .inl ⟨g2, x2, n2, r2, q2, rfl, h2, e2, l2, _, rfl, ?_⟩⟩
  rw [eqv_intsT]
  exact h
theorem geq_other {y : V} {T : String} (ZG : ClsQ K CG) (h1 : GrAt K CG H g1 x1 n1) (e1 : EdAt CE H x1 r1 q1) (l1 : EdLay r1) (hT : T ∈ kinds7) (ty : TyX K H y (.type T)) (h : Q (.bl false) H) : rEqI K CG (spGrEq K CE CG) E0 (.ref g1) y H Q := by
  obtain ⟨d1, t1, k1, _⟩ := id h1
  exact ⟨g1, d1, _, _, rfl, k1, ty, ZG.nf T hT, g1, x1, y, n1, r1, q1, rfl, h1, e1, l1, .inr ⟨_, ty, ZG.oth T hT, _, rfl, h⟩⟩
theorem in_read {r : Row} {pl : Nat} (hm : MemAt CM H m x2 r pl) (h1 : GrAt K CG H g1 x1 n1) (e2 : EdAt CE H x2 r2 q2) (e1 : EdAt CE H x1 r1 q1) (l2 : EdLay r2) (l1 : EdLay r1) (h : Q (.bl (decide ((pl : Int) ∈ n1) && eqEd r2 q2 r1 q1)) H) : rInI CG (spGrHas K CE CG CM) E0 (.ref m) (.ref g1) H Q := by
  obtain ⟨d1, t1, k1, _⟩ := id h1
  exact ⟨g1, d1, _, rfl, k1, g1, x1, .ref m, n1, r1, q1, rfl, h1, e1, l1, .inl ⟨m, x2, r, pl, r2, q2, rfl, hm, e2, l2, _, rfl, h⟩⟩
theorem notin_read {r : Row} {pl : Nat} (hm : MemAt CM H m x2 r pl) (h1 : GrAt K CG H g1 x1 n1) (e2 : EdAt CE H x2 r2 q2) (e1 : EdAt CE H x1 r1 q1) (l2 : EdLay r2) (l1 : EdLay r1) (h : Q (.bl (!(decide ((pl : Int) ∈ n1) && eqEd r2 q2 r1 q1))) H) : rNotInI CG (spGrHas K CE CG CM) E0 (.ref m) (.ref g1) H Q := by
  obtain ⟨d1, t1, k1, _⟩ := id h1
  exact ⟨g1, d1, _, rfl, k1, g1, x1, .ref m, n1, r1, q1, rfl, h1, e1, l1, .inl ⟨m, x2, r, pl, r2, q2, rfl, hm, e2, l2, _, rfl, h⟩⟩
theorem zero_range {n : Nat} (h : 1 ≤ n) : decide (((0 : Nat) : Int) ∈ rangeI n) = true := by
  refine decide_eq_true ?_
  unfold rangeI
  exact List.mem_map.mpr ⟨0, List.mem_range.mpr h, rfl⟩
theorem sub_self (n : Nat) (a : List Int) : subP n a a = [] := by
  unfold subP
  rw [List.filter_eq_nil_iff]
  intro z hz
  simp [hz]
/-- an edition of the law at its slot -/
structure EdS (CE : Addr) (H : Hp) (x : Addr) (rows1 : List Row) (gs : List (Str × List Int)) : Prop where
  ed : EdAt CE H x rows1 gs
  lay : EdLay rows1
  nd : (wordsOf rows1).Nodup
  l1 : 1 ≤ rows1.length
  l16 : rows1.length ≤ 16
theorem EdS.later {H' : Hp} (h : EdS CE H x rows1 gs) (s : Same H H') : EdS CE H' x rows1 gs := ⟨h.ed.later s, h.lay, h.nd, h.l1, h.l16⟩
theorem B3_run {x0 x3 x4 : Addr} {r0 r3 r4 : List Row} {c0 c3 c4 : List (Str × List Int)} (ZG : ClsQ K CG) (e0 : σ[0]? = some (some (.ref x0))) (e3 : σ[3]? = some (some (.ref x3))) (e4 : σ[4]? = some (some (.ref x4))) (E0' : EdS CE H x0 r0 c0) (E3 : EdS CE H x3 r3 c3) (E4 : EdS CE H x4 r4 c4)
    (l3 : r3.length = r0.length) (q3 : eqEd r0 c0 r3 c3 = true) (q4 : eqEd r0 c0 r4 c4 = false) (k : ∀ H', Same H H' → D.nx σ H') : B3 K CE CG D σ H := by
  refine rd_if (rd_or (rd_not (rd_test (rd_op (ev_read e0 E0'.ed E0'.l16 fun Ha g sa _ ga => ev_read e3 (E3.ed.later sa) E3.l16 fun Hb h sb _ gb => ?_)))))
  have sB := sa.trans sb
  refine geq_read ZG (ga.later sb) gb (E0'.ed.later sB) (E3.ed.later sB) E0'.lay E3.lay ⟨_, rfl, ?_⟩
  rw [q3, l3, decide_eq_true rfl]
  refine ite_no rfl (rd_test (rd_op (ev_read e0 (E0'.ed.later sB) E0'.l16 fun Hc g' sc _ gc => ev_read e4 (E4.ed.later (sB.trans sc)) E4.l16 fun Hd h' sd _ gd => ?_)))
  have sD := (sB.trans sc).trans sd
  refine geq_read ZG (gc.later sd) gd (E0'.ed.later sD) (E4.ed.later sD) E0'.lay E4.lay ⟨_, rfl, ?_⟩
  rw [q4, Bool.and_false]
  exact ite_no rfl (k _ sD)
theorem B4_run {x0 x3 l t al : Addr} {r0 r3 : List Row} {c0 c3 : List (Str × List Int)} {us : List V} {nm : Str} {num : Int} {r : Row} (ZG : ClsQ K CG) (e0 : σ[0]? = some (some (.ref x0))) (e3 : σ[3]? = some (some (.ref x3))) (e2 : σ[2]? = some (some (.ref l))) (hl : H l = some (.lst us)) (hu : us[0]? = some (.ref t)) (ht : H t = some (.tup [.str nm, .ref al, .int num]))
    (E0' : EdS CE H x0 r0 c0) (E3 : EdS CE H x3 r3 c3) (h0 : r0[0]? = some r) (hn : r.name = nm) (q : eqEd r0 c0 r3 c3 = true) (k : ∀ H', Same H H' → D.nx σ H') : B4 K CE CG CM D σ H := by
  refine rd_if (rd_or (rd_test (rd_op (ev_read e0 E0'.ed E0'.l16 fun Ha g sa _ ga => ?_))))
  obtain ⟨dx, rr, _, _, _, h1, h2, _⟩ := id (E0'.ed.later sa).ob
  refine ⟨_, e0, x0, dx, _, rfl, h1, x0, dx, rr, _, r0, rfl, h1, edFs_rows, h2, E0'.l16, fun Hb n sb _ cn => ?_⟩
  have sB := sa.trans sb
  refine geq_other (T := "list") ZG (ga.later sb) (E0'.ed.later sB) E0'.lay (by decide) (.base (.lst cn)) ⟨_, rfl, ?_⟩
  refine ite_no rfl (rd_test (rd_op (fst_read e0 e2 (sB _ _ hl) hu (sB _ _ ht) (E0'.ed.later sB) E0'.nd h0 hn fun Hc m sc _ mc => ev_read e3 (E3.ed.later (sB.trans sc)) E3.l16 fun Hd g' sd _ gd => ?_)))
  have sD := (sB.trans sc).trans sd
  refine notin_read (mc.later sd) gd (E0'.ed.later sD) (E3.ed.later sD) E0'.lay E3.lay ⟨_, rfl, ?_⟩
  rw [zero_range E3.l1, q]
  exact ite_no rfl (k _ sD)
theorem B5_run {x0 x4 l t al : Addr} {r0 r4 : List Row} {c0 c4 : List (Str × List Int)} {us : List V} {nm : Str} {num : Int} {r : Row} (e0 : σ[0]? = some (some (.ref x0))) (e4 : σ[4]? = some (some (.ref x4))) (e2 : σ[2]? = some (some (.ref l))) (hl : H l = some (.lst us)) (hu : us[0]? = some (.ref t)) (ht : H t = some (.tup [.str nm, .ref al, .int num]))
    (E0' : EdS CE H x0 r0 c0) (E4 : EdS CE H x4 r4 c4) (h0 : r4[0]? = some r) (hn : r.name = nm) (q : eqEd r4 c4 r0 c0 = false) (k : ∀ H', Same H H' → D.nx σ H') : B5 K CE CG CM D σ H := by
  refine rd_if (rd_test (rd_op (fst_read e4 e2 hl hu ht E4.ed E4.nd h0 hn fun Hc m sc _ mc => ev_read e0 (E0'.ed.later sc) E0'.l16 fun Hd g' sd _ gd => ?_)))
  have sD := sc.trans sd
  refine in_read (mc.later sd) gd (E4.ed.later sD) (E0'.ed.later sD) E4.lay E0'.lay ⟨_, rfl, ?_⟩
  rw [q, Bool.and_false]
  exact ite_no rfl (k _ sD)
theorem B8_run {x0 x5 l t al : Addr} {r0 r5 : List Row} {c0 c5 : List (Str × List Int)} {us : List V} {nm : Str} {num : Int} {r : Row} (ZG : ClsQ K CG) (e0 : σ[0]? = some (some (.ref x0))) (e5 : σ[5]? = some (some (.ref x5))) (e2 : σ[2]? = some (some (.ref l))) (hl : H l = some (.lst us)) (hu : us[0]? = some (.ref t)) (ht : H t = some (.tup [.str nm, .ref al, .int num]))
    (E0' : EdS CE H x0 r0 c0) (E5 : EdS CE H x5 r5 c5) (h0 : r5[0]? = some r) (hn : r.name = nm) (l5 : r5.length = r0.length) (q : eqEd r0 c0 r5 c5 = true) (q' : eqEd r5 c5 r0 c0 = true) (k : ∀ H', Same H H' → D.nx σ H') : B8 K CE CG CM D σ H := by
  refine rd_if (rd_or (rd_not (rd_test (rd_op (ev_read e0 E0'.ed E0'.l16 fun Ha g sa _ ga => ev_read e5 (E5.ed.later sa) E5.l16 fun Hb h sb _ gb => ?_)))))
  have sB := sa.trans sb
  refine geq_read ZG (ga.later sb) gb (E0'.ed.later sB) (E5.ed.later sB) E0'.lay E5.lay ⟨_, rfl, ?_⟩
  rw [q, l5, decide_eq_true rfl]
  refine ite_no rfl (rd_test (rd_op (fst_read e5 e2 (sB _ _ hl) hu (sB _ _ ht) (E5.ed.later sB) E5.nd h0 hn fun Hc m sc _ mc => ev_read e0 (E0'.ed.later (sB.trans sc)) E0'.l16 fun Hd g' sd _ gd => ?_)))
  have sD := (sB.trans sc).trans sd
  refine notin_read (mc.later sd) gd (E5.ed.later sD) (E0'.ed.later sD) E5.lay E0'.lay ⟨_, rfl, ?_⟩
  rw [zero_range E0'.l1, q']
  exact ite_no rfl (k _ sD)
end
end Gk
/-! ### k03: the other editions are made -/
namespace Gk
open PySem PySem.W PySem.Spec PyProof.Rows L2 NdefX
theorem at_last {us : List V} {v : V} (l1 : 1 ≤ us.length) (h : us[us.length - 1]? = some v) : atI us (-1) = some v := by
  unfold atI ixN
  rw [if_neg (by omega), if_pos (by omega)]
  have e : (-1 + (us.length : Int)).toNat = us.length - 1 := by omega
  rw [e]
  exact h
theorem cut_last (us : List V) : cutV us none (some (-1)) = us.take (us.length - 1) := by
  have e : HT.sIx us.length us.length (some (-1)) = us.length - 1 := by
    show (if (-1 : Int) < 0 then (-1 + (us.length : Int)).toNat else min (-1 : Int).toNat us.length) = _
    rw [if_pos (by decide)]
    omega
  unfold cutV
  rw [HT.sIx_none, e]
  rfl
theorem cut_two {us : List V} : cutV us none (some 2) = us.take 2 := by
  have e : HT.sIx us.length us.length (some 2) = min 2 us.length := HT.sIx_nat _ _ 2
  unfold cutV
  rw [HT.sIx_none, e]
  show (us.drop 0).take (min 2 us.length - 0) = _
  rw [List.drop_zero, Nat.sub_zero]
  by_cases h : 2 ≤ us.length
  · rw [Nat.min_eq_left h]
  · rw [Nat.min_eq_right (by omega), List.take_length, List.take_of_length_le (by omega)]
theorem set_last {α : Type} {l : List α} {v : α} (l1 : 1 ≤ l.length) : l.set (l.length - 1) v = l.take (l.length - 1) ++ [v] := by
  rw [List.set_eq_take_append_cons_drop, if_pos (by omega)]
  have e : l.length - 1 + 1 = l.length := by omega
  rw [e, List.drop_length]
theorem paired_cut {α β : Type} {F : α → β → Prop} (n : Nat) : ∀ {xs : List α} {ys : List β}, Paired F xs ys → ∀ {n : Nat}, Paired F (xs.take n) (ys.take n)
  | _, _, .nil, n => by rw [List.take_nil, List.take_nil]; exact .nil
  | _, _, .cons r t, 0 => .nil
  | _, _, .cons r t, n + 1 => by
    rw [List.take_succ_cons, List.take_succ_cons]
    exact .cons r (paired_cut 0 t)
def extraT : Str := "extra"
theorem extra_sets : extraT ∉ setNames := by decide +kernel
theorem extra_name : nameB extraT = true := by decide +kernel
/-- the sets of the wider edition -/
def wideS (sets : List (Str × List Str)) : List (Str × List Str) := sets.take 2 ++ [(extraT, [])]
theorem wide_keys (sets : List (Str × List Str)) : (wideS sets).map (·.1) = (sets.map (·.1)).take 2 ++ [extraT] := by
  unfold wideS
  rw [List.map_append, List.map_take]
  rfl
theorem wide_nodup {rows : List Row} {sets : List (Str × List Str)} (m : ModelOk rows sets) : ((wideS sets).map (·.1)).Nodup := by
  rw [wide_keys]
  refine List.nodup_append.mpr ⟨m.sets.nd.sublist (List.take_sublist _ _), by simp, fun a ha b hb e => ?_⟩
  obtain rfl := List.mem_singleton.mp hb
  subst e
  obtain ⟨x, hx, e⟩ := List.mem_map.mp ((List.take_sublist _ _).subset ha)
  exact extra_sets (e ▸ m.sets.mem x hx)
theorem wide_good {rows : List Row} {sets : List (Str × List Str)} (m : ModelOk rows sets) (hi : rows.length ≤ 16) : SetsGood (rows.map (·.name)) (wideS sets) := by
  have g := m.good hi
  have k : ∀ x ∈ wideS sets, x ∈ sets ∨ x = (extraT, []) := fun x hx => by
    rcases List.mem_append.mp hx with h | h
    · exact .inl ((List.take_sublist _ _).subset h)
    · exact .inr (List.mem_singleton.mp h)
  refine ⟨?_, wide_nodup m, fun x hx => ?_, fun x hx y hy => ?_, fun x hx => ?_, fun x hx => ?_⟩
  · unfold wideS
    rw [List.length_append, List.length_take, List.length_singleton]
    omega
  · rcases k x hx with h | rfl
    · exact g.nm x h
    · exact extra_name
  · rcases k x hx with h | rfl
    · exact g.sub x h y hy
    · cases hy
  · rcases k x hx with h | rfl
    · exact g.each x h
    · exact List.nodup_nil
  · rcases k x hx with h | rfl
    · exact g.len x h
    · exact Nat.zero_le _
theorem wide_no {rows : List Row} {sets : List (Str × List Str)} {ns ns' : List Str} {r1 r2 : List Row} (m : ModelOk rows sets) : eqEd r1 (groupsOf ns sets) r2 (groupsOf ns' (wideS sets)) = false ∧ eqEd r2 (groupsOf ns' (wideS sets)) r1 (groupsOf ns sets) = false := by
  have h : ¬ extraT ∈ sets.map (·.1) := fun h => by
    obtain ⟨x, hx, e⟩ := List.mem_map.mp h
    exact extra_sets (e ▸ m.sets.mem x hx)
  have h2 : extraT ∈ (wideS sets).map (·.1) := by rw [wide_keys]; simp
  constructor
  · refine Bool.eq_false_iff.mpr fun e => ?_
    unfold eqEd at e
    rw [Bool.and_eq_true] at e
    have k := eqDD_keys (by rw [groups_keys]; exact m.sets.nd) e.2
    rw [groups_keys, groups_keys] at k
    exact h ((k extraT).mpr h2)
  · refine Bool.eq_false_iff.mpr fun e => ?_
    unfold eqEd at e
    rw [Bool.and_eq_true] at e
    have k := eqDD_keys (by rw [groups_keys]; exact wide_nodup m) e.2
    rw [groups_keys, groups_keys] at k
    exact h ((k extraT).mp h2)
section
variable {K : Frag} {CE : Addr} {D : Ends} {H : Hp} {x0 a rw d l : Addr} {us : List V} {rows : List Row} {sets : List (Str × List Str)} {s0 s1 s2 s3 s4 s5 s6 s7 s8 s9 : Option V}
theorem B1_run (M : Mdl H a rw d rows sets) (ok : ModelOk rows sets) (l1 : 1 ≤ rows.length) (l6 : rows.length ≤ 16)
    (k : ∀ H' l us x3 rows3, Same H H' → H' l = some (.lst us) → Paired (RowAt H') us rows → Paired SortedRow rows rows3 → EdAt CE H' x3 rows3 (groupsOf (rows.map (·.name)) sets) → D.nx [s0, some (.ref a), some (.ref l), some (.ref x3), s4, s5, s6, s7, s8, s9] H') :
    B1 K CE D [s0, some (.ref a), s2, s3, s4, s5, s6, s7, s8, s9] H := by
  obtain ⟨us, hus, pu⟩ := M.rows
  refine rd_par (rd_cons (rd_cb (rd_cons (rd_op (rd_var rfl (rd_c ⟨a, _, _, _, rfl, rfl, SqT.of M.tup, rfl, rd_nil ⟨rw, us, rfl, .inl (SqL.of hus), fun l hl => ?_⟩⟩))))))
  have s1 : Same H (upd H l (.lst us)) := (Same.refl H).new hl
  have cl : upd H l (.lst us) l = some (.lst us) := upd_same
  generalize upd H l (.lst us) = H1 at s1 cl
  have M1 := M.later s1
  refine rd_cons (rd_call (rd_cons (rd_var rfl (rd_nil ⟨a, rw, d, rows, sets, rfl, M1.tup, M1.rows, M1.sets, ok.rows l1 l6, ok.good l6, fun H' x rows' s hx ps ea => ?_⟩))))
  refine rd_nil ⟨_, _, rfl, ?_⟩
  exact k H' l us x rows' (s1.trans s) (s _ _ cl) (paired_map (fun _ _ z => RowAt.later z (s1.trans s)) pu) ps ea
theorem B2_run {x : Row} (M : Mdl H a rw d rows sets) (ok : ModelOk rows sets) (l1 : 1 ≤ rows.length) (l6 : rows.length ≤ 16) (hl : H l = some (.lst us)) (pu : Paired (RowAt H) us rows) (hx : rows[rows.length - 1]? = some x)
    (k : ∀ H' x4 rows4, Same H H' → Paired SortedRow (rows.set (rows.length - 1) ⟨x.name, x.al, 4⟩) rows4 → EdAt CE H' x4 rows4 (groupsOf ((rows.set (rows.length - 1) ⟨x.name, x.al, 4⟩).map (·.name)) sets) → D.nx [s0, some (.ref a), some (.ref l), s3, some (.ref x4), s5, s6, s7, s8, s9] H') :
    B2 K CE D [s0, some (.ref a), some (.ref l), s3, s4, s5, s6, s7, s8, s9] H := by
  have lu := paired_len pu
  obtain ⟨v, hv, t, al, rfl, ht, hal⟩ := paired_right pu hx
  rw [← lu] at hv
  have md := (mod_t2 ok hx).1
  refine rd_asg ?_
  unfold tMake
  refine rd_cons (rd_op ?_)
  refine ⟨_, rfl, 1, rfl, -1, rfl, l, us, rfl, SqL.of hl, fun p hp => ?_⟩
  rw [cut_last]
  have q1 : Same H (upd H p (.lst (us.take (us.length - 1)))) := (Same.refl H).new hp
  have c1 : upd H p (.lst (us.take (us.length - 1))) p = some (.lst (us.take (us.length - 1))) := upd_same
  generalize upd H p (.lst (us.take (us.length - 1))) = H1 at q1 c1
  refine rd_lst (rd_cons (rd_op ?_))
  refine ⟨_, rfl, 1, rfl, l, us, _, _, rfl, rfl, SqL.of (q1 _ _ hl), at_last (by omega) hv, 2, rfl, t, _, rfl, SqT.of (q1 _ _ ht), fun z => absurd z.2 (show ¬ HT.sIx 3 3 (some 2) = 3 by decide), fun T2 h2 => ?_⟩
  have q2 : Same H1 (upd H1 T2 (.tup [.str x.name, .ref al])) := (Same.refl H1).new h2
  have c2 : upd H1 T2 (.tup [.str x.name, .ref al]) T2 = some (.tup [.str x.name, .ref al]) := upd_same
  show tTup _ _ (upd H1 T2 (.tup [.str x.name, .ref al])) _
  generalize upd H1 T2 (.tup [.str x.name, .ref al]) = H2 at q2 c2
  refine rd_tup (rd_cons (rd_c (rd_nil ⟨s100 (show 1 ≤ 100 by decide), fun T1 h1 => ?_⟩)))
  have q3 : Same H2 (upd H2 T1 (.tup [.int 4])) := (Same.refl H2).new h1
  have c3 : upd H2 T1 (.tup [.int 4]) T1 = some (.tup [.int 4]) := upd_same
  generalize upd H2 T1 (.tup [.int 4]) = H3 at q3 c3
  refine ⟨T2, T1, _, _, rfl, rfl, SqT.of (q3 _ _ c2), SqT.of c3, by simp, s100 (show 3 ≤ 100 by decide), fun z => (by cases z), fun _ T3 h3 => ?_⟩
  have q4 : Same H3 (upd H3 T3 (.tup [.str x.name, .ref al, .int 4])) := (Same.refl H3).new h3
  have c4 : upd H3 T3 (.tup [.str x.name, .ref al, .int 4]) T3 = some (.tup [.str x.name, .ref al, .int 4]) := upd_same
  show tNil _ (upd H3 T3 (.tup [.str x.name, .ref al, .int 4])) _
  generalize upd H3 T3 (.tup [.str x.name, .ref al, .int 4]) = H4 at q4 c4
  refine rd_nil ⟨s100 (show 1 ≤ 100 by decide), fun p2 hp2 => ?_⟩
  have q5 : Same H4 (upd H4 p2 (.lst [.ref T3])) := (Same.refl H4).new hp2
  have c5 : upd H4 p2 (.lst [.ref T3]) p2 = some (.lst [.ref T3]) := upd_same
  show rCat _ _ (upd H4 p2 (.lst [.ref T3])) _
  generalize upd H4 p2 (.lst [.ref T3]) = H5 at q5 c5
  have q15 := q2.trans (q3.trans (q4.trans q5))
  refine ⟨p, p2, _, _, rfl, rfl, q15 _ _ c1, c5, s100 (by rw [List.length_take]; show _ + 1 ≤ 100; omega), fun m hm => ?_⟩
  have q6 : Same H5 (upd H5 m (.lst (us.take (us.length - 1) ++ [.ref T3]))) := (Same.refl H5).new hm
  have c6 : upd H5 m (.lst (us.take (us.length - 1) ++ [.ref T3])) m = some (.lst (us.take (us.length - 1) ++ [.ref T3])) := upd_same
  show tCons _ _ _ (upd H5 m (.lst (us.take (us.length - 1) ++ [.ref T3]))) _
  generalize upd H5 m (.lst (us.take (us.length - 1) ++ [.ref T3])) = H6 at q6 c6
  have q06 := q1.trans (q15.trans q6)
  have M6 := M.later q06
  obtain ⟨kvs, hd, pk⟩ := M6.sets
  refine rd_cons (rd_cb (rd_cons (rd_op (rd_var rfl (rd_c ⟨a, _, _, _, rfl, rfl, SqT.of M6.tup, rfl, rd_nil ⟨d, kvs, rfl, .inl hd, fun e he => ?_⟩⟩)))))
  have q7 : Same H6 (upd H6 e (.dK kvs)) := (Same.refl H6).new he
  have c7 : upd H6 e (.dK kvs) e = some (.dK kvs) := upd_same
  show tNil _ (upd H6 e (.dK kvs)) _
  generalize upd H6 e (.dK kvs) = H7 at q7 c7
  have q07 := q06.trans q7
  have row4 : RowAt H7 (.ref T3) ⟨x.name, x.al, 4⟩ := ⟨T3, al, rfl, q7 _ _ (q6 _ _ (q5 _ _ c4)), q07 _ _ hal⟩
  have pr : Paired (RowAt H7) (us.take (us.length - 1) ++ [.ref T3]) (rows.set (rows.length - 1) ⟨x.name, x.al, 4⟩) := by
    rw [set_last l1, lu]
    exact paired_more row4 (paired_map (fun _ _ z => RowAt.later z q07) (paired_cut 0 pu))
  have ls : (rows.set (rows.length - 1) ⟨x.name, x.al, 4⟩).length = rows.length := List.length_set
  refine rd_nil ?_
  refine make_run (C := CE) (E := E0) (Q := fun v H1 => gName 4 v _ H1 D.nx) ⟨_, .inl (SqL.of (q7 _ _ c6)), paired_map (fun _ _ z => RowAt.k z) pr⟩ (md.rows (by omega) (by omega)) (.inr ⟨e, kvs, rfl, c7, paired_map (fun kv z t => by obtain ⟨e1, t1, e2, h1⟩ := t; exact ⟨e1, t1, e2, .inl (SqL.of (q7 _ _ h1))⟩) pk, md.good (by omega)⟩) fun H' x4 rows4 q8 hx4 ps ea => rd_gn ?_
  exact k H' x4 rows4 (q07.trans q8) ps ea
end
end Gk
/-! ### k03: editions told in another sequence and wider, empty sets, and all of _law_editions_right -/
namespace Gk
open PySem PySem.W PySem.Spec PyProof.Rows L2 NdefX
theorem GrAt.put {K : Frag} {C p : Addr} {H : Hp} {x e : Addr} {ns : List Int} {zs ys : List V} (h : GrAt K C H x e ns) (hp : H p = some (.lst zs)) : GrAt K C (upd H p (.lst ys)) x e ns := by
  obtain ⟨dx, t, h1, h2⟩ := h
  refine ⟨dx, t, by rw [upd_ne (ne_of h1 hp fun z => by cases z)]; exact h1, ?_⟩
  rcases h2 with (h | ⟨u, h⟩) | h
  · exact .inl (.inl (by rw [upd_ne (ne_of h hp fun z => by cases z)]; exact h))
  · exact .inl (.inr ⟨u, by rw [upd_ne (ne_of h hp fun z => by cases z)]; exact h⟩)
  · exact .inr h
def bs5 : List Bool := [true, true, false, false, true]
theorem bs5_shaped : SeqAt.shaped (.list (bs5.map .bool)) = true := by decide +kernel
theorem bs5_refl : PyData.eqv (.list (bs5.map .bool)) (.list (bs5.map .bool)) = true := SeqAt.eqv_refl _ (SeqAt.canLay_of_shaped bs5_shaped)
theorem dp_bools {K : Frag} {H : Hp} : ∀ bs : List Bool, DpAll K H (bs.map V.bl) (bs.map PyData.bool)
  | [] => .nil
  | x :: bs => .cons (.bl x) (dp_bools bs)
abbrev B11 (K : Frag) (CE CG CM : Addr) : TS := tRet (tAndV (tOp (rNeI K CG (spGrEq K CE CG) E0) (tEv K CE CG 0) (tEv K CE CG 7)) (tNotIn K CE CG CM (tFst K CE CM 7) (tEv K CE CG 0)))
section
variable {K : Frag} {CE CG CM : Addr} {D : Ends} {H : Hp} {a rw d l : Addr} {us : List V} {rows : List Row} {sets : List (Str × List Str)} {s0 s1 s2 s3 s4 s5 s6 s7 s8 s9 : Option V}
theorem B6_run (M : Mdl H a rw d rows sets) (ok : ModelOk rows sets) (l1 : 1 ≤ rows.length) (l6 : rows.length ≤ 16) (hl : H l = some (.lst us)) (pu : Paired (RowAt H) us rows)
    (k : ∀ H' x5 rows5, Same H H' → Paired SortedRow rows rows5 → EdAt CE H' x5 rows5 (groupsOf (rows.map (·.name)) sets.reverse) → D.nx [s0, some (.ref a), some (.ref l), s3, s4, some (.ref x5), s6, s7, s8, s9] H') :
    B6 K CE D [s0, some (.ref a), some (.ref l), s3, s4, s5, s6, s7, s8, s9] H := by
  obtain ⟨kvs, hd, pk⟩ := M.sets
  have lk := paired_len pk
  have l3 := (ok.good l6).few
  refine rd_asg ?_
  unfold tMake
  refine rd_cons (rd_var rfl (rd_cons (rd_cb (rd_cons ?_))))
  unfold tLc iList tRevL
  refine rd_cb (rd_cons (rd_op (rd_var rfl (rd_c ⟨a, _, _, _, rfl, rfl, SqT.of M.tup, rfl, rd_nil ⟨d, kvs, rfl, .inl hd, fun p hp => ?_⟩⟩))))
  have q1 : Same H (upd H p (.lst (kvs.map fun kv => kV kv.1))) := (Same.refl H).new hp
  have c1 : upd H p (.lst (kvs.map fun kv => kV kv.1)) p = some (.lst (kvs.map fun kv => kV kv.1)) := upd_same
  generalize upd H p (.lst (kvs.map fun kv => kV kv.1)) = H1 at q1 c1
  refine ⟨p, _, rfl, SqL.of c1, fun p2 hp2 => ?_⟩
  rw [← List.map_reverse]
  have q2 : Same H1 (upd H1 p2 (.lst (kvs.reverse.map fun kv => kV kv.1))) := (Same.refl H1).new hp2
  have c2 : upd H1 p2 (.lst (kvs.reverse.map fun kv => kV kv.1)) p2 = some (.lst (kvs.reverse.map fun kv => kV kv.1)) := upd_same
  generalize upd H1 p2 (.lst (kvs.reverse.map fun kv => kV kv.1)) = H2 at q2 c2
  have qA := q1.trans q2
  have M2 := M.later qA
  have hd2 := qA _ _ hd
  have pk2 := paired_map (fun _ _ z => SetKV.later z qA) pk
  have pr2 := paired_rev pk2
  refine ⟨p2, rfl, ⟨_, SqL.of c2⟩, fun LD hLD => ?_⟩
  refine lc_list (K := K) (a := p2) (xs := kvs.reverse.map fun kv => kV kv.1) (fun i H' => ∃ ps kvs', Same H2 H' ∧ H' LD = some (.lst (ps.map V.ref)) ∧ Paired (fun p kv => SqT K H' p [kV kv.1, kv.2]) ps kvs' ∧ Paired (SetKV H2) kvs' (sets.reverse.take i)) ⟨[], [], (Same.refl H2).new hLD, upd_same, .nil, .nil⟩ (fun i H' _ z => by
    obtain ⟨ps, kvs', s, _⟩ := z
    exact SqL.of (s _ _ c2)) ?_ ?_
  · rintro i v H7 hi ⟨ps, kvs', s7, cD, pp, ps7⟩
    obtain ⟨kv, hkv, rfl⟩ : ∃ kv, kvs.reverse[i]? = some kv ∧ v = kV kv.1 := by
      rw [List.getElem?_map] at hi
      cases e : kvs.reverse[i]? with
      | none => rw [e] at hi; cases hi
      | some n => rw [e] at hi; exact ⟨n, rfl, (Option.some.inj hi).symm⟩
    obtain ⟨y, hy, ek, lz, ev, hz⟩ := paired_left pr2 hkv
    obtain ⟨li, hv, hli⟩ := sets_val pk2 ok.sets.nd y (List.mem_reverse.mp (List.mem_of_getElem? hy))
    have il : i < sets.length := by
      have := (List.getElem?_eq_some_iff.mp hy).1
      rwa [List.length_reverse] at this
    have g : DGet H7 d (.str y.1) (some (.ref li)) := by
      have := DGet.k (k := .inr y.1) (s7 _ _ hd2)
      rw [hv] at this
      exact this
    rw [ek]
    refine rd_gn ⟨rfl, rd_yes ?_⟩
    refine rd_tup (rd_cons (rd_var rfl (rd_cons ⟨_, rfl, a, _, _, _, rfl, rfl, SqT.of (s7 _ _ M2.tup), rfl, _, rfl, d, _, rfl, g, rd_nil ⟨s100 (show 2 ≤ 100 by decide), fun T hT => ?_⟩⟩)))
    have s8 : Same H7 (upd H7 T (.tup [kV (Sum.inr y.1), .ref li])) := (Same.refl H7).new hT
    have c8 : upd H7 T (.tup [kV (Sum.inr y.1), .ref li]) T = some (.tup [kV (Sum.inr y.1), .ref li]) := upd_same
    have cD8 := s8 _ _ cD
    show ∃ acc, (upd H7 T (.tup [kV (Sum.inr y.1), .ref li])) LD = _ ∧ _
    generalize upd H7 T (.tup [kV (Sum.inr y.1), .ref li]) = H8 at s8 c8 cD8
    have sA := s7.trans s8
    have pp8 : Paired (fun p kv => SqT K H8 p [kV kv.1, kv.2]) ps kvs' := paired_map (fun p kv z => s8.sqT z) pp
    have lp : ps.length ≤ 3 := by
      have h1 := paired_len pp
      have h2 := paired_len ps7
      rw [List.length_take, List.length_reverse] at h2
      omega
    refine ⟨_, cD8, by rw [List.length_map]; exact Nat.lt_of_le_of_lt lp (by decide), ps ++ [T], kvs' ++ [(.inr y.1, .ref li)], sA.mut hLD, by rw [upd_same, List.map_append]; rfl, ?_, ?_⟩
    · refine paired_more ?_ (paired_map (fun p kv z => ?_) pp8)
      · refine SqT.of ?_
        rw [upd_ne (ne_of c8 cD8 fun z => by cases z), c8]
      · rcases z with (h | ⟨u, h⟩) | h
        · exact .inl (.inl (by rw [upd_ne (ne_of h cD8 fun z => by cases z)]; exact h))
        · exact .inl (.inr ⟨u, by rw [upd_ne (ne_of h cD8 fun z => by cases z)]; exact h⟩)
        · exact .inr h
    · rw [List.take_add_one, hy]
      exact paired_more ⟨rfl, li, rfl, hli⟩ ps7
  · rintro H7 ⟨ps, kvs', s7, cD, pp, ps7⟩
    have lr : (kvs.reverse.map fun kv => kV kv.1).length = sets.reverse.length := by rw [List.length_map, List.length_reverse, List.length_reverse, lk]
    rw [lr, List.take_length] at ps7
    refine rd_nil ⟨LD, ps, kvs', rfl, SqL.of cD, pp, fun e' he' => ?_⟩
    have pr : sets.reverse.Perm sets := List.reverse_perm _
    have nk : ((([] : List (Key × V)) ++ kvs').map (·.1)).Nodup := by
      rw [List.nil_append, sets_keys ps7]
      exact nodup_inr ((pr.map (·.1)).nodup_iff.mpr ok.sets.nd)
    rw [mergeK_new nk, List.nil_append]
    have q8 : Same H7 (upd H7 e' (.dK kvs')) := (Same.refl H7).new he'
    have c8 : upd H7 e' (.dK kvs') e' = some (.dK kvs') := upd_same
    show tNil _ (upd H7 e' (.dK kvs')) _
    generalize upd H7 e' (.dK kvs') = H8 at q8 c8
    have q28 := s7.trans q8
    have q08 := qA.trans q28
    have good : SetsGood (rows.map (·.name)) sets.reverse := by
      have g := ok.good l6
      exact ⟨by rw [List.length_reverse]; exact g.few, (pr.map (·.1)).nodup_iff.mpr g.nd, fun x hx => g.nm x (List.mem_reverse.mp hx), fun x hx => g.sub x (List.mem_reverse.mp hx), fun x hx => g.each x (List.mem_reverse.mp hx), fun x hx => g.len x (List.mem_reverse.mp hx)⟩
    refine rd_nil ?_
    refine make_run (C := CE) (E := E0) (Q := fun v H1 => gName 5 v _ H1 D.nx) ⟨us, .inl (SqL.of (q08 _ _ hl)), paired_map (fun _ _ z => (RowAt.later z q08).k) pu⟩ (ok.rows l1 l6) (.inr ⟨e', kvs', rfl, c8, paired_map (fun kv z t => by obtain ⟨e1, t1, e2, h1⟩ := t; exact ⟨e1, t1, e2, .inl (SqL.of (q28 _ _ h1))⟩) ps7, good⟩) fun H' x5 rows5 q9 hx5 ps ea => rd_gn ?_
    exact k H' x5 rows5 (q08.trans q9) ps ea
theorem B7_run (M : Mdl H a rw d rows sets) (ok : ModelOk rows sets) (l1 : 1 ≤ rows.length) (l6 : rows.length ≤ 16) (hl : H l = some (.lst us)) (pu : Paired (RowAt H) us rows)
    (k : ∀ H' x7 rows7, Same H H' → Paired SortedRow rows rows7 → EdAt CE H' x7 rows7 (groupsOf (rows.map (·.name)) (wideS sets)) → D.nx [s0, some (.ref a), some (.ref l), s3, s4, s5, s6, some (.ref x7), s8, s9] H') :
    B7 K CE D [s0, some (.ref a), some (.ref l), s3, s4, s5, s6, s7, s8, s9] H := by
  obtain ⟨kvs, hd, pk⟩ := M.sets
  have lk := paired_len pk
  have l3 := (ok.good l6).few
  refine rd_asg ?_
  unfold tMake
  refine rd_cons (rd_var rfl (rd_cons (rd_cb (rd_cons (rd_op ?_)))))
  refine ⟨_, rfl, a, _, _, _, rfl, rfl, SqT.of M.tup, rfl, d, kvs, rfl, hd, fun H1 p ts q1 hp nts npt c1 pt => ?_⟩
  refine ⟨2, rfl, p, _, rfl, SqL.of c1, fun p2 hp2 => ?_⟩
  rw [cut_two, ← List.map_take]
  have q1 : Same H H1 := q1
  have q2 : Same H1 (upd H1 p2 (.lst ((ts.take 2).map V.ref))) := (Same.refl H1).new hp2
  have c2 : upd H1 p2 (.lst ((ts.take 2).map V.ref)) p2 = some (.lst ((ts.take 2).map V.ref)) := upd_same
  generalize upd H1 p2 (.lst ((ts.take 2).map V.ref)) = H2 at q2 c2
  refine rd_lst (rd_cons (rd_tup (rd_cons (rd_c (rd_cons (rd_lst (rd_nil ⟨s100 (show 0 ≤ 100 by decide), fun L0 hL0 => ?_⟩)))))))
  have q3 : Same H2 (upd H2 L0 (.lst [])) := (Same.refl H2).new hL0
  have c3 : upd H2 L0 (.lst []) L0 = some (.lst []) := upd_same
  show tNil _ (upd H2 L0 (.lst [])) _
  generalize upd H2 L0 (.lst []) = H3 at q3 c3
  refine rd_nil ⟨s100 (show 2 ≤ 100 by decide), fun T hT => ?_⟩
  have q4 : Same H3 (upd H3 T (.tup [.str "extra", .ref L0])) := (Same.refl H3).new hT
  have c4 : upd H3 T (.tup [.str "extra", .ref L0]) T = some (.tup [.str "extra", .ref L0]) := upd_same
  show tNil _ (upd H3 T (.tup [.str "extra", .ref L0])) _
  generalize upd H3 T (.tup [.str "extra", .ref L0]) = H4 at q4 c4
  refine rd_nil ⟨s100 (show 1 ≤ 100 by decide), fun p3 hp3 => ?_⟩
  have q5 : Same H4 (upd H4 p3 (.lst [.ref T])) := (Same.refl H4).new hp3
  have c5 : upd H4 p3 (.lst [.ref T]) p3 = some (.lst [.ref T]) := upd_same
  show rCat _ _ (upd H4 p3 (.lst [.ref T])) _
  generalize upd H4 p3 (.lst [.ref T]) = H5 at q5 c5
  have q25 := q3.trans (q4.trans q5)
  have l2 : (ts.take 2).length ≤ 2 := by rw [List.length_take]; omega
  refine ⟨p2, p3, _, _, rfl, rfl, q25 _ _ c2, c5, s100 (by rw [List.length_map]; show _ + 1 ≤ 100; omega), fun m hm => ?_⟩
  have em : (ts.take 2).map V.ref ++ [V.ref T] = (ts.take 2 ++ [T]).map V.ref := by rw [List.map_append]; rfl
  rw [em]
  have q6 : Same H5 (upd H5 m (.lst ((ts.take 2 ++ [T]).map V.ref))) := (Same.refl H5).new hm
  have c6 : upd H5 m (.lst ((ts.take 2 ++ [T]).map V.ref)) m = some (.lst ((ts.take 2 ++ [T]).map V.ref)) := upd_same
  show tNil _ (upd H5 m (.lst ((ts.take 2 ++ [T]).map V.ref))) _
  generalize upd H5 m (.lst ((ts.take 2 ++ [T]).map V.ref)) = H6 at q6 c6
  have q16 := q2.trans (q25.trans q6)
  have q36 := q4.trans (q5.trans q6)
  have pp : Paired (fun p kv => SqT K H6 p [kV kv.1, kv.2]) (ts.take 2 ++ [T]) (kvs.take 2 ++ [((.inr extraT : Key), V.ref L0)]) :=
    paired_more (F := fun (p : Addr) (kv : Key × V) => SqT K H6 p [kV kv.1, kv.2]) (SqT.of (q6 _ _ (q5 _ _ c4))) (paired_map (F := fun (t : Addr) (q : Key × V) => H1 t = some (.tup [kV q.1, q.2])) (fun p kv z => SqT.of (q16 _ _ z)) (paired_cut 0 pt))
  have pw : Paired (SetKV H6) (kvs.take 2 ++ [((.inr extraT : Key), V.ref L0)]) (wideS sets) :=
    paired_more ⟨rfl, L0, rfl, q36 _ _ c3⟩ (paired_map (fun _ _ z => SetKV.later z (q1.trans q16)) (paired_cut 0 pk))
  refine rd_nil ⟨m, _, _, rfl, SqL.of c6, pp, fun e he => ?_⟩
  have nk : ((([] : List (Key × V)) ++ (kvs.take 2 ++ [((.inr extraT : Key), V.ref L0)])).map (·.1)).Nodup := by
    rw [List.nil_append, sets_keys pw]
    exact nodup_inr (wide_nodup ok)
  rw [mergeK_new nk, List.nil_append]
  generalize kvs.take 2 ++ [((.inr extraT : Key), V.ref L0)] = kw at pw
  have q7 : Same H6 (upd H6 e (.dK kw)) := (Same.refl H6).new he
  have c7 : upd H6 e (.dK kw) e = some (.dK kw) := upd_same
  show tNil _ (upd H6 e (.dK kw)) _
  generalize upd H6 e (.dK kw) = H7 at q7 c7
  have q07 := q1.trans (q16.trans q7)
  refine rd_nil ?_
  refine make_run (C := CE) (E := E0) (Q := fun v H1 => gName 7 v _ H1 D.nx) ⟨us, .inl (SqL.of (q07 _ _ hl)), paired_map (fun _ _ z => (RowAt.later z q07).k) pu⟩ (ok.rows l1 l6) (.inr ⟨e, kw, rfl, c7, paired_map (fun kv z t => by obtain ⟨e1, t1, e2, h1⟩ := t; exact ⟨e1, t1, e2, .inl (SqL.of (q7 _ _ h1))⟩) pw, wide_good ok l6⟩) fun H' x7 rows7 q9 hx7 ps ea => rd_gn ?_
  exact k H' x7 rows7 (q07.trans q9) ps ea
theorem B9_run {x0 x3 x4 x7 x5 : Addr} (hE : ∀ x ∈ [x0, x3, x4, x7, x5], ∃ r c, EdS CE H x r c) (k : ∀ H' n ps, Same H H' → H' n = some (.lst (ps.map V.ref)) → Paired (fun p x => GrAt K CG H' p x []) ps [x0, x3, x4, x7, x5] → D.nx [some (.ref x0), s1, s2, some (.ref x3), some (.ref x4), some (.ref x5), s6, some (.ref x7), some (.ref n), s9] H') :
    B9 K CE CG D [some (.ref x0), s1, s2, some (.ref x3), some (.ref x4), some (.ref x5), s6, some (.ref x7), s8, s9] H := by
  refine rd_asg ?_
  unfold tLc iList
  refine rd_lst (rd_cons (rd_var rfl (rd_cons (rd_var rfl (rd_cons (rd_var rfl (rd_cons (rd_var rfl (rd_cons (rd_var rfl (rd_nil ⟨s100 (show 5 ≤ 100 by decide), fun L hL => ?_⟩)))))))))))
  have q1 : Same H (upd H L (.lst [.ref x0, .ref x3, .ref x4, .ref x7, .ref x5])) := (Same.refl H).new hL
  have c1 : upd H L (.lst [.ref x0, .ref x3, .ref x4, .ref x7, .ref x5]) L = some (.lst [.ref x0, .ref x3, .ref x4, .ref x7, .ref x5]) := upd_same
  generalize upd H L (.lst [.ref x0, .ref x3, .ref x4, .ref x7, .ref x5]) = H1 at q1 c1
  refine ⟨L, rfl, ⟨_, SqL.of c1⟩, fun LD hLD => ?_⟩
  refine lc_list (K := K) (a := L) (xs := [x0, x3, x4, x7, x5].map V.ref) (fun i H' => ∃ ps, Same H1 H' ∧ H' LD = some (.lst (ps.map V.ref)) ∧ Paired (fun p x => GrAt K CG H' p x []) ps ([x0, x3, x4, x7, x5].take i)) ⟨[], (Same.refl H1).new hLD, upd_same, .nil⟩ (fun i H' _ z => by
    obtain ⟨ps, s, _⟩ := z
    exact SqL.of (s _ _ c1)) ?_ ?_
  · rintro i v H2 hi ⟨ps, s2, cD, pp⟩
    obtain ⟨x, hx, rfl⟩ : ∃ x, [x0, x3, x4, x7, x5][i]? = some x ∧ v = V.ref x := by
      rw [List.getElem?_map] at hi
      cases e : [x0, x3, x4, x7, x5][i]? with
      | none => rw [e] at hi; cases hi
      | some n => rw [e] at hi; exact ⟨n, rfl, (Option.some.inj hi).symm⟩
    obtain ⟨r, c, Ex⟩ := hE x (List.mem_of_getElem? hx)
    have E2 := Ex.later (q1.trans s2)
    have il : i < 5 := (List.getElem?_eq_some_iff.mp hx).1
    have rl : (rangeI r.length).length ≤ 100 := by
      unfold rangeI
      rw [List.length_map, List.length_range]
      have := Ex.l16
      omega
    refine rd_gn ⟨rfl, rd_yes (rd_op (ev_read rfl E2.ed E2.l16 fun Ha g1 sa _ ga => ev_read rfl (E2.ed.later sa) E2.l16 fun Hb g2 sb _ gb => ?_))⟩
    have ga := ga.later sb
    have sB := sa.trans sb
    obtain ⟨d1, t1, k1, _⟩ := id ga
    obtain ⟨d2, t2, k2, _⟩ := id gb
    refine ⟨g1, g2, d1, d2, _, _, rfl, rfl, k1, k2, g1, g2, x, x, _, _, r, c, rfl, ga, gb, E2.ed.later sB, E2.l16, rl, rl, fun Hc g3 sc _ gc => ⟨g3, rfl, ?_⟩⟩
    rw [sub_self] at gc
    have sC := sB.trans sc
    have cD' := sC _ _ cD
    have lp : ps.length ≤ 5 := by
      have h1 := paired_len pp
      rw [List.length_take] at h1
      have : ([x0, x3, x4, x7, x5] : List Addr).length = 5 := rfl
      omega
    refine ⟨_, cD', by rw [List.length_map]; exact Nat.lt_of_le_of_lt lp (by decide), ps ++ [g3], (s2.trans sC).mut hLD, by rw [upd_same, List.map_append]; rfl, ?_⟩
    rw [List.take_add_one, hx]
    refine paired_more ?_ ?_
    · exact gc.put cD'
    exact (paired_map (F := fun p x => GrAt K CG H2 p x []) (fun _ _ z => (GrAt.later z sC).put cD') pp)
  · rintro H2 ⟨ps, s2, cD, pp⟩
    rw [List.length_map, List.take_length] at pp
    exact rd_gn (k H2 LD ps (q1.trans s2) cD pp)
theorem B10_run {x0 n : Addr} {r0 : List Row} {c0 : List (Str × List Int)} {ps xs : List Addr} {v9 : Option V} (ZG : ClsQ K CG) (E0' : EdS CE H x0 r0 c0) (x00 : xs[0]? = some x0) (l5 : xs.length = 5) (hn : H n = some (.lst (ps.map V.ref))) (pp : Paired (fun p x => GrAt K CG H p x []) ps xs)
    (hE : ∀ (j : Nat) x, xs[j]? = some x → ∃ r c b, EdS CE H x r c ∧ bs5[j]? = some b ∧ eqEd r0 c0 r c = b) (k : ∀ H', Same H H' → D.nx [s0, s1, s2, s3, s4, s5, s6, s7, some (.ref n), v9] H') :
    B10 K CE CG D [s0, s1, s2, s3, s4, s5, s6, s7, some (.ref n), v9] H := by
  have lp := paired_len pp
  refine rd_if (rd_test (rd_op ?_))
  refine ⟨_, rfl, n, rfl, ⟨_, SqL.of hn⟩, fun LD hLD => ?_⟩
  refine lc_list (K := K) (a := n) (xs := ps.map V.ref) (fun i H' => Same H H' ∧ H' LD = some (.lst ((bs5.take i).map V.bl))) ⟨(Same.refl H).new hLD, upd_same⟩ (fun i H' _ z => SqL.of (z.1 _ _ hn)) ?_ ?_
  · rintro i v H2 hi ⟨s2, cD⟩
    obtain ⟨p, hp, rfl⟩ : ∃ x, ps[i]? = some x ∧ v = V.ref x := by
      rw [List.getElem?_map] at hi
      cases e : ps[i]? with
      | none => rw [e] at hi; cases hi
      | some n => rw [e] at hi; exact ⟨n, rfl, (Option.some.inj hi).symm⟩
    obtain ⟨x, hx, gp⟩ := paired_left pp hp
    obtain ⟨p0, hp0, g0⟩ := paired_right pp x00
    obtain ⟨r, c, b, Ex, hb, eb⟩ := hE i x hx
    have il : i < 5 := by rw [← l5]; exact (List.getElem?_eq_some_iff.mp hx).1
    refine rd_gn ⟨rfl, rd_yes (rd_op ?_)⟩
    refine ⟨_, rfl, n, _, _, _, rfl, rfl, SqL.of (s2 _ _ hn), at_of (j := 0) rfl (by rw [List.getElem?_map, hp0]; rfl), ?_⟩
    refine ⟨_, rfl, geq_read ZG (g0.later s2) (gp.later s2) (E0'.ed.later s2) (Ex.ed.later s2) E0'.lay Ex.lay ?_⟩
    rw [decide_eq_true rfl, Bool.true_and, eb]
    refine ⟨_, cD, by rw [List.length_map, List.length_take]; exact Nat.lt_of_le_of_lt (show _ ≤ 5 from Nat.le_trans (Nat.min_le_left _ _) (by omega)) (by decide), s2.mut hLD, ?_⟩
    rw [upd_same, List.take_add_one, hb, List.map_append]
    rfl
  · rintro H2 ⟨s2, cD⟩
    have e5 : (ps.map V.ref).length = bs5.length := by rw [List.length_map, lp, l5]; rfl
    rw [e5, List.take_length] at cD
    refine rd_lst (rd_cons (rd_c (rd_cons (rd_c (rd_cons (rd_c (rd_cons (rd_c (rd_cons (rd_c (rd_nil ⟨s100 (show 5 ≤ 100 by decide), fun L hL => ?_⟩)))))))))))
    have q3 : Same H2 (upd H2 L (.lst (bs5.map V.bl))) := (Same.refl H2).new hL
    have c3 : upd H2 L (.lst (bs5.map V.bl)) L = some (.lst (bs5.map V.bl)) := upd_same
    show rNeD K _ _ (upd H2 L (.lst (bs5.map V.bl))) _
    generalize upd H2 L (.lst (bs5.map V.bl)) = H3 at q3 c3
    refine ⟨_, _, .lst (SqL.of (q3 _ _ cD)) (dp_bools bs5), .lst (SqL.of c3) (dp_bools bs5), bs5_shaped, bs5_shaped, _, rfl, ?_⟩
    rw [bs5_refl]
    exact ite_no rfl (k _ (s2.trans q3))
theorem B11_run {σ : L2.St} {x0 x7 l t al : Addr} {r0 r7 : List Row} {c0 c7 : List (Str × List Int)} {us : List V} {nm : Str} {num : Int} {r : Row} (ZG : ClsQ K CG) (e0 : σ[0]? = some (some (.ref x0))) (e7 : σ[7]? = some (some (.ref x7))) (e2 : σ[2]? = some (some (.ref l))) (hl : H l = some (.lst us)) (hu : us[0]? = some (.ref t)) (ht : H t = some (.tup [.str nm, .ref al, .int num]))
    (E0' : EdS CE H x0 r0 c0) (E7 : EdS CE H x7 r7 c7) (h0 : r7[0]? = some r) (hn : r.name = nm) (q : eqEd r0 c0 r7 c7 = false) (q' : eqEd r7 c7 r0 c0 = false) (k : ∀ H', Same H H' → D.rt (.bl true) H') : B11 K CE CG CM D σ H := by
  refine rd_ret (rd_op (ev_read e0 E0'.ed E0'.l16 fun Ha g sa _ ga => ev_read e7 (E7.ed.later sa) E7.l16 fun Hb h sb _ gb => ?_))
  have sB := sa.trans sb
  refine gne_read ZG (ga.later sb) gb (E0'.ed.later sB) (E7.ed.later sB) E0'.lay E7.lay ⟨_, rfl, ?_⟩
  rw [q, Bool.and_false]
  refine ite_yes rfl (rd_op (fst_read e7 e2 (sB _ _ hl) hu (sB _ _ ht) (E7.ed.later sB) E7.nd h0 hn fun Hc m sc _ mc => ev_read e0 (E0'.ed.later (sB.trans sc)) E0'.l16 fun Hd g' sd _ gd => ?_))
  have sD := (sB.trans sc).trans sd
  refine notin_read (mc.later sd) gd (E7.ed.later sD) (E0'.ed.later sD) E7.lay E0'.lay ?_
  rw [q', Bool.and_false]
  exact k _ sD
end
end Gk
/-! ### k03: _law_editions_right -/
namespace Gk
open PySem PySem.W PySem.Spec PyProof.Rows L2 NdefX
theorem words_sorted {rows rows' : List Row} (h : Paired SortedRow rows rows') : (wordsOf rows').Perm (wordsOf rows) := by
  induction h with
  | nil => exact List.Perm.refl _
  | cons r t ih =>
    rw [words_cons, words_cons, r.nm]
    exact List.Perm.append (r.perm.symm.cons _ |>.symm) ih
theorem head_name {rows rows2 rs : List Row} {y : Row} (p : Paired SortedRow rows2 rs) (e : rows2.map (·.name) = rows.map (·.name)) (h : rows[0]? = some y) : ∃ r, rs[0]? = some r ∧ r.name = y.name := by
  have h1 : (rs.map (·.name))[0]? = some y.name := by
    rw [names_sorted p, e, List.getElem?_map, h]
    rfl
  rw [List.getElem?_map] at h1
  cases z : rs[0]? with
  | none => rw [z] at h1; cases h1
  | some r => rw [z] at h1; exact ⟨r, rfl, Option.some.inj h1⟩
theorem near_names {rows : List Row} {i : Nat} {x : Row} {n : Int} (hx : rows[i]? = some x) : (rows.set i ⟨x.name, x.al, n⟩).map (·.name) = rows.map (·.name) := by
  rw [List.map_set]
  have h : (rows.map (·.name))[i]? = some x.name := by rw [List.getElem?_map, hx]; rfl
  obtain ⟨hl, h2⟩ := List.getElem?_eq_some_iff.mp h
  rw [← h2]
  exact List.set_getElem_self hl
def spEdsRight (CE : Addr) : Sp := fun vs H Q _ => ∃ (x0 a rw d : Addr) (rows rows1 : List Row) (sets : List (Str × List Str)), vs = [.ref x0, .ref a] ∧ Mdl H a rw d rows sets ∧ ModelOk rows sets ∧ 1 ≤ rows.length ∧ rows.length ≤ 6 ∧ Paired SortedRow rows rows1 ∧ EdAt CE H x0 rows1 (groupsOf (rows.map (·.name)) sets) ∧
  ∀ H', Same H H' → Q (.bl true) H'
abbrev edsT (K : Frag) (CE CG CM : Addr) : TS := tSeq (B1 K CE) (tSeq (B2 K CE) (tSeq (B3 K CE CG) (tSeq (B4 K CE CG CM) (tSeq (B5 K CE CG CM) (tSeq (B6 K CE) (tSeq (B7 K CE) (tSeq (B8 K CE CG CM) (tSeq (B9 K CE CG) (tSeq (B10 K CE CG) (B11 K CE CG CM))))))))))
theorem eds_of {CE : Addr} {H : Hp} {x : Addr} {rows rs : List Row} {gs : List (Str × List Int)} {sets : List (Str × List Str)} (md : Mod2 rows sets) (p : Paired SortedRow rows rs) (e : EdAt CE H x rs gs) (l1 : 1 ≤ rows.length) (l6 : rows.length ≤ 16) : EdS CE H x rs gs := by
  have l := paired_len p
  exact ⟨e, md.lay p, (words_sorted p).nodup_iff.mpr md.nd, by omega, by omega⟩
section
variable {K : Frag} {CE CG CM : Addr} {D : Ends} {H : Hp} {x0 a rw d : Addr} {rows rows1 : List Row} {sets : List (Str × List Str)} {s2 s3 s4 s5 s6 s7 s8 s9 : Option V}
theorem eds_run (ZG : ClsQ K CG) (M : Mdl H a rw d rows sets) (ok : ModelOk rows sets) (l1 : 1 ≤ rows.length) (l6 : rows.length ≤ 6) (p1 : Paired SortedRow rows rows1) (e1 : EdAt CE H x0 rows1 (groupsOf (rows.map (·.name)) sets))
    (k : ∀ H', Same H H' → D.rt (.bl true) H') : edsT K CE CG CM D [some (.ref x0), some (.ref a), s2, s3, s4, s5, s6, s7, s8, s9] H := by
  have l16 : rows.length ≤ 16 := by omega
  have two := ok.two
  have E0' := eds_of two p1 e1 l1 l16
  obtain ⟨y, hy⟩ : ∃ y, rows[0]? = some y := ⟨_, List.getElem?_eq_getElem (by omega)⟩
  obtain ⟨x, hx⟩ : ∃ x, rows[rows.length - 1]? = some x := ⟨_, List.getElem?_eq_getElem (by omega)⟩
  obtain ⟨md, df⟩ := mod_t2 ok hx
  have ls : (rows.set (rows.length - 1) ⟨x.name, x.al, 4⟩).length = rows.length := List.length_set
  obtain ⟨r1, h1, n1⟩ := head_name p1 rfl hy
  with_reducible refine rd_seq ?_
  refine B1_run M ok l1 l16 fun H1 l us x3 rows3 q1 hl pu p3 e3 => ?_
  obtain ⟨v, hv, t, al, rfl, ht, hal⟩ := paired_right pu hy
  have M1 := M.later q1
  have E3 := eds_of two p3 e3 l1 l16
  with_reducible refine rd_seq ?_
  refine B2_run M1 ok l1 l16 hl pu hx fun H2 x4 rows4 q2 p4 e4 => ?_
  have E4 := eds_of md p4 e4 (by omega) (by omega)
  have qB := q1.trans q2
  obtain ⟨r4, h4, n4⟩ := head_name p4 (near_names hx) hy
  obtain ⟨d04, d40⟩ := diff_eq (ns := rows.map (·.name)) (ns' := (rows.set (rows.length - 1) ⟨x.name, x.al, 4⟩).map (·.name)) ok md.snd df p1 p4
  have like := like_refl rows
  have s03 := (same_eq E0'.lay ok.sets.nd ok.sets.nd rfl (fun z hz => ⟨z, hz, rfl, fun _ => Iff.rfl⟩) like p1 p3).1
  have l30 : rows3.length = rows1.length := by rw [← paired_len p3, ← paired_len p1]
  with_reducible refine rd_seq ?_
  refine B3_run ZG rfl rfl rfl (E0'.later qB) (E3.later q2) E4 l30 s03 d04 fun H3 q3 => ?_
  have qC := qB.trans q3
  with_reducible refine rd_seq ?_
  refine B4_run ZG rfl rfl rfl (q3 _ _ (q2 _ _ hl)) hv (q3 _ _ (q2 _ _ ht)) (E0'.later qC) (E3.later (q2.trans q3)) h1 n1 s03 fun H4 q4 => ?_
  have q34 := q3.trans q4
  have q24 := q2.trans q34
  with_reducible refine rd_seq ?_
  refine B5_run rfl rfl rfl (q24 _ _ hl) hv (q24 _ _ ht) (E0'.later (q1.trans q24)) (E4.later q34) h4 n4 d40 fun H5 q5 => ?_
  have q25 := q24.trans q5
  have q15 := q1.trans q25
  with_reducible refine rd_seq ?_
  refine B6_run (M.later q15) ok l1 l16 (q25 _ _ hl) (paired_map (fun _ _ z => RowAt.later z q25) pu) fun H6 x5 rows5 q6 p5 e5 => ?_
  have E5 := eds_of two p5 e5 l1 l16
  have pr : sets.reverse.Perm sets := List.reverse_perm _
  obtain ⟨s05, s50⟩ := same_eq E0'.lay ok.sets.nd ((pr.map (·.1)).nodup_iff.mpr ok.sets.nd) List.length_reverse (fun z hz => ⟨z, List.mem_reverse.mp hz, rfl, fun _ => Iff.rfl⟩) like p1 p5
  have q26 := q25.trans q6
  have q16 := q1.trans q26
  obtain ⟨r5, h5, n5⟩ := head_name p5 rfl hy
  with_reducible refine rd_seq ?_
  refine B7_run (M.later q16) ok l1 l16 (q26 _ _ hl) (paired_map (fun _ _ z => RowAt.later z q26) pu) fun H7 x7 rows7 q7 p7 e7 => ?_
  have lay7 := two.lay p7
  have E7 : EdS CE H7 x7 rows7 (groupsOf (rows.map (·.name)) (wideS sets)) := eds_of two p7 e7 l1 l16
  obtain ⟨w07, w70⟩ := wide_no (ns := rows.map (·.name)) (ns' := rows.map (·.name)) (r1 := rows1) (r2 := rows7) ok
  obtain ⟨r7, h7, n7⟩ := head_name p7 rfl hy
  have q27 := q26.trans q7
  have q17 := q1.trans q27
  have l50 : rows5.length = rows1.length := by rw [← paired_len p5, ← paired_len p1]
  with_reducible refine rd_seq ?_
  refine B8_run ZG rfl rfl rfl (q27 _ _ hl) hv (q27 _ _ ht) (E0'.later q17) (E5.later q7) h5 n5 l50 s05 s50 fun H8 q8 => ?_
  have q28 := q27.trans q8
  have q18 := q1.trans q28
  have q78 := q7.trans q8
  have A0 := E0'.later q18
  have A3 := E3.later q28
  have A4 := E4.later ((q34.trans (q5.trans q6)).trans q78)
  have A5 := E5.later q78
  have A7 := E7.later q8
  with_reducible refine rd_seq ?_
  refine B9_run (x0 := x0) (x3 := x3) (x4 := x4) (x7 := x7) (x5 := x5) (fun z hz => ?_) fun H9 n ps q9 hn pp => ?_
  · simp only [List.mem_cons, List.not_mem_nil, or_false] at hz
    rcases hz with rfl | rfl | rfl | rfl | rfl
    · exact ⟨_, _, A0⟩
    · exact ⟨_, _, A3⟩
    · exact ⟨_, _, A4⟩
    · exact ⟨_, _, A7⟩
    · exact ⟨_, _, A5⟩
  have B0 := A0.later q9
  have sl0 : eqEd rows1 (groupsOf (rows.map (·.name)) sets) rows1 (groupsOf (rows.map (·.name)) sets) = true := (same_eq E0'.lay ok.sets.nd ok.sets.nd rfl (fun z hz => ⟨z, hz, rfl, fun _ => Iff.rfl⟩) like p1 p1).1
  with_reducible refine rd_seq ?_
  refine B10_run ZG B0 (xs := [x0, x3, x4, x7, x5]) rfl rfl hn pp (fun j z hz => ?_) fun H10 q10 => ?_
  · have j5 : j < 5 := (List.getElem?_eq_some_iff.mp hz).1
    rcases (show j = 0 ∨ j = 1 ∨ j = 2 ∨ j = 3 ∨ j = 4 by omega) with rfl | rfl | rfl | rfl | rfl
    · cases hz; exact ⟨_, _, _, B0, rfl, sl0⟩
    · cases hz; exact ⟨_, _, _, A3.later q9, rfl, s03⟩
    · cases hz; exact ⟨_, _, _, A4.later q9, rfl, d04⟩
    · cases hz; exact ⟨_, _, _, A7.later q9, rfl, w07⟩
    · cases hz; exact ⟨_, _, _, A5.later q9, rfl, s05⟩
  have q9t := q9.trans q10
  have q2t := q28.trans q9t
  refine B11_run ZG rfl rfl rfl (q2t _ _ hl) hv (q2t _ _ ht) (A0.later q9t) (A7.later q9t) h7 n7 w07 w70 fun H11 q11 => ?_
  exact k _ ((q1.trans q2t).trans q11)
end
/-- what the text gives of editions, too -/
structure EdAll3 (P : Program) (w : World) (K : Frag) (mg : Str → Option Value) (base : Heap) (CE CG : Addr) : Prop where
  led : ∃ f fd, FnOk P w K mg base CX0 6 f fd ["model"] (spLawEd CE) ∧ Binds K fd ["model"] [] ∧ mg "_law_edition" = some (.ref f) ∧ keepIn K (.ref f) = true
  mkE : ∃ fI fdI, Mk K CE fI ∧ FnOk P w K mg base CX0 4 fI fdI ["self", "members", "sets"] (spEdInit K CE) ∧ Binds K fdI ["self", "members", "sets"] []
  nms : ∃ p f fd, FnOk P w K mg base CX0 1 f fd ["self"] (spEdNames CE) ∧ Binds K fd ["self"] [] ∧ PropOf K CE "names" p f
  all : ∃ f fd, FnOk P w K mg base CX0 3 f fd ["self"] (spEdAll K CE CG) ∧ Binds K fd ["self"] [] ∧ Meth K CE "everything" f
  sub : ∃ f fd, FnOk P w K mg base CX0 3 f fd ["self", "other"] (spGrOp K CE CG subP) ∧ Binds K fd ["self", "other"] [] ∧ findIn K (.ref CG) "__sub__" = some (some (.ref f)) ∧ isFn K (.ref f) = true
  sfG : selfFirst K CG = true
  gE : mg "Edition" = some (.ref CE)
  list : mg "list" = none
  dict : mg "dict" = none
section
variable {P : Program} {w : World} {K : Frag} {mg : Str → Option Value} {base : Heap} {CE CG CM : Addr}
theorem ok_edsright {f : Addr} {fd : FuncData} (F : Fun K "_law_editions_right" "_law_editions_right" sEdsRight f fd) (T : GrAll P w K mg base CE CG CM) (U : EdAll3 P w K mg base CE CG) : FnOk P w K mg base CX0 7 f fd ["edition", "model"] (spEdsRight CE) := by
  obtain ⟨f4, d4, G4, b4, g4, k4⟩ := U.led
  obtain ⟨fI, dI, MI, GI, bI⟩ := U.mkE
  obtain ⟨p7, f7, d7, G7, b7, h7⟩ := U.nms
  obtain ⟨f9, d9, G9, b9, h9⟩ := U.all
  obtain ⟨fS, dS, GS, bS, hS, iS⟩ := U.sub
  obtain ⟨fQ, dQ, GQ, bQ, hQ, iQ⟩ := T.eqG
  obtain ⟨fH, dH, GH, bH, hH, iH⟩ := T.hasG
  obtain ⟨fT, dT, GT, bT, hT, iT, jT⟩ := T.getE
  have ZE := T.ZE
  refine F.ok scEdsRight (fun vs H Q E h => ?_) (fun cdv A outer s H vs Q E hr h => ?_)
  · obtain ⟨x0, a, rw', d, rows, rows1, sets, rfl, _⟩ := h
    rfl
  · obtain ⟨x0, a, rw', d, rows, rows1, sets, rfl, M, ok, l1, l6, p1, e1, k⟩ := h
    have nd := scEdsRight.nd
    have hr1 : Room 1 _ := hr.mono (by decide)
    have hr2 : Room 2 _ := hr.mono (by decide)
    have hr3 : Room 3 _ := hr.mono (by decide)
    have hr4 : Room 4 _ := hr.mono (by decide)
    have hr5 : Room 5 _ := hr.mono (by decide)
    have hu := hu_of hr
    refine ⟨_, pss_cons (ps_par (i := 2) (j := 3) rfl nd rfl rfl (by decide) rfl rfl (pa_cons (pe_callTy call_list_of (by rfl) U.list boot_list2 (pa_cons (pe_ix ix_tup (pv 1) pe_int (fun _ _ => rfl)) pa_nil)) (pa_cons (pe_call G4 hr (by rfl) g4 k4 b4 .nil pass0 (pa_cons (pv 1) pa_nil)) pa_nil)) rfl)
      (pss_cons (ps_set (i := 4) nd rfl (Or.inl rfl) (pe_make MI GI hr5 (by rfl) U.gE bI .nil pass0 (pa_cons (pe_op op_cat (pe_slice sl_list (pv 2) po_none (po_some (pe_un un_neg pe_int))) (pe_lst (pa_cons (pe_op op_catT (pe_slice sl_tup (pe_ix ix_list (pv 2) (pe_un un_neg pe_int) (fun _ _ => rfl)) po_none (po_some pe_int)) (pe_tup (pa_cons pe_int pa_nil))) pa_nil))) (pa_cons (pe_callTy call_dictD (by rfl) U.dict boot_dict' (pa_cons (pe_ix ix_tup (pv 1) pe_int (fun _ _ => rfl)) pa_nil)) pa_nil))))
      (pss_cons (ps_if (PW.pt (pw_or (pt_not (pt_cmpR (op_eqI (E := E0) GQ hr2 hQ iQ bQ pass0) (pe_meth0 (pv 0) ZE.cl h9 G9 hr3 b9 .nil pass0) (pe_meth0 (pv 3) ZE.cl h9 G9 hr3 b9 .nil pass0) (nomark _))) (pw_or1 (pt_cmpR (op_eqI (E := E0) GQ hr2 hQ iQ bQ pass0) (pe_meth0 (pv 0) ZE.cl h9 G9 hr3 b9 .nil pass0) (pe_meth0 (pv 4) ZE.cl h9 G9 hr3 b9 .nil pass0) (nomark _))))) (pss_one (ps_ret pe_bl)) pss_nil)
      (pss_cons (ps_if (PW.pt (pw_or (pt_cmpR (op_eqI (E := E0) GQ hr2 hQ iQ bQ pass0) (pe_meth0 (pv 0) ZE.cl h9 G9 hr3 b9 .nil pass0) (pe_prop (pv 0) ZE.cl h7 G7 hr2 b7 .nil pass0 rfl) (nomark _)) (pw_or1 (pt_cmpR (op_notInI (E := E0) GH hr2 hH iH bH pass0) (pe_subI (E := E0) GT hr4 hT iT jT bT pass0 (pv 0) (pe_ix ix_tup (pe_ix ix_list (pv 2) pe_int (fun _ _ => rfl)) pe_int (fun _ _ => rfl)) (fun _ _ => rfl)) (pe_meth0 (pv 3) ZE.cl h9 G9 hr3 b9 .nil pass0) (by rfl))))) (pss_one (ps_ret pe_bl)) pss_nil)
      (pss_cons (ps_if (pt_cmpR (op_inI (E := E0) GH hr2 hH iH bH pass0) (pe_subI (E := E0) GT hr4 hT iT jT bT pass0 (pv 4) (pe_ix ix_tup (pe_ix ix_list (pv 2) pe_int (fun _ _ => rfl)) pe_int (fun _ _ => rfl)) (fun _ _ => rfl)) (pe_meth0 (pv 0) ZE.cl h9 G9 hr3 b9 .nil pass0) (by rfl)) (pss_one (ps_ret pe_bl)) pss_nil)
      (pss_cons (ps_asg (by exact (pe_make MI GI hr5 (by rfl) U.gE bI .nil pass0 (pa_cons (pv 2) (pa_cons (pe_callTy (call_dictP rfl) (by rfl) U.dict boot_dict' (pa_cons (pe_lc (own := [("name", 6)]) (te := tTup (tCons (tVar 6) (tCons (tDGet (tMo 1 K) (tVar 6)) tNil))) (g := gName 6) (tt := tYes) rfl nd (pi_list (pe_revL (pe_callTy (call_listD rfl) (by rfl) U.list boot_list2 (pa_cons (pe_ix ix_tup (pv 1) pe_int (fun _ _ => rfl)) pa_nil)))) (blkOk_by (N := nEdsRight) (sc := defScope sEdsRight) (by decide +kernel)) (fun _ _ _ _ _ => pg_name (i := 6) nd rfl (Or.inl rfl)) (fun _ _ _ _ _ => pts_nil)
            (fun _ _ _ _ _ => by exact (pe_tup (pa_cons (pv 6) (pa_cons (pe_dget hu (pe_ix ix_tup (pv 1) pe_int (fun _ _ => rfl)) (pv 6) (fun _ _ => rfl)) pa_nil))))) pa_nil)) pa_nil)))) (pg_name (i := 5) nd rfl (Or.inl rfl)))
      (pss_cons (ps_set (i := 7) nd rfl (Or.inl rfl) (pe_make MI GI hr5 (by rfl) U.gE bI .nil pass0 (pa_cons (pv 2) (pa_cons (pe_callTy (call_dictP rfl) (by rfl) U.dict boot_dict' (pa_cons (pe_op op_cat (pe_slice sl_list (LiI.pe_listItems rfl (pe_ix ix_tup (pv 1) pe_int (fun _ _ => rfl)) (by rfl) U.list boot_list2) po_none (po_some pe_int)) (pe_lst (pa_cons (pe_tup (pa_cons pe_str (pa_cons (pe_lst pa_nil) pa_nil))) pa_nil))) pa_nil)) pa_nil))))
      (pss_cons (ps_if (PW.pt (pw_or (pt_not (pt_cmpR (op_eqI (E := E0) GQ hr2 hQ iQ bQ pass0) (pe_meth0 (pv 0) ZE.cl h9 G9 hr3 b9 .nil pass0) (pe_meth0 (pv 5) ZE.cl h9 G9 hr3 b9 .nil pass0) (nomark _))) (pw_or1 (pt_cmpR (op_notInI (E := E0) GH hr2 hH iH bH pass0) (pe_subI (E := E0) GT hr4 hT iT jT bT pass0 (pv 5) (pe_ix ix_tup (pe_ix ix_list (pv 2) pe_int (fun _ _ => rfl)) pe_int (fun _ _ => rfl)) (fun _ _ => rfl)) (pe_meth0 (pv 0) ZE.cl h9 G9 hr3 b9 .nil pass0) (by rfl))))) (pss_one (ps_ret pe_bl)) pss_nil)
      (pss_cons (ps_asg (by exact (pe_lc (own := [("one", 9)]) (te := tOp (rBinI CG (spGrOp K CE CG subP) E0) (tEv K CE CG 9) (tEv K CE CG 9)) (g := gName 9) (tt := tYes) rfl nd (pi_list (pe_lst (pa_cons (pv 0) (pa_cons (pv 3) (pa_cons (pv 4) (pa_cons (pv 7) (pa_cons (pv 5) pa_nil))))))) (blkOk_by (N := nEdsRight) (sc := defScope sEdsRight) (by decide +kernel)) (fun _ _ _ _ _ => pg_name (i := 9) nd rfl (Or.inl rfl)) (fun _ _ _ _ _ => pts_nil)
            (fun _ _ _ _ _ => by exact (pe_op (op_binI (E := E0) GS hr3 U.sfG hS iS bS pass0) (pe_meth0 (pv 9) ZE.cl h9 G9 hr3 b9 .nil pass0) (pe_meth0 (pv 9) ZE.cl h9 G9 hr3 b9 .nil pass0))))) (pg_name (i := 8) nd rfl (Or.inr rfl)))
      (pss_cons (ps_if (pt_cmpR (op_neD hr.units) (pe_lc (own := [("one", 9)]) (te := tGeq K CE CG (tOp (rIxL K) (tVar 8) (tC (.int 0))) (tVar 9)) (g := gName 9) (tt := tYes) rfl nd (pi_list (pv 8)) (blkOk_by (N := nEdsRight) (sc := defScope sEdsRight) (by decide +kernel)) (fun _ _ _ _ _ => pg_name (i := 9) nd rfl (Or.inl rfl)) (fun _ _ _ _ _ => pts_nil)
            (fun _ _ _ _ _ => by exact (pe_cmpR (op_eqI (E := E0) GQ hr2 hQ iQ bQ pass0) (pe_ix ix_list (pv 8) pe_int (fun _ _ => rfl)) (pv 9) (nomark _)))) (pe_lst (pa_cons pe_bl (pa_cons pe_bl (pa_cons pe_bl (pa_cons pe_bl (pa_cons pe_bl pa_nil)))))) (nomark _)) (pss_one (ps_ret pe_bl)) pss_nil)
      (pss_one (ps_ret (pe_and (pe_cmpR (op_neI (E := E0) GQ hr3 hQ T.neG T.ZG.hm iQ bQ pass0) (pe_meth0 (pv 0) ZE.cl h9 G9 hr3 b9 .nil pass0) (pe_meth0 (pv 7) ZE.cl h9 G9 hr3 b9 .nil pass0) (nomark _)) (pe_one (pe_cmpR (op_notInI (E := E0) GH hr2 hH iH bH pass0) (pe_subI (E := E0) GT hr4 hT iT jT bT pass0 (pv 7) (pe_ix ix_tup (pe_ix ix_list (pv 2) pe_int (fun _ _ => rfl)) pe_int (fun _ _ => rfl)) (fun _ _ => rfl)) (pe_meth0 (pv 0) ZE.cl h9 G9 hr3 b9 .nil pass0) (by rfl))))))))))))))), ?_⟩
    exact eds_run (D := { nx := fun _ H' => Q .non H', rt := Q }) T.ZG M ok l1 l6 p1 e1 k
end
end Gk
/-! ### k03: the state of the law's turn -/
namespace Gk
open PySem PySem.W PySem.Spec PyProof.Rows L2 NdefX
/-- a couple of a set and its places, apart from the source and the list of couples -/
def GQ (K : Frag) (CG : Addr) (x p sm : Addr) (H : Hp) (v : V) (ns : List Int) : Prop := ∃ t g pl, v = .ref t ∧ H t = some (.tup [.ref g, .ref pl]) ∧ GrAt K CG H g x ns ∧ H pl = some (.lst (ns.map V.int)) ∧ pl ≠ p ∧ pl ≠ sm
section
variable {K : Frag} {CE CG : Addr} {Hb H H' : Hp} {x p sm a rw d q : Addr} {v : V} {ns : List Int} {us : List V} {nss : List (List Int)} {n : Nat} {rows rows1 : List Row} {sets : List (Str × List Str)}
theorem GrAt.far {as bs : List V} (h : GrAt K CG H q x ns) (f : ∀ b u, b ≠ p → b ≠ sm → H b = some u → H' b = some u) (hp : H p = some (.lst as)) (hs : H sm = some (.lst bs)) : GrAt K CG H' q x ns := by
  obtain ⟨dx, t, h1, h2⟩ := h
  have g : ∀ b u, H b = some u → (∀ zs, u ≠ .lst zs) → H' b = some u := fun b u hb nu => f b u (ne_of hb hp (nu _)) (ne_of hb hs (nu _)) hb
  refine ⟨dx, t, g _ _ h1 (fun zs z => by cases z), ?_⟩
  rcases h2 with (h | ⟨u, h⟩) | h
  · exact .inl (.inl (g _ _ h (fun zs z => by cases z)))
  · exact .inl (.inr ⟨u, g _ _ h (fun zs z => by cases z)⟩)
  · exact .inr h
theorem GQ.far {as bs : List V} (h : GQ K CG x p sm H v ns) (f : ∀ b u, b ≠ p → b ≠ sm → H b = some u → H' b = some u) (hp : H p = some (.lst as)) (hs : H sm = some (.lst bs)) : GQ K CG x p sm H' v ns := by
  obtain ⟨t, g, pl, e, h1, h2, h3, n1, n2⟩ := h
  exact ⟨t, g, pl, e, f _ _ (ne_of h1 hp fun z => by cases z) (ne_of h1 hs fun z => by cases z) h1, h2.far f hp hs, f _ _ n1 n2 h3, n1, n2⟩
theorem GQ.later (h : GQ K CG x p sm H v ns) (s : Same H H') : GQ K CG x p sm H' v ns := by
  obtain ⟨t, g, pl, e, h1, h2, h3, n1, n2⟩ := h
  exact ⟨t, g, pl, e, s _ _ h1, h2.later s, s _ _ h3, n1, n2⟩
theorem GQ.gp (h : GQ K CG x p sm H v ns) : GP K CG x H v ns := by
  obtain ⟨t, g, pl, e, h1, h2, h3, n1, n2⟩ := h
  exact ⟨t, g, pl, e, h1, h2, h3⟩
/-- what stands when the list of couples is not there yet -/
structure Bs (CE : Addr) (Hb : Hp) (p a rw d x : Addr) (rows rows1 : List Row) (sets : List (Str × List Str)) : Prop where
  M : Mdl Hb a rw d rows sets
  ok : ModelOk rows sets
  l1 : 1 ≤ rows.length
  l6 : rows.length ≤ 6
  ps : Paired SortedRow rows rows1
  ed : EdAt CE Hb x rows1 (groupsOf (rows.map (·.name)) sets)
  nrw : rw ≠ p
theorem Bs.on (h : Bs CE Hb p a rw d x rows rows1 sets) (s : Drawn p Hb H) : Bs CE H p a rw d x rows rows1 sets := ⟨h.M.on s, h.ok, h.l1, h.l6, h.ps, h.ed.on s, h.nrw⟩
theorem Bs.later (h : Bs CE Hb p a rw d x rows rows1 sets) (s : Same Hb H) : Bs CE H p a rw d x rows rows1 sets := ⟨h.M.later s, h.ok, h.l1, h.l6, h.ps, h.ed.later s, h.nrw⟩
theorem RowsAt.on' {p r : Addr} {H H1 : Hp} {rows : List Row} (h : RowsAt H r rows) (d : Drawn p H H1) (_ : r ≠ p) : RowsAt H1 r rows := h.on d
theorem Bs.row (h : Bs CE H p a rw d x rows rows1 sets) : EdRow CE H x rw rows rows1 (groupsOf (rows.map (·.name)) sets) :=
  ⟨h.M.rows, h.ps, h.ed, h.ok.two.lay h.ps, (same_eq (h.ok.two.lay h.ps) h.ok.sets.nd h.ok.sets.nd rfl (fun z hz => ⟨z, hz, rfl, fun _ => Iff.rfl⟩) (like_refl rows) h.ps h.ps).1, (words_sorted h.ps).nodup_iff.mpr h.ok.nd, h.l1, by have := h.l6; omega⟩
/-- what stands while the couples are put together -/
structure K3 (K : Frag) (CG : Addr) (Hb H : Hp) (p sm x : Addr) (n : Nat) (us : List V) (nss : List (List Int)) : Prop where
  dr : Drawn p Hb H
  ls : H sm = some (.lst us)
  prs : Paired (GQ K CG x p sm H) us nss
  pl : ∀ ns ∈ nss, PlOk ns n
theorem K3.same (h : K3 K CG Hb H p sm x n us nss) (s : Same H H') : K3 K CG Hb H' p sm x n us nss := ⟨h.dr.same s, s _ _ h.ls, paired_map (fun _ _ z => GQ.later z s) h.prs, h.pl⟩
theorem K3.draw {r m : Int} (h : K3 K CG Hb H p sm x n us nss) (ne : sm ≠ p) (o : SrcOk m) : K3 K CG Hb (upd H p (srcO r m)) p sm x n us nss := by
  obtain ⟨r0, m0, hp, _⟩ := h.dr.src
  exact ⟨h.dr.draw o, by rw [upd_ne ne]; exact h.ls, paired_map (fun _ _ z => GQ.far (H' := upd H p (srcO r m)) z (fun b u n1 _ e => by rw [upd_ne n1]; exact e) hp h.ls) h.prs, h.pl⟩
theorem K3.app (h : K3 K CG Hb H p sm x n us nss) (ns0 : Hb sm = none) (ne : sm ≠ p) (g : GQ K CG x p sm H v ns) (ok : PlOk ns n) : K3 K CG Hb (upd H sm (.lst (us ++ [v]))) p sm x n (us ++ [v]) (nss ++ [ns]) := by
  obtain ⟨r0, m0, hp, _⟩ := h.dr.src
  have f : ∀ b u, b ≠ p → b ≠ sm → H b = some u → upd H sm (.lst (us ++ [v])) b = some u := fun b u _ n2 e => by rw [upd_ne n2]; exact e
  refine ⟨h.dr.mut ns0 ne, upd_same, paired_more (g.far f hp h.ls) (paired_map (fun _ _ z => GQ.far z f hp h.ls) h.prs), fun z hz => ?_⟩
  rcases List.mem_append.mp hz with q | q
  · exact h.pl z q
  · rw [List.mem_singleton.mp q]
    exact ok
end
abbrev appT (K : Frag) (tg tl : TE) : TS := tDrop (tBM K "list" rAppend (tVar 7) (tCons (tTup (tCons tg (tCons tl tNil))) tNil))
section
variable {K : Frag} {CE CG : Addr} {D : Ends} {Hb H : Hp} {x p sm a rw d : Addr} {ns : List Int} {us : List V} {nss : List (List Int)} {n : Nat} {rows rows1 : List Row} {sets : List (Str × List Str)} {σ : L2.St} {tg tl : TE}
/-- some.append((set, places)) -/
theorem app_run (S : K3 K CG Hb H p sm x n us nss) (ns0 : Hb sm = none) (ne : sm ≠ p) (lu : us.length ≤ 100) (e7 : σ[7]? = some (some (.ref sm)))
    (hg : ∀ Q : VK, (∀ H1 g, Same H H1 → H g = none → GrAt K CG H1 g x ns → Q (.ref g) H1) → tg σ H Q) (hl : ∀ (H1 : Hp) (Q : VK), Same H H1 → (∀ H2 l, Same H1 H2 → H1 l = none → H2 l = some (.lst (ns.map V.int)) → Q (.ref l) H2) → tl σ H1 Q) (ok : PlOk ns n)
    (k : ∀ H' v, K3 K CG Hb H' p sm x n (us ++ [v]) (nss ++ [ns]) → D.nx σ H') : appT K tg tl D σ H := by
  refine rd_drop (rd_bm (rd_var e7 ⟨.inl ⟨rfl, _, SqL.of S.ls⟩, ?_⟩))
  refine rd_cons (rd_tup (rd_cons (hg _ fun H1 g s1 hg0 ga => rd_cons (hl H1 _ s1 fun H2 l s2 hl0 cl => rd_nil ⟨s100 (show 2 ≤ 100 by decide), fun T hT => rd_nil ?_⟩))))
  have S2 := S.same (s1.trans s2)
  have s3 : Same H2 (upd H2 T (.tup [.ref g, .ref l])) := (Same.refl H2).new hT
  have c3 : upd H2 T (.tup [.ref g, .ref l]) T = some (.tup [.ref g, .ref l]) := upd_same
  generalize upd H2 T (.tup [.ref g, .ref l]) = H3 at s3 c3
  have S3 := S2.same s3
  obtain ⟨r0, m0, hp, _⟩ := (S.same s1).dr.src
  refine ⟨sm, us, _, rfl, rfl, S3.ls, Nat.lt_of_le_of_lt lu (by decide), ?_⟩
  exact k _ (.ref T) (S3.app ns0 ne ⟨T, g, l, rfl, c3, ga.later (s2.trans s3), s3 _ _ cl, (ne_of_none hp hl0).symm, (ne_of_none (S.same s1).ls hl0).symm⟩ ok)
end
end Gk
/-! ### k03: the law's turn up to the named sets -/
namespace Gk
open PySem PySem.W PySem.Spec PyProof.Rows L2 NdefX
abbrev tMd (i : Int) (K : Frag) : TE := tOp (rIxT K) (tVar 3) (tC (.int i))
abbrev M2 : TS := tAsg (tCall spModel [] E0 (tCons (tVar 2) (tCons (tOp (rI0 fun i j => .int (i + j)) (tC (.int 1)) (tCall spDraw [] E0 (tCons (tVar 2) (tCons (tC (.int 6)) tNil)))) tNil))) (gName 3)
abbrev M3 (K : Frag) (CE : Addr) : TS := tAsg (tTup (tCons (tMd 0 K) (tCons (tCall (spLawEd CE) [] E0 (tCons (tVar 3) tNil)) tNil))) (gTup K 2 (gCons (gName 4) (gCons (gName 5) gNil)))
abbrev M4 (K : Frag) : TS := tAsg (tCB (rLenSeq K) (tCons (tVar 4) tNil)) (gName 6)
abbrev tPlsL6 (K : Frag) : TE := tLc (iRng1 (tCons (tVar 6) tNil)) (gName 9) (tTest (tOp (rIn K false) (tOp (rIxT K) (tOp (rIxL K) (tVar 4) (tVar 9)) (tC (.int 0))) (tDGet (tMd 1 K) (tVar 8)))) (tVar 9) [9]
abbrev tGroupM (K : Frag) (CE CG CN : Addr) : TE := tMeth CE "group" (spEdGroup K CE CG CN) [] E0 (tVar 5) (tCons (tVar 8) tNil)
abbrev M6 (K : Frag) (CE CG CN : Addr) : TS := tLock (tFor (iKeys (tMd 1 K)) (gName 8) (appT K (tGroupM K CE CG CN) (tPlsL6 K)))
abbrev M7 (K : Frag) (CE : Addr) : TS := tIfS (tTest (tOp (rNeD K) (tProp CE (spEdSets CE) [] E0 (tVar 5)) (tCB rSortD (tCons (tMd 1 K) tNil)))) retF3 tNext
theorem pl_int {rows : List Row} : ∀ i, ∀ kv ∈ plKV rows i, ∃ n, kv.2 = V.int n
  | 0, kv, h => by cases h
  | i + 1, kv, h => by
    unfold plKV at h
    rcases List.mem_append.mp h with h | h
    · exact pl_int i kv h
    · cases e : rows[i]? with
      | none => rw [e] at h; cases h
      | some r =>
        rw [e] at h
        obtain ⟨y, _, rfl⟩ := List.mem_map.mp h
        exact ⟨_, rfl⟩
theorem nu_int {rows : List Row} : ∀ i, ∀ kv ∈ nuKV rows i, ∃ n, kv.2 = V.int n
  | 0, kv, h => by cases h
  | i + 1, kv, h => by
    unfold nuKV at h
    rcases List.mem_append.mp h with h | h
    · exact nu_int i kv h
    · cases e : rows[i]? with
      | none => rw [e] at h; cases h
      | some r =>
        rw [e] at h
        rw [List.mem_singleton.mp h]
        exact ⟨_, rfl⟩
theorem plTo_ok (ns ws : List Str) : ∀ i, i ≤ ns.length → (∀ z ∈ plTo ns ws i, 0 ≤ z ∧ z < (i : Int))
  | 0, _, z, h => by cases h
  | i + 1, hi, z, h => by
    unfold plTo at h
    rcases List.mem_append.mp h with h | h
    · have := plTo_ok ns ws i (by omega) z h
      omega
    · cases e : ns[i]? with
      | none => rw [e] at h; cases h
      | some r =>
        rw [e] at h
        revert h
        show z ∈ (if inV (.str r) (ws.map V.str) = true then [(i : Int)] else []) → _
        split
        · intro h
          rw [List.mem_singleton.mp h]
          omega
        · intro h
          cases h
section
variable {K : Frag} {CE CG CN : Addr} {D : Ends} {Hb H : Hp} {x p sm a rw d : Addr} {ns : List Int} {us : List V} {nss : List (List Int)} {n : Nat} {rows rows1 : List Row} {sets : List (Str × List Str)} {kvs : List (Key × V)} {s0 s1 s2 s3 s4 s5 s6 s7 s8 s9 s10 s11 s12 s13 s14 : Option V}
/-- the edition is still there where the dict of the model is locked -/
theorem EdAt.lock {od : Obj} {gs : List (Str × List Int)} (he : EdAt CE H x rows1 gs) (hd : H d = some (.dK kvs)) (pk : Paired (SetKV H) kvs sets) (hk : kvs ≠ []) : EdAt CE (upd H d (.frz od (.dK kvs))) x rows1 gs := by
  obtain ⟨dx, r, g, pl, nu, h1, ⟨vs, h2, pr⟩, ⟨gk, h3, pg⟩, h4, h5⟩ := he.ob
  have f : ∀ b u, H b = some u → (∀ ks, u ≠ .dK ks) → upd H d (.frz od (.dK kvs)) b = some u := fun b u hb nu => by rw [upd_ne (ne_of hb hd (nu _))]; exact hb
  cases pk with
  | nil => exact absurd rfl hk
  | @cons kv y kvs sets r0 pk =>
    obtain ⟨e0, l0, e1, hl0⟩ := r0
    have ng : g ≠ d := by
      rintro rfl
      rw [hd] at h3
      obtain rfl := HO.dK.inj (Option.some.inj h3)
      cases pg with
      | cons q _ =>
        obtain ⟨_, t, e2, ht⟩ := q
        rw [e1] at e2
        cases e2
        rw [hl0] at ht
        cases ht
    have npl : pl ≠ d := by
      rintro rfl
      rw [hd] at h4
      have e2 := HO.dK.inj (Option.some.inj h4)
      obtain ⟨n, e3⟩ := pl_int rows1.length kv (by rw [← e2]; exact List.mem_cons_self)
      rw [e1] at e3
      cases e3
    have nnu : nu ≠ d := by
      rintro rfl
      rw [hd] at h5
      have e2 := HO.dK.inj (Option.some.inj h5)
      obtain ⟨n, e3⟩ := nu_int rows1.length kv (by rw [← e2]; exact List.mem_cons_self)
      rw [e1] at e3
      cases e3
    refine ⟨dx, r, g, pl, nu, f _ _ h1 (fun _ z => by cases z), ⟨vs, f _ _ h2 (fun _ z => by cases z), paired_map (fun v y z => ?_) pr⟩, ⟨gk, by rw [upd_ne ng]; exact h3, paired_map (fun v y z => ?_) pg⟩, by rw [upd_ne npl]; exact h4, by rw [upd_ne nnu]; exact h5⟩
    · obtain ⟨t, b, e, g1, g2⟩ := z
      exact ⟨t, b, e, f _ _ g1 (fun _ z => by cases z), f _ _ g2 (fun _ z => by cases z)⟩
    · obtain ⟨e, t, e2, g1⟩ := z
      exact ⟨e, t, e2, f _ _ g1 (fun _ z => by cases z)⟩
theorem M2_run {r m : Int} (hp : H p = some (srcO r m)) (hm : SrcOk m) (k : ∀ H' a rw d rows sets, Drawn p H H' → rw ≠ p → Mdl H' a rw d rows sets → ModelOk rows sets → 1 ≤ rows.length → rows.length ≤ 6 → D.nx [s0, s1, some (.ref p), some (.ref a), s4, s5, s6, s7, s8, s9, s10, s11, s12, s13, s14] H') :
    M2 D [s0, s1, some (.ref p), s3, s4, s5, s6, s7, s8, s9, s10, s11, s12, s13, s14] H := by
  refine rd_asg (rd_call (rd_cons (rd_var rfl (rd_cons (rd_op (rd_c (rd_call (rd_cons (rd_var rfl (rd_cons (rd_c (rd_nil ⟨p, 6, r, m, rfl, hp, hm, by decide, by decide, fun z r1 m1 z0 z1 hm1 => ?_⟩))))))))))))
  have d1 := (Drawn.start hp hm).draw (r := r1) hm1
  have c1 : upd H p (srcO r1 m1) p = some (srcO r1 m1) := upd_same
  generalize upd H p (srcO r1 m1) = H1 at d1 c1
  refine ⟨1, z, rfl, rfl, rd_nil ⟨p, r1, m1, 1 + z, rfl, c1, hm1, by omega, by omega, fun H' a rw d rows sets d2 ha na hrw nrw hd nd ca cr cs ok len => rd_gn ?_⟩⟩
  exact k H' a rw d rows sets (d1.trans d2) nrw ⟨ca, cr, cs⟩ ok (by omega) (by omega)
theorem M3_run (M : Mdl H a rw d rows sets) (ok : ModelOk rows sets) (l1 : 1 ≤ rows.length) (l6 : rows.length ≤ 6)
    (k : ∀ H' x rows1, Same H H' → Paired SortedRow rows rows1 → EdAt CE H' x rows1 (groupsOf (rows.map (·.name)) sets) → D.nx [s0, s1, s2, some (.ref a), some (.ref rw), some (.ref x), s6, s7, s8, s9, s10, s11, s12, s13, s14] H') :
    M3 K CE D [s0, s1, s2, some (.ref a), s4, s5, s6, s7, s8, s9, s10, s11, s12, s13, s14] H := by
  refine rd_asg (rd_tup (rd_cons (rd_op (rd_var rfl (rd_c ⟨a, _, _, _, rfl, rfl, SqT.of M.tup, rfl, ?_⟩)))))
  refine rd_cons (rd_call (rd_cons (rd_var rfl (rd_nil ⟨a, rw, d, rows, sets, rfl, M.tup, M.rows, M.sets, ok.rows l1 (by omega), ok.good (by omega), fun H1 x rows1 q1 hx ps ea => ?_⟩))))
  refine rd_nil ⟨s100 (show 2 ≤ 100 by decide), fun T hT => ?_⟩
  have q2 : Same H1 (upd H1 T (.tup [.ref rw, .ref x])) := (Same.refl H1).new hT
  have c2 : upd H1 T (.tup [.ref rw, .ref x]) T = some (.tup [.ref rw, .ref x]) := upd_same
  generalize upd H1 T (.tup [.ref rw, .ref x]) = H2 at q2 c2
  refine ⟨T, _, rfl, SqT.of c2, rfl, _, _, rfl, _, _, rfl, rfl, ?_⟩
  exact k _ x rows1 (q1.trans q2) ps (ea.later q2)
theorem M4_run (hR : RowsAt H rw rows) (k : D.nx [s0, s1, s2, s3, some (.ref rw), s5, some (.int (rows.length : Nat)), s7, s8, s9, s10, s11, s12, s13, s14] H) :
    M4 K D [s0, s1, s2, s3, some (.ref rw), s5, s6, s7, s8, s9, s10, s11, s12, s13, s14] H := by
  obtain ⟨us, hus, pu⟩ := hR
  refine rd_asg (rd_cb (rd_cons (rd_var rfl (rd_nil ⟨rw, us, rfl, .inl (SqL.of hus), rd_gn ?_⟩))))
  rw [paired_len pu]
  exact k
theorem pls6 {H1 : Hp} {od : Obj} {y : Str × List Str} {li : Addr} {Q : VK} (ha : H1 a = some (.tup [.ref rw, .ref d])) (hR : RowsAt H1 rw rows) (hd : H1 d = some (.frz od (.dK kvs))) (hv : valV kvs (.inr y.1 : Key) = some (.ref li)) (hl : H1 li = some (.lst (y.2.map V.str))) (l6 : rows.length ≤ 6)
    (k : ∀ H2 l, Same H1 H2 → H1 l = none → H2 l = some (.lst ((plTo (rows.map (·.name)) y.2 rows.length).map V.int)) → Q (.ref l) H2) :
    tPlsL6 K [s0, s1, s2, some (.ref a), some (.ref rw), s5, some (.int (rows.length : Nat)), s7, some (.str y.1), s9, s10, s11, s12, s13, s14] H1 Q := by
  obtain ⟨us, hus, pu⟩ := hR
  have lu := paired_len pu
  refine ⟨_, rfl, rows.length, rfl, by omega, by omega, fun LD hLD => ?_⟩
  refine lc_range (lo := 0) (n := (rows.length : Int).toNat) (fun i H' => Same H1 H' ∧ H' LD = some (.lst ((plTo (rows.map (·.name)) y.2 i).map V.int))) ⟨(Same.refl H1).new hLD, upd_same⟩ ?_ ?_
  · rintro i H2 hi ⟨s2, c2⟩
    rw [Int.toNat_natCast] at hi
    obtain ⟨u, hu⟩ : ∃ u, us[i]? = some u := ⟨_, List.getElem?_eq_getElem (by omega)⟩
    obtain ⟨r, hr, t, al, rfl, ht, hal⟩ := paired_left pu hu
    have ep : plTo (rows.map (·.name)) y.2 (i + 1) = plTo (rows.map (·.name)) y.2 i ++ (if inV (.str r.name) (y.2.map V.str) = true then [(i : Int)] else []) := by
      show plTo (rows.map (·.name)) y.2 i ++ (match (rows.map (·.name))[i]? with | some x => _ | none => _) = _
      rw [List.getElem?_map, hr]
      rfl
    rw [Int.zero_add]
    refine rd_gn ⟨rfl, rd_test (rd_op (rd_op ?_))⟩
    refine ⟨_, rfl, _, rfl, rw, us, _, _, rfl, rfl, SqL.of (s2 _ _ hus), at_of rfl hu, t, _, _, _, rfl, rfl, SqT.of (s2 _ _ ht), rfl, ?_⟩
    refine ⟨_, rfl, a, _, _, _, rfl, rfl, SqT.of (s2 _ _ ha), rfl, _, rfl, d, .ref li, rfl, .inl ⟨kvs, .inr y.1, .inr ⟨od, s2 _ _ hd⟩, rfl, hv.symm⟩, ?_⟩
    refine ⟨li, _, rfl, .inl (SqL.of (s2 _ _ hl)), rfl, flat_strs y.2, _, rfl, ?_⟩
    simp only [Bool.false_eq_true, if_false]
    refine ite2 (fun c => ?_) (fun c => ?_)
    · rw [c, if_pos rfl] at ep
      refine ⟨_, rfl, _, c2, ?_, s2.mut hLD, ?_⟩
      · have := plTo_len (rows.map (·.name)) y.2 i
        rw [List.length_map]
        exact Nat.lt_of_le_of_lt (show _ ≤ 16 by omega) (by decide)
      · rw [upd_same, ep, List.map_append]
        rfl
    · rw [if_neg c, List.append_nil] at ep
      exact ⟨s2, by rw [ep]; exact c2⟩
  · rintro H2 ⟨s2, c2⟩
    rw [Int.toNat_natCast] at c2
    exact k H2 LD s2 hLD c2
end
end Gk
/-! ### k03: the couples of the named sets -/
namespace Gk
open PySem PySem.W PySem.Spec PyProof.Rows L2 NdefX
abbrev M5 (K : Frag) (CE CG : Addr) : TS := tAsg (tLst (tCons (tTup (tCons (tEv K CE CG 5) (tCons (tLstRg (tRg1 (tVar 6))) tNil))) tNil)) (gName 7)
theorem sets3_lay : ∀ x ∈ otherT :: setNames, PyData.strOk x = true := by decide +kernel
theorem range_ok (n : Nat) : PlOk (rangeI n) n := by
  refine ⟨fun z hz => ?_, by unfold rangeI; rw [List.length_map, List.length_range]; exact Nat.le_refl _⟩
  unfold rangeI at hz
  obtain ⟨i, hi, rfl⟩ := List.mem_map.mp hz
  have := List.mem_range.mp hi
  omega
section
variable {K : Frag} {CE CG CN : Addr} {D : Ends} {Hb H : Hp} {x p sm a rw d : Addr} {ns : List Int} {us : List V} {nss : List (List Int)} {n : Nat} {rows rows1 : List Row} {sets : List (Str × List Str)} {kvs : List (Key × V)} {s0 s1 s2 s3 s4 s5 s6 s7 s8 s9 s10 s11 s12 s13 s14 : Option V}
theorem M5_run (B : Bs CE H p a rw d x rows rows1 sets) {r m : Int} (hp : H p = some (srcO r m)) (hm : SrcOk m)
    (k : ∀ Hc H' sm v, Bs CE Hc p a rw d x rows rows1 sets → Drawn p H Hc → Hc sm = none → sm ≠ p → Same Hc H' → K3 K CG Hc H' p sm x rows.length [v] [rangeI rows.length] → D.nx [s0, s1, s2, s3, s4, some (.ref x), some (.int (rows.length : Nat)), some (.ref sm), s8, s9, s10, s11, s12, s13, s14] H') :
    M5 K CE CG D [s0, s1, s2, s3, s4, some (.ref x), some (.int (rows.length : Nat)), s7, s8, s9, s10, s11, s12, s13, s14] H := by
  have lr := paired_len B.ps
  have l6 := B.l6
  refine rd_asg (rd_lst (rd_cons (rd_tup (rd_cons (ev_read rfl B.ed (by omega) fun H1 g q1 _ ga => ?_)))))
  rw [← lr] at ga
  refine rd_cons ⟨_, rfl, rows.length, rfl, RgOk.of_le (by decide) (by omega) (by decide) (by omega), fun l hl => ?_⟩
  have e1 : rgV 0 (rows.length : Nat) = (rangeI rows.length).map V.int := by
    unfold rgV rangeI
    rw [List.map_map]
    simp
  rw [e1]
  have q2 : Same H1 (upd H1 l (.lst ((rangeI rows.length).map V.int))) := (Same.refl H1).new hl
  have c2 : upd H1 l (.lst ((rangeI rows.length).map V.int)) l = some (.lst ((rangeI rows.length).map V.int)) := upd_same
  show tNil _ (upd H1 l (.lst ((rangeI rows.length).map V.int))) _
  have nlp : l ≠ p := (ne_of_none (q1 _ _ hp) hl).symm
  generalize upd H1 l (.lst ((rangeI rows.length).map V.int)) = H2 at q2 c2
  refine rd_nil ⟨s100 (show 2 ≤ 100 by decide), fun T hT => ?_⟩
  have q3 : Same H2 (upd H2 T (.tup [.ref g, .ref l])) := (Same.refl H2).new hT
  have c3 : upd H2 T (.tup [.ref g, .ref l]) T = some (.tup [.ref g, .ref l]) := upd_same
  show tNil _ (upd H2 T (.tup [.ref g, .ref l])) _
  generalize upd H2 T (.tup [.ref g, .ref l]) = H3 at q3 c3
  refine rd_nil ⟨s100 (show 1 ≤ 100 by decide), fun L hL => rd_gn ?_⟩
  have q13 := q1.trans (q2.trans q3)
  have q4 : Same H3 (upd H3 L (.lst [.ref T])) := (Same.refl H3).new hL
  have c4 : upd H3 L (.lst [.ref T]) L = some (.lst [.ref T]) := upd_same
  have nLp : L ≠ p := (ne_of_none (q13 _ _ hp) hL).symm
  have nlL : l ≠ L := ne_of_none (q3 _ _ c2) hL
  have d3 : Drawn p H H3 := (Drawn.start hp hm).same q13
  refine k H3 _ L (.ref T) (B.on d3) d3 hL nLp q4 ⟨(Drawn.start (q13 _ _ hp) hm).same q4, c4, .cons ⟨T, g, l, rfl, q4 _ _ c3, ga.later ((q2.trans q3).trans q4), q4 _ _ (q3 _ _ c2), nlp, nlL⟩ .nil, fun z hz => ?_⟩
  rw [List.mem_singleton.mp hz]
  exact range_ok _
theorem M6_run (B : Bs CE Hb p a rw d x rows rows1 sets) (S : K3 K CG Hb H p sm x rows.length us nss) (hpb : H p = Hb p) (ns0 : Hb sm = none) (ne : sm ≠ p) (lu : us.length ≤ 2)
    (sb : Same Hb H) (k : ∀ H' v8 us' nss', K3 K CG Hb H' p sm x rows.length us' nss' → us'.length ≤ 5 → 1 ≤ us'.length → D.nx [s0, s1, s2, some (.ref a), some (.ref rw), some (.ref x), some (.int (rows.length : Nat)), some (.ref sm), v8, s9, s10, s11, s12, s13, s14] H') (l0 : 1 ≤ us.length) :
    M6 K CE CG CN D [s0, s1, s2, some (.ref a), some (.ref rw), some (.ref x), some (.int (rows.length : Nat)), some (.ref sm), s8, s9, s10, s11, s12, s13, s14] H := by
  obtain ⟨kvs, hdb, pk⟩ := B.M.sets
  have lk := paired_len pk
  have l3 := (B.ok.good (by have := B.l6; omega)).few
  have hd := sb _ _ hdb
  obtain ⟨r0, m0, hp, hm⟩ := S.dr.src
  have ndp : d ≠ p := ne_of hd hp fun z => by cases z
  have nds : d ≠ sm := ne_of hd S.ls fun z => by cases z
  refine ⟨d, _, hd, trivial, fun od => ?_⟩
  have cl : upd H d (.frz od (.dK kvs)) d = some (.frz od (.dK kvs)) := upd_same
  have f0 : ∀ b u, b ≠ d → H b = some u → upd H d (.frz od (.dK kvs)) b = some u := fun b u n e => by rw [upd_ne n]; exact e
  have hGd : ∀ (b : Addr) u, H b = some u → (∀ ks, u ≠ .dK ks) → upd H d (.frz od (.dK kvs)) b = some u := fun b u e n => f0 b u (ne_of e hd (n _)) e
  have pq0 : Paired (GQ K CG x p sm (upd H d (.frz od (.dK kvs)))) us nss := paired_map (fun v z h => by
    obtain ⟨t, g, pl, e, h1, ⟨dx, t2, h2, h3⟩, h4, n1, n2⟩ := h
    refine ⟨t, g, pl, e, hGd _ _ h1 (fun _ z => by cases z), ⟨dx, t2, hGd _ _ h2 (fun _ z => by cases z), ?_⟩, hGd _ _ h4 (fun _ z => by cases z), n1, n2⟩
    rcases h3 with (h | ⟨u, h⟩) | h
    · exact .inl (.inl (hGd _ _ h (fun _ z => by cases z)))
    · exact .inl (.inr ⟨u, hGd _ _ h (fun _ z => by cases z)⟩)
    · exact .inr h) S.prs
  have cs0 : upd H d (.frz od (.dK kvs)) sm = some (.lst us) := f0 _ _ nds.symm S.ls
  have cp0 : upd H d (.frz od (.dK kvs)) p = some (srcO r0 m0) := f0 _ _ ndp.symm hp
  have fb0 : ∀ b u, b ≠ d → Hb b = some u → upd H d (.frz od (.dK kvs)) b = some u := fun b u n e => f0 b u n (sb b u e)
  generalize upd H d (.frz od (.dK kvs)) = H1 at cl f0 pq0 cs0 cp0 fb0
  have ha : Hb a = some (.tup [.ref rw, .ref d]) := B.M.tup
  have nad : a ≠ d := ne_of ha hdb fun z => by cases z
  unfold tFor
  refine ⟨_, rfl, a, _, _, _, rfl, rfl, SqT.of (fb0 _ _ nad ha), rfl, d, od, rfl, .inl ⟨kvs, cl, ?_⟩⟩
  -- the invariant of the loop
  refine for_it (walk_keys (d := d) (o := od) (kvs := kvs)) (fun i σ H' => ∃ v8 us' nss', σ = [s0, s1, s2, some (.ref a), some (.ref rw), some (.ref x), some (.int (rows.length : Nat)), some (.ref sm), v8, s9, s10, s11, s12, s13, s14] ∧
      K3 K CG (upd Hb d (.frz od (.dK kvs))) H' p sm x rows.length us' nss' ∧ us'.length = us.length + i) ⟨_, us, nss, rfl, ?_, rfl⟩ ?_ ?_ ?_
  · refine ⟨⟨fun b u n e => ?_, ⟨r0, m0, by rw [upd_ne ndp.symm, ← hpb]; exact hp⟩, r0, m0, cp0, hm⟩, cs0, pq0, S.pl⟩
    by_cases hb : b = d
    · subst hb
      rw [upd_same] at e
      rw [← e]
      exact cl
    · rw [upd_ne hb] at e
      exact fb0 b u hb e
  · rintro i σ H' _ ⟨v8, us', nss', rfl, S', _⟩
    exact S'.dr.keep _ _ ndp upd_same
  · rintro i y σ H2 H2' hi ⟨v8, us', nss', rfl, S', lu'⟩ ⟨rfl, key, v, hkv, rfl⟩
    obtain ⟨y, hy, ek, lz, ev, hz⟩ := paired_left pk hkv
    have ek : key = .inr y.1 := ek
    subst ek
    obtain ⟨li, hv, hli⟩ := sets_val pk B.ok.sets.nd y (List.mem_of_getElem? hy)
    have hk : kvs ≠ [] := fun z => by rw [z] at hkv; cases hkv
    have nlp : ∀ {b u}, Hb b = some u → (∀ ks, u ≠ .dK ks) → (∀ r m, u ≠ srcO r m) → H2' b = some u := fun {b u} e n1 n2 => by
      refine S'.dr.other (o := u) ?_ n2
      rw [upd_ne (ne_of e hdb (n1 _))]
      exact e
    have hlp : li ≠ p := ne_of hli (by rw [← hpb]; exact hp) fun z => by
      have e := HO.lst.inj z
      cases h : y.2 with
      | nil => rw [h] at e; cases e
      | cons w ws => rw [h] at e; cases e
    have hl2 : H2' li = some (.lst (y.2.map V.str)) := S'.dr.keep _ _ hlp (by rw [upd_ne (ne_of hli hdb fun z => by cases z)]; exact hli)
    have hd2 : H2' d = some (.frz od (.dK kvs)) := S'.dr.keep _ _ ndp upd_same
    have ha2 := nlp ha (fun _ z => by cases z) (fun _ _ z => by cases z)
    have hR2 : RowsAt H2' rw rows := by
      obtain ⟨vs, h2, pr⟩ := B.M.rows
      refine ⟨vs, S'.dr.keep _ _ B.nrw (by rw [upd_ne (ne_of h2 hdb fun z => by cases z)]; exact h2), paired_map (fun v y z => ?_) pr⟩
      obtain ⟨t, b, e, g1, g2⟩ := z
      exact ⟨t, b, e, nlp g1 (fun _ z => by cases z) (fun _ _ z => by cases z), nlp g2 (fun _ z => by cases z) (fun _ _ z => by cases z)⟩
    have hE2 : EdAt CE H2' x rows1 (groupsOf (rows.map (·.name)) sets) := (EdAt.lock B.ed hdb pk hk).on S'.dr
    have kn := groups_keys (rows.map (·.name)) sets
    obtain ⟨dx, _, _, _, _, hx, _⟩ := id hE2.ob
    have ln : (rows.map (·.name)).length = rows.length := List.length_map _
    refine rd_gn ?_
    refine app_run (ns := plTo (rows.map (·.name)) y.2 rows.length) (S := S') (by rw [upd_ne nds.symm]; exact ns0) ne (by omega) rfl (fun Q hQ => ?_) (fun H3 Q s3 hQ => ?_) ⟨plTo_ok _ _ _ (by omega), Nat.le_trans (plTo_len _ _ _) (Nat.le_refl _)⟩ fun H' v S2 => ⟨_, _, _, rfl, S2, by rw [List.length_append, List.length_singleton]; omega⟩
    · refine ⟨_, rfl, x, dx, _, rfl, hx, edFs_other (by decide +kernel), _, rfl, x, .str y.1, rows1, _, rfl, hE2, by rw [kn]; exact B.ok.sets.nd, .inl ⟨(y.1, plTo (rows.map (·.name)) y.2 (rows.map (·.name)).length), rfl, List.mem_map.mpr ⟨y, List.mem_of_getElem? hy, rfl⟩, fun H4 q s4 hq ga => hQ H4 q s4 hq ?_⟩⟩
      rw [← ln]
      exact ga
    · exact pls6 (y := y) (li := li) (s3 _ _ ha2) (hR2.later s3) (s3 _ _ hd2) hv (s3 _ _ hl2) B.l6 hQ
  · rintro σ H2 ⟨v8, us', nss', rfl, S', lu'⟩
    have hd2 : H2 d = some (.frz od (.dK kvs)) := S'.dr.keep _ _ ndp upd_same
    obtain ⟨r2, m2, hp2, hm2⟩ := S'.dr.src
    refine ⟨hd2, ?_⟩
    have fz : ∀ b u, H2 b = some u → (∀ o ks, u ≠ .frz o ks) → upd H2 d (.dK kvs) b = some u := fun b u e n => by rw [upd_ne (ne_of e hd2 (n _ _))]; exact e
    refine k _ v8 us' nss' ⟨⟨fun b u n e => ?_, ⟨r0, m0, by rw [← hpb]; exact hp⟩, r2, m2, by rw [upd_ne ndp.symm]; exact hp2, hm2⟩, by rw [upd_ne nds.symm]; exact S'.ls, paired_map (fun v z h => ?_) S'.prs, S'.pl⟩ (by omega) (by omega)
    · by_cases hb : b = d
      · subst hb
        rw [upd_same, ← e, hdb]
      · rw [upd_ne hb]
        exact S'.dr.keep b u n (by rw [upd_ne hb]; exact e)
    · obtain ⟨t, g, pl, e, h1, ⟨dx, t2, h2, h3⟩, h4, n1, n2⟩ := h
      refine ⟨t, g, pl, e, fz _ _ h1 (fun _ _ z => by cases z), ⟨dx, t2, fz _ _ h2 (fun _ _ z => by cases z), ?_⟩, fz _ _ h4 (fun _ _ z => by cases z), n1, n2⟩
      rcases h3 with (h | ⟨u, h⟩) | h
      · exact .inl (.inl (fz _ _ h (fun _ _ z => by cases z)))
      · refine .inl (.inr ⟨u, ?_⟩)
        rw [upd_ne (ne_of h hd2 fun z => by cases z)]
        exact h
      · exact .inr h
theorem M7_run (B : Bs CE H p a rw d x rows rows1 sets) (k : ∀ H', Same H H' → D.nx [s0, s1, s2, some (.ref a), s4, some (.ref x), s6, s7, s8, s9, s10, s11, s12, s13, s14] H') : M7 K CE D [s0, s1, s2, some (.ref a), s4, some (.ref x), s6, s7, s8, s9, s10, s11, s12, s13, s14] H := by
  have kn := groups_keys (rows.map (·.name)) sets
  have l3 := (B.ok.good (by have := B.l6; omega)).few
  obtain ⟨dx, r, g, pl, nu, h1, h2, _⟩ := id B.ed.ob
  have lg : (groupsOf (rows.map (·.name)) sets).length = sets.length := by unfold groupsOf; rw [List.length_map]
  refine rd_if (rd_test (rd_op ⟨_, rfl, x, dx, _, rfl, h1, x, rows1, _, rfl, B.ed, by omega, fun H1 q ys s1 hq cq py sy => ?_⟩))
  have M1 := B.M.later s1
  obtain ⟨kvs, hd, pk⟩ := M1.sets
  refine rd_cb (rd_cons (rd_op (rd_var rfl (rd_c ⟨a, _, _, _, rfl, rfl, SqT.of M1.tup, rfl, rd_nil ⟨d, kvs, sets.map (·.1), rfl, .inl hd, sets_keys pk, by rw [List.length_map]; omega, fun zs p2 pz sz hp2 => ?_⟩⟩))))
  have s2 : Same H1 (upd H1 p2 (.lst (zs.map V.str))) := (Same.refl H1).new hp2
  have c2 : upd H1 p2 (.lst (zs.map V.str)) p2 = some (.lst (zs.map V.str)) := upd_same
  show rNeD K _ _ (upd H1 p2 (.lst (zs.map V.str))) _
  generalize upd H1 p2 (.lst (zs.map V.str)) = H2 at s2 c2
  rw [kn] at py
  obtain rfl : zs = ys := sorted_unique sz sy (pz.trans py.symm)
  have ly : ∀ y ∈ zs, PyData.strOk y = true := fun y hy => sets3_lay y (B.ok.two.smem y (py.mem_iff.mp hy))
  refine ⟨.list (zs.map .str), .list (zs.map .str), .lst (SqL.of (s2 _ _ cq)) (dp_strs _), .lst (SqL.of c2) (dp_strs _), strs_shaped2 ly, strs_shaped2 ly, _, rfl, ?_⟩
  rw [strs_refl2 ly]
  exact ite_no rfl (k _ (s1.trans s2))
end
end Gk
/-! ### k03: couples put together by operators -/
namespace Gk
open PySem PySem.W PySem.Spec PyProof.Rows L2 NdefX
abbrev tPick3 (K : Frag) : TE := tCall (spPick K) [] E0 (tCons (tVar 2) (tCons (tVar 7) tNil))
abbrev P1 (K : Frag) : TS := tAsg (tTup (tCons (tPick3 K) (tCons (tPick3 K) tNil))) (gTup K 2 (gCons (gName 11) (gCons (gName 12) gNil)))
abbrev P2 : TS := tAsg (tCall spDraw [] E0 (tCons (tVar 2) (tCons (tC (.int 3)) tNil))) (gName 13)
abbrev tOne (K : Frag) (i : Int) : TE := tOp (rIxT K) (tVar 11) (tC (.int i))
abbrev tTwo (K : Frag) (i : Int) : TE := tOp (rIxT K) (tVar 12) (tC (.int i))
abbrev tBin3 (K : Frag) (CE CG : Addr) (op : Nat → List Int → List Int → List Int) : TE := tOp (rBinI CG (spGrOp K CE CG op) E0) (tOne K 0) (tTwo K 0)
abbrev tLcOr (K : Frag) : TE := tLc (iRng1 (tCons (tVar 6) tNil)) (gName 9) (tOr (tTest (tOp (rIn K false) (tVar 9) (tOne K 1))) (tTest (tOp (rIn K false) (tVar 9) (tTwo K 1)))) (tVar 9) [9]
abbrev tLcFil (K : Frag) (neg : Bool) : TE := tLc (iList K (tOne K 1)) (gName 9) (tTest (tOp (rIn K neg) (tVar 9) (tTwo K 1))) (tVar 9) [9]
abbrev P3 (K : Frag) (CE CG : Addr) : TS := tIfS (tTest (tOp rEq (tVar 13) (tC (.int 0)))) (appT K (tBin3 K CE CG orP) (tLcOr K)) (tIfS (tTest (tOp rEq (tVar 13) (tC (.int 1)))) (appT K (tBin3 K CE CG andP) (tLcFil K false)) (appT K (tBin3 K CE CG subP) (tLcFil K true)))
theorem range_len (n : Nat) : (rangeI n).length = n := by unfold rangeI; rw [List.length_map, List.length_range]
theorem or_ok {a b : List Int} (n : Nat) : PlOk (orP n a b) n := by
  unfold orP
  refine ⟨fun z hz => (range_ok n).1 z (List.mem_filter.mp hz).1, ?_⟩
  exact Nat.le_trans (List.length_filter_le _ _) (Nat.le_of_eq (range_len n))
theorem fil_ok {a : List Int} {n : Nat} {f : Int → Bool} (h : PlOk a n) : PlOk (a.filter f) n :=
  ⟨fun z hz => h.1 z (List.mem_filter.mp hz).1, Nat.le_trans (List.length_filter_le _ _) h.2⟩
section
variable {K : Frag} {CE CG : Addr} {D : Ends} {Hb H : Hp} {x p sm t1 t2 g1 g2 l1 l2 : Addr} {ns ms : List Int} {us : List V} {nss : List (List Int)} {n : Nat} {rows1 : List Row} {gs : List (Str × List Int)} {s0 s1 s2 s3 s4 s5 s6 s7 s8 s9 s10 s11 s12 s13 s14 : Option V} {σ : L2.St}
theorem bin3 {op : Nat → List Int → List Int → List Int} (e11 : σ[11]? = some (some (.ref t1))) (e12 : σ[12]? = some (some (.ref t2))) (h1 : H t1 = some (.tup [.ref g1, .ref l1])) (h2 : H t2 = some (.tup [.ref g2, .ref l2])) (ga : GrAt K CG H g1 x ns) (gb : GrAt K CG H g2 x ms) (he : EdAt CE H x rows1 gs) (l16 : rows1.length ≤ 16) (ln : ns.length ≤ 100) (lm : ms.length ≤ 100)
    {Q : VK} (k : ∀ H1 g, Same H H1 → H g = none → GrAt K CG H1 g x (op rows1.length ns ms) → Q (.ref g) H1) : tBin3 K CE CG op σ H Q := by
  obtain ⟨d1, u1, k1, _⟩ := id ga
  obtain ⟨d2, u2, k2, _⟩ := id gb
  refine ⟨_, e11, t1, _, _, _, rfl, rfl, SqT.of h1, rfl, _, e12, t2, _, _, _, rfl, rfl, SqT.of h2, rfl, ?_⟩
  exact ⟨g1, g2, d1, d2, _, _, rfl, rfl, k1, k2, g1, g2, x, x, ns, ms, rows1, gs, rfl, ga, gb, he, l16, ln, lm, fun H' q s hq g => ⟨q, rfl, k H' q s hq g⟩⟩
theorem lcFil3 (neg : Bool) {Q : VK} (h1 : H t1 = some (.tup [.ref g1, .ref l1])) (h2 : H t2 = some (.tup [.ref g2, .ref l2])) (ha : H l1 = some (.lst (ns.map V.int))) (hb : H l2 = some (.lst (ms.map V.int))) (ln : ns.length ≤ 100)
    (k : ∀ H2 l, Same H H2 → H l = none → H2 l = some (.lst ((ns.filter fun z => if neg then !decide (z ∈ ms) else decide (z ∈ ms)).map V.int)) → Q (.ref l) H2) :
    tLcFil K neg [s0, s1, s2, s3, s4, s5, s6, s7, s8, s9, s10, some (.ref t1), some (.ref t2), s13, s14] H Q := by
  refine ⟨_, rfl, t1, _, _, _, rfl, rfl, SqT.of h1, rfl, l1, rfl, ⟨_, SqL.of ha⟩, fun LD hLD => ?_⟩
  refine lc_list (K := K) (a := l1) (xs := ns.map V.int) (fun i H' => Same H H' ∧ H' LD = some (.lst (((ns.take i).filter fun z => if neg then !decide (z ∈ ms) else decide (z ∈ ms)).map V.int))) ⟨(Same.refl H).new hLD, upd_same⟩ (fun i H' _ z => SqL.of (z.1 _ _ ha)) ?_ ?_
  · rintro i v H2 hi ⟨s2, c2⟩
    obtain ⟨z, hz, rfl⟩ : ∃ z, ns[i]? = some z ∧ v = V.int z := by
      rw [List.getElem?_map] at hi
      cases e : ns[i]? with
      | none => rw [e] at hi; cases hi
      | some n => rw [e] at hi; exact ⟨n, rfl, (Option.some.inj hi).symm⟩
    have et := filter_take (f := fun z => if neg then !decide (z ∈ ms) else decide (z ∈ ms)) hz
    refine rd_gn ⟨rfl, rd_test (rd_op (rd_var rfl ?_))⟩
    refine ⟨_, rfl, t2, _, _, _, rfl, rfl, SqT.of (s2 _ _ h2), rfl, l2, _, rfl, .inl (SqL.of (s2 _ _ hb)), rfl, flat_ints ms, _, rfl, ?_⟩
    rw [inV_ints]
    refine ite2 (fun c => ?_) (fun c => ?_)
    · rw [if_pos c] at et
      have lf : ((ns.take i).filter fun z => if neg then !decide (z ∈ ms) else decide (z ∈ ms)).length ≤ 100 := Nat.le_trans (List.length_filter_le _ _) (by rw [List.length_take]; omega)
      refine ⟨_, rfl, _, c2, by rw [List.length_map]; exact Nat.lt_of_le_of_lt lf (by decide), s2.mut hLD, ?_⟩
      rw [upd_same, et, List.map_append]
      rfl
    · rw [if_neg c, List.append_nil] at et
      exact ⟨s2, by rw [et]; exact c2⟩
  · rintro H2 ⟨s2, c2⟩
    rw [List.length_map, List.take_length] at c2
    exact k H2 LD s2 hLD c2
theorem lcOr3 {Q : VK} (h1 : H t1 = some (.tup [.ref g1, .ref l1])) (h2 : H t2 = some (.tup [.ref g2, .ref l2])) (ha : H l1 = some (.lst (ns.map V.int))) (hb : H l2 = some (.lst (ms.map V.int))) (l6 : n ≤ 16)
    (k : ∀ H2 l, Same H H2 → H l = none → H2 l = some (.lst ((orP n ns ms).map V.int)) → Q (.ref l) H2) :
    tLcOr K [s0, s1, s2, s3, s4, s5, some (.int (n : Nat)), s7, s8, s9, s10, some (.ref t1), some (.ref t2), s13, s14] H Q := by
  refine ⟨_, rfl, n, rfl, by omega, by omega, fun LD hLD => ?_⟩
  refine lc_range (lo := 0) (n := (n : Int).toNat) (fun i H' => Same H H' ∧ H' LD = some (.lst ((((rangeI n).take i).filter fun z => decide (z ∈ ns ++ ms)).map V.int))) ⟨(Same.refl H).new hLD, upd_same⟩ ?_ ?_
  · rintro i H2 hi ⟨s2, c2⟩
    rw [Int.toNat_natCast] at hi
    have hz : (rangeI n)[i]? = some ((i : Nat) : Int) := by
      unfold rangeI
      rw [List.getElem?_map, List.getElem?_range hi]
      rfl
    have et := filter_take (f := fun z => decide (z ∈ ns ++ ms)) hz
    rw [Int.zero_add]
    have lf : (((rangeI n).take i).filter fun z => decide (z ∈ ns ++ ms)).length ≤ 100 := Nat.le_trans (List.length_filter_le _ _) (by rw [List.length_take]; omega)
    have yes : ((i : Nat) : Int) ∈ ns ++ ms → ∃ acc, H2 LD = some (.lst acc) ∧ acc.length < sizeLine ∧ Same H (upd H2 LD (.lst (acc ++ [V.int (i : Nat)]))) ∧ upd H2 LD (.lst (acc ++ [V.int (i : Nat)])) LD = some (.lst ((((rangeI n).take (i + 1)).filter fun z => decide (z ∈ ns ++ ms)).map V.int)) := fun c => by
      rw [if_pos (decide_eq_true c)] at et
      refine ⟨_, c2, by rw [List.length_map]; exact Nat.lt_of_le_of_lt lf (by decide), s2.mut hLD, ?_⟩
      rw [upd_same, et, List.map_append]
      rfl
    refine rd_gn ⟨rfl, rd_or (rd_test (rd_op (rd_var rfl ?_)))⟩
    refine ⟨_, rfl, t1, _, _, _, rfl, rfl, SqT.of (s2 _ _ h1), rfl, l1, _, rfl, .inl (SqL.of (s2 _ _ ha)), rfl, flat_ints ns, _, rfl, ?_⟩
    simp only [Bool.false_eq_true, if_false]
    rw [inV_ints]
    refine ite2 (fun c => ?_) (fun c => ?_)
    · exact ⟨_, rfl, yes (List.mem_append_left _ (of_decide_eq_true c))⟩
    · refine rd_test (rd_op (rd_var rfl ?_))
      refine ⟨_, rfl, t2, _, _, _, rfl, rfl, SqT.of (s2 _ _ h2), rfl, l2, _, rfl, .inl (SqL.of (s2 _ _ hb)), rfl, flat_ints ms, _, rfl, ?_⟩
      simp only [Bool.false_eq_true, if_false]
      rw [inV_ints]
      refine ite2 (fun c2 => ?_) (fun c3 => ?_)
      · exact ⟨_, rfl, yes (List.mem_append_right _ (of_decide_eq_true c2))⟩
      · have nn : ¬ decide (((i : Nat) : Int) ∈ ns ++ ms) = true := fun z => by
          rcases List.mem_append.mp (of_decide_eq_true z) with q | q
          · exact c (decide_eq_true q)
          · exact c3 (decide_eq_true q)
        rw [if_neg nn, List.append_nil] at et
        exact ⟨s2, by rw [et]; exact c2⟩
  · rintro H2 ⟨s2, c2⟩
    rw [Int.toNat_natCast, List.take_of_length_le (by rw [range_len]; exact Nat.le_refl _)] at c2
    exact k H2 LD s2 hLD c2
theorem P1_run (S : K3 K CG Hb H p sm x n us nss) (ne : sm ≠ p) (l0 : 1 ≤ us.length) (lu : us.length ≤ 100)
    (k : ∀ H' v1 v2, K3 K CG Hb H' p sm x n us nss → v1 ∈ us → v2 ∈ us → D.nx [s0, s1, some (.ref p), s3, s4, s5, s6, some (.ref sm), s8, s9, s10, some v1, some v2, s13, s14] H') :
    P1 K D [s0, s1, some (.ref p), s3, s4, s5, s6, some (.ref sm), s8, s9, s10, s11, s12, s13, s14] H := by
  obtain ⟨r, m, hp, hm⟩ := S.dr.src
  refine rd_asg (rd_tup (rd_cons (rd_call (rd_cons (rd_var rfl (rd_cons (rd_var rfl (rd_nil ⟨p, sm, r, m, us, rfl, hp, hm, SqL.of S.ls, ne, by omega, by omega, fun i v1 r1 m1 hv1 hm1 => ?_⟩))))))))
  have S1 := S.draw (r := r1) ne hm1
  have c1 : upd H p (srcO r1 m1) p = some (srcO r1 m1) := upd_same
  generalize upd H p (srcO r1 m1) = H1 at S1 c1
  refine rd_cons (rd_call (rd_cons (rd_var rfl (rd_cons (rd_var rfl (rd_nil ⟨p, sm, r1, m1, us, rfl, c1, hm1, SqL.of S1.ls, ne, by omega, by omega, fun j v2 r2 m2 hv2 hm2 => ?_⟩))))))
  have S2 := S1.draw (r := r2) ne hm2
  generalize upd H1 p (srcO r2 m2) = H2 at S2
  refine rd_nil ⟨s100 (show 2 ≤ 100 by decide), fun T hT => ?_⟩
  have q3 : Same H2 (upd H2 T (.tup [v1, v2])) := (Same.refl H2).new hT
  have c3 : upd H2 T (.tup [v1, v2]) T = some (.tup [v1, v2]) := upd_same
  generalize upd H2 T (.tup [v1, v2]) = H3 at q3 c3
  refine ⟨T, _, rfl, SqT.of c3, rfl, _, _, rfl, _, _, rfl, rfl, ?_⟩
  exact k H3 v1 v2 (S2.same q3) (List.mem_of_getElem? hv1) (List.mem_of_getElem? hv2)
theorem P2_run (S : K3 K CG Hb H p sm x n us nss) (ne : sm ≠ p) (k : ∀ H' z, K3 K CG Hb H' p sm x n us nss → D.nx [s0, s1, some (.ref p), s3, s4, s5, s6, s7, s8, s9, s10, s11, s12, some (.int z), s14] H') :
    P2 D [s0, s1, some (.ref p), s3, s4, s5, s6, s7, s8, s9, s10, s11, s12, s13, s14] H := by
  obtain ⟨r, m, hp, hm⟩ := S.dr.src
  exact rd_asg (rd_call (rd_cons (rd_var rfl (rd_cons (rd_c (rd_nil ⟨p, 3, r, m, rfl, hp, hm, by decide, by decide, fun z r1 m1 z0 z1 hm1 => rd_gn (k _ z (S.draw (r := r1) ne hm1))⟩))))))
theorem P3_run {v1 v2 : V} {z : Int} (S : K3 K CG Hb H p sm x n us nss) (ns0 : Hb sm = none) (ne : sm ≠ p) (lu : us.length ≤ 100) (h1 : v1 ∈ us) (h2 : v2 ∈ us) (he : EdAt CE H x rows1 gs) (lr : rows1.length = n) (l6 : n ≤ 6)
    (k : ∀ H' us' nss', K3 K CG Hb H' p sm x n us' nss' → us'.length = us.length + 1 → D.nx [s0, s1, s2, s3, s4, s5, some (.int (n : Nat)), some (.ref sm), s8, s9, s10, some v1, some v2, some (.int z), s14] H') :
    P3 K CE CG D [s0, s1, s2, s3, s4, s5, some (.int (n : Nat)), some (.ref sm), s8, s9, s10, some v1, some v2, some (.int z), s14] H := by
  obtain ⟨i, hi⟩ := List.getElem?_of_mem h1
  obtain ⟨j, hj⟩ := List.getElem?_of_mem h2
  obtain ⟨ns, hns, t1, g1, l1, rfl, c1, ga, cl1, _⟩ := paired_left S.prs hi
  obtain ⟨ms, hms, t2, g2, l2, rfl, c2, gb, cl2, _⟩ := paired_left S.prs hj
  have okn := S.pl ns (List.mem_of_getElem? hns)
  have okm := S.pl ms (List.mem_of_getElem? hms)
  have ln : ns.length ≤ 100 := Nat.le_trans okn.2 (by omega)
  have lm : ms.length ≤ 100 := Nat.le_trans okm.2 (by omega)
  have l16 : rows1.length ≤ 16 := by omega
  have more : ∀ {u : V}, (us ++ [u]).length = us.length + 1 := fun {u} => by rw [List.length_append, List.length_singleton]
  refine rd_if (rd_test (rd_op (rd_var rfl (rd_c ⟨rfl, _, rfl, ite2 (fun c => ?_) (fun c => ?_)⟩))))
  · exact app_run (ns := orP n ns ms) S ns0 ne lu rfl (fun Q hQ => bin3 rfl rfl c1 c2 ga gb he l16 ln lm fun H1 g s hg0 g3 => hQ H1 g s hg0 (by rw [← lr]; exact g3)) (fun H1 Q s hQ => lcOr3 (s _ _ c1) (s _ _ c2) (s _ _ cl1) (s _ _ cl2) (by omega) hQ) (or_ok n) fun H' v S' => k H' _ _ S' more
  · refine rd_if (rd_test (rd_op (rd_var rfl (rd_c ⟨rfl, _, rfl, ite2 (fun c => ?_) (fun c => ?_)⟩))))
    · exact app_run (ns := andP n ns ms) S ns0 ne lu rfl (fun Q hQ => bin3 rfl rfl c1 c2 ga gb he l16 ln lm fun H1 g s hg0 g3 => hQ H1 g s hg0 g3) (fun H1 Q s hQ => lcFil3 false (s _ _ c1) (s _ _ c2) (s _ _ cl1) (s _ _ cl2) ln hQ) (fil_ok okn) fun H' v S' => k H' _ _ S' more
    · exact app_run (ns := subP n ns ms) S ns0 ne lu rfl (fun Q hQ => bin3 rfl rfl c1 c2 ga gb he l16 ln lm fun H1 g s hg0 g3 => hQ H1 g s hg0 g3) (fun H1 Q s hQ => lcFil3 true (s _ _ c1) (s _ _ c2) (s _ _ cl1) (s _ _ cl2) ln hQ) (fil_ok okn) fun H' v S' => k H' _ _ S' more
end
end Gk
/-! ### k03: what is refused, one turn -/
namespace Gk
open PySem PySem.W PySem.Spec PyProof.Rows L2 NdefX
abbrev N9 (K : Frag) (CE CG : Addr) : TS := tIfS (tNot (tB (tCall (spAllRight K CE CG) [] E0 (tCons (tVar 5) (tCons (tVar 4) (tCons (tVar 7) tNil)))))) retF3 tNext
abbrev N10 (CE : Addr) : TS := tIfS (tNot (tB (tCall (spEdsRight CE) [] E0 (tCons (tVar 5) (tCons (tVar 3) tNil))))) retF3 tNext
abbrev tRep (K : Frag) (te : TE) : TE := tCB (rRepr K) (tCons te tNil)
abbrev N11 (K : Frag) (CE : Addr) : TS := tFor (iList K (tLst (tCons (tC (.str "nobody")) (tCons (tC (.str "")) (tCons (tC .non) (tCons (tC (.int 5)) (tCons (tTup (tCons (tC (.str "s")) tNil)) (tCons (tLst (tCons (tC (.str "s")) tNil)) (tCons (tC (.str "S")) (tCons (tC (.bl true)) tNil))))))))))
  (gName 14) (tIfS (tTest (tOp rNe (tRep K (tCall (spRefused K CE) [] E0 (tCons (tVar 5) (tCons (tVar 14) tNil)))) (tRep K (tLst (tCons (tVar 14) tNil))))) retF3 tNext)
abbrev N8 (K : Frag) (CE CG : Addr) : TS := tFor (iRng1 (tCons (tC (.int 8)) tNil)) (gName 10) (tSeq (P1 K) (tSeq P2 (P3 K CE CG)))
theorem nobody_no : ("nobody" : Str) ∉ setNames ∧ ("" : Str) ∉ setNames ∧ ("S" : Str) ∉ setNames := by decide +kernel
def repOk (d : PyData) : Bool := (PyData.list [d]).showable && (!(PyData.list [d]).hasDict && (decide ((PyData.list [d]).depth ≤ 40) && decide ((PyData.list [d]).shown.length ≤ sizeLine)))
theorem rep_str1 : repOk (.str "nobody") = true := by decide +kernel
theorem rep_str2 : repOk (.str "") = true := by decide +kernel
theorem rep_non : repOk .none = true := by decide +kernel
theorem rep_int : repOk (.int 5) = true := by decide +kernel
theorem rep_tup : repOk (.tuple [.str "s"]) = true := by decide +kernel
theorem rep_lst : repOk (.list [.str "s"]) = true := by decide +kernel
theorem rep_str3 : repOk (.str "S") = true := by decide +kernel
theorem rep_bl : repOk (.bool true) = true := by decide +kernel
section
variable {K : Frag} {CE CG CN : Addr} {D : Ends} {Hb H : Hp} {x p sm a rw d : Addr} {ns : List Int} {us : List V} {nss : List (List Int)} {n : Nat} {rows rows1 : List Row} {sets : List (Str × List Str)} {s0 s1 s2 s3 s4 s5 s6 s7 s8 s9 s10 s11 s12 s13 s14 : Option V}
theorem rep_read {q : Addr} {v : V} {dd : PyData} {Q : VK} (hq : H q = some (.lst [v])) (hd : Dp K H v dd) (ok : repOk dd = true) (h : Q (.str (PyData.list [dd]).shown) H) : rRepr K [.ref q] H Q := by
  unfold repOk at ok
  simp only [Bool.and_eq_true, decide_eq_true_eq, Bool.not_eq_true'] at ok
  exact ⟨q, .list [dd], rfl, .lst (SqL.of hq) (.cons hd .nil), ok.1, ok.2.1, ok.2.2.1, ok.2.2.2, h⟩
theorem N11_run (B : Bs CE H p a rw d x rows rows1 sets) (k : ∀ H' v14, Same H H' → D.nx [s0, s1, s2, s3, s4, some (.ref x), s6, s7, s8, s9, s10, s11, s12, s13, v14] H') :
    N11 K CE D [s0, s1, s2, s3, s4, some (.ref x), s6, s7, s8, s9, s10, s11, s12, s13, s14] H := by
  have kn := groups_keys (rows.map (·.name)) sets
  have no : ∀ w : Str, w ∉ setNames → w ∉ (groupsOf (rows.map (·.name)) sets).map (·.1) := fun w hw hm => by
    rw [kn] at hm
    obtain ⟨y, hy, rfl⟩ := List.mem_map.mp hm
    exact hw (B.ok.sets.mem y hy)
  unfold N11 tFor iList
  refine rd_lst (rd_cons (rd_c (rd_cons (rd_c (rd_cons (rd_c (rd_cons (rd_c (rd_cons (rd_tup (rd_cons (rd_c (rd_nil ⟨s100 (show 1 ≤ 100 by decide), fun T hT => ?_⟩)))))))))))))
  have q1 : Same H (upd H T (.tup [.str "s"])) := (Same.refl H).new hT
  have c1 : upd H T (.tup [.str "s"]) T = some (.tup [.str "s"]) := upd_same
  show tCons _ _ _ (upd H T (.tup [.str "s"])) _
  generalize upd H T (.tup [.str "s"]) = H1 at q1 c1
  refine rd_cons (rd_lst (rd_cons (rd_c (rd_nil ⟨s100 (show 1 ≤ 100 by decide), fun L0 hL0 => ?_⟩))))
  have q2 : Same H1 (upd H1 L0 (.lst [.str "s"])) := (Same.refl H1).new hL0
  have c2 : upd H1 L0 (.lst [.str "s"]) L0 = some (.lst [.str "s"]) := upd_same
  show tCons _ _ _ (upd H1 L0 (.lst [.str "s"])) _
  generalize upd H1 L0 (.lst [.str "s"]) = H2 at q2 c2
  refine rd_cons (rd_c (rd_cons (rd_c (rd_nil ⟨s100 (show 8 ≤ 100 by decide), fun L hL => ?_⟩))))
  have q3 : Same H2 (upd H2 L (.lst [.str "nobody", .str "", .non, .int 5, .ref T, .ref L0, .str "S", .bl true])) := (Same.refl H2).new hL
  have c3 : upd H2 L (.lst [.str "nobody", .str "", .non, .int 5, .ref T, .ref L0, .str "S", .bl true]) L = some (.lst [.str "nobody", .str "", .non, .int 5, .ref T, .ref L0, .str "S", .bl true]) := upd_same
  generalize upd H2 L (.lst [.str "nobody", .str "", .non, .int 5, .ref T, .ref L0, .str "S", .bl true]) = H3 at q3 c3
  have cT := q3 _ _ (q2 _ _ c1)
  have cL := q3 _ _ c2
  have q03 := (q1.trans q2).trans q3
  refine ⟨L, rfl, ⟨_, SqL.of c3⟩, ?_⟩
  refine for_list (K := K) (a := L) (xs := [.str "nobody", .str "", .non, .int 5, .ref T, .ref L0, .str "S", .bl true]) (fun i σ H' => ∃ v14, σ = [s0, s1, s2, s3, s4, some (.ref x), s6, s7, s8, s9, s10, s11, s12, s13, v14] ∧ Same H3 H') ⟨_, rfl, Same.refl H3⟩ (fun i σ H' _ z => by
    obtain ⟨v, _, s⟩ := z
    exact SqL.of (s _ _ c3)) ?_ ?_
  · rintro i v σ H4 hi ⟨v14, rfl, s4⟩
    have fact : ∃ dd, NoKey K H4 v ((groupsOf (rows.map (·.name)) sets).map (·.1)) ∧ (∀ H5, Same H4 H5 → Dp K H5 v dd) ∧ repOk dd = true := by
      have i8 : i < 8 := (List.getElem?_eq_some_iff.mp hi).1
      rcases (show i = 0 ∨ i = 1 ∨ i = 2 ∨ i = 3 ∨ i = 4 ∨ i = 5 ∨ i = 6 ∨ i = 7 by omega) with rfl | rfl | rfl | rfl | rfl | rfl | rfl | rfl
      · cases hi; exact ⟨.str "nobody", .inl ⟨_, rfl, no _ nobody_no.1⟩, fun _ _ => .str _, rep_str1⟩
      · cases hi; exact ⟨.str "", .inl ⟨_, rfl, no _ nobody_no.2.1⟩, fun _ _ => .str _, rep_str2⟩
      · cases hi; exact ⟨.none, .inr ⟨_, .base .non, kit_ty (by decide +kernel)⟩, fun _ _ => .non, rep_non⟩
      · cases hi; exact ⟨.int 5, .inr ⟨_, .base (.int 5), kit_ty (by decide +kernel)⟩, fun _ _ => .int 5, rep_int⟩
      · cases hi; exact ⟨.tuple [.str "s"], .inr ⟨_, .base (.tup (s4 _ _ cT)), kit_ty (by decide +kernel)⟩, fun _ s5 => .tup (SqT.of (s5 _ _ (s4 _ _ cT))) (.cons (.str _) .nil), rep_tup⟩
      · cases hi; exact ⟨.list [.str "s"], .inr ⟨_, .base (.lst (s4 _ _ cL)), kit_ty (by decide +kernel)⟩, fun _ s5 => .lst (SqL.of (s5 _ _ (s4 _ _ cL))) (.cons (.str _) .nil), rep_lst⟩
      · cases hi; exact ⟨.str "S", .inl ⟨_, rfl, no _ nobody_no.2.2⟩, fun _ _ => .str _, rep_str3⟩
      · cases hi; exact ⟨.bool true, .inr ⟨_, .base (.bl true), kit_ty (by decide +kernel)⟩, fun _ _ => .bl true, rep_bl⟩
    obtain ⟨dd, bad, hdp, rok⟩ := fact
    have sB := q03.trans s4
    refine rd_gn (rd_if (rd_test (rd_op (rd_cb (rd_cons (rd_call (rd_cons (rd_var rfl (rd_cons (rd_var rfl (rd_nil ?_)))))))))))
    refine ⟨x, v, rows1, _, rfl, B.ed.later sB, by rw [kn]; exact B.ok.sets.nd, bad, fun H5 q s5 hq cq => rd_nil ?_⟩
    refine rep_read cq (hdp _ s5) rok ?_
    refine rd_cb (rd_cons (rd_lst (rd_cons (rd_var rfl (rd_nil ⟨s100 (show 1 ≤ 100 by decide), fun q2 hq2 => rd_nil ?_⟩)))))
    have s6 : Same H5 (upd H5 q2 (.lst [v])) := (Same.refl H5).new hq2
    refine rep_read upd_same (hdp _ (s5.trans s6)) rok ?_
    refine ⟨rfl, _, rfl, ?_⟩
    rw [decide_eq_true rfl]
    exact ite_no rfl ⟨_, rfl, s4.trans (s5.trans s6)⟩
  · rintro σ H4 ⟨v14, rfl, s4⟩
    exact k _ _ (q03.trans s4)
theorem N8_run (B : Bs CE Hb p a rw d x rows rows1 sets) (S : K3 K CG Hb H p sm x rows.length us nss) (ns0 : Hb sm = none) (ne : sm ≠ p) (l0 : 1 ≤ us.length) (lu : us.length ≤ 5)
    (k : ∀ H' v10 v11 v12 v13 us' nss', K3 K CG Hb H' p sm x rows.length us' nss' → D.nx [s0, s1, some (.ref p), s3, s4, s5, some (.int (rows.length : Nat)), some (.ref sm), s8, s9, v10, v11, v12, v13, s14] H') :
    N8 K CE CG D [s0, s1, some (.ref p), s3, s4, s5, some (.int (rows.length : Nat)), some (.ref sm), s8, s9, s10, s11, s12, s13, s14] H := by
  have lr := paired_len B.ps
  unfold N8 tFor
  refine ⟨8, rfl, by decide, by decide, ?_⟩
  refine for_range (lo := 0) (n := 8) (fun i σ H' => ∃ v10 v11 v12 v13 us' nss', σ = [s0, s1, some (.ref p), s3, s4, s5, some (.int (rows.length : Nat)), some (.ref sm), s8, s9, v10, v11, v12, v13, s14] ∧ K3 K CG Hb H' p sm x rows.length us' nss' ∧ us'.length = us.length + i) ⟨_, _, _, _, us, nss, rfl, S, rfl⟩ ?_ ?_
  · rintro i σ H1 hi ⟨v10, v11, v12, v13, us', nss', rfl, S1, lu1⟩
    refine rd_gn ?_
    with_reducible refine rd_seq ?_
    refine P1_run S1 ne (by omega) (by omega) fun H2 w1 w2 S2 h1 h2 => ?_
    with_reducible refine rd_seq ?_
    refine P2_run S2 ne fun H3 z S3 => ?_
    refine P3_run S3 ns0 ne (by omega) h1 h2 (B.ed.on S3.dr) lr.symm B.l6 fun H4 us2 nss2 S4 l4 => ?_
    exact ⟨_, _, _, _, us2, nss2, rfl, S4, by omega⟩
  · rintro σ H1 ⟨v10, v11, v12, v13, us', nss', rfl, S1, lu1⟩
    exact k _ _ _ _ _ _ _ S1
abbrev turnT3 (K : Frag) (CE CG CN : Addr) : TS := tSeq M2 (tSeq (M3 K CE) (tSeq (M4 K) (tSeq (M5 K CE CG) (tSeq (M6 K CE CG CN) (tSeq (M7 K CE) (tSeq (N8 K CE CG) (tSeq (N9 K CE CG) (tSeq (N10 CE) (N11 K CE)))))))))
theorem turn3_run {r m : Int} (hp : H p = some (srcO r m)) (hm : SrcOk m)
    (k : ∀ H' v3 v4 v5 v6 v7 v8 v10 v11 v12 v13 v14, Drawn p H H' → D.nx [s0, s1, some (.ref p), v3, v4, v5, v6, v7, v8, s9, v10, v11, v12, v13, v14] H') : turnT3 K CE CG CN D [s0, s1, some (.ref p), s3, s4, s5, s6, s7, s8, s9, s10, s11, s12, s13, s14] H := by
  with_reducible refine rd_seq ?_
  refine M2_run hp hm fun H1 a rw d rows sets d1 nrw M ok l1 l6 => ?_
  with_reducible refine rd_seq ?_
  refine M3_run M ok l1 l6 fun H2 x rows1 q2 ps ea => ?_
  have d2 := d1.same q2
  have M2 := M.later q2
  have B2 : Bs CE H2 p a rw d x rows rows1 sets := ⟨M2, ok, l1, l6, ps, ea, nrw⟩
  obtain ⟨r2, m2, hp2, hm2⟩ := d2.src
  with_reducible refine rd_seq ?_
  refine M4_run M2.rows ?_
  with_reducible refine rd_seq ?_
  refine M5_run B2 hp2 hm2 fun Hc H3 sm v B3 dc ns0 ne qc S3 => ?_
  have dC := d2.trans dc
  obtain ⟨rc, mc, hpc⟩ := S3.dr.was
  with_reducible refine rd_seq ?_
  refine M6_run B3 S3 (by rw [qc _ _ hpc, hpc]) ns0 ne (show 1 ≤ 2 by decide) qc (fun H4 v8 us4 nss4 S4 lu4 l04 => ?_) (show 1 ≤ 1 by decide)
  with_reducible refine rd_seq ?_
  refine M7_run (B3.on S4.dr) fun H5 q5 => ?_
  have S5 := S4.same q5
  with_reducible refine rd_seq ?_
  refine N8_run B3 S5 ns0 ne l04 lu4 fun H6 v10 v11 v12 v13 us6 nss6 S6 => ?_
  have B6 := B3.on S6.dr
  with_reducible refine rd_seq ?_
  refine rd_if (rd_not (rd_b (rd_call (rd_cons (rd_var rfl (rd_cons (rd_var rfl (rd_cons (rd_var rfl (rd_nil ?_))))))))))
  refine ⟨x, rw, sm, us6, rows, rows1, _, nss6, rfl, B6.row, S6.ls, paired_map (fun _ _ z => GQ.gp z) S6.prs, S6.pl, fun H7 q7 => ⟨_, rfl, ite_no rfl ?_⟩⟩
  have B7 := B6.later q7
  show (tSeq (N10 CE) (N11 K CE)) D _ H7
  with_reducible refine rd_seq ?_
  refine rd_if (rd_not (rd_b (rd_call (rd_cons (rd_var rfl (rd_cons (rd_var rfl (rd_nil ?_))))))))
  refine ⟨x, a, rw, d, rows, rows1, sets, rfl, B7.M, ok, l1, l6, ps, B7.ed, fun H8 q8 => ⟨_, rfl, ite_no rfl ?_⟩⟩
  have B8 := B7.later q8
  show N11 K CE D _ H8
  refine N11_run B8 fun H9 v14 q9 => ?_
  exact k _ _ _ _ _ _ _ _ _ _ _ _ ((dC.trans S6.dr).same (q7.trans (q8.trans q9)))
end
end Gk
/-! ### k03: the law -/
namespace Gk
open PySem PySem.W PySem.Spec PyProof.Rows L2 NdefX
abbrev sLaw3 : Stmt := (top 38)
abbrev nLaw3 : List Str := ["script", "start", "source", "model", "rows", "edition", "many", "some", "name", "place", "turn", "one", "two", "kind", "thing"]
theorem scLaw3 : FnScope nLaw3 ["script"] (defScope sLaw3) := ⟨rfl, rfl, rfl, by decide +kernel, rfl, by decide +kernel, by decide +kernel⟩
def spLaw3 (K : Frag) : Sp := fun vs H Q _ => ∃ (a : Addr) (ns : List Int), vs = [.ref a] ∧ SqL K H a (ns.map V.int) ∧ ns.length ≤ 63 ∧ (∀ z ∈ ns, Builtin.Int.intBits z ≤ 1048576) ∧ ∀ H', Q (.bl true) H'
theorem passE0 {P : Program} {w : World} {X : Cx} : Passes (L2.CX P w) X E0 := fun _ _ _ _ _ _ _ h => by
  obtain ⟨_, _, _, _, _, _, _, _, _, _, _, _, h⟩ := h
  exact h.elim
structure LawTxt3 (P : Program) (w : World) (K : Frag) (mg : Str → Option Value) (base : Heap) (CE CG CN : Addr) : Prop where
  src : ∃ f fd, FnOk P w K mg base CX0 1 f fd ["script", "start"] (spSource K) ∧ Binds K fd ["script", "start"] [] ∧ mg "_law_source" = some (.ref f) ∧ keepIn K (.ref f) = true
  drw : ∃ f fd, FnOk P w K mg base CX0 1 f fd ["source", "span"] spDraw ∧ Binds K fd ["source", "span"] [] ∧ mg "_law_draw" = some (.ref f) ∧ keepIn K (.ref f) = true
  pck : ∃ f fd, FnOk P w K mg base CX0 2 f fd ["source", "entries"] (spPick K) ∧ Binds K fd ["source", "entries"] [] ∧ mg "_law_pick" = some (.ref f) ∧ keepIn K (.ref f) = true
  mdl : ∃ f fd, FnOk P w K mg base CX0 4 f fd ["source", "many"] spModel ∧ Binds K fd ["source", "many"] [] ∧ mg "_law_model" = some (.ref f) ∧ keepIn K (.ref f) = true
  led : ∃ f fd, FnOk P w K mg base CX0 6 f fd ["model"] (spLawEd CE) ∧ Binds K fd ["model"] [] ∧ mg "_law_edition" = some (.ref f) ∧ keepIn K (.ref f) = true
  ref : ∃ f fd, FnOk P w K mg base CX0 5 f fd ["edition", "thing"] (spRefused K CE) ∧ Binds K fd ["edition", "thing"] [] ∧ mg "_law_refused" = some (.ref f) ∧ keepIn K (.ref f) = true
  alr : ∃ f fd, FnOk P w K mg base CX0 6 f fd ["edition", "rows", "some"] (spAllRight K CE CG) ∧ Binds K fd ["edition", "rows", "some"] [] ∧ mg "_law_all_right" = some (.ref f) ∧ keepIn K (.ref f) = true
  edr : ∃ f fd, FnOk P w K mg base CX0 7 f fd ["edition", "model"] (spEdsRight CE) ∧ Binds K fd ["edition", "model"] [] ∧ mg "_law_editions_right" = some (.ref f) ∧ keepIn K (.ref f) = true
  grp : ∃ f fd, FnOk P w K mg base (L2.CX P w) 4 f fd ["self", "name"] (spEdGroup K CE CG CN) ∧ Binds K fd ["self", "name"] [] ∧ Meth K CE "group" f
  sts : ∃ p f fd, FnOk P w K mg base CX0 1 f fd ["self"] (spEdSets CE) ∧ Binds K fd ["self"] [] ∧ PropOf K CE "sets" p f
  all : ∃ f fd, FnOk P w K mg base CX0 3 f fd ["self"] (spEdAll K CE CG) ∧ Binds K fd ["self"] [] ∧ Meth K CE "everything" f
  orO : ∃ f fd, FnOk P w K mg base CX0 3 f fd ["self", "other"] (spGrOp K CE CG orP) ∧ Binds K fd ["self", "other"] [] ∧ findIn K (.ref CG) "__or__" = some (some (.ref f)) ∧ isFn K (.ref f) = true
  andO : ∃ f fd, FnOk P w K mg base CX0 3 f fd ["self", "other"] (spGrOp K CE CG andP) ∧ Binds K fd ["self", "other"] [] ∧ findIn K (.ref CG) "__and__" = some (some (.ref f)) ∧ isFn K (.ref f) = true
  subO : ∃ f fd, FnOk P w K mg base CX0 3 f fd ["self", "other"] (spGrOp K CE CG subP) ∧ Binds K fd ["self", "other"] [] ∧ findIn K (.ref CG) "__sub__" = some (some (.ref f)) ∧ isFn K (.ref f) = true
  sfG : selfFirst K CG = true
  ZE : ClsQ K CE
  range : mg "range" = none
  max : mg "max" = none
  min : mg "min" = none
  len : mg "len" = none
  srt : mg "sorted" = none
  list : mg "list" = none
  repr : mg "repr" = none
theorem boot_max3 : bootBuiltins "max" = some (.builtin "max") := by decide +kernel
theorem boot_min3 : bootBuiltins "min" = some (.builtin "min") := by decide +kernel
theorem boot_repr3 : bootBuiltins "repr" = some (.builtin "repr") := by decide +kernel
theorem boot_sorted4 : bootBuiltins "sorted" = some (.builtin "sorted") := by decide +kernel
section
variable {P : Program} {w : World} {K : Frag} {mg : Str → Option Value} {base : Heap} {CE CG CN : Addr}
theorem ok_law3 {f : Addr} {fd0 : FuncData} (F : Fun K "law" "law" sLaw3 f fd0) (T : LawTxt3 P w K mg base CE CG CN) : FnG P w K mg base CX0 8 f fd0 ["script"] (spLaw3 K) := by
  obtain ⟨f1, d1, G1, b1, g1, k1⟩ := T.src
  obtain ⟨f2, d2, G2, b2, g2, k2⟩ := T.drw
  obtain ⟨f3, d3, G3, b3, g3, k3⟩ := T.mdl
  obtain ⟨f4, d4, G4, b4, g4, k4⟩ := T.led
  obtain ⟨fP, dP, GP, bP, gP, kP⟩ := T.pck
  obtain ⟨fR, dR, GR, bR, gR, kR⟩ := T.ref
  obtain ⟨fA, dA, GA, bA, gA, kA⟩ := T.alr
  obtain ⟨fE, dE, GE, bE, gE, kE⟩ := T.edr
  obtain ⟨f5, d5, G5, b5, h5⟩ := T.grp
  obtain ⟨p8, f8, d8, G8, b8, h8⟩ := T.sts
  obtain ⟨f9, d9, G9, b9, h9⟩ := T.all
  obtain ⟨fO, dO, GO, bO, hO, iO⟩ := T.orO
  obtain ⟨fN, dN, GN, bN, hN, iN⟩ := T.andO
  obtain ⟨fS, dS, GS, bS, hS, iS⟩ := T.subO
  have ZE := T.ZE
  refine Fun.okG F scLaw3 (fun vs H Q E h => ?_) (fun cdv A outer s H vs Q E hG hr h => ?_)
  · obtain ⟨a, ns, rfl, _⟩ := h
    rfl
  · obtain ⟨a, ns, rfl, hS', hlen, hbits, k⟩ := h
    have nd := scLaw3.nd
    have hr1 : Room 1 _ := hr.mono (by decide)
    have hr2 : Room 2 _ := hr.mono (by decide)
    have hr3 : Room 3 _ := hr.mono (by decide)
    have hr4 : Room 4 _ := hr.mono (by decide)
    have hr5 : Room 5 _ := hr.mono (by decide)
    have hr6 : Room 6 _ := hr.mono (by decide)
    have hu := hu_of hr
    have hu64 : (A.deeper (envOfC "law" (defScope sLaw3) s.heap.objs.size f cdv)).units + 64 < cLine := by have := hr.un; omega
    have hu60 : (A.deeper (envOfC "law" (defScope sLaw3) s.heap.objs.size f cdv)).units + 60 < cLine := by have := hr.un; omega
    have hG1 : (A.deeper (envOfC "law" (defScope sLaw3) s.heap.objs.size f cdv)).guards = some [] := hG
    refine ⟨_, (pss_cons (ps_for PassesOwn.never rfl (pi_range1 (by rfl) T.range (pa_cons (pe_callB (call_max2 rfl) (by rfl) T.max boot_max3 (pa_cons pe_int (pa_cons (pe_callB (call_min2 rfl) (by rfl) T.min boot_min3 (pa_cons pe_int (pa_cons (pe_callB call_len_seq (by rfl) T.len PySem.boot_len (pa_cons (pv 0) pa_nil)) pa_nil))) pa_nil))) pa_nil)) (pg_name (i := 1) nd rfl (Or.inl rfl)) (pss_cons (ps_set (i := 2) nd rfl (Or.inl rfl) (pe_call G1 hr1 (by rfl) g1 k1 b1 .nil pass0 (pa_cons (pv 0) (pa_cons (pv 1) pa_nil)))) (pss_cons (ps_set (i := 3) nd rfl (Or.inr rfl) (pe_call G3 hr4 (by rfl) g3 k3 b3 .nil pass0 (pa_cons (pv 2) (pa_cons (pe_op op_add pe_int (pe_call G2 hr1 (by rfl) g2 k2 b2 .nil pass0 (pa_cons (pv 2) (pa_cons pe_int pa_nil)))) pa_nil)))) (pss_cons (ps_asg (pe_tup (pa_cons (pe_ix ix_tup (pv 3) pe_int (fun _ _ => rfl)) (pa_cons (pe_call G4 hr6 (by rfl) g4 k4 b4 .nil pass0 (pa_cons (pv 3) pa_nil)) pa_nil))) (pg_tup rfl (pgs_cons (pg_name (i := 4) nd rfl (Or.inr rfl)) (pgs_cons (pg_name (i := 5) nd rfl (Or.inl rfl)) pgs_nil)))) (pss_cons (ps_set (i := 6) nd rfl (Or.inl rfl) (pe_callB call_len_seq (by rfl) T.len PySem.boot_len (pa_cons (pv 4) pa_nil))) (pss_cons (ps_set (i := 7) nd rfl (Or.inl rfl) (pe_lst (pa_cons (pe_tup (pa_cons (pe_meth0 (pv 5) ZE.cl h9 G9 hr3 b9 .nil pass0) (pa_cons (pe_listRg rfl (by rfl) T.list (prg_1 (by rfl) T.range (pv 6))) pa_nil))) pa_nil))) (pss_cons (ps_lock (ps_for PassesOwn.never rfl (pi_keys (pe_ix ix_tup (pv 3) pe_int (fun _ _ => rfl))) (pg_name (i := 8) nd rfl (Or.inr rfl)) (pss_one (ps_expr (by exact (pe_bm PySem.F.plainAttrs_list PySem.F.slot_list_append PySem.F.type_list_append mt_append (pv 7) (pa_cons (pe_tup (pa_cons (pe_meth (E := E0) (pv 5) ZE.cl h5 G5 hr4 b5 .nil passE0 (pa_cons (pv 8) pa_nil)) (pa_cons (pe_lc (own := [("place", 9)]) (te := tVar 9) (g := gName 9) (tt := tTest (tOp (rIn K false) (tOp (rIxT K) (tOp (rIxL K) (tVar 4) (tVar 9)) (tC (.int 0))) (tDGet (tMd 1 K) (tVar 8)))) rfl nd (pi_range1 (by rfl) T.range (pa_cons (pv 6) pa_nil)) (blkOk_by (N := nLaw3) (sc := defScope sLaw3) (by decide +kernel)) (fun _ _ _ _ _ => (pg_name (i := 9) nd rfl (Or.inl rfl))) (fun _ _ _ _ _ => by exact (pts_one (pt_cmpR op_in_seq (pe_ix ix_tup (pe_ix ix_list (pv 4) (pv 9) (fun _ _ => rfl)) pe_int (fun _ _ => rfl)) (pe_dget hu (pe_ix ix_tup (pv 3) pe_int (fun _ _ => rfl)) (pv 8) (fun _ _ => rfl)) (by rfl)))) (fun _ _ _ _ _ => by exact (pv 9))) pa_nil))) pa_nil))))))) (pss_cons (ps_if (pt_cmpR (op_neD hu64) (pe_prop (pv 5) ZE.cl h8 G8 hr2 b8 .nil pass0 rfl) (pe_callB (call_sortedD rfl) (by rfl) T.srt boot_sorted4 (pa_cons (pe_ix ix_tup (pv 3) pe_int (fun _ _ => rfl)) pa_nil)) (nomark _)) (pss_one (ps_ret pe_bl)) pss_nil) (pss_cons (ps_for PassesOwn.never rfl (pi_range1 (by rfl) T.range (pa_cons pe_int pa_nil)) (pg_name (i := 10) nd rfl (Or.inl rfl)) (pss_cons (ps_asg (pe_tup (pa_cons (pe_call GP hr2 (by rfl) gP kP bP .nil pass0 (pa_cons (pv 2) (pa_cons (pv 7) pa_nil))) (pa_cons (pe_call GP hr2 (by rfl) gP kP bP .nil pass0 (pa_cons (pv 2) (pa_cons (pv 7) pa_nil))) pa_nil))) (pg_tup rfl (pgs_cons (pg_name (i := 11) nd rfl (Or.inr rfl)) (pgs_cons (pg_name (i := 12) nd rfl (Or.inr rfl)) pgs_nil)))) (pss_cons (ps_set (i := 13) nd rfl (Or.inl rfl) (pe_call G2 hr1 (by rfl) g2 k2 b2 .nil pass0 (pa_cons (pv 2) (pa_cons pe_int pa_nil)))) (pss_one (ps_if (pt_cmpR op_eq (pv 13) pe_int (nomark _)) (pss_one (ps_expr (by exact (pe_bm PySem.F.plainAttrs_list PySem.F.slot_list_append PySem.F.type_list_append mt_append (pv 7) (pa_cons (pe_tup (pa_cons (pe_op (op_binI (E := E0) GO hr3 T.sfG hO iO bO pass0) (pe_ix ix_tup (pv 11) pe_int (fun _ _ => rfl)) (pe_ix ix_tup (pv 12) pe_int (fun _ _ => rfl))) (pa_cons (pe_lc (own := [("place", 9)]) (te := tVar 9) (g := gName 9) (tt := tOr (tTest (tOp (rIn K false) (tVar 9) (tOne K 1))) (tTest (tOp (rIn K false) (tVar 9) (tTwo K 1)))) rfl nd (pi_range1 (by rfl) T.range (pa_cons (pv 6) pa_nil)) (blkOk_by (N := nLaw3) (sc := defScope sLaw3) (by decide +kernel)) (fun _ _ _ _ _ => (pg_name (i := 9) nd rfl (Or.inl rfl))) (fun _ _ _ _ _ => by exact (pts_one (PW.pt (pw_or (pt_cmpR op_in_seq (pv 9) (pe_ix ix_tup (pv 11) pe_int (fun _ _ => rfl)) (by rfl)) (pw_or1 (pt_cmpR op_in_seq (pv 9) (pe_ix ix_tup (pv 12) pe_int (fun _ _ => rfl)) (by rfl))))))) (fun _ _ _ _ _ => by exact (pv 9))) pa_nil))) pa_nil))))) (pss_one (ps_if (pt_cmpR op_eq (pv 13) pe_int (nomark _)) (pss_one (ps_expr (by exact (pe_bm PySem.F.plainAttrs_list PySem.F.slot_list_append PySem.F.type_list_append mt_append (pv 7) (pa_cons (pe_tup (pa_cons (pe_op (op_binI (E := E0) GN hr3 T.sfG hN iN bN pass0) (pe_ix ix_tup (pv 11) pe_int (fun _ _ => rfl)) (pe_ix ix_tup (pv 12) pe_int (fun _ _ => rfl))) (pa_cons (pe_lc (own := [("place", 9)]) (te := tVar 9) (g := gName 9) (tt := tTest (tOp (rIn K false) (tVar 9) (tTwo K 1))) rfl nd (pi_list (pe_ix ix_tup (pv 11) pe_int (fun _ _ => rfl))) (blkOk_by (N := nLaw3) (sc := defScope sLaw3) (by decide +kernel)) (fun _ _ _ _ _ => (pg_name (i := 9) nd rfl (Or.inl rfl))) (fun _ _ _ _ _ => by exact (pts_one (pt_cmpR op_in_seq (pv 9) (pe_ix ix_tup (pv 12) pe_int (fun _ _ => rfl)) (by rfl)))) (fun _ _ _ _ _ => by exact (pv 9))) pa_nil))) pa_nil))))) (pss_one (ps_expr (by exact (pe_bm PySem.F.plainAttrs_list PySem.F.slot_list_append PySem.F.type_list_append mt_append (pv 7) (pa_cons (pe_tup (pa_cons (pe_op (op_binI (E := E0) GS hr3 T.sfG hS iS bS pass0) (pe_ix ix_tup (pv 11) pe_int (fun _ _ => rfl)) (pe_ix ix_tup (pv 12) pe_int (fun _ _ => rfl))) (pa_cons (pe_lc (own := [("place", 9)]) (te := tVar 9) (g := gName 9) (tt := tTest (tOp (rIn K true) (tVar 9) (tTwo K 1))) rfl nd (pi_list (pe_ix ix_tup (pv 11) pe_int (fun _ _ => rfl))) (blkOk_by (N := nLaw3) (sc := defScope sLaw3) (by decide +kernel)) (fun _ _ _ _ _ => (pg_name (i := 9) nd rfl (Or.inl rfl))) (fun _ _ _ _ _ => by exact (pts_one (pt_cmpR op_notIn_seq (pv 9) (pe_ix ix_tup (pv 12) pe_int (fun _ _ => rfl)) (by rfl)))) (fun _ _ _ _ _ => by exact (pv 9))) pa_nil))) pa_nil)))))))))))) (pss_cons (ps_if (pt_not (pt_val (pe_call GA hr6 (by rfl) gA kA bA .nil pass0 (pa_cons (pv 5) (pa_cons (pv 4) (pa_cons (pv 7) pa_nil)))))) (pss_one (ps_ret pe_bl)) pss_nil) (pss_cons (ps_if (pt_not (pt_val (pe_call GE hr (by rfl) gE kE bE .nil pass0 (pa_cons (pv 5) (pa_cons (pv 3) pa_nil))))) (pss_one (ps_ret pe_bl)) pss_nil) (pss_one (ps_for PassesOwn.never rfl (pi_list (pe_lst (pa_cons pe_str (pa_cons pe_str (pa_cons pe_non (pa_cons pe_int (pa_cons (pe_tup (pa_cons pe_str pa_nil)) (pa_cons (pe_lst (pa_cons pe_str pa_nil)) (pa_cons pe_str (pa_cons pe_bl pa_nil)))))))))) (pg_name (i := 14) nd rfl (Or.inl rfl)) (pss_one (ps_if (pt_cmpR op_ne (pe_callB (call_reprD hG1 hu60) (by rfl) T.repr boot_repr3 (pa_cons (pe_call GR hr5 (by rfl) gR kR bR .nil pass0 (pa_cons (pv 5) (pa_cons (pv 14) pa_nil))) pa_nil)) (pe_callB (call_reprD hG1 hu60) (by rfl) T.repr boot_repr3 (pa_cons (pe_lst (pa_cons (pv 14) pa_nil)) pa_nil)) (nomark _)) (pss_one (ps_ret pe_bl)) pss_nil))))))))))))))) (pss_one (ps_ret pe_bl))), ?_⟩
    walk_at "rd"
    refine ⟨_, rfl, a, _, rfl, .inl hS', _, _, rfl, _, _, rfl, _, rfl, ?_, ?_, ?_⟩
    · split <;> (try split) <;> omega
    · split <;> (try split) <;> omega
    have hn : ∀ j : Int, (if (if ((ns.map V.int).length : Int) < 4 then ((ns.map V.int).length : Int) else 4) > 1 then (if ((ns.map V.int).length : Int) < 4 then ((ns.map V.int).length : Int) else 4) else 1) = j → j.toNat ≤ 4 := by
      intro j e
      split at e <;> (try split at e) <;> omega
    generalize hj : (if (if ((ns.map V.int).length : Int) < 4 then ((ns.map V.int).length : Int) else 4) > 1 then (if ((ns.map V.int).length : Int) < 4 then ((ns.map V.int).length : Int) else 4) else 1) = j
    have hj4 := hn j hj
    refine for_range (lo := 0) (n := j.toNat) (fun i σ H' => ∃ v1 v2 v3 v4 v5 v6 v7 v8 v9 v10 v11 v12 v13 v14, σ = [some (.ref a), v1, v2, v3, v4, v5, v6, v7, v8, v9, v10, v11, v12, v13, v14] ∧ Same H H') ⟨_, _, _, _, _, _, _, _, _, _, _, _, _, _, rfl, Same.refl H⟩ ?_ ?_
    · rintro i σ Hs hi ⟨v1, v2, v3, v4, v5, v6, v7, v8, v9, v10, v11, v12, v13, v14, rfl, s0⟩
      refine rd_gn ?_
      with_reducible refine rd_seq ?_
      have hi4 : i ≤ 3 := by omega
      refine rd_asg (rd_call (rd_cons (rd_var rfl (rd_cons (rd_var rfl (rd_nil ⟨a, ns, _, rfl, s0.seq hS', hlen, hbits, by omega, by omega, fun p r m hp hm => rd_gn ?_⟩))))))
      have c1 : upd Hs p (srcO r m) p = some (srcO r m) := upd_same
      have s1 : Same H (upd Hs p (srcO r m)) := s0.new hp
      have n1 : H p = none := s0.free hp
      generalize upd Hs p (srcO r m) = H1 at c1 s1
      refine turn3_run (K := K) (CE := CE) (CG := CG) (CN := CN) c1 hm fun H3 w3 w4 w5 w6 w7 w8 w10 w11 w12 w13 w14 dd => ?_
      exact ⟨_, _, _, _, _, _, _, _, _, _, _, _, _, _, rfl, fun b u hb => dd.keep b u (ne_of_none hb n1) (s1 b u hb)⟩
    · rintro σ Hs ⟨v1, v2, v3, v4, v5, v6, v7, v8, v9, v10, v11, v12, v13, v14, rfl, s0⟩
      walk_at "rd"
      exact k _
end
end Gk
/-! ### one class of errors, as the top has written it -/
namespace Gk
open PySem PySem.W PySem.Spec PyProof.Rows L2 NdefX
/-- an error class's __init__ as it is written -/
structure ErrSt (st : Stmt) (fld : Str) : Prop where
  ex : ∃ (txt : Str) (j : Nat) (p0 p1 p2 p3 p4 p5 p6 p7 p8 p9 : Pos), defBody st = errBody txt fld j p0 p1 p2 p3 p4 p5 p6 p7 p8 p9 ∧ SupEval txt j p0 p1 p2 p3 p4
  sc : nscB ["self", fld, "__class__"] ["self", fld] ["__class__"] (defScope st) = true
  su : (defScope st).names.lookup ("super" : Str) = some .globalImplicit
  arg : ∃ ar : Arg, ((defArgs st).posonlyargs ++ (defArgs st).args).head? = some ar ∧ ar.arg = "self"
  bnd : ∀ (q : Str) (cl : List (Str × Addr)) (kV doc pm ct cdv : Value) (an : Option Addr) (u v : Value), bindArgs (fnX "__init__" q (defArgs st) (defBody st) (defScope st) cl .none kV doc pm an cdv ct) ⟨[u, v], []⟩ = pure ([("self", u), (fld, v)] : List (Str × Value))
  kwb : ∀ (q : Str) (cl : List (Str × Addr)) (kV doc pm ct cdv : Value) (an : Option Addr) (u v : Value), bindArgs (fnX "__init__" q (defArgs st) (defBody st) (defScope st) cl .none kV doc pm an cdv ct) ⟨[u], [(fld, v)]⟩ = pure ([("self", u), (fld, v)] : List (Str × Value))
def noFd : FuncData := fnX "" "" ⟨[], [], none, [], [], none, []⟩ [] ⟨.function, [], false, false, []⟩ [] .none .none .none .none none .none .none
/-- the def at f -/
def fdAt (K : Frag) (f : Addr) : FuncData := match K.lookup f with
  | some ⟨_, _, .func fd, _⟩ => fd
  | _ => noFd
theorem fdAt_of {K : Frag} {f : Addr} {oc : Value} {od : Option Addr} {fd : FuncData} {osl : Array (Option Value)} (h : K.lookup f = some ⟨oc, od, .func fd, osl⟩) : fdAt K f = fd := by
  unfold fdAt
  rw [h]
/-- the objects of an error class, as they are written -/
structure ErrObj (P : Program) (K : Frag) (st : Stmt) (C fI : Addr) : Prop where
  cls : ∃ nm q N bs bm sn sub ab col dd k0 k1 k2 k3 k5, K.lookup C = some (excClassObj nm q C N bs bm true sn sub ab col dd k0 k1 k2 k3 k5 "ValueError.__new__") ∧ PySem.HandSPX.refsVE bm = true
  fn : ∃ (oc kV doc pm ct ccl cl : Value) (od an cdd cld : Option Addr) (osl ccs csl : Array (Option Value)) (q : Str) (cc cd : Addr) (vs : Array Value) (file : Str) (tf : Tok),
    K.lookup fI = some ⟨oc, od, .func (fnX "__init__" q (defArgs st) (defBody st) (defScope st) [("__class__", cc)] .none kV doc pm an (.ref cd) ct), osl⟩ ∧ codeIn K (.ref cd) q = true ∧ K.lookup cd = some ⟨ccl, cdd, .fields vs, ccs⟩ ∧ vs[2]? = some (.str file tf) ∧ ((P.main.file : Str) == file) = true ∧
    K.lookup cc = some ⟨cl, cld, .cell (some (.ref C)), csl⟩
theorem errObj_mk {P : Program} {K : Frag} {st : Stmt} {C fI : Addr} {nm q0 : Str} {N : Addr} {bs bm : List Value} {sn : List Str} {sub : List Value} {ab : Bool} {col : Option Bool} {dd : Option Addr} {k0 k1 k2 k3 k5 : Option Value}
    {oc kV doc pm ct ccl cl : Value} {od an cdd cld : Option Addr} {osl ccs csl : Array (Option Value)} {q : Str} {cc cd : Addr} {vs : Array Value} {file : Str} {tf : Tok}
    (lC : K.lookup C = some (excClassObj nm q0 C N bs bm true sn sub ab col dd k0 k1 k2 k3 k5 "ValueError.__new__")) (hb : PySem.HandSPX.refsVE bm = true)
    (lI : K.lookup fI = some ⟨oc, od, .func (fnX "__init__" q (defArgs st) (defBody st) (defScope st) [("__class__", cc)] .none kV doc pm an (.ref cd) ct), osl⟩) (hc : codeIn K (.ref cd) q = true) (ld : K.lookup cd = some ⟨ccl, cdd, .fields vs, ccs⟩) (h2 : vs[2]? = some (.str file tf)) (hf : ((P.main.file : Str) == file) = true)
    (lc : K.lookup cc = some ⟨cl, cld, .cell (some (.ref C)), csl⟩) : ErrObj P K st C fI :=
  ⟨⟨nm, q0, N, bs, bm, sn, sub, ab, col, dd, k0, k1, k2, k3, k5, lC, hb⟩, ⟨oc, kV, doc, pm, ct, ccl, cl, od, an, cdd, cld, osl, ccs, csl, q, cc, cd, vs, file, tf, lI, hc, ld, h2, hf, lc⟩⟩
/-- the answers that a class of errors gives -/
def errChk (K : Frag) (x fld : Str) (C fI : Addr) : Bool :=
  nsIn K mainGlobals x == some (some (.ref C)) && (findIn K (.ref C) "__init__" == some (some (.ref fI)) && (typeIn K (.ref fI) == some (.type "function") && (findIn K (.ref C) fld == some none && (subIn K (.ref C) (.type "ValueError") == some true && (mroIn K C (.ref C) == some true &&
  (ks_superIn K C C "__init__" == some (some (.builtin "ValueError.__init__")) && (findIn K (.ref C) "__setattr__" == some (some (.builtin "object.__setattr__")) && (subIn K (.ref C) (.type "BaseException") == some true && (typeIn K (.ref C) == some (.type "type") && (keepIn K (.ref C) &&
  (findIn K (.ref C) "__getattribute__" == some (some (.builtin "BaseException.__getattribute__")) && (findIn K (.ref C) "__getattr__" == some none && (hasDictIn K C && (findIn K (.ref C) "__class__" == some (some (.builtin "object.__class__")) && mroIn K C (.type "object") == some true))))))))))))))
section
variable {P : Program} {K : Frag} {mg : Str → Option Value} {C fI : Addr} {x fld : Str} {st : Stmt} {h : Heap}
theorem err_one (X : K.In h) (NS : h.Ns mainGlobals mg) (S : ErrSt st fld) (fd1 : (fld == ("__debug__" : Str)) = false) (fd2 : (fld == ("__classdict__" : Str)) = false) (O : ErrObj P K st C fI) (e1 : errChk K x fld C fI = true) (sup : mg "super" = none)
    (top : (P.main.scope.names.lookup ("super" : Str)).isSome = false) (opq : nsIn K cStatics "thirdparty.any" = some none) : ErrTxt P K mg x C fI (fdAt K fI) fld ∧ Binds K (fdAt K fI) ["self", fld] [] ∧ XfC K C ∧ findIn K (.ref C) fld = some none := by
  unfold errChk at e1
  simp only [Bool.and_eq_true] at e1
  obtain ⟨a1, a2, a3, a4, a5, a6, a7, a8, a9, a10, a11, a12, a13, a14, a15, a16⟩ := e1
  obtain ⟨oc, kV, doc, pm, ct, ccl, cl, od, an, cdd, cld, osl, ccs, csl, q, cc, cd, vs, file, tf, lI, hc, ld, h2, hf, lc⟩ := O.fn
  obtain ⟨txt, j, p0, p1, p2, p3, p4, p5, p6, p7, p8, p9, hb, hev⟩ := S.ex
  obtain ⟨ar, ha, hself⟩ := S.arg
  have efd := fdAt_of lI
  refine ⟨⟨⟨O.cls, beq_iff_eq.mp a8, beq_iff_eq.mp a9, beq_iff_eq.mp a10, a11⟩, mg_of X NS (beq_iff_eq.mp a1), beq_iff_eq.mp a2, beq_iff_eq.mp a3, beq_iff_eq.mp a4, beq_iff_eq.mp a5, beq_iff_eq.mp a6, beq_iff_eq.mp a7, sup,
    ⟨oc, kV, doc, pm, ct, ccl, cl, od, an, cdd, cld, osl, ccs, csl, q, defArgs st, defScope st, txt, j, p0, p1, p2, p3, p4, p5, p6, p7, p8, p9, cc, cd, vs, file, tf, ar, by rw [efd, hb], by rw [efd]; exact lI, hc, ld, h2, hf, lc, nscope_by S.sc, S.su, ha, hself, hev⟩, fd1, fd2, top, opq⟩, ?_,
    ⟨beq_iff_eq.mp a12, beq_iff_eq.mp a13, beq_iff_eq.mp a9, a14⟩, beq_iff_eq.mp a4⟩
  rw [efd]
  exact .all fun us hl => match us, hl with | [u, v], _ => S.bnd _ _ _ _ _ _ _ _ u v
end
end Gk
/-! ### everything as it is written -/
namespace Gk
open PySem PySem.W PySem.Spec PyProof.Rows L2 NdefX
abbrev sNoSet : Stmt := (inClass (top 13) 0)
theorem stNoSet : ErrSt sNoSet "value" := ⟨⟨_, _, _, _, _, _, _, _, _, _, _, _, rfl, fun env => ⟨_, rfl⟩⟩, by decide +kernel, by decide +kernel, ⟨_, rfl, rfl⟩, fun _ _ _ _ _ _ _ _ _ _ => rfl, fun _ _ _ _ _ _ _ _ _ _ => rfl⟩
def none3 (K : Frag) : Bool := (["range", "max", "min", "len", "enumerate", "list", "dict", "tuple", "sorted", "set", "any", "all", "isinstance", "str", "int", "bool", "repr", "super"] : List Str).all fun x => nsIn K mainGlobals x == some none
/-- what the text says of a class -/
def cls3 (K : Frag) (C : Addr) : Bool :=
  plainGet K C Str.empty && (hasDictIn K C && (plainOver K C && (findIn K (.ref C) "__setattr__" == some (some (.builtin "object.__setattr__")) && (findIn K (.ref C) "__class__" == some (some (.builtin "object.__class__")) && (mroIn K C (.type "object") == some true && (kitOne K (.ref C) (.ref C) == some true &&
  (kinds7.all (fun T => kitOne K (.type T) (.ref C) == some false) && kinds7.all (fun T => notFirst K C (.type T)))))))))
theorem cls3_of {K : Frag} {C : Addr} (h : cls3 K C = true) (hn : specialIn K (.builtin "object.__class__") "__get__" = some (some (.builtin "getset_descriptor.__get__"))) (ht : takesIn K (.builtin "object.__class__") = some true) : ClsQ K C := by
  unfold cls3 at h
  simp only [Bool.and_eq_true] at h
  obtain ⟨a1, a2, a3, a4, a5, a6, a7, a8, a9⟩ := h
  exact ⟨⟨a1, a2, a3, beq_iff_eq.mp a4⟩, beq_iff_eq.mp a5, hn, ht, beq_iff_eq.mp a6, beq_iff_eq.mp a7, fun T hT => beq_iff_eq.mp (List.all_eq_true.mp a8 T hT), fun T hT => List.all_eq_true.mp a9 T hT⟩
def no3 (K : Frag) (C : Addr) (fs : List Str) : Bool := fs.all fun f => findIn K (.ref C) f == some none
theorem no3_of {K : Frag} {C : Addr} {fs : List Str} (h : no3 K C fs = true) (f : Str) (hf : f ∈ fs) : NoAttr K C f := beq_iff_eq.mp (List.all_eq_true.mp h f hf)
theorem all_mk3 {l : PySem.W.OpenLaw} {w : World} {K : Frag} {h : Heap} {mg : Str → Option Value} {fa CE CG CM CN fN aSrc aDrw aPck aMix aPoo aSet aMdl aLed aRef aGrr aAlr aEdr aNam aInt aEnt aRow aCho aGro aLaw aEin tEin pEn pEs pGn aEnm aEst aEeq aEal aEge aEle aEgr aMin aGin aGeq aGnm aGle aGbo aGha aGor aGan aGsu : Addr} {odSrc anSrc : Option Addr} {slSrc : Array (Option Value)} {ocSrc kVSrc dcSrc pmSrc cdSrc ctSrc : Value} {odDrw anDrw : Option Addr} {slDrw : Array (Option Value)} {ocDrw kVDrw dcDrw pmDrw cdDrw ctDrw : Value} {odPck anPck : Option Addr} {slPck : Array (Option Value)} {ocPck kVPck dcPck pmPck cdPck ctPck : Value} {odMix anMix : Option Addr} {slMix : Array (Option Value)} {ocMix kVMix dcMix pmMix cdMix ctMix : Value} {odPoo anPoo : Option Addr} {slPoo : Array (Option Value)} {ocPoo kVPoo dcPoo pmPoo cdPoo ctPoo : Value} {odSet anSet : Option Addr} {slSet : Array (Option Value)} {ocSet kVSet dcSet pmSet cdSet ctSet : Value} {odMdl anMdl : Option Addr} {slMdl : Array (Option Value)} {ocMdl kVMdl dcMdl pmMdl cdMdl ctMdl : Value} {odLed anLed : Option Addr} {slLed : Array (Option Value)} {ocLed kVLed dcLed pmLed cdLed ctLed : Value} {odRef anRef : Option Addr} {slRef : Array (Option Value)} {ocRef kVRef dcRef pmRef cdRef ctRef : Value} {odGrr anGrr : Option Addr} {slGrr : Array (Option Value)} {ocGrr kVGrr dcGrr pmGrr cdGrr ctGrr : Value} {odAlr anAlr : Option Addr} {slAlr : Array (Option Value)} {ocAlr kVAlr dcAlr pmAlr cdAlr ctAlr : Value} {odEdr anEdr : Option Addr} {slEdr : Array (Option Value)} {ocEdr kVEdr dcEdr pmEdr cdEdr ctEdr : Value} {odNam anNam : Option Addr} {slNam : Array (Option Value)} {ocNam kVNam dcNam pmNam cdNam ctNam : Value} {odInt anInt : Option Addr} {slInt : Array (Option Value)} {ocInt kVInt dcInt pmInt cdInt ctInt : Value} {odEnt anEnt : Option Addr} {slEnt : Array (Option Value)} {ocEnt kVEnt dcEnt pmEnt cdEnt ctEnt : Value} {odRow anRow : Option Addr} {slRow : Array (Option Value)} {ocRow kVRow dcRow pmRow cdRow ctRow : Value} {odCho anCho : Option Addr} {slCho : Array (Option Value)} {ocCho kVCho dcCho pmCho cdCho ctCho : Value} {odGro anGro : Option Addr} {slGro : Array (Option Value)} {ocGro kVGro dcGro pmGro cdGro ctGro : Value} {odLaw anLaw : Option Addr} {slLaw : Array (Option Value)} {ocLaw kVLaw dcLaw pmLaw cdLaw ctLaw : Value} {dEin : Option Addr} {clEin : Value} {nEin : Nat} {ssEin : Array (Option Value)} {rEnm rEst rGnm : List Value} {odEin anEin : Option Addr} {slEin : Array (Option Value)} {ocEin kVEin dcEin pmEin cdEin ctEin : Value} {odEnm anEnm : Option Addr} {slEnm : Array (Option Value)} {ocEnm kVEnm dcEnm pmEnm cdEnm ctEnm : Value} {odEst anEst : Option Addr} {slEst : Array (Option Value)} {ocEst kVEst dcEst pmEst cdEst ctEst : Value} {odEeq anEeq : Option Addr} {slEeq : Array (Option Value)} {ocEeq kVEeq dcEeq pmEeq cdEeq ctEeq : Value} {odEal anEal : Option Addr} {slEal : Array (Option Value)} {ocEal kVEal dcEal pmEal cdEal ctEal : Value} {odEge anEge : Option Addr} {slEge : Array (Option Value)} {ocEge kVEge dcEge pmEge cdEge ctEge : Value} {odEle anEle : Option Addr} {slEle : Array (Option Value)} {ocEle kVEle dcEle pmEle cdEle ctEle : Value} {odEgr anEgr : Option Addr} {slEgr : Array (Option Value)} {ocEgr kVEgr dcEgr pmEgr cdEgr ctEgr : Value} {odMin anMin : Option Addr} {slMin : Array (Option Value)} {ocMin kVMin dcMin pmMin cdMin ctMin : Value} {odGin anGin : Option Addr} {slGin : Array (Option Value)} {ocGin kVGin dcGin pmGin cdGin ctGin : Value} {odGeq anGeq : Option Addr} {slGeq : Array (Option Value)} {ocGeq kVGeq dcGeq pmGeq cdGeq ctGeq : Value} {odGnm anGnm : Option Addr} {slGnm : Array (Option Value)} {ocGnm kVGnm dcGnm pmGnm cdGnm ctGnm : Value} {odGle anGle : Option Addr} {slGle : Array (Option Value)} {ocGle kVGle dcGle pmGle cdGle ctGle : Value} {odGbo anGbo : Option Addr} {slGbo : Array (Option Value)} {ocGbo kVGbo dcGbo pmGbo cdGbo ctGbo : Value} {odGha anGha : Option Addr} {slGha : Array (Option Value)} {ocGha kVGha dcGha pmGha cdGha ctGha : Value} {odGor anGor : Option Addr} {slGor : Array (Option Value)} {ocGor kVGor dcGor pmGor cdGor ctGor : Value} {odGan anGan : Option Addr} {slGan : Array (Option Value)} {ocGan kVGan dcGan pmGan cdGan ctGan : Value} {odGsu anGsu : Option Addr} {slGsu : Array (Option Value)} {ocGsu kVGsu dcGsu pmGsu cdGsu ctGsu : Value} {tk1 tk2 tk3 tk4 tk5 : Tok} (X : K.In h) (NS : h.Ns mainGlobals mg) (hfa : mg "law" = some (.ref fa))
    (gCE : nsIn K mainGlobals "Edition" = some (some (.ref CE)))
    (gCG : nsIn K mainGlobals "Group" = some (some (.ref CG)))
    (gCM : nsIn K mainGlobals "Member" = some (some (.ref CM)))
    (gSrc : nsIn K mainGlobals "_law_source" = some (some (.ref aSrc)))
    (lSrc : K.lookup aSrc = some ⟨ocSrc, odSrc, .func (PySem.W.fnOf "_law_source" "_law_source" (defArgs sSource) (defBody sSource) (defScope sSource) .none kVSrc dcSrc pmSrc anSrc cdSrc ctSrc), slSrc⟩) (qSrc : codeIn K cdSrc "_law_source" = true) (kSrc : keepIn K (.ref aSrc) = true)
    (gDrw : nsIn K mainGlobals "_law_draw" = some (some (.ref aDrw)))
    (lDrw : K.lookup aDrw = some ⟨ocDrw, odDrw, .func (PySem.W.fnOf "_law_draw" "_law_draw" (defArgs sDraw) (defBody sDraw) (defScope sDraw) .none kVDrw dcDrw pmDrw anDrw cdDrw ctDrw), slDrw⟩) (qDrw : codeIn K cdDrw "_law_draw" = true) (kDrw : keepIn K (.ref aDrw) = true)
    (gPck : nsIn K mainGlobals "_law_pick" = some (some (.ref aPck)))
    (lPck : K.lookup aPck = some ⟨ocPck, odPck, .func (PySem.W.fnOf "_law_pick" "_law_pick" (defArgs sPick) (defBody sPick) (defScope sPick) .none kVPck dcPck pmPck anPck cdPck ctPck), slPck⟩) (qPck : codeIn K cdPck "_law_pick" = true) (kPck : keepIn K (.ref aPck) = true)
    (gMix : nsIn K mainGlobals "_law_mixed" = some (some (.ref aMix)))
    (lMix : K.lookup aMix = some ⟨ocMix, odMix, .func (PySem.W.fnOf "_law_mixed" "_law_mixed" (defArgs sMixed) (defBody sMixed) (defScope sMixed) .none kVMix dcMix pmMix anMix cdMix ctMix), slMix⟩) (qMix : codeIn K cdMix "_law_mixed" = true) (kMix : keepIn K (.ref aMix) = true)
    (gPoo : nsIn K mainGlobals "_law_pool" = some (some (.ref aPoo)))
    (lPoo : K.lookup aPoo = some ⟨ocPoo, odPoo, .func (PySem.W.fnOf "_law_pool" "_law_pool" (defArgs sPool) (defBody sPool) (defScope sPool) .none kVPoo dcPoo pmPoo anPoo cdPoo ctPoo), slPoo⟩) (qPoo : codeIn K cdPoo "_law_pool" = true) (kPoo : keepIn K (.ref aPoo) = true)
    (gSet : nsIn K mainGlobals "_law_sets" = some (some (.ref aSet)))
    (lSet : K.lookup aSet = some ⟨ocSet, odSet, .func (PySem.W.fnOf "_law_sets" "_law_sets" (defArgs sSets) (defBody sSets) (defScope sSets) .none kVSet dcSet pmSet anSet cdSet ctSet), slSet⟩) (qSet : codeIn K cdSet "_law_sets" = true) (kSet : keepIn K (.ref aSet) = true)
    (gMdl : nsIn K mainGlobals "_law_model" = some (some (.ref aMdl)))
    (lMdl : K.lookup aMdl = some ⟨ocMdl, odMdl, .func (PySem.W.fnOf "_law_model" "_law_model" (defArgs sModel) (defBody sModel) (defScope sModel) .none kVMdl dcMdl pmMdl anMdl cdMdl ctMdl), slMdl⟩) (qMdl : codeIn K cdMdl "_law_model" = true) (kMdl : keepIn K (.ref aMdl) = true)
    (gLed : nsIn K mainGlobals "_law_edition" = some (some (.ref aLed)))
    (lLed : K.lookup aLed = some ⟨ocLed, odLed, .func (PySem.W.fnOf "_law_edition" "_law_edition" (defArgs sLawEd) (defBody sLawEd) (defScope sLawEd) .none kVLed dcLed pmLed anLed cdLed ctLed), slLed⟩) (qLed : codeIn K cdLed "_law_edition" = true) (kLed : keepIn K (.ref aLed) = true)
    (gRef : nsIn K mainGlobals "_law_refused" = some (some (.ref aRef)))
    (lRef : K.lookup aRef = some ⟨ocRef, odRef, .func (PySem.W.fnOf "_law_refused" "_law_refused" (defArgs sRefused) (defBody sRefused) (defScope sRefused) .none kVRef dcRef pmRef anRef cdRef ctRef), slRef⟩) (qRef : codeIn K cdRef "_law_refused" = true) (kRef : keepIn K (.ref aRef) = true)
    (gGrr : nsIn K mainGlobals "_law_group_right" = some (some (.ref aGrr)))
    (lGrr : K.lookup aGrr = some ⟨ocGrr, odGrr, .func (PySem.W.fnOf "_law_group_right" "_law_group_right" (defArgs sGrRight) (defBody sGrRight) (defScope sGrRight) .none kVGrr dcGrr pmGrr anGrr cdGrr ctGrr), slGrr⟩) (qGrr : codeIn K cdGrr "_law_group_right" = true) (kGrr : keepIn K (.ref aGrr) = true)
    (gAlr : nsIn K mainGlobals "_law_all_right" = some (some (.ref aAlr)))
    (lAlr : K.lookup aAlr = some ⟨ocAlr, odAlr, .func (PySem.W.fnOf "_law_all_right" "_law_all_right" (defArgs sAllRight) (defBody sAllRight) (defScope sAllRight) .none kVAlr dcAlr pmAlr anAlr cdAlr ctAlr), slAlr⟩) (qAlr : codeIn K cdAlr "_law_all_right" = true) (kAlr : keepIn K (.ref aAlr) = true)
    (gEdr : nsIn K mainGlobals "_law_editions_right" = some (some (.ref aEdr)))
    (lEdr : K.lookup aEdr = some ⟨ocEdr, odEdr, .func (PySem.W.fnOf "_law_editions_right" "_law_editions_right" (defArgs sEdsRight) (defBody sEdsRight) (defScope sEdsRight) .none kVEdr dcEdr pmEdr anEdr cdEdr ctEdr), slEdr⟩) (qEdr : codeIn K cdEdr "_law_editions_right" = true) (kEdr : keepIn K (.ref aEdr) = true)
    (gNam : nsIn K mainGlobals "is_name" = some (some (.ref aNam)))
    (lNam : K.lookup aNam = some ⟨ocNam, odNam, .func (PySem.W.fnOf "is_name" "is_name" (defArgs sIsName) (defBody sIsName) (defScope sIsName) .none kVNam dcNam pmNam anNam cdNam ctNam), slNam⟩) (qNam : codeIn K cdNam "is_name" = true) (kNam : keepIn K (.ref aNam) = true)
    (gInt : nsIn K mainGlobals "is_integer" = some (some (.ref aInt)))
    (lInt : K.lookup aInt = some ⟨ocInt, odInt, .func (PySem.W.fnOf "is_integer" "is_integer" (defArgs sIsInt) (defBody sIsInt) (defScope sIsInt) .none kVInt dcInt pmInt anInt cdInt ctInt), slInt⟩) (qInt : codeIn K cdInt "is_integer" = true) (kInt : keepIn K (.ref aInt) = true)
    (gEnt : nsIn K mainGlobals "_is_entry" = some (some (.ref aEnt)))
    (lEnt : K.lookup aEnt = some ⟨ocEnt, odEnt, .func (PySem.W.fnOf "_is_entry" "_is_entry" (defArgs sIsEntry) (defBody sIsEntry) (defScope sIsEntry) .none kVEnt dcEnt pmEnt anEnt cdEnt ctEnt), slEnt⟩) (qEnt : codeIn K cdEnt "_is_entry" = true) (kEnt : keepIn K (.ref aEnt) = true)
    (gRow : nsIn K mainGlobals "_rows_of" = some (some (.ref aRow)))
    (lRow : K.lookup aRow = some ⟨ocRow, odRow, .func (PySem.W.fnOf "_rows_of" "_rows_of" (defArgs sRowsOf) (defBody sRowsOf) (defScope sRowsOf) .none kVRow dcRow pmRow anRow cdRow ctRow), slRow⟩) (qRow : codeIn K cdRow "_rows_of" = true) (kRow : keepIn K (.ref aRow) = true)
    (gCho : nsIn K mainGlobals "_is_choice" = some (some (.ref aCho)))
    (lCho : K.lookup aCho = some ⟨ocCho, odCho, .func (PySem.W.fnOf "_is_choice" "_is_choice" (defArgs sIsChoice) (defBody sIsChoice) (defScope sIsChoice) .none kVCho dcCho pmCho anCho cdCho ctCho), slCho⟩) (qCho : codeIn K cdCho "_is_choice" = true) (kCho : keepIn K (.ref aCho) = true)
    (gGro : nsIn K mainGlobals "_groups_of" = some (some (.ref aGro)))
    (lGro : K.lookup aGro = some ⟨ocGro, odGro, .func (PySem.W.fnOf "_groups_of" "_groups_of" (defArgs sGroupsOf) (defBody sGroupsOf) (defScope sGroupsOf) .none kVGro dcGro pmGro anGro cdGro ctGro), slGro⟩) (qGro : codeIn K cdGro "_groups_of" = true) (kGro : keepIn K (.ref aGro) = true)
    (gLaw : nsIn K mainGlobals "law" = some (some (.ref aLaw)))
    (lLaw : K.lookup aLaw = some ⟨ocLaw, odLaw, .func (PySem.W.fnOf "law" "law" (defArgs sLaw3) (defBody sLaw3) (defScope sLaw3) .none kVLaw dcLaw pmLaw anLaw cdLaw ctLaw), slLaw⟩) (qLaw : codeIn K cdLaw "law" = true) (kLaw : keepIn K (.ref aLaw) = true)
    (fEin : findIn K (.ref CE) "__init__" = some (some (.ref aEin)))
    (lEin : K.lookup aEin = some ⟨ocEin, odEin, .func (PySem.W.fnOf "__init__" "Edition.__init__" (defArgs sEdInit) (defBody sEdInit) (defScope sEdInit) (.ref tEin) kVEin dcEin pmEin anEin cdEin ctEin), slEin⟩) (qEin : codeIn K cdEin "Edition.__init__" = true) (kEin : keepIn K (.ref aEin) = true)
    (tupEin : K.lookup tEin = some ⟨clEin, dEin, .seq [Value.none].toArray nEin, ssEin⟩)
    (fEnm : findIn K (.ref CE) "names" = some (some (.ref pEn))) (sEnm : specialIn K (.ref pEn) "__get__" = some (some (.builtin "property.__get__"))) (tEnm : takesIn K (.ref pEn) = some true) (vEnm : recIn K pEn "property" = some (.ref aEnm :: rEnm))
    (lEnm : K.lookup aEnm = some ⟨ocEnm, odEnm, .func (PySem.W.fnOf "names" "Edition.names" (defArgs sEdNames) (defBody sEdNames) (defScope sEdNames) .none kVEnm dcEnm pmEnm anEnm cdEnm ctEnm), slEnm⟩) (qEnm : codeIn K cdEnm "Edition.names" = true) (kEnm : keepIn K (.ref aEnm) = true)
    (fEst : findIn K (.ref CE) "sets" = some (some (.ref pEs))) (sEst : specialIn K (.ref pEs) "__get__" = some (some (.builtin "property.__get__"))) (tEst : takesIn K (.ref pEs) = some true) (vEst : recIn K pEs "property" = some (.ref aEst :: rEst))
    (lEst : K.lookup aEst = some ⟨ocEst, odEst, .func (PySem.W.fnOf "sets" "Edition.sets" (defArgs sEdSets) (defBody sEdSets) (defScope sEdSets) .none kVEst dcEst pmEst anEst cdEst ctEst), slEst⟩) (qEst : codeIn K cdEst "Edition.sets" = true) (kEst : keepIn K (.ref aEst) = true)
    (fEeq : findIn K (.ref CE) "__eq__" = some (some (.ref aEeq))) (iEeq : isFn K (.ref aEeq) = true)
    (lEeq : K.lookup aEeq = some ⟨ocEeq, odEeq, .func (PySem.W.fnOf "__eq__" "Edition.__eq__" (defArgs sEdEq) (defBody sEdEq) (defScope sEdEq) .none kVEeq dcEeq pmEeq anEeq cdEeq ctEeq), slEeq⟩) (qEeq : codeIn K cdEeq "Edition.__eq__" = true) (kEeq : keepIn K (.ref aEeq) = true)
    (fEal : findIn K (.ref CE) "everything" = some (some (.ref aEal))) (iEal : isFn K (.ref aEal) = true)
    (lEal : K.lookup aEal = some ⟨ocEal, odEal, .func (PySem.W.fnOf "everything" "Edition.everything" (defArgs sEdAll) (defBody sEdAll) (defScope sEdAll) .none kVEal dcEal pmEal anEal cdEal ctEal), slEal⟩) (qEal : codeIn K cdEal "Edition.everything" = true) (kEal : keepIn K (.ref aEal) = true)
    (fEge : findIn K (.ref CE) "__getitem__" = some (some (.ref aEge))) (iEge : isFn K (.ref aEge) = true)
    (lEge : K.lookup aEge = some ⟨ocEge, odEge, .func (PySem.W.fnOf "__getitem__" "Edition.__getitem__" (defArgs sEdGet) (defBody sEdGet) (defScope sEdGet) .none kVEge dcEge pmEge anEge cdEge ctEge), slEge⟩) (qEge : codeIn K cdEge "Edition.__getitem__" = true) (kEge : keepIn K (.ref aEge) = true)
    (fEle : findIn K (.ref CE) "__len__" = some (some (.ref aEle))) (iEle : isFn K (.ref aEle) = true)
    (lEle : K.lookup aEle = some ⟨ocEle, odEle, .func (PySem.W.fnOf "__len__" "Edition.__len__" (defArgs sEdLen) (defBody sEdLen) (defScope sEdLen) .none kVEle dcEle pmEle anEle cdEle ctEle), slEle⟩) (qEle : codeIn K cdEle "Edition.__len__" = true) (kEle : keepIn K (.ref aEle) = true)
    (fEgr : findIn K (.ref CE) "group" = some (some (.ref aEgr))) (iEgr : isFn K (.ref aEgr) = true)
    (lEgr : K.lookup aEgr = some ⟨ocEgr, odEgr, .func (PySem.W.fnOf "group" "Edition.group" (defArgs sEdGroup) (defBody sEdGroup) (defScope sEdGroup) .none kVEgr dcEgr pmEgr anEgr cdEgr ctEgr), slEgr⟩) (qEgr : codeIn K cdEgr "Edition.group" = true) (kEgr : keepIn K (.ref aEgr) = true)
    (fMin : findIn K (.ref CM) "__init__" = some (some (.ref aMin))) (iMin : isFn K (.ref aMin) = true)
    (lMin : K.lookup aMin = some ⟨ocMin, odMin, .func (PySem.W.fnOf "__init__" "Member.__init__" (defArgs sMemInit) (defBody sMemInit) (defScope sMemInit) .none kVMin dcMin pmMin anMin cdMin ctMin), slMin⟩) (qMin : codeIn K cdMin "Member.__init__" = true) (kMin : keepIn K (.ref aMin) = true)
    (fGin : findIn K (.ref CG) "__init__" = some (some (.ref aGin))) (iGin : isFn K (.ref aGin) = true)
    (lGin : K.lookup aGin = some ⟨ocGin, odGin, .func (PySem.W.fnOf "__init__" "Group.__init__" (defArgs sGrInit) (defBody sGrInit) (defScope sGrInit) .none kVGin dcGin pmGin anGin cdGin ctGin), slGin⟩) (qGin : codeIn K cdGin "Group.__init__" = true) (kGin : keepIn K (.ref aGin) = true)
    (fGeq : findIn K (.ref CG) "__eq__" = some (some (.ref aGeq))) (iGeq : isFn K (.ref aGeq) = true)
    (lGeq : K.lookup aGeq = some ⟨ocGeq, odGeq, .func (PySem.W.fnOf "__eq__" "Group.__eq__" (defArgs sGrEq) (defBody sGrEq) (defScope sGrEq) .none kVGeq dcGeq pmGeq anGeq cdGeq ctGeq), slGeq⟩) (qGeq : codeIn K cdGeq "Group.__eq__" = true) (kGeq : keepIn K (.ref aGeq) = true)
    (fGnm : findIn K (.ref CG) "names" = some (some (.ref pGn))) (sGnm : specialIn K (.ref pGn) "__get__" = some (some (.builtin "property.__get__"))) (tGnm : takesIn K (.ref pGn) = some true) (vGnm : recIn K pGn "property" = some (.ref aGnm :: rGnm))
    (lGnm : K.lookup aGnm = some ⟨ocGnm, odGnm, .func (PySem.W.fnOf "names" "Group.names" (defArgs sGrNames) (defBody sGrNames) (defScope sGrNames) .none kVGnm dcGnm pmGnm anGnm cdGnm ctGnm), slGnm⟩) (qGnm : codeIn K cdGnm "Group.names" = true) (kGnm : keepIn K (.ref aGnm) = true)
    (fGle : findIn K (.ref CG) "__len__" = some (some (.ref aGle))) (iGle : isFn K (.ref aGle) = true)
    (lGle : K.lookup aGle = some ⟨ocGle, odGle, .func (PySem.W.fnOf "__len__" "Group.__len__" (defArgs sGrLen) (defBody sGrLen) (defScope sGrLen) .none kVGle dcGle pmGle anGle cdGle ctGle), slGle⟩) (qGle : codeIn K cdGle "Group.__len__" = true) (kGle : keepIn K (.ref aGle) = true)
    (fGbo : findIn K (.ref CG) "__bool__" = some (some (.ref aGbo))) (iGbo : isFn K (.ref aGbo) = true)
    (lGbo : K.lookup aGbo = some ⟨ocGbo, odGbo, .func (PySem.W.fnOf "__bool__" "Group.__bool__" (defArgs sGrBool) (defBody sGrBool) (defScope sGrBool) .none kVGbo dcGbo pmGbo anGbo cdGbo ctGbo), slGbo⟩) (qGbo : codeIn K cdGbo "Group.__bool__" = true) (kGbo : keepIn K (.ref aGbo) = true)
    (fGha : findIn K (.ref CG) "__contains__" = some (some (.ref aGha))) (iGha : isFn K (.ref aGha) = true)
    (lGha : K.lookup aGha = some ⟨ocGha, odGha, .func (PySem.W.fnOf "__contains__" "Group.__contains__" (defArgs sGrHas) (defBody sGrHas) (defScope sGrHas) .none kVGha dcGha pmGha anGha cdGha ctGha), slGha⟩) (qGha : codeIn K cdGha "Group.__contains__" = true) (kGha : keepIn K (.ref aGha) = true)
    (fGor : findIn K (.ref CG) "__or__" = some (some (.ref aGor))) (iGor : isFn K (.ref aGor) = true)
    (lGor : K.lookup aGor = some ⟨ocGor, odGor, .func (PySem.W.fnOf "__or__" "Group.__or__" (defArgs sGrOr) (defBody sGrOr) (defScope sGrOr) .none kVGor dcGor pmGor anGor cdGor ctGor), slGor⟩) (qGor : codeIn K cdGor "Group.__or__" = true) (kGor : keepIn K (.ref aGor) = true)
    (fGan : findIn K (.ref CG) "__and__" = some (some (.ref aGan))) (iGan : isFn K (.ref aGan) = true)
    (lGan : K.lookup aGan = some ⟨ocGan, odGan, .func (PySem.W.fnOf "__and__" "Group.__and__" (defArgs sGrAnd) (defBody sGrAnd) (defScope sGrAnd) .none kVGan dcGan pmGan anGan cdGan ctGan), slGan⟩) (qGan : codeIn K cdGan "Group.__and__" = true) (kGan : keepIn K (.ref aGan) = true)
    (fGsu : findIn K (.ref CG) "__sub__" = some (some (.ref aGsu))) (iGsu : isFn K (.ref aGsu) = true)
    (lGsu : K.lookup aGsu = some ⟨ocGsu, odGsu, .func (PySem.W.fnOf "__sub__" "Group.__sub__" (defArgs sGrSub) (defBody sGrSub) (defScope sGrSub) .none kVGsu dcGsu pmGsu anGsu cdGsu ctGsu), slGsu⟩) (qGsu : codeIn K cdGsu "Group.__sub__" = true) (kGsu : keepIn K (.ref aGsu) = true)
    (jEge : fnIn K aEge = true)
    (mkE : makesIn K CE = true) (iEin : isFn K (.ref aEin) = true) (kCE : keepIn K (.ref CE) = true) (mkG : makesIn K CG = true) (kCG : keepIn K (.ref CG) = true) (mkM : makesIn K CM = true) (kCM : keepIn K (.ref CM) = true)
    (nG : findIn K (.ref CG) "__ne__" = some (some (.builtin "object.__ne__"))) (cE : cls3 K CE = true) (cG : cls3 K CG = true) (cM : cls3 K CM = true) (nfEG : notFirst K CG (.ref CE) = true) (koEG : kitOne K (.ref CE) (.ref CG) = some false) (koGM : kitOne K (.ref CG) (.ref CM) = some false) (koMG : kitOne K (.ref CM) (.ref CG) = some false) (sfG : selfFirst K CG = true)
    (oE : no3 K CE ["_rows", "_groups", "_places", "_numbers"] = true) (oG : no3 K CG ["_edition", "_places"] = true) (oM : no3 K CM ["name", "aliases", "number", "place", "_edition"] = true) (hN : none3 K = true)
    (hn : specialIn K (.builtin "object.__class__") "__get__" = some (some (.builtin "getset_descriptor.__get__"))) (ht : takesIn K (.builtin "object.__class__") = some true)
    (aCN : nsIn K mainGlobals "NoSet" = some (some (.ref CN))) (aIN : findIn K (.ref CN) "__init__" = some (some (.ref fN))) (ON : ErrObj l.prog K sNoSet CN fN) (hE : errChk K "NoSet" "value" CN fN = true) (em : exmOne K (.ref CN) (.ref CN) = some true) (top : (l.prog.main.scope.names.lookup ("super" : Str)).isSome = false) (opq : nsIn K cStatics "thirdparty.any" = some none)
    (vLet : nsIn K mainGlobals "LETTERS" = some (some (.str letters tk1))) (vLon : nsIn K mainGlobals "LONGEST_NAME" = some (some (.int 8 tk2))) (vFar : nsIn K mainGlobals "FARTHEST_NUMBER" = some (some (.int farI tk3))) (vMem : nsIn K mainGlobals "MOST_MEMBERS" = some (some (.int 16 tk4))) (vSet : nsIn K mainGlobals "MOST_SETS" = some (some (.int 3 tk5))) :
    ∃ fd : FuncData, (∀ (s : Shared) (v : Value), BindsTo s fd ⟨[v], []⟩ [("script", v)]) ∧ ∀ base : Heap, K.In base → base.Ns mainGlobals mg → FnG l.prog w K mg base CX0 8 fa fd ["script"] (spLaw3 K) := by
  have e := hfa.symm.trans (mg_of X NS gLaw)
  cases e
  have none_ : ∀ x ∈ (["range", "max", "min", "len", "enumerate", "list", "dict", "tuple", "sorted", "set", "any", "all", "isinstance", "str", "int", "bool", "repr", "super"] : List Str), mg x = none := fun x hx => mg_none_of X NS (beq_iff_eq.mp (List.all_eq_true.mp hN x hx))
  have z_range : mg "range" = none := none_ _ (by simp)
  have z_max : mg "max" = none := none_ _ (by simp)
  have z_min : mg "min" = none := none_ _ (by simp)
  have z_len : mg "len" = none := none_ _ (by simp)
  have z_enumerate : mg "enumerate" = none := none_ _ (by simp)
  have z_list : mg "list" = none := none_ _ (by simp)
  have z_dict : mg "dict" = none := none_ _ (by simp)
  have z_tuple : mg "tuple" = none := none_ _ (by simp)
  have z_sorted : mg "sorted" = none := none_ _ (by simp)
  have z_set : mg "set" = none := none_ _ (by simp)
  have z_any : mg "any" = none := none_ _ (by simp)
  have z_all : mg "all" = none := none_ _ (by simp)
  have z_isinstance : mg "isinstance" = none := none_ _ (by simp)
  have z_str : mg "str" = none := none_ _ (by simp)
  have z_int : mg "int" = none := none_ _ (by simp)
  have z_bool : mg "bool" = none := none_ _ (by simp)
  have z_repr : mg "repr" = none := none_ _ (by simp)
  have z_super : mg "super" = none := none_ _ (by simp)
  have FSrc := fun_mk (st := sSource) lSrc qSrc kSrc
  have bSrc := FSrc.binds (ps := ["script", "start"]) fun _ _ _ _ _ _ us hl => match us, hl with | [_, _], _ => rfl
  have mSrc := mg_of X NS gSrc
  have FDrw := fun_mk (st := sDraw) lDrw qDrw kDrw
  have bDrw := FDrw.binds (ps := ["source", "span"]) fun _ _ _ _ _ _ us hl => match us, hl with | [_, _], _ => rfl
  have mDrw := mg_of X NS gDrw
  have FPck := fun_mk (st := sPick) lPck qPck kPck
  have bPck := FPck.binds (ps := ["source", "entries"]) fun _ _ _ _ _ _ us hl => match us, hl with | [_, _], _ => rfl
  have mPck := mg_of X NS gPck
  have FMix := fun_mk (st := sMixed) lMix qMix kMix
  have bMix := FMix.binds (ps := ["source", "entries"]) fun _ _ _ _ _ _ us hl => match us, hl with | [_, _], _ => rfl
  have mMix := mg_of X NS gMix
  have FPoo := fun_mk (st := sPool) lPoo qPoo kPoo
  have bPoo := FPoo.binds (ps := ["source"]) fun _ _ _ _ _ _ us hl => match us, hl with | [_], _ => rfl
  have mPoo := mg_of X NS gPoo
  have FSet := fun_mk (st := sSets) lSet qSet kSet
  have bSet := FSet.binds (ps := ["source", "rows"]) fun _ _ _ _ _ _ us hl => match us, hl with | [_, _], _ => rfl
  have mSet := mg_of X NS gSet
  have FMdl := fun_mk (st := sModel) lMdl qMdl kMdl
  have bMdl := FMdl.binds (ps := ["source", "many"]) fun _ _ _ _ _ _ us hl => match us, hl with | [_, _], _ => rfl
  have mMdl := mg_of X NS gMdl
  have FLed := fun_mk (st := sLawEd) lLed qLed kLed
  have bLed := FLed.binds (ps := ["model"]) fun _ _ _ _ _ _ us hl => match us, hl with | [_], _ => rfl
  have mLed := mg_of X NS gLed
  have FRef := fun_mk (st := sRefused) lRef qRef kRef
  have bRef := FRef.binds (ps := ["edition", "thing"]) fun _ _ _ _ _ _ us hl => match us, hl with | [_, _], _ => rfl
  have mRef := mg_of X NS gRef
  have FGrr := fun_mk (st := sGrRight) lGrr qGrr kGrr
  have bGrr := FGrr.binds (ps := ["edition", "rows", "group", "places"]) fun _ _ _ _ _ _ us hl => match us, hl with | [_, _, _, _], _ => rfl
  have mGrr := mg_of X NS gGrr
  have FAlr := fun_mk (st := sAllRight) lAlr qAlr kAlr
  have bAlr := FAlr.binds (ps := ["edition", "rows", "some"]) fun _ _ _ _ _ _ us hl => match us, hl with | [_, _, _], _ => rfl
  have mAlr := mg_of X NS gAlr
  have FEdr := fun_mk (st := sEdsRight) lEdr qEdr kEdr
  have bEdr := FEdr.binds (ps := ["edition", "model"]) fun _ _ _ _ _ _ us hl => match us, hl with | [_, _], _ => rfl
  have mEdr := mg_of X NS gEdr
  have FNam := fun_mk (st := sIsName) lNam qNam kNam
  have bNam := FNam.binds (ps := ["value"]) fun _ _ _ _ _ _ us hl => match us, hl with | [_], _ => rfl
  have mNam := mg_of X NS gNam
  have FInt := fun_mk (st := sIsInt) lInt qInt kInt
  have bInt := FInt.binds (ps := ["value"]) fun _ _ _ _ _ _ us hl => match us, hl with | [_], _ => rfl
  have mInt := mg_of X NS gInt
  have FEnt := fun_mk (st := sIsEntry) lEnt qEnt kEnt
  have bEnt := FEnt.binds (ps := ["value"]) fun _ _ _ _ _ _ us hl => match us, hl with | [_], _ => rfl
  have mEnt := mg_of X NS gEnt
  have FRow := fun_mk (st := sRowsOf) lRow qRow kRow
  have bRow := FRow.binds (ps := ["members"]) fun _ _ _ _ _ _ us hl => match us, hl with | [_], _ => rfl
  have mRow := mg_of X NS gRow
  have FCho := fun_mk (st := sIsChoice) lCho qCho kCho
  have bCho := FCho.binds (ps := ["value", "names"]) fun _ _ _ _ _ _ us hl => match us, hl with | [_, _], _ => rfl
  have mCho := mg_of X NS gCho
  have FGro := fun_mk (st := sGroupsOf) lGro qGro kGro
  have bGro := FGro.binds (ps := ["sets", "names"]) fun _ _ _ _ _ _ us hl => match us, hl with | [_, _], _ => rfl
  have mGro := mg_of X NS gGro
  have FLaw := fun_mk (st := sLaw3) lLaw qLaw kLaw
  have bLaw := FLaw.binds (ps := ["script"]) fun _ _ _ _ _ _ us hl => match us, hl with | [_], _ => rfl
  have mLaw := mg_of X NS gLaw
  have FEnm := fun_mk (st := sEdNames) lEnm qEnm kEnm
  have bEnm := FEnm.binds (ps := ["self"]) fun _ _ _ _ _ _ us hl => match us, hl with | [_], _ => rfl
  have FEst := fun_mk (st := sEdSets) lEst qEst kEst
  have bEst := FEst.binds (ps := ["self"]) fun _ _ _ _ _ _ us hl => match us, hl with | [_], _ => rfl
  have FEeq := fun_mk (st := sEdEq) lEeq qEeq kEeq
  have bEeq := FEeq.binds (ps := ["self", "other"]) fun _ _ _ _ _ _ us hl => match us, hl with | [_, _], _ => rfl
  have FEal := fun_mk (st := sEdAll) lEal qEal kEal
  have bEal := FEal.binds (ps := ["self"]) fun _ _ _ _ _ _ us hl => match us, hl with | [_], _ => rfl
  have FEge := fun_mk (st := sEdGet) lEge qEge kEge
  have bEge := FEge.binds (ps := ["self", "name"]) fun _ _ _ _ _ _ us hl => match us, hl with | [_, _], _ => rfl
  have FEle := fun_mk (st := sEdLen) lEle qEle kEle
  have bEle := FEle.binds (ps := ["self"]) fun _ _ _ _ _ _ us hl => match us, hl with | [_], _ => rfl
  have FEgr := fun_mk (st := sEdGroup) lEgr qEgr kEgr
  have bEgr := FEgr.binds (ps := ["self", "name"]) fun _ _ _ _ _ _ us hl => match us, hl with | [_, _], _ => rfl
  have FMin := fun_mk (st := sMemInit) lMin qMin kMin
  have bMin := FMin.binds (ps := ["self", "edition", "place"]) fun _ _ _ _ _ _ us hl => match us, hl with | [_, _, _], _ => rfl
  have FGin := fun_mk (st := sGrInit) lGin qGin kGin
  have bGin := FGin.binds (ps := ["self", "edition", "places"]) fun _ _ _ _ _ _ us hl => match us, hl with | [_, _, _], _ => rfl
  have FGeq := fun_mk (st := sGrEq) lGeq qGeq kGeq
  have bGeq := FGeq.binds (ps := ["self", "other"]) fun _ _ _ _ _ _ us hl => match us, hl with | [_, _], _ => rfl
  have FGnm := fun_mk (st := sGrNames) lGnm qGnm kGnm
  have bGnm := FGnm.binds (ps := ["self"]) fun _ _ _ _ _ _ us hl => match us, hl with | [_], _ => rfl
  have FGle := fun_mk (st := sGrLen) lGle qGle kGle
  have bGle := FGle.binds (ps := ["self"]) fun _ _ _ _ _ _ us hl => match us, hl with | [_], _ => rfl
  have FGbo := fun_mk (st := sGrBool) lGbo qGbo kGbo
  have bGbo := FGbo.binds (ps := ["self"]) fun _ _ _ _ _ _ us hl => match us, hl with | [_], _ => rfl
  have FGha := fun_mk (st := sGrHas) lGha qGha kGha
  have bGha := FGha.binds (ps := ["self", "value"]) fun _ _ _ _ _ _ us hl => match us, hl with | [_, _], _ => rfl
  have FGor := fun_mk (st := sGrOr) lGor qGor kGor
  have bGor := FGor.binds (ps := ["self", "other"]) fun _ _ _ _ _ _ us hl => match us, hl with | [_, _], _ => rfl
  have FGan := fun_mk (st := sGrAnd) lGan qGan kGan
  have bGan := FGan.binds (ps := ["self", "other"]) fun _ _ _ _ _ _ us hl => match us, hl with | [_, _], _ => rfl
  have FGsu := fun_mk (st := sGrSub) lGsu qGsu kGsu
  have bGsu := FGsu.binds (ps := ["self", "other"]) fun _ _ _ _ _ _ us hl => match us, hl with | [_, _], _ => rfl
  have FEin : FunD K "__init__" "Edition.__init__" (defArgs sEdInit) (defBody sEdInit) (defScope sEdInit) [V.non] [] aEin (PySem.W.fnOf "__init__" "Edition.__init__" (defArgs sEdInit) (defBody sEdInit) (defScope sEdInit) (.ref tEin) kVEin dcEin pmEin anEin cdEin ctEin) := ⟨⟨_, _, _, _, _, _, _, _, _, _, rfl, lEin, qEin, .inr ⟨by simp, tEin, _, [Value.none], nEin, rfl, tupEin, rfl, .cons rfl .nil⟩, .inl rfl⟩, kEin⟩
  have bEin : Binds K (PySem.W.fnOf "__init__" "Edition.__init__" (defArgs sEdInit) (defBody sEdInit) (defScope sEdInit) (.ref tEin) kVEin dcEin pmEin anEin cdEin ctEin) ["self", "members", "sets"] [] := by
    obtain ⟨ds, hd, hb⟩ := FEin.binds1 (ps := ["self", "members", "sets"]) 3 1 (by simp) rfl fun T kV doc pm an cdv ct us its h1 h2 => match us, its, h1, h2 with | [_, _, _], [_], _, _ => ⟨_, rfl, rfl⟩
    cases hd
    exact hb
  have ZE := cls3_of cE hn ht
  have ZG := cls3_of cG hn ht
  have ZM := cls3_of cM hn ht
  have TE : EdTxt K CE := ⟨ZE.cl, no3_of oE _ (by simp), no3_of oE _ (by simp), no3_of oE _ (by simp), no3_of oE _ (by simp)⟩
  have TG : GrTxt K CG := ⟨ZG.cl, no3_of oG _ (by simp), no3_of oG _ (by simp)⟩
  have TM : MemTxt K CM := ⟨ZM.cl, no3_of oM _ (by simp), no3_of oM _ (by simp), no3_of oM _ (by simp), no3_of oM _ (by simp), no3_of oM _ (by simp)⟩
  have mCE := mg_of X NS gCE
  have mCG := mg_of X NS gCG
  have mCM := mg_of X NS gCM
  have mLet := mg_of X NS vLet
  have mLon := mg_of X NS vLon
  have mFar := mg_of X NS vFar
  have mMem := mg_of X NS vMem
  have mSetv := mg_of X NS vSet
  have ME : Mk K CE aEin := ⟨mkE, fEin, iEin, kCE⟩
  have MG : Mk K CG aGin := ⟨mkG, fGin, iGin, kCG⟩
  have MM : Mk K CM aMin := ⟨mkM, fMin, iMin, kCM⟩
  have PN : PropOf K CE "names" pEn aEnm := ⟨fEnm, sEnm, tEnm, _, vEnm⟩
  have PS : PropOf K CE "sets" pEs aEst := ⟨fEst, sEst, tEst, _, vEst⟩
  have PG : PropOf K CG "names" pGn aGnm := ⟨fGnm, sGnm, tGnm, _, vGnm⟩
  have mG : Meth K CE "group" aEgr := ⟨fEgr, iEgr, kEgr⟩
  have mA : Meth K CE "everything" aEal := ⟨fEal, iEal, kEal⟩
  obtain ⟨TN, bN, XN, nN⟩ := err_one (st := sNoSet) X NS stNoSet (by decide +kernel) (by decide +kernel) ON hE z_super top opq
  have T : ∀ base, LawTxt3 l.prog w K mg base CE CG CN := fun base => by
    have GS : FnOk l.prog w K mg base CX0 1 aSrc _ ["script", "start"] (spSource K) := ok_source FSrc z_int z_len
    have GD : FnOk l.prog w K mg base CX0 1 aDrw _ ["source", "span"] spDraw := ok_draw FDrw z_int
    have GP : FnOk l.prog w K mg base CX0 2 aPck _ ["source", "entries"] (spPick K) := ok_pick FPck z_len GD bDrw mDrw kDrw
    have GM : FnOk l.prog w K mg base CX0 2 aMix _ ["source", "entries"] (spMixed K) := ok_mixed FMix z_len z_list GD bDrw mDrw kDrw
    have GL : FnOk l.prog w K mg base CX0 3 aPoo _ ["source"] spPool := ok_pool FPoo GM bMix mMix kMix
    have GT : FnOk l.prog w K mg base CX0 3 aSet _ ["source", "rows"] (spSets K) := ok_sets FSet GD bDrw mDrw kDrw GM bMix mMix kMix
    have GO : FnOk l.prog w K mg base CX0 4 aMdl _ ["source", "many"] spModel := ok_model FMdl z_range z_len z_tuple GP bPck mPck kPck GM bMix mMix kMix GL bPoo mPoo kPoo GT bSet mSet kSet
    have GN : FnOk l.prog w K mg base CX0 1 aNam _ ["value"] (spIsName K) := ok_isname FNam z_isinstance z_str z_len z_all mLet mLon
    have GI : FnOk l.prog w K mg base CX0 1 aInt _ ["value"] (spIsInt K) := ok_isint FInt z_isinstance z_int z_bool
    have GE : FnOk l.prog w K mg base CX0 2 aEnt _ ["value"] (spEntry K) := ok_entry FEnt z_isinstance z_tuple z_len z_all mFar GN bNam mNam kNam GI bInt mInt kInt
    have GR : FnOk l.prog w K mg base CX0 3 aRow _ ["members"] (spRowsOf K) := ok_rowsof FRow ⟨z_isinstance, z_tuple, z_list, z_len, z_any, z_set, z_sorted, z_enumerate, ⟨_, mMem⟩, ⟨_, _, GE, bEnt, mEnt, kEnt⟩⟩
    have GC : FnOk l.prog w K mg base CX0 1 aCho _ ["value", "names"] (spChoice K) := ok_choice FCho z_isinstance z_tuple z_list z_len z_all z_set
    have GG : FnOk l.prog w K mg base CX0 2 aGro _ ["sets", "names"] (spGroups K) := ok_groups FGro z_isinstance z_dict z_len z_tuple z_enumerate mSetv GN bNam mNam kNam GC bCho mCho kCho
    have HN : FnOk l.prog w K mg base CX0 1 aEnm _ ["self"] (spEdNames CE) := ok_ednames FEnm TE
    have HI : FnOk l.prog w K mg base CX0 4 aEin _ ["self", "members", "sets"] (spEdInit K CE) := ok_edinit FEin TE z_enumerate GR bRow mRow kRow GG bGro mGro kGro HN bEnm PN
    have HL : FnOk l.prog w K mg base CX0 6 aLed _ ["model"] (spLawEd CE) := ok_lawed FLed z_list z_dict ME mCE HI bEin
    have HE : FnOk l.prog w K mg base CX0 1 aEeq _ ["self", "other"] (spEdEq K CE) := ok_edeq FEeq TE ZE z_isinstance mCE
    have HS : FnOk l.prog w K mg base CX0 1 aEst _ ["self"] (spEdSets CE) := ok_edsets FEst TE z_sorted
    have HG : FnOk l.prog w K mg base CX0 1 aGin _ ["self", "edition", "places"] (spGrInit K CG) := ok_grinit FGin TG z_tuple
    have HA : FnOk l.prog w K mg base CX0 3 aEal _ ["self"] (spEdAll K CE CG) := ok_edall FEal TE z_list z_range z_len MG mCG HG bGin
    have HQ : FnOk l.prog w K mg base CX0 2 aGeq _ ["self", "other"] (spGrEq K CE CG) := ok_greq FGeq TG ZG ZE z_isinstance mCG HE bEeq fEeq iEeq
    have HM : FnOk l.prog w K mg base CX0 1 aMin _ ["self", "edition", "place"] (spMemInit CE CM) := ok_meminit FMin TE TM
    have HT : FnOk l.prog w K mg base CX0 3 aEge _ ["self", "name"] (spEdGet CE CM) := ok_edget FEge TE z_isinstance z_str MM mCM HM bMin
    have HZ : FnOk l.prog w K mg base CX0 1 aEle _ ["self"] (spEdLen CE) := ok_edlen FEle TE z_len
    have HU : FnOk l.prog w K mg base (L2.CX l.prog w) 4 aEgr _ ["self", "name"] (spEdGroup K CE CG CN) := ok_edgroup FEgr TE z_isinstance z_str MG mCG HG bGin TN bN
    have KN : FnOk l.prog w K mg base CX0 1 aGnm _ ["self"] (spGrNames K CE CG) := ok_grnames FGnm TE TG
    have KL : FnOk l.prog w K mg base CX0 1 aGle _ ["self"] (spGrLen K CG) := ok_grlen FGle TG z_len
    have KB : FnOk l.prog w K mg base CX0 1 aGbo _ ["self"] (spGrBool K CG) := ok_grbool FGbo TG z_bool
    have KH : FnOk l.prog w K mg base CX0 2 aGha _ ["self", "value"] (spGrHas K CE CG CM) := ok_grhas FGha TG TM ZM ZE z_isinstance mCM HE bEeq fEeq iEeq
    have KO : FnOk l.prog w K mg base CX0 3 aGor _ ["self", "other"] (spGrOp K CE CG orP) := ok_gror FGor TG MG mCG z_range z_len HG bGin HZ bEle fEle iEle
    have KA : FnOk l.prog w K mg base CX0 3 aGan _ ["self", "other"] (spGrOp K CE CG andP) := ok_grand FGan TG MG mCG HG bGin
    have KS : FnOk l.prog w K mg base CX0 3 aGsu _ ["self", "other"] (spGrOp K CE CG subP) := ok_grsub FGsu TG MG mCG HG bGin
    have LA : GrAll l.prog w K mg base CE CG CM := ⟨TE, TG, TM, ZE, ZG, ZM, ⟨_, _, _, KN, bGnm, PG⟩, ⟨_, _, KL, bGle, fGle, iGle⟩, ⟨_, _, KB, bGbo, fGbo, iGbo⟩, ⟨_, _, KH, bGha, fGha, iGha⟩, ⟨_, _, HQ, bGeq, fGeq, iGeq⟩, nG, ⟨_, _, HT, bEge, fEge, iEge, jEge⟩, koGM, koEG, koMG, nfEG⟩
    have UA : EdAll3 l.prog w K mg base CE CG := ⟨⟨_, _, HL, bLed, mLed, kLed⟩, ⟨_, _, ME, HI, bEin⟩, ⟨_, _, _, HN, bEnm, PN⟩, ⟨_, _, HA, bEal, mA⟩, ⟨_, _, KS, bGsu, fGsu, iGsu⟩, sfG, mCE, z_list, z_dict⟩
    have L1 : FnOk l.prog w K mg base CX0 5 aGrr _ ["edition", "rows", "group", "places"] (spGrRight K CE CG) := ok_grright FGrr LA z_len z_bool z_enumerate
    have L2 : FnOk l.prog w K mg base CX0 6 aAlr _ ["edition", "rows", "some"] (spAllRight K CE CG) := ok_allright FAlr LA L1 bGrr mGrr kGrr
    have L3 : FnOk l.prog w K mg base CX0 7 aEdr _ ["edition", "model"] (spEdsRight CE) := ok_edsright FEdr LA UA
    have L4 : FnOk l.prog w K mg base CX0 5 aRef _ ["edition", "thing"] (spRefused K CE) := ok_refused FRef TE mG TN.gC XN nN em HU bEgr
    exact { src := ⟨_, _, GS, bSrc, mSrc, kSrc⟩, drw := ⟨_, _, GD, bDrw, mDrw, kDrw⟩, pck := ⟨_, _, GP, bPck, mPck, kPck⟩, mdl := ⟨_, _, GO, bMdl, mMdl, kMdl⟩, led := ⟨_, _, HL, bLed, mLed, kLed⟩, ref := ⟨_, _, L4, bRef, mRef, kRef⟩, alr := ⟨_, _, L2, bAlr, mAlr, kAlr⟩, edr := ⟨_, _, L3, bEdr, mEdr, kEdr⟩,
            grp := ⟨_, _, HU, bEgr, mG⟩, sts := ⟨_, _, _, HS, bEst, PS⟩, all := ⟨_, _, HA, bEal, mA⟩, orO := ⟨_, _, KO, bGor, fGor, iGor⟩, andO := ⟨_, _, KA, bGan, fGan, iGan⟩, subO := ⟨_, _, KS, bGsu, fGsu, iGsu⟩, sfG := sfG, ZE := ZE,
            range := z_range, max := z_max, min := z_min, len := z_len, srt := z_sorted, list := z_list, repr := z_repr }
  exact ⟨PySem.W.fnOf "law" "law" (defArgs sLaw3) (defBody sLaw3) (defScope sLaw3) .none kVLaw dcLaw pmLaw anLaw cdLaw ctLaw, fun s v => .of_eq rfl, fun base _ _ => ok_law3 FLaw (T base)⟩
end Gk
open PySem PySem.W PyProof.Rows
set_option maxRecDepth 100000 in
set_option maxHeartbeats 0 in
theorem PySem.Challenge.cw_growlists_k03_sets_of_members_holds : PySem.Challenge.rw_growlists_k03_sets_of_members.Holds := by
  w_on; o_law; k_headL; (case hw => w_witness2)
  k_fill
  refine Gk.walk_ofG (l := PySem.Challenge.rw_growlists_k03_sets_of_members) (n := 63) (k := 8) (x := "script") (CX := fun _ => L2.CX0) (sp := fun w => Gk.spLaw3 _) rfl (by decide) rfl ⟨rfl, by decide, by decide⟩ (fun w h Y => PySem.W.kIn_of Y) ?F (fun _ _ a ns hl hb _ hS => ⟨a, ns, rfl, hS, hl, hb, fun _ => rfl⟩) fun _ _ _ _ _ z => z
  case F =>
    intro w mg fa h KX G hmg
    refine' Gk.all_mk3 (l := PySem.Challenge.rw_growlists_k03_sets_of_members) KX G hmg ?gCE ?gCG ?gCM ?gSrc ?lSrc ?qSrc ?kSrc ?gDrw ?lDrw ?qDrw ?kDrw ?gPck ?lPck ?qPck ?kPck ?gMix ?lMix ?qMix ?kMix ?gPoo ?lPoo ?qPoo ?kPoo ?gSet ?lSet ?qSet ?kSet ?gMdl ?lMdl ?qMdl ?kMdl ?gLed ?lLed ?qLed ?kLed ?gRef ?lRef ?qRef ?kRef ?gGrr ?lGrr ?qGrr ?kGrr ?gAlr ?lAlr ?qAlr ?kAlr ?gEdr ?lEdr ?qEdr ?kEdr ?gNam ?lNam ?qNam ?kNam ?gInt ?lInt ?qInt ?kInt ?gEnt ?lEnt ?qEnt ?kEnt ?gRow ?lRow ?qRow ?kRow ?gCho ?lCho ?qCho ?kCho ?gGro ?lGro ?qGro ?kGro ?gLaw ?lLaw ?qLaw ?kLaw ?fEin ?lEin ?qEin ?kEin ?tupEin ?fEnm ?sEnm ?tEnm ?vEnm ?lEnm ?qEnm ?kEnm ?fEst ?sEst ?tEst ?vEst ?lEst ?qEst ?kEst ?fEeq ?iEeq ?lEeq ?qEeq ?kEeq ?fEal ?iEal ?lEal ?qEal ?kEal ?fEge ?iEge ?lEge ?qEge ?kEge ?fEle ?iEle ?lEle ?qEle ?kEle ?fEgr ?iEgr ?lEgr ?qEgr ?kEgr ?fMin ?iMin ?lMin ?qMin ?kMin ?fGin ?iGin ?lGin ?qGin ?kGin ?fGeq ?iGeq ?lGeq ?qGeq ?kGeq ?fGnm ?sGnm ?tGnm ?vGnm ?lGnm ?qGnm ?kGnm ?fGle ?iGle ?lGle ?qGle ?kGle ?fGbo ?iGbo ?lGbo ?qGbo ?kGbo ?fGha ?iGha ?lGha ?qGha ?kGha ?fGor ?iGor ?lGor ?qGor ?kGor ?fGan ?iGan ?lGan ?qGan ?kGan ?fGsu ?iGsu ?lGsu ?qGsu ?kGsu ?jEge ?mkE ?iEin ?kCE ?mkG ?kCG ?mkM ?kCM ?nG ?cE ?cG ?cM ?nfEG ?koEG ?koGM ?koMG ?sfG ?oE ?oG ?oM ?hN ?hn ?ht ?aCN ?aIN ?ON ?hE ?em ?top ?opq ?vLet ?vLon ?vFar ?vMem ?vSet
    (case gCE => k_is)
    (case gCG => k_is)
    (case gCM => k_is)
    (case gSrc => k_is)
    (case lSrc => k_is)
    (case qSrc => k_is)
    (case kSrc => k_is)
    (case gDrw => k_is)
    (case lDrw => k_is)
    (case qDrw => k_is)
    (case kDrw => k_is)
    (case gPck => k_is)
    (case lPck => k_is)
    (case qPck => k_is)
    (case kPck => k_is)
    (case gMix => k_is)
    (case lMix => k_is)
    (case qMix => k_is)
    (case kMix => k_is)
    (case gPoo => k_is)
    (case lPoo => k_is)
    (case qPoo => k_is)
    (case kPoo => k_is)
    (case gSet => k_is)
    (case lSet => k_is)
    (case qSet => k_is)
    (case kSet => k_is)
    (case gMdl => k_is)
    (case lMdl => k_is)
    (case qMdl => k_is)
    (case kMdl => k_is)
    (case gLed => k_is)
    (case lLed => k_is)
    (case qLed => k_is)
    (case kLed => k_is)
    (case gRef => k_is)
    (case lRef => k_is)
    (case qRef => k_is)
    (case kRef => k_is)
    (case gGrr => k_is)
    (case lGrr => k_is)
    (case qGrr => k_is)
    (case kGrr => k_is)
    (case gAlr => k_is)
    (case lAlr => k_is)
    (case qAlr => k_is)
    (case kAlr => k_is)
    (case gEdr => k_is)
    (case lEdr => k_is)
    (case qEdr => k_is)
    (case kEdr => k_is)
    (case gNam => k_is)
    (case lNam => k_is)
    (case qNam => k_is)
    (case kNam => k_is)
    (case gInt => k_is)
    (case lInt => k_is)
    (case qInt => k_is)
    (case kInt => k_is)
    (case gEnt => k_is)
    (case lEnt => k_is)
    (case qEnt => k_is)
    (case kEnt => k_is)
    (case gRow => k_is)
    (case lRow => k_is)
    (case qRow => k_is)
    (case kRow => k_is)
    (case gCho => k_is)
    (case lCho => k_is)
    (case qCho => k_is)
    (case kCho => k_is)
    (case gGro => k_is)
    (case lGro => k_is)
    (case qGro => k_is)
    (case kGro => k_is)
    (case gLaw => k_is)
    (case lLaw => k_is)
    (case qLaw => k_is)
    (case kLaw => k_is)
    (case fEin => k_is)
    (case lEin => k_is)
    (case qEin => k_is)
    (case kEin => k_is)
    (case tupEin => k_is)
    (case fEnm => k_is)
    (case sEnm => k_is)
    (case tEnm => k_is)
    (case vEnm => k_is)
    (case lEnm => k_is)
    (case qEnm => k_is)
    (case kEnm => k_is)
    (case fEst => k_is)
    (case sEst => k_is)
    (case tEst => k_is)
    (case vEst => k_is)
    (case lEst => k_is)
    (case qEst => k_is)
    (case kEst => k_is)
    (case fEeq => k_is)
    (case iEeq => k_is)
    (case lEeq => k_is)
    (case qEeq => k_is)
    (case kEeq => k_is)
    (case fEal => k_is)
    (case iEal => k_is)
    (case lEal => k_is)
    (case qEal => k_is)
    (case kEal => k_is)
    (case fEge => k_is)
    (case iEge => k_is)
    (case lEge => k_is)
    (case qEge => k_is)
    (case kEge => k_is)
    (case fEle => k_is)
    (case iEle => k_is)
    (case lEle => k_is)
    (case qEle => k_is)
    (case kEle => k_is)
    (case fEgr => k_is)
    (case iEgr => k_is)
    (case lEgr => k_is)
    (case qEgr => k_is)
    (case kEgr => k_is)
    (case fMin => k_is)
    (case iMin => k_is)
    (case lMin => k_is)
    (case qMin => k_is)
    (case kMin => k_is)
    (case fGin => k_is)
    (case iGin => k_is)
    (case lGin => k_is)
    (case qGin => k_is)
    (case kGin => k_is)
    (case fGeq => k_is)
    (case iGeq => k_is)
    (case lGeq => k_is)
    (case qGeq => k_is)
    (case kGeq => k_is)
    (case fGnm => k_is)
    (case sGnm => k_is)
    (case tGnm => k_is)
    (case vGnm => k_is)
    (case lGnm => k_is)
    (case qGnm => k_is)
    (case kGnm => k_is)
    (case fGle => k_is)
    (case iGle => k_is)
    (case lGle => k_is)
    (case qGle => k_is)
    (case kGle => k_is)
    (case fGbo => k_is)
    (case iGbo => k_is)
    (case lGbo => k_is)
    (case qGbo => k_is)
    (case kGbo => k_is)
    (case fGha => k_is)
    (case iGha => k_is)
    (case lGha => k_is)
    (case qGha => k_is)
    (case kGha => k_is)
    (case fGor => k_is)
    (case iGor => k_is)
    (case lGor => k_is)
    (case qGor => k_is)
    (case kGor => k_is)
    (case fGan => k_is)
    (case iGan => k_is)
    (case lGan => k_is)
    (case qGan => k_is)
    (case kGan => k_is)
    (case fGsu => k_is)
    (case iGsu => k_is)
    (case lGsu => k_is)
    (case qGsu => k_is)
    (case kGsu => k_is)
    (case jEge => k_is)
    (case mkE => k_is)
    (case iEin => k_is)
    (case kCE => k_is)
    (case mkG => k_is)
    (case kCG => k_is)
    (case mkM => k_is)
    (case kCM => k_is)
    (case nG => k_is)
    (case cE => kernel_rfl)
    (case cG => kernel_rfl)
    (case cM => kernel_rfl)
    (case nfEG => kernel_rfl)
    (case koEG => kernel_rfl)
    (case koGM => kernel_rfl)
    (case koMG => kernel_rfl)
    (case sfG => kernel_rfl)
    (case oE => kernel_rfl)
    (case oG => kernel_rfl)
    (case oM => kernel_rfl)
    (case hN => kernel_rfl)
    (case hn => k_is)
    (case ht => k_is)
    (case aCN => k_is)
    (case aIN => k_is)
    (case ON => (refine' Gk.errObj_mk ?zC0 ?zb0 ?zI0 ?zc0 ?zd0 ?z20 ?zf0 ?zl0; (case zC0 => k_is); (case zb0 => decide +kernel); (case zI0 => k_is); (case zc0 => k_is); (case zd0 => k_is); (case z20 => exact rfl); (case zf0 => decide +kernel); (case zl0 => k_is)))
    (case hE => kernel_rfl)
    (case em => kernel_rfl)
    (case top => decide +kernel)
    (case opq => k_is)
    (case vLet => k_is)
    (case vLon => k_is)
    (case vFar => k_is)
    (case vMem => k_is)
    (case vSet => k_is)
