import PyProof.Rows.All
import Wide.All
import OpenK.AllK
import Wide.FinOn
import PyProof.EqAt
import PyProof.EqKinds
import PyProof.TupleCall
import KE.KExcSuper
import HandS.ForMost
import HandS.ForExc
import HandS.Wide
import HandS.EndBits
import HandS.Nested
import HandS.ExcInit
import HandS.ExcIs
import PyProof.ReprRoads
import KE.KExcIs
import HandS.IsInst
import HandS.Walk
import KE.OsRunLaw
import PySem.Challenge.RW_growlists_k91_errors_by_hand
set_option Elab.async false
set_option linter.all false
set_option maxRecDepth 100000
set_option maxHeartbeats 4000000
set_option autoImplicit false
namespace Gk
open PySem PySem.Spec PyProof.Rows L2
def top (i : Nat) : Stmt := PySem.Challenge.pw_growlists_k91_errors_by_hand.main.body.getD i (.Pass ⟨0, 0, 0, 0⟩)
abbrev sSource : Stmt := (top 24)
abbrev sDraw : Stmt := (top 25)
abbrev sPick : Stmt := (top 26)
/-! ### powers of any size -/
def CPowW (i j : Int) : Prop := 0 ≤ j ∧ (Builtin.Int.intBits i : Int) * j ≤ 2 ^ 27
section
variable {X : Cx}
theorem op_powW : OpR X (binaryOp .Pow) (rI CPowW fun i j => .int (i ^ j.toNat)) := opI fun _ _ _ _ _ _ _ hc q => pow_int hc.1 hc.2 q
theorem boot_int : bootBuiltins "int" = some (.type "int") := by decide +kernel
end
theorem bits_lt {i : Int} {n : Nat} (h : i.natAbs < 2 ^ n) : Builtin.Int.intBits i ≤ n := by
  unfold Builtin.Int.intBits
  by_cases h0 : i = 0
  · simp [h0]
  · have h1 : i.natAbs ≠ 0 := by omega
    have := (Nat.log2_lt h1).mpr h
    simp only [beq_iff_eq, h0, if_false]
    omega
theorem lt_bits (i : Int) : i.natAbs < 2 ^ Builtin.Int.intBits i := by
  unfold Builtin.Int.intBits
  by_cases h0 : i = 0
  · simp [h0]
  · simp only [beq_iff_eq, h0, if_false]
    exact Nat.lt_log2_self
theorem bits_mix {m z : Int} (h0 : 0 ≤ m) (h1 : m ≤ 2147483647) (hz : Builtin.Int.intBits z ≤ 1048576) : CPowW (m * 43867 + z) 3 := by
  refine ⟨by decide, ?_⟩
  have hz1 : z.natAbs < 2 ^ 1048576 := Nat.lt_of_lt_of_le (lt_bits z) (Nat.pow_le_pow_right (by decide) hz)
  have hb : Builtin.Int.intBits (m * 43867 + z) ≤ 1048577 := by
    refine bits_lt ?_
    have e : (2 : Nat) ^ 1048577 = 2 ^ 1048576 + 2 ^ 1048576 := by rw [Nat.pow_succ]; omega
    have l : (2 : Nat) ^ 64 ≤ 2 ^ 1048576 := Nat.pow_le_pow_right (by decide) (by decide)
    have l64 : (2 : Nat) ^ 64 = 18446744073709551616 := by decide
    rw [e]
    generalize (2 : Nat) ^ 1048576 = N at *
    rw [l64] at l
    omega
  have : ((Builtin.Int.intBits (m * 43867 + z) : Nat) : Int) ≤ 1048577 := by omega
  have e27 : (2 : Int) ^ 27 = 134217728 := by decide
  rw [e27]
  omega
/-! ### what a source is: its second item -/
def SrcOk (m : Int) : Prop := 0 ≤ m ∧ m ≤ 2147483647
def srcO (r m : Int) : HO := .lst [.int r, .int m]
def Src (H : Hp) (p : Addr) : Prop := ∃ r m, H p = some (srcO r m) ∧ SrcOk m
def spSource (K : PySem.W.Frag) : Sp := fun vs H Q _ => ∃ (a : Addr) (ns : List Int) (st : Int), vs = [.ref a, .int st] ∧ SqL K H a (ns.map V.int) ∧ ns.length ≤ 63 ∧ (∀ z ∈ ns, Builtin.Int.intBits z ≤ 1048576) ∧ 0 ≤ st ∧ st ≤ 10 ∧
  ∀ p r m, H p = none → SrcOk m → Q (.ref p) (upd H p (srcO r m))
def spDraw : Sp := fun vs H Q _ => ∃ (p : Addr) (span r m : Int), vs = [.ref p, .int span] ∧ H p = some (srcO r m) ∧ SrcOk m ∧ 0 < span ∧ span < 1000000 ∧
  ∀ k r' m', 0 ≤ k → k < span → SrcOk m' → Q (.int k) (upd H p (srcO r' m'))
def spPick (K : PySem.W.Frag) : Sp := fun vs H Q _ => ∃ (p e : Addr) (r m : Int) (xs : List V), vs = [.ref p, .ref e] ∧ H p = some (srcO r m) ∧ SrcOk m ∧ SqL K H e xs ∧ e ≠ p ∧ 0 < xs.length ∧ xs.length < 1000000 ∧
  ∀ (i : Nat) v r' m', xs[i]? = some v → SrcOk m' → Q v (upd H p (srcO r' m'))
/-- a list that stands apart from p is still there behind a store at p -/
theorem SqL.apart {K : PySem.W.Frag} {H : Hp} {e p : Addr} {xs : List V} {o : HO} (h : SqL K H e xs) (ne : e ≠ p) : SqL K (upd H p o) e xs := by
  rcases h with (h | ⟨u, h⟩) | h
  · exact .inl (.inl (by rw [upd_ne ne]; exact h))
  · exact .inl (.inr ⟨u, by rw [upd_ne ne]; exact h⟩)
  · exact .inr h
section
variable {P : Program} {w : World} {K : PySem.W.Frag} {mg : Str → Option Value} {base : Heap}
theorem scSource : FnScope ["script", "start", "mixed", "cell", "rest"] ["script", "start"] (defScope sSource) := ⟨rfl, rfl, rfl, by decide +kernel, rfl, by decide +kernel, by decide +kernel⟩
theorem ok_source {f : Addr} {fd : FuncData} (F : Fun K "_law_source" "_law_source" sSource f fd) (ti : mg "int" = none) (tl : mg "len" = none) : FnOk P w K mg base CX0 1 f fd ["script", "start"] (spSource K) := by
  refine F.ok scSource (fun vs H Q E h => ?_) (fun cdv A outer s H vs Q E hr h => ?_)
  · obtain ⟨a, ns, st, rfl, _⟩ := h
    rfl
  · obtain ⟨a, ns, st, rfl, hS, hlen, hbits, hst0, hst, k⟩ := h
    have nd := scSource.nd
    refine ⟨_, pss_cons (ps_set (i := 2) nd rfl (Or.inl rfl) (pe_op op_add pe_int (pv 1)))
      (pss_cons (ps_for PassesOwn.never rfl (pi_list (pv 0)) (pg_name (i := 3) nd rfl (Or.inl rfl))
        (pss_one (ps_set (i := 2) nd rfl (Or.inl rfl) (pe_op op_add (pe_op op_mod (pe_callTy call_int1 (by rfl) ti boot_int (pa_cons (pe_op op_powW (pe_callTy call_int1 (by rfl) ti boot_int (pa_cons (pe_op op_add (pe_op op_mul (pv 2) pe_int) (pe_callTy call_int1 (by rfl) ti boot_int (pa_cons (pv 3) pa_nil))) pa_nil)) pe_int) pa_nil)) pe_int) pe_int))))
      (pss_cons (ps_set (i := 4) nd rfl (Or.inl rfl) pe_int)
      (pss_cons (ps_if (PW.pt (pw_and (pt_cmpR op_lt (pv 1) (pe_callB call_len_seq (by rfl) tl PySem.boot_len (pa_cons (pv 0) pa_nil)) (nomark _)) (pw_and1 (pt_cmpR op_ge (pe_ix ix_list (pv 0) (pv 1) (fun _ _ => rfl)) (pe_op op_pow pe_int pe_int) (nomark _)))))
        (pss_one (ps_set (i := 4) nd rfl (Or.inl rfl) (pe_op op_sub (pe_ix ix_list (pv 0) (pv 1) (fun _ _ => rfl)) (pe_op op_pow pe_int pe_int)))) pss_nil)
      (pss_one (ps_ret (pe_lst (pa_cons (pv 4) (pa_cons (pv 2) pa_nil)))))))), ?_⟩
    refine ⟨_, rfl, _, _, rfl, rfl, ?_⟩
    refine ⟨_, rfl, a, rfl, ⟨_, hS⟩, for_list (K := K) (a := a) (xs := ns.map V.int) (fun i σ H2 => ∃ (m : Int) (v : Option V), σ = [some (.ref a), some (.int st), some (.int m), v, none] ∧ H2 = H ∧ SrcOk m)
      ⟨53 + st, none, rfl, rfl, by unfold SrcOk; omega⟩ (fun i σ H2 _ ⟨_, _, _, e, _⟩ => e ▸ hS) ?_ ?_⟩
    · rintro i y σ H2 hi ⟨m, v, rfl, rfl, hm⟩
      obtain ⟨z, hz, rfl⟩ : ∃ z, ns[i]? = some z ∧ y = V.int z := by
        rw [List.getElem?_map] at hi
        cases e : ns[i]? with
        | none => rw [e] at hi; cases hi
        | some z => rw [e] at hi; exact ⟨z, rfl, (Option.some.inj hi).symm⟩
      have hb := hbits z (List.mem_of_getElem? hz)
      refine ⟨_, rfl, _, _, rfl, rfl, .inl ⟨by have := hm.1; omega, by have := hm.2; omega⟩, ?_⟩
      refine ⟨_, rfl, .inl ⟨_, rfl, ?_⟩⟩
      refine ⟨_, _, rfl, rfl, .inl ⟨_, rfl, ?_⟩⟩
      refine ⟨_, _, rfl, rfl, bits_mix hm.1 hm.2 hb, .inl ⟨_, rfl, ?_⟩⟩
      refine ⟨_, _, rfl, rfl, (by show (0 : Int) < 2147483587; decide), ?_⟩
      refine ⟨_, _, rfl, rfl, ?_⟩
      refine ⟨_, _, rfl, rfl, ?_⟩
      have h1 := Int.emod_nonneg ((m * 43867 + z) ^ (3 : Int).toNat) (show (2147483587 : Int) ≠ 0 by decide)
      have h2 := Int.emod_lt_of_pos ((m * 43867 + z) ^ (3 : Int).toNat) (show (0 : Int) < 2147483587 by decide)
      exact ⟨by omega, by omega⟩
    · rintro σ H2 ⟨m, v, rfl, rfl, hm⟩
      refine ⟨_, rfl, _, rfl, a, _, rfl, .inl hS, _, _, rfl, rfl, _, rfl, ?_⟩
      rw [List.length_map]
      refine ite2 (fun hc => ?_) (fun hc => ?_)
      · have hc' : st < (ns.length : Int) := of_decide_eq_true hc
        have hlt : st.toNat < ns.length := by omega
        have hat : atI (ns.map V.int) st = some (V.int ns[st.toNat]) := at_of (j := st.toNat) (by omega) (by rw [List.getElem?_map, List.getElem?_eq_getElem hlt]; rfl)
        refine ⟨_, rfl, _, rfl, a, _, _, _, rfl, rfl, hS, hat, _, _, rfl, rfl, ⟨by decide, by decide, by decide⟩, _, _, rfl, rfl, _, rfl, ?_⟩
        refine ite2 (fun hd => ?_) (fun hd => ?_)
        · refine ⟨_, rfl, _, rfl, a, _, _, _, rfl, rfl, hS, hat, _, _, rfl, rfl, ⟨by decide, by decide, by decide⟩, _, _, rfl, rfl, ?_⟩
          exact ⟨_, rfl, _, rfl, (by show 2 ≤ sizeLine; decide), fun p hp => k p _ _ hp hm⟩
        · exact ⟨_, rfl, _, rfl, (by show 2 ≤ sizeLine; decide), fun p hp => k p _ _ hp hm⟩
      · exact ite2 (fun hd => by cases hd) fun _ => ⟨_, rfl, _, rfl, (by show 2 ≤ sizeLine; decide), fun p hp => k p _ _ hp hm⟩
theorem scDraw : FnScope ["source", "span", "found"] ["source", "span"] (defScope sDraw) := ⟨rfl, rfl, rfl, by decide +kernel, rfl, by decide +kernel, by decide +kernel⟩
theorem src_at0 (r m : Int) : atI [V.int r, V.int m] 0 = some (V.int r) := rfl
theorem src_at1 (r m : Int) : atI [V.int r, V.int m] 1 = some (V.int m) := rfl
theorem ok_draw {f : Addr} {fd : FuncData} (F : Fun K "_law_draw" "_law_draw" sDraw f fd) (ti : mg "int" = none) : FnOk P w K mg base CX0 1 f fd ["source", "span"] spDraw := by
  refine F.ok scDraw (fun vs H Q E h => ?_) (fun cdv A outer s H vs Q E hr h => ?_)
  · obtain ⟨p, span, r, m, rfl, _⟩ := h
    rfl
  · obtain ⟨p, span, r, m, rfl, hp, hm, h0, h1, k⟩ := h
    have nd := scDraw.nd
    have hS : SqL K H p [V.int r, V.int m] := SqL.of hp
    refine ⟨_, pss_cons (ps_if (pt_cmpR op_ge (pe_ix ix_list (pv 0) pe_int (fun _ _ => rfl)) (pv 1) (nomark _))
        (pss_cons (ps_set (i := 2) nd rfl (Or.inl rfl) (pe_op op_mod (pe_callTy call_int1 (by rfl) ti boot_int (pa_cons (pe_ix ix_list (pv 0) pe_int (fun _ _ => rfl)) pa_nil)) (pv 1)))
        (pss_cons (ps_asg (by exact (pe_op op_fdiv (pe_ix ix_list (pv 0) pe_int (fun _ _ => rfl)) (pv 1))) (by exact (pg_sub (pv 0) pe_int set_list)))
        (pss_one (ps_ret (pv 2))))) pss_nil)
      (pss_cons (ps_asg (by exact (pe_op op_mod (pe_callTy call_int1 (by rfl) ti boot_int (pa_cons (pe_op op_add (pe_op op_mul (pe_ix ix_list (pv 0) pe_int (fun _ _ => rfl)) pe_int) pe_int) pa_nil)) pe_int)) (by exact (pg_sub (pv 0) pe_int set_list)))
      (pss_one (ps_ret (pe_op op_mod (pe_callTy call_int1 (by rfl) ti boot_int (pa_cons (pe_op op_fdiv (pe_op op_mod (pe_callTy call_int1 (by rfl) ti boot_int (pa_cons (pe_op op_pow (pe_callTy call_int1 (by rfl) ti boot_int (pa_cons (pe_ix ix_list (pv 0) pe_int (fun _ _ => rfl)) pa_nil)) pe_int) pa_nil)) pe_int) pe_int) pa_nil)) (pv 1))))), ?_⟩
    refine ⟨_, rfl, p, _, _, _, rfl, rfl, hS, src_at0 r m, _, rfl, _, _, rfl, rfl, _, rfl, ?_⟩
    refine ite2 (fun hc => ?_) (fun hc => ?_)
    · refine ⟨_, rfl, p, _, _, _, rfl, rfl, hS, src_at0 r m, .inl ⟨_, rfl, _, rfl, _, _, rfl, rfl, h0, ?_⟩⟩
      refine ⟨_, rfl, p, _, _, _, rfl, rfl, hS, src_at0 r m, _, rfl, _, _, rfl, rfl, ⟨h0, by omega⟩, _, rfl, p, _, _, 0, rfl, rfl, hp, rfl, _, rfl, ?_⟩
      exact k (r % span) (r / span) m (Int.emod_nonneg r (by omega)) (Int.emod_lt_of_pos r h0) hm
    · refine ⟨_, rfl, p, _, _, _, rfl, rfl, hS, src_at1 r m, _, _, rfl, rfl, .inl ⟨by have := hm.1; omega, by have := hm.2; omega⟩, _, _, rfl, rfl, .inl ⟨_, rfl, ?_⟩⟩
      refine ⟨_, _, rfl, rfl, (by show (0 : Int) < 2147483647; decide), _, rfl, p, _, _, 1, rfl, rfl, hp, rfl, ?_⟩
      have n1 := Int.emod_nonneg (m * 69621 + 7919) (show (2147483647 : Int) ≠ 0 by decide)
      have n2 := Int.emod_lt_of_pos (m * 69621 + 7919) (show (0 : Int) < 2147483647 by decide)
      have hm' : SrcOk ((m * 69621 + 7919) % 2147483647) := ⟨n1, by omega⟩
      refine ⟨_, rfl, p, _, _, _, rfl, rfl, SqL.of upd_same, src_at1 r _, .inl ⟨_, rfl, _, _, rfl, rfl, ⟨by decide, by decide, by omega⟩, .inl ⟨_, rfl, ?_⟩⟩⟩
      refine ⟨_, _, rfl, rfl, (by show (0 : Int) < 1000000007; decide), _, _, rfl, rfl, ⟨by decide, by decide⟩, .inl ⟨_, rfl, _, rfl, _, _, rfl, rfl, h0, ?_⟩⟩
      exact k _ r _ (Int.emod_nonneg _ (by omega)) (Int.emod_lt_of_pos _ h0) hm'
theorem scPick : FnScope ["source", "entries"] ["source", "entries"] (defScope sPick) := ⟨rfl, rfl, rfl, by decide +kernel, rfl, by decide +kernel, by decide +kernel⟩
theorem ok_pick {f fD : Addr} {fd fdD : FuncData} (F : Fun K "_law_pick" "_law_pick" sPick f fd) (tl : mg "len" = none)
    (GD : FnOk P w K mg base CX0 1 fD fdD ["source", "span"] spDraw) (bD : Binds K fdD ["source", "span"] []) (gD : mg "_law_draw" = some (.ref fD)) (kD : PySem.W.keepIn K (.ref fD) = true) : FnOk P w K mg base CX0 2 f fd ["source", "entries"] (spPick K) := by
  refine F.ok scPick (fun vs H Q E h => ?_) (fun cdv A outer s H vs Q E hr h => ?_)
  · obtain ⟨p, e, r, m, xs, rfl, _⟩ := h
    rfl
  · obtain ⟨p, e, r, m, xs, rfl, hp, hm, hS, ne, l0, l1, k⟩ := h
    refine ⟨_, pss_one (ps_ret (pe_ix ix_list (pv 1) (pe_call GD hr rfl gD kD bD .nil pass0 (pa_cons (pv 0) (pa_cons (pe_callB call_len_seq (by rfl) tl PySem.boot_len (pa_cons (pv 1) pa_nil)) pa_nil))) (fun _ _ => rfl))), ?_⟩
    refine ⟨_, rfl, _, rfl, _, rfl, e, _, rfl, .inl hS, p, _, r, m, rfl, hp, hm, (by omega), (by omega), fun j r' m' j0 j1 hm' => ?_⟩
    have hlt : j.toNat < xs.length := by omega
    exact ⟨e, _, _, _, rfl, rfl, SqL.apart hS ne, at_of (j := j.toNat) (by omega) (List.getElem?_eq_getElem hlt), k _ _ r' m' (List.getElem?_eq_getElem hlt) hm'⟩
end
end Gk
/-! ## the error classes of the text: class X(GrowError): def __init__(self, f): super().__init__("..") ; self.f = f -/
namespace Gk
open PySem PySem.W PySem.Spec PySem.Calls PyProof.Rows L2 NdefX
/-- what its __init__ says, as a tree -/
def errBody (txt fld : Str) (j : Nat) (p0 p1 p2 p3 p4 p5 p6 p7 p8 p9 : Pos) : List Stmt :=
  [.Expr (.Call (.Attribute (.Call (.Name "super" p0) [] [] p1) "__init__" p2) [.Constant (.str txt) j p3] [] p4) p5, .Assign [.Attribute (.Name "self" p6) fld p7] (.Name fld p8) p9]
/-- how super().__init__("..") is evaluated: its positions are plain -/
def SupEval (txt : Str) (j : Nat) (p0 p1 p2 p3 p4 : Pos) : Prop := ∀ env : Env, ∃ pl : Sem Bool, eval (.Call (.Attribute (.Call (.Name "super" p0) [] [] p1) "__init__" p2) [.Constant (.str txt) j p3] [] p4) env = (do
  let ov ← attributeBase (.Call (.Name "super" p0) [] [] p1) "__init__" env (eval (.Call (.Name "super" p0) [] [] p1) env)
  standAt p2.atName
  let (f, first) ← holding [ov] (getMethod ov "__init__" pl)
  callWith p4 f first (backTo p4 (starEach [.Constant (.str txt) j p3] env)) [])
/-- __init__ promises: the field stands in a new dict of the exception -/
def spErr (C : Addr) (fld : Str) : Sp := fun vs H Q _ => ∃ (a : Addr) (v : V), vs = [.ref a, v] ∧ H a = some (exo a C none) ∧
  ∀ dx, H dx = none → dx ≠ a → Q .non (upd (upd H dx (exd dx [(fld, v)])) a (exo a C (some dx)))
/-- what the written part says of the class at C and of its __init__ at fI -/
structure ErrTxt (P : Program) (K : Frag) (mg : Str → Option Value) (x : Str) (C fI : Addr) (fd : FuncData) (fld : Str) : Prop where
  ox : OexC K C
  gC : mg x = some (.ref C)
  iC : findIn K (.ref C) "__init__" = some (some (.ref fI))
  tI : typeIn K (.ref fI) = some (.type "function")
  nof : findIn K (.ref C) fld = some none
  hB : subIn K (.ref C) (.type "ValueError") = some true
  hS : mroIn K C (.ref C) = some true
  hm : ks_superIn K C C "__init__" = some (some (.builtin "ValueError.__init__"))
  sup : mg "super" = none
  fn : ∃ (oc kV doc pm ct ccl cl : Value) (od an cdd cld : Option Addr) (osl ccs csl : Array (Option Value)) (q : Str) (pa : Arguments) (sc : Scope) (txt : Str) (j : Nat) (p0 p1 p2 p3 p4 p5 p6 p7 p8 p9 : Pos) (cc cd : Addr) (vs : Array Value) (file : Str) (tf : Tok) (ar : Arg),
    fd = fnX "__init__" q pa (errBody txt fld j p0 p1 p2 p3 p4 p5 p6 p7 p8 p9) sc [("__class__", cc)] .none kV doc pm an (.ref cd) ct ∧
    K.lookup fI = some ⟨oc, od, .func fd, osl⟩ ∧ codeIn K (.ref cd) q = true ∧ K.lookup cd = some ⟨ccl, cdd, .fields vs, ccs⟩ ∧ vs[2]? = some (.str file tf) ∧ ((P.main.file : Str) == file) = true ∧
    K.lookup cc = some ⟨cl, cld, .cell (some (.ref C)), csl⟩ ∧ NScope ["self", fld, "__class__"] ["self", fld] ["__class__"] sc ∧ sc.names.lookup ("super" : Str) = some .globalImplicit ∧ (pa.posonlyargs ++ pa.args).head? = some ar ∧ ar.arg = "self" ∧ SupEval txt j p0 p1 p2 p3 p4
  fd1 : (fld == ("__debug__" : Str)) = false
  fd2 : (fld == ("__classdict__" : Str)) = false
  top : (P.main.scope.names.lookup ("super" : Str)).isSome = false
  opq : nsIn K cStatics "thirdparty.any" = some none
section
variable {P : Program} {w : World} {K : Frag} {mg : Str → Option Value} {base : Heap} {x : Str} {C fI : Addr} {fd : FuncData} {fld : Str}
theorem boot_super : bootBuiltins "super" = some (.type "super") := by decide +kernel
theorem err_init (T : ErrTxt P K mg x C fI fd fld) : FnOk P w K mg base CX0 2 fI fd ["self", fld] (spErr C fld) := by
  obtain ⟨oc, kV, doc, pm, ct, ccl, cl, od, an, cdd, cld, osl, ccs, csl, q, pa, sc, txt, j, p0, p1, p2, p3, p4, p5, p6, p7, p8, p9, cc, cd, cvs, file, tf, ar, rfl, lk, hcd, lcd, hfl, hfile, lcc, S, ks, hpar, har, hev⟩ := T.fn
  refine ⟨fun vs H Q E h => ?_, fun A outer s H args us vs Q E hr e0 hb r hsp => ?_⟩
  · obtain ⟨a, v, rfl, _⟩ := h
    rfl
  obtain ⟨a, v, rfl, ha, k⟩ := hsp
  have KX : K.In s.heap := e0.mod.kin.keeps fun b o e => (e0.bs b o e).1
  have lim : s.heap.NoLimit := e0.mod.nolimit.keeps fun b o e => (e0.bs b o e).1
  let NFv : NF := ⟨"__init__", q, pa, errBody txt fld j p0 p1 p2 p3 p4 p5 p6 p7 p8 p9, sc, [("__class__", cc)], cd⟩
  refine codeAny_call_function hr.depth (KX _ _ lk) rfl S.co S.gen rfl (codeRec_of KX hcd) (hb _ _ _ _ ?_)
  refine wpAny_newFunctionEnv S.nocell (fun ⟨n, _⟩ hy => S.par n (List.of_mem_zip hy).1) (fun h₁ hns hsb => ⟨lim.fresh _ hsb, ?_⟩) S.kind
  show codeAny _ _ (.func NFv.body (envF NFv fI s.heap.objs.size)) _ _
  refine ks_codeAny_funcAt ?_
  have kp : ∀ b o, s.heap.get? b = some o → h₁.get? b = some o := fun b o e => hsb.extBut b o (Nat.ne_of_lt (Heap.lt_size e)) (Heap.get?_push_of_some _ e)
  have Cs : CellsAt NFv.cl ["__class__"] [some (.ref C)] s.heap H := by
    have one : ∀ y c, List.lookup y ([("__class__", cc)] : List (Str × Addr)) = some c → y = "__class__" ∧ c = cc := fun y c e => by
      have := PySem.mem_of_lookup e
      simp at this
      exact this
    refine ⟨rfl, fun y c e => ?_, fun y z c e e' => (one y c e).1.trans (one z c e').1.symm, fun i y hi => ?_⟩
    · obtain ⟨_, rfl⟩ := one y c e
      exact ⟨(e0.bs _ _ (e0.mod.kin _ _ lcc)).2, _, _, KX _ _ lcc, rfl⟩
    · cases i with
      | zero =>
        have e : ("__class__" : Str) = y := Option.some.inj hi
        subst e
        refine ⟨cc, rfl, fun v hv => ?_⟩
        have e2 : v = .ref C := (Option.some.inj (Option.some.inj hv)).symm
        subst e2
        exact ⟨_, rfl, _, KX _ _ lcc, rfl⟩
      | succ i => cases hi
  have I := inv_startN (CX := CX0) (N := ["self", fld, "__class__"]) (F := NFv) (f := fI) (E := E) (tk := s.toks + ((["self", fld] : List Str).zip us).length) S hr.hd e0 rfl r Cs hns kp
  -- super().__init__("..")
  have hint : interactive (envF NFv fI s.heap.objs.size) = false := by
    unfold interactive
    have : (envF NFv fI s.heap.objs.size).scope.kind = .function := S.kind
    rw [this]
    rfl
  obtain ⟨pl, hpl⟩ := hev (envF NFv fI s.heap.objs.size)
  have hself : startF ["self", fld, "__class__"] [V.ref a, v] [some (V.ref C)] = [some (V.ref a), some v, some (V.ref C)] := rfl
  refine ks_wpAt_execs_cons (ks_wpAt_Expr_any (ks_wpAt_MethodCall (pl := pl) ?_ hpl) hint rfl)
  have k1 : ∀ b o, base.get? b = some o → h₁.get? b = some o := fun b o e => kp b o (e0.bs b o e).1
  have X1 : K.In h₁ := KX.keeps kp
  refine ks_wpAt_super_base (env := envF NFv fI s.heap.objs.size) ks (S.frk _ (List.mem_cons_self ..)) rfl rfl (X1 _ _ lk) rfl hpar rfl (X1 _ _ lcd) rfl hfl hfile T.top ?_
  obtain ⟨mb, hb1, hb2⟩ := e0.mod.blt
  refine ks_loadName_global S.kind ks (loadGlobal_builtin (env := envF NFv fI s.heap.objs.size) (e0.mod.glob.keeps k1) T.sup (hb1.keeps k1) ((hb2 _ (by decide +kernel)).trans boot_super) ⟨rfl, ?_⟩)
  refine wpAny_loadName_free S.kind (S.frk _ (List.mem_cons_self ..)) rfl ⟨_, X1 _ _ lcc, rfl⟩ ?_
  obtain ⟨m, hm1, hm2⟩ := I.loc
  obtain ⟨u, ru, hlook⟩ := hm2 0 "self" (V.ref a) rfl rfl (Or.inl (S.par _ (List.mem_cons_self ..)))
  have u_eq : u = Value.ref a := ru
  subst u_eq
  have hmself : m "self" = some (Value.ref a) := by
    rcases hlook with ⟨_, e⟩ | ⟨e, _⟩
    · exact e
    · have e0 : (envF NFv fI s.heap.objs.size).kindOf "self" = some .local := S.par _ (List.mem_cons_self ..)
      have e' : (envF NFv fI s.heap.objs.size).kindOf "self" = some .cell ∨ (envF NFv fI s.heap.objs.size).kindOf "self" = some .free := e
      rw [e0] at e'
      rcases e' with z | z <;> cases z
  obtain ⟨nm, qn, N, bs, bm, sn, sub, ab, col, dd, c0, c1, c2, c3, c5, hC, hbm⟩ := T.ox.cls
  obtain ⟨t1, hobj⟩ := exo_at I.hok ha
  have hobj1 : h₁.get? a = some (excObj C t1 none .none) := hobj
  have hcl : clsIn K C = some { name := nm, bases := bs, mro := .ref C :: bm, ns := N, qualname := qn, hasDict := true, slotNames := sn, subclasses := sub, abstract := ab, collection := col, hasDel := false } := by
    unfold clsIn
    rw [hC] <;> rfl
  have IA : InstAt h₁ a (excObj C t1 none .none) C none := ⟨hobj1, rfl, rfl, trivial⟩
  refine wpAny_loadName_local S.kind (by rw [har]; exact S.par _ (List.mem_cons_self ..)) hm1 (by rw [har]; exact hmself) ?_
  refine ks_wpAny_isType_cls (X1 _ _ hC) rfl ⟨rfl, ?_⟩
  refine ks_wpAny_call_super (X1 _ _ hC) rfl hobj1 rfl (fun c e => by cases e) (looks_mroIn X1 T.hS) (fun h2 hso k2 => ?_)
  -- .__init__
  have X2 : K.In h2 := X1.keeps k2
  have IA2 : InstAt h2 a (excObj C t1 none .none) C none := ⟨k2 _ _ hobj1, rfl, rfl, trivial⟩
  have hsm := T.hm
  unfold ks_superIn at hsm
  rw [hcl] at hsm
  refine kxs_getMethod kxs_ValueError hso (looks_opaque X2 T.opq) (l₀ := .ref C :: bm) (fun A Q E s k q => wpAny_bind ((looks_clsIn X2 hcl) A _ E s k (wpAny_pure q))) rfl X2 hsm (IA2.type.andThen (looks_subIn X2 T.hB)) (ks_ne X2 IA2 hcl) (by decide +kernel) ?_
  -- (..)
  refine kxs_callWith (i := "ValueError.__init__") (x := a) rfl ?_
  refine evalArgs_plain (spliced_cons (Constant_str (pos := p3) (k := j) (spliced_nil ?_)))
  have hu : (h2.push (kxs_mw "ValueError.__init__" a)).get? h2.objs.size = some (kxs_mw "ValueError.__init__" a) := Heap.get?_push_at rfl rfl
  have k3 : ∀ b o, h2.get? b = some o → (h2.push (kxs_mw "ValueError.__init__" a)).get? b = some o := fun b o e => Heap.get?_push_of_some _ e
  refine ⟨hu, ?_⟩
  refine wpAny_call (codeAny_of_tree ?_)
  show wpAny _ _ (callAny (.ref h2.objs.size) ⟨[] ++ [Value.str txt _], []⟩) _ _ _
  simp only [callAny]
  refine wpAny_bind (wpAny_load hu ?_)
  simp only [kxs_mw, show (Value.type "method-wrapper" == Value.type "method" || Value.type "method-wrapper" == Value.type "builtin_function_or_method" || Value.type "method-wrapper" == Value.type "method-wrapper") = true by decide, if_true]
  refine KFB.if_so (by decide) ?_
  refine wpAny_bind (check_bound_init F.excBase_ValueError.toExcCallFacts (k3 _ _ (X2 _ _ hC)) (k3 _ _ (k2 _ _ hobj1)) rfl ?_)
  refine wpAny_bind (wpAny_pure (wpAny_pure ?_))
  refine ⟨plainId_quiet F.excBase_ValueError.init.plain _, codeAny_builtin F.excBase_ValueError.initEntry ?_⟩
  refine exc_init_tree (cls := .ref C) (t0 := t1) (dv := none) (c2 := .none) (c3 := .none) (b4 := .bool false) (k3 _ _ (k2 _ _ hobj1)) (by show 1 ≤ sizeLine; rw [sizeLine_eq]; omega) (fun h4 k4 e4 _ => ?_)
  show PySem.wpAt _ _ _ (execs [_] _) _ _ _
  refine wpAt_of_wpAny ?_
  have J := I.write (t' := s.toks + ((["self", fld] : List Str).zip us).length + 1 + 1) (h' := h4) (x := a) (e := a) (o := exo a C none) (by rw [ha]; exact True.intro) (.inl rfl) (fun b o hb e => k4 b o hb (k3 _ _ (k2 _ _ e))) ⟨_, e4⟩ (exo_ok e4)
  have eu : upd H a (exo a C none) = H := by
    funext b
    by_cases hb : b = a
    · rw [hb, upd_same, ha]
    · rw [upd_ne hb]
  rw [eu] at J
  have hfl1 : sc.names.lookup fld = some .local := S.par _ (List.mem_cons_of_mem _ (List.mem_cons_self ..))
  have hse1 : sc.names.lookup ("self" : Str) = some .local := S.par _ (List.mem_cons_self ..)
  have B : PSs (ncx CX0 P w K mg base ["self", fld, "__class__"] NFv fI A outer s H E) [Stmt.Assign [(Expr.Name (Str.ofString "self") p6).Attribute fld p7] (Expr.Name fld p8) p9] _ :=
    pss_one (ps_ost (pe_var (i := 0) rfl (Or.inl hse1) (by decide) (by decide)) (pe_var (i := 1) rfl (Or.inl hfl1) T.fd1 T.fd2))
  refine wpAny_mono (B.run [] _ _ H { nx := fun _ H' => Q .non H', rt := Q } J ?_) (fun fl s' hs => ?_) fun e s' h => h
  · refine ⟨v, rfl, _, rfl, a, C, rfl, T.ox, T.nof, .inl ⟨ha, fun dx h1 h2 => k dx h1 h2⟩⟩
  · have fin : ∀ {σ' : L2.St} {H' : Hp} {z : V} {u : Value}, L2.Inv (ncx CX0 P w K mg base ["self", fld, "__class__"] NFv fI A outer s H E) [] σ' H' s' → L2.RelV z u → Q z H' → CE outer P w H s Q u s' :=
      fun {σ' H' z u} J rv q => ⟨z, H', J.os, J.bare, J.base, J.hok, rv, q⟩
    cases fl with
    | ret u =>
      obtain ⟨z, σ', H', J', rv, q⟩ := hs
      exact fin J' rv q
    | next =>
      obtain ⟨σ', H', J', q⟩ := hs
      exact fin (z := V.non) (u := Value.none) J' rfl q
    | brk =>
      obtain ⟨_, _, _, q⟩ := hs
      exact False.elim q
    | cont =>
      obtain ⟨_, _, _, q⟩ := hs
      exact False.elim q
end
end Gk
/-! ### X(f=v): the error classes called by keyword -/
namespace Gk
open PySem PySem.W PySem.Spec PySem.Calls PyProof.Rows L2 NdefX PySem.HandSPX
section
variable {prog : Program} {w : World} {M : Model} {A : Around} {E : Value → Shared → Prop} {R : Result → Shared → Prop} {h : Heap} {g : Array GenState} {d : Drawn} {t : Nat} {os : OsState}
variable {nm q : Str} {C N : Addr} {bs bm bmB : List Value} {hdct : Bool} {sn : List Str} {sub : List Value} {ab : Bool} {col : Option Bool} {dd : Option Addr} {k0 k1 k2 k3 k5 : Option Value} {B newId initId : String} {kw : List (Str × Value)}
theorem kw_check_new (FB : ExcBaseFacts B newId initId bmB) (hT : ∀ X : String, bm.contains (.type X) = bmB.contains (.type X)) {Q : Unit → Shared → Prop}
    (hC : h.get? C = some (excClassObj nm q C N bs bm hdct sn sub ab col dd k0 k1 k2 k3 k5 newId)) (hq : Q () ⟨h, g, d, t, os⟩) : wpAny M A (checkBuiltinCall newId ⟨[.ref C], kw⟩) Q E ⟨h, g, d, t, os⟩ := by
  have has : (Value.ref C :: bm).contains (.type B) = true := by rw [List.contains_cons, hT, FB.hasB, Bool.or_true]
  have star := FB.noStar
  simp only [checkBuiltinCall, FB.newKind, FB.newSplit, FB.newRow]
  repeat (first | refine wpAny_loadPart_at hC ?_ | (refine wpAny_isSubtype_exc hC ?_; rw [has]) | refine wpAny_staticBase_exc hC ?_ | refine wpAny_madeBy_exc hC ?_ | simp only [bne_self_eq_false, Bool.false_eq_true, if_false] | wp_step)
  exact hq
theorem kw_new (FB : ExcBaseFacts B newId initId bmB) (hT : ∀ X : String, bm.contains (.type X) = bmB.contains (.type X))
    (hC : h.get? C = some (excClassObj nm q C N bs bm hdct sn sub ab col dd k0 k1 k2 k3 k5 newId))
    (hq : R (.ok (.ret (.ref (h.objs.size + 1)))) ⟨(h.push (kdv_tup [])).push (excO C h.objs.size), g, d, t, os⟩) :
    codeAny (model prog w) A (.builtin newId ⟨[.ref C], kw⟩) R ⟨h, g, d, t, os⟩ := by
  have ends := FB.ends
  have hasB : (Value.ref C :: bm).contains (.type B) = true := by rw [List.contains_cons, hT, FB.hasB, Bool.or_true]
  have hasA : (Value.ref C :: bm).contains (.type "AttributeError") = false := by rw [List.contains_cons, hT, FB.noAttr]; rfl
  have hasN : (Value.ref C :: bm).contains (.type "NameError") = false := by rw [List.contains_cons, hT, FB.noName]; rfl
  have hrest : ([] : List Value).length ≤ sizeLine := Nat.zero_le _
  refine codeAny_builtinAt FB.entry ?_
  unfold Builtin.«BaseException.__new__»
  refine PySem.wpAt_bind ?_
  show PySem.wpAt _ _ _ (stack >>= _) _ _ _
  refine PySem.wpAt_bind (PySem.wpAt_stack fun p below => PySem.wpAt_of_wpAny ?_)
  wp_walk
  refine PySem.wpAt_of_wpAny ?_
  rw [FB.owner]
  repeat (first | with_reducible refine wpAny_madeHere_exc FB.canon hC ?_ | with_reducible refine wpAny_loadPart_at hC ?_ | (with_reducible refine wpAny_isSubtype_exc hC ?_; first | rw [hasB] | rw [hasA] | rw [hasN]) | wp_step)
  show R _ _
  rw [Heap.size_push]
  exact hq
theorem kw_check_type {Q : Unit → Shared → Prop} (hC : h.get? C = some (excClassObj nm q C N bs bm hdct sn sub ab col dd k0 k1 k2 k3 k5 newId))
    (hq : Q () ⟨h, g, d, t, os⟩) : wpAny M A (checkBuiltinCall "type.__call__" ⟨[.ref C], kw⟩) Q E ⟨h, g, d, t, os⟩ := by
  have f3 := tc_sub
  have hT : (⟨h, g, d, t, os⟩ : Shared).TypeIs (.ref C) "type" := ⟨_, hC, rfl⟩
  simp only [checkBuiltinCall, tc_kind, tc_split]
  repeat (any_goals (first | assumption | with_reducible refine wpAny_loadPart_at hC ?_ | with_reducible refine wpAny_onRaise ?_ | with_reducible refine wpAny_map ?_ | wp_step))
theorem kw_type (FB : ExcBaseFacts B newId initId bmB) (hT : ∀ X : String, bm.contains (.type X) = bmB.contains (.type X)) {fI : Addr} {Q : PySem.Fin → Shared → Prop} {f0 : Str} {v0 : Value}
    (hC : h.get? C = some (excClassObj nm q C N bs bm hdct sn sub ab col dd k0 k1 k2 k3 k5 newId))
    (hi : Looks (model prog w) h (typeLookup (.ref C) "__init__") (some (.ref fI))) (hb : ∀ self, Looks (model prog w) h (bindSpecial (.ref fI) self) (.ref fI, [self]))
    (hq : codeAny (model prog w) A (.call (.ref fI) ⟨[.ref (h.objs.size + 1)], [(f0, v0)]⟩)
      (fun r s' => match r with | .ok (.ret v) => v = .none ∧ Q (.done (.ret (.ref (h.objs.size + 1)))) s' | .ok _ => False | .error e => E e s')
      ⟨(h.push (kdv_tup [])).push (excO C h.objs.size), g, d, t, os⟩) :
    wpAny (model prog w) A (Builtin.«type.__call__» ⟨[.ref C], [(f0, v0)]⟩) Q E ⟨h, g, d, t, os⟩ := by
  repeat (first | with_reducible refine wpAny_loadPart_at hC ?_ | with_reducible refine wpAny_madeBy_exc hC ?_ | wp_step)
  refine codeAny_call_builtin_code (Code.quiet_builtin _ FB.quiet) (kw_check_new FB hT hC ?_)
  refine kw_new FB hT hC ?_
  show wpAny _ _ _ _ _ _
  have kp : ∀ b o, h.get? b = some o → ((h.push (kdv_tup [])).push (excO C h.objs.size)).get? b = some o := fun b o e => Heap.get?_push_of_some _ (Heap.get?_push_of_some _ e)
  have hC1 := kp _ _ hC
  have got : ((h.push (kdv_tup [])).push (excO C h.objs.size)).get? (h.objs.size + 1) = some (excO C h.objs.size) := by heap_get
  have own : (Value.ref C :: bm).contains (.ref C) = true := by simp
  have i1 := hi.keeps kp
  have b1 := (hb (.ref (h.objs.size + 1))).keeps kp
  unfold isInstance
  repeat (first | with_reducible refine wpAny_loadPart_at got ?_ | (with_reducible refine wpAny_isSubtype_exc hC1 ?_; rw [own]) | wp_step)
  show wpAny _ _ (typeLookup (.ref C) _) _ _ _
  refine i1.at ?_
  refine wpAny_holding (wpAny_bind (b1.at ?_))
  refine wpAny_bind (wpAny_call (codeAny_mono hq fun r s' z => ?_))
  rcases r with e | (v | _ | _ | _) <;> first | exact z | exact z.elim | skip
  obtain ⟨rfl, z⟩ := z
  first
    | exact wpAny_pure (wpAny_pure z)
    | (wp_walk; exact z)
theorem kw_call (FB : ExcBaseFacts B newId initId bmB) (hT : ∀ X : String, bm.contains (.type X) = bmB.contains (.type X)) {fI : Addr} {f0 : Str} {v0 : Value}
    (hC : h.get? C = some (excClassObj nm q C N bs bm hdct sn sub ab col dd k0 k1 k2 k3 k5 newId))
    (hi : Looks (model prog w) h (typeLookup (.ref C) "__init__") (some (.ref fI))) (hb : ∀ self, Looks (model prog w) h (bindSpecial (.ref fI) self) (.ref fI, [self]))
    (hq : codeAny (model prog w) (A.under (.builtin "type.__call__" ⟨[.ref C], [(f0, v0)]⟩)) (.call (.ref fI) ⟨[.ref (h.objs.size + 1)], [(f0, v0)]⟩) (InitBack (h.objs.size + 1) R)
      ⟨(h.push (kdv_tup [])).push (excO C h.objs.size), g, d, t, os⟩) :
    codeAny (model prog w) A (.call (.ref C) ⟨[], [(f0, v0)]⟩) R ⟨h, g, d, t, os⟩ := by
  have f1 := tc_lookup
  have f2 := tc_bind (.ref C)
  have hTy : (⟨h, g, d, t, os⟩ : Shared).TypeIs (.ref C) "type" := ⟨_, hC, rfl⟩
  refine codeAny_of_tree ?_
  show wpAny _ _ (callAny (.ref C) _) _ _ _
  repeat (any_goals (first | assumption | with_reducible refine wpAny_loadPart_at hC ?_ | wp_step))
  refine ⟨rfl, ?_⟩
  refine codeAny_call_builtin_at (Code.quiet_builtin _ (by decide +kernel)) entry_typeCall (kw_check_type hC (kw_type FB hT hC hi hb ?_))
  refine codeAny_mono hq fun r s' z => ?_
  rcases r with e | (v | _ | _ | _) <;> exact z
end
end Gk
/-! ### error objects as values: made, asked for their class, read -/
namespace Gk
open PySem PySem.W PySem.Spec PySem.Calls PyProof.Rows L2 NdefX PySem.HandSPX
/-- an error of the class at C stands at a; its field holds v -/
structure ErrAt (C : Addr) (fld : Str) (H : Hp) (a : Addr) (v : V) : Prop where
  ob : ∃ d, H a = some (exo a C (some d)) ∧ H d = some (exd d [(fld, v)])
theorem ErrAt.later {C : Addr} {fld : Str} {H H' : Hp} {a : Addr} {v : V} (e : ErrAt C fld H a v) (s : ∀ b o, H b = some o → H' b = some o) : ErrAt C fld H' a v := by
  obtain ⟨d, h1, h2⟩ := e.ob
  exact ⟨d, s _ _ h1, s _ _ h2⟩
/-- X(e): for a new error -/
def tErrV (C : Addr) (fld : Str) (te : TE) : TE := fun σ H Q => te σ H fun v H1 => ∀ a d, H1 a = none → H1 d = none → d ≠ a → Q (.ref a) (upd (upd H1 d (exd d [(fld, v)])) a (exo a C (some d)))
/-- X(f=e) -/
def tErrVK (C : Addr) (fld : Str) (te : TE) : TE := fun σ H Q => tCons te tNil σ H fun zs H1 => ∃ v, zs = [v] ∧ ∀ a d, H1 a = none → H1 d = none → d ≠ a → Q (.ref a) (upd (upd H1 d (exd d [(fld, v)])) a (exo a C (some d)))
/-- how X(f=e) binds -/
def KwBinds (K : Frag) (fd : FuncData) (fld : Str) : Prop := ∀ (s : Shared) (u v : Value), K.In s.heap → BindsTo s fd ⟨[u], [(fld, v)]⟩ ([("self", u), (fld, v)] : List (Str × Value))
section
variable {X : Cx} {x : Str} {C fI : Addr} {fd : FuncData} {fld : Str} {e : Expr} {te : TE} {p pos kpos : Pos}
theorem made_same {H1 : Hp} {a dx : Addr} {A0 A1 D : HO} : upd (upd (upd H1 a A0) dx D) a A1 = upd (upd H1 dx D) a A1 := by
  funext b
  by_cases hb : b = a
  · rw [hb, upd_same, upd_same]
  · rw [upd_ne hb, upd_ne hb]
    by_cases hd : b = dx
    · rw [hd, upd_same, upd_same]
    · rw [upd_ne hd, upd_ne hd, upd_ne hb]
theorem err_laid {pins : List (Addr × Obj)} {σ : L2.St} {H1 : Hp} {hp : Heap} {g : Array GenState} {dr : Drawn} {tk : Nat} {os : OsState} {us : List Value} (I1 : Inv X pins σ H1 ⟨hp, g, dr, tk, os⟩) :
    Inv X pins σ (upd H1 (hp.objs.size + 1) (exo (hp.objs.size + 1) C none)) ⟨(hp.push (kdv_tup us)).push (excO C hp.objs.size), g, dr, tk, os⟩ := by
  have got : ((hp.push (kdv_tup us)).push (excO C hp.objs.size)).get? (hp.objs.size + 1) = some (excO C hp.objs.size) := by heap_get
  exact I1.laid (t' := tk) (a := hp.objs.size + 1) (o := exo (hp.objs.size + 1) C none) (h' := (hp.push (kdv_tup us)).push (excO C hp.objs.size)) (fun b o e => Heap.get?_push_of_some _ (Heap.get?_push_of_some _ e)) (Nat.le_succ _) (exo_ok got)
theorem err_after {pins : List (Addr × Obj)} {σ : L2.St} {H1 : Hp} {Q : VK} {s1 s' : Shared} {a : Addr} {r : Result} {v : V} (hn : H1 a = none) (I2 : Inv X pins σ (upd H1 a (exo a C none)) s1)
    (q : ∀ a d, H1 a = none → H1 d = none → d ≠ a → Q (.ref a) (upd (upd H1 d (exd d [(fld, v)])) a (exo a C (some d))))
    (hq : CR CX0 X.stack X.prog X.w (upd H1 a (exo a C none)) s1 (fun z H2 => z = .non ∧ ∃ d, H1 d = none ∧ d ≠ a ∧ H2 = upd (upd H1 d (exd d [(fld, v)])) a (exo a C (some d))) (fun _ _ _ => False) r s') : InitBack a (fun r s' => match r with | .ok (.ret u) => EP X pins σ Q u s' | .ok _ => False | .error e => X.xe e s') r s' := by
  cases r with
  | error er => exact False.elim hq
  | ok fl =>
    cases fl with
    | ret u =>
      obtain ⟨z, H2, I3, rv, ez, d, d0, dn, e2⟩ := I2.after hq
      subst ez
      subst e2
      exact ⟨rv, ⟨V.ref a, _, I3, rfl, q a d hn d0 dn⟩⟩
    | next => exact False.elim hq
    | brk => exact False.elim hq
    | cont => exact False.elim hq
theorem err_sp {H1 : Hp} {a : Addr} {v : V} : spErr C fld [.ref a, v] (upd H1 a (exo a C none)) (fun z H2 => z = .non ∧ ∃ d, H1 d = none ∧ d ≠ a ∧ H2 = upd (upd H1 d (exd d [(fld, v)])) a (exo a C (some d))) (fun _ _ _ => False) :=
  ⟨a, v, rfl, upd_same, fun dx h1 h2 => ⟨rfl, dx, by rw [upd_ne h2] at h1; exact h1, h2, made_same⟩⟩
theorem pe_err (T : ErrTxt X.prog X.K X.mg x C fI fd fld) (bI : Binds X.K fd ["self", fld] []) (hr : Room 3 X.A) (hg : Gl X x) (he : PE X e te)
    (hs : starEach [e] X.env = (false, eval e X.env) :: starEach [] X.env := by rfl) (hdb : (x == ("__debug__" : Str)) = false := by decide) : PE X (.Call (.Name x p) [e] [] pos) (tErrV C fld te) := by
  refine ⟨fun pins s σ H Q I h => ?_⟩
  obtain ⟨nm, qn, N, bs, bm, sn, sub, ab, col, dd, c0, c1, c2, c3, c5, hC, hbm⟩ := T.ox.cls
  refine wpAny_Call_Name_kw (ld_glob I hg T.gC ?_ hdb)
  refine callWith_K (h₀ := X.base) I.ok.mod.kin T.ox.kC ?_ hs (by rfl)
  rw [hs]
  show wpAny _ _ (spliced ((false, eval e X.env) :: backTo pos (starEach [] X.env))) _ _ s
  refine Calls.spliced_cons (thn (he.run pins s σ H _ I h) fun u s1 ⟨v, H1, I1, r1, q1⟩ => ?_)
  refine Calls.spliced_nil ⟨I1.kIn, ?_⟩
  show wpAny _ _ (call (.ref C) [u]) _ _ _
  obtain ⟨hp, g, dr, tk, os⟩ := s1
  have hn : H1 (hp.objs.size + 1) = none := I1.hok.fresh (Nat.le_succ _)
  have I2 : Inv X pins σ (upd H1 (hp.objs.size + 1) (exo (hp.objs.size + 1) C none)) ⟨(hp.push (kdv_tup [u])).push (excO C hp.objs.size), g, dr, tk, os⟩ := err_laid I1
  have r2 : Vals [V.ref (hp.objs.size + 1), v] [Value.ref (hp.objs.size + 1), u] := .cons rfl (.cons r1 .nil)
  have FI : FnOk X.prog X.w X.K X.mg X.base CX0 2 fI fd ["self", fld] (spErr C fld) := err_init T
  refine wpAny_call (call_own F.excBase_ValueError (fun Y => refsVE_contains Y bm hbm) (I1.kIn _ _ hC) (looks_findIn I1.kIn T.iC) (fun self => bind_fn I1.kIn self T.tI) (by show 1 ≤ sizeLine; rw [sizeLine_eq]; omega)
    (codeAny_mono (FI.run _ X.stack _ _ ⟨[Value.ref (hp.objs.size + 1), u], []⟩ [Value.ref (hp.objs.size + 1), u] _ _ _ (hr.make C [u] []) (I2.env0.make C [u] []) (bI _ [Value.ref (hp.objs.size + 1), u] I2.kIn rfl) r2 err_sp) fun r s' hq' => ?_))
  have z := err_after (Q := Q) (r := r) hn I2 q1 hq'
  exact z
/-- X(f=e) -/
theorem pe_errK (T : ErrTxt X.prog X.K X.mg x C fI fd fld) (bK : KwBinds X.K fd fld) (hr : Room 3 X.A) (hg : Gl X x) (he : PE X e te) (hdb : (x == ("__debug__" : Str)) = false := by decide)
    (hall : (backToKw pos (keywordEach [⟨some fld, e, kpos⟩] X.env)).all (·.1.isSome) = true := by rfl) (hks : (backToKw pos (keywordEach [⟨some fld, e, kpos⟩] X.env)).filterMap (·.1) = [fld] := by rfl)
    (hpl : ((backTo pos (starEach [] X.env)).any (·.1) || (backToKw pos (keywordEach [⟨some fld, e, kpos⟩] X.env)).any (·.1.isNone)) = false := by rfl) :
    PE X (.Call (.Name x p) [] [⟨some fld, e, kpos⟩] pos) (tErrVK C fld te) := by
  refine ⟨fun pins s σ H Q I h => ?_⟩
  obtain ⟨nm, qn, N, bs, bm, sn, sub, ab, col, dd, c0, c1, c2, c3, c5, hC, hbm⟩ := T.ox.cls
  refine wpAny_Call_Name_kw (ld_glob I hg T.gC ?_ hdb)
  refine callWith_KW0 (h₀ := X.base) I.ok.mod.kin T.ox.kC hall ?_ hpl
  have hkw : PK X [⟨some fld, e, kpos⟩] (tCons te tNil) := pk_cons he pk_nil
  refine thn (hkw.run pos pins s σ H _ I h) fun ws s1 ⟨zs, H1, I1, rz, v, ez, q1⟩ => ⟨I1.kIn, ?_⟩
  rw [hks]
  subst ez
  obtain ⟨u, rfl, r1⟩ := Vals.one rz
  show wpAny _ _ (call (.ref C) [] [(fld, u)]) _ _ _
  obtain ⟨hp, g, dr, tk, os⟩ := s1
  have hn : H1 (hp.objs.size + 1) = none := I1.hok.fresh (Nat.le_succ _)
  have I2 : Inv X pins σ (upd H1 (hp.objs.size + 1) (exo (hp.objs.size + 1) C none)) ⟨(hp.push (kdv_tup [])).push (excO C hp.objs.size), g, dr, tk, os⟩ := err_laid I1
  have r2 : Vals [V.ref (hp.objs.size + 1), v] [Value.ref (hp.objs.size + 1), u] := .cons rfl (.cons r1 .nil)
  have FI : FnOk X.prog X.w X.K X.mg X.base CX0 2 fI fd ["self", fld] (spErr C fld) := err_init T
  refine wpAny_call (kw_call F.excBase_ValueError (fun Y => refsVE_contains Y bm hbm) (I1.kIn _ _ hC) (looks_findIn I1.kIn T.iC) (fun self => bind_fn I1.kIn self T.tI)
    (codeAny_mono (FI.run _ X.stack _ _ ⟨[Value.ref (hp.objs.size + 1)], [(fld, u)]⟩ [Value.ref (hp.objs.size + 1), u] _ _ _ (hr.make C [] [(fld, u)]) (I2.env0.make C [] [(fld, u)]) (bK _ _ _ I2.kIn) r2 err_sp) fun r s' hq' => ?_))
  have z := err_after (Q := Q) (r := r) hn I2 q1 hq'
  exact z
end
/-! ### reading a field, the class -/
/-- what the class says of itself, so that its instances are asked rightly -/
structure ErrCls (K : Frag) (C : Addr) (fld : Str) : Prop where
  xc : L2.ExcC K C
  nof : findIn K (.ref C) fld = some none
section
variable {X : Cx} {e : Expr} {te : TE} {pos : Pos} {fld : Str}
/-- err.f -/
def tErrFld (K : Frag) (fld : Str) (te : TE) : TE := fun σ H Q => te σ H fun x H1 => ∃ a C v, x = .ref a ∧ ErrCls K C fld ∧ ErrAt C fld H1 a v ∧ Q v H1
theorem inst_err {pins : List (Addr × Obj)} {σ : L2.St} {H : Hp} {s : Shared} {a C : Addr} {v : V} (I : Inv X pins σ H s) (h : ErrAt C fld H a v) :
    ∃ (ox od : Obj) (u : Value), InstAt s.heap a ox C (some od) ∧ L2.RelV v u ∧ lookIn fld od = some (some u) := by
  obtain ⟨d, h1, h2⟩ := h.ob
  obtain ⟨t1, ho⟩ := exo_at I.hok h1
  obtain ⟨mA, hns, rel⟩ := exd_at I.hok h2
  obtain ⟨od, hod, hl⟩ := lookIn_ns hns
  have l : List.lookup fld [(fld, v)] = some v := by simp [List.lookup]
  obtain ⟨u, hu, ru⟩ := RelO.some_of (v := v) (o := mA fld) (by rw [← l]; exact rel fld)
  exact ⟨_, od, u, ⟨ho, rfl, rfl, hod⟩, ru, by rw [hl, hu]⟩
theorem pe_errFld (he : PE X e te) (hb : attributeBase e fld X.env (eval e X.env) = eval e X.env := by rfl) : PE X (.Attribute e fld pos) (tErrFld X.K fld te) := by
  refine ⟨fun pins s σ H Q I h => ?_⟩
  refine attr_of hb (thn (he.run pins s σ H _ I h) fun w s1 ⟨x, H1, I1, rx, a, C, v, ex, T, hA, q⟩ => ?_)
  subst ex
  obtain rfl : w = Value.ref a := rx
  obtain ⟨ox, od, u, J, ru, hl⟩ := inst_err I1 hA
  exact HandSPX.exc_get I1.kIn J T.xc.hg T.xc.hk T.xc.hs (findObj_own T.xc.hd T.nof rfl hl) (handed_of ru) ⟨v, H1, I1.tok _, ru, q⟩
/-- isinstance(err, D) -/
def rErrIs (K : Frag) : List V → Hp → VK → Prop := fun xs H Q => ∃ (a C : Addr) (fld : Str) (v c : V) (cv : Value) (b : Bool), xs = [.ref a, c] ∧ (∀ u, L2.RelV c u → u = cv) ∧ L2.ExcC K C ∧ ErrAt C fld H a v ∧ kitOne K (.ref C) cv = some b ∧ Q (.bl b) H
theorem call_errIs : CallR X (.builtin "isinstance") (rErrIs X.K) := by
  intro pins s σ H xs us Q I r h
  obtain ⟨a, C, fld, v, c, cv, b, rfl, hcv, T, hA, e, q⟩ := h
  cases r with
  | cons rx rr =>
    cases rr with
    | cons rt rr =>
      cases rr
      cases rx
      have ec := hcv _ rt
      subst ec
      obtain ⟨ox, od, u, J, ru, hl⟩ := inst_err I hA
      have hcl : (clsIn X.K C).isSome = true := by
        obtain ⟨cd, hc, _⟩ := any_some T.hd
        rw [hc]
        rfl
      exact kia_one (kitx_exc (ox := ox) (od := some od) hcl T.hg T.hk T.hs T.ha T.hn T.ht T.hm) I.kIn J e (fun z => nomatch z) fun tk => ⟨.bl b, H, I.kept (t' := tk) fun _ _ z => z, rfl, q⟩
end
end Gk
/-! ## defs that run where no repr is under way (repr of lists asks for that) -/
namespace Gk
open PySem PySem.Spec PyProof.Rows L2
/-- a promise that holds where no guard is up -/
structure FnG (P : Program) (w : World) (K : PySem.W.Frag) (mg : Str → Option Value) (base : Heap) (CX : CXT) (k : Nat) (f : Addr) (fd : FuncData) (ps : List Str) (sp : Sp) : Prop where
  len : ∀ vs H Q E, sp vs H Q E → vs.length = ps.length
  run : ∀ (A : Around) (outer : List Env) (s : Shared) (H : Hp) (args : Args) (us : List Value) (vs : List V) (Q : VK) (E : XK), A.guards = some [] → Room k A → Env0 P w K mg base A outer s H → BindsTo s fd args (ps.zip us) → Vals vs us → sp vs H Q E →
    codeAny (model P w) A (.call (.ref f) args) (CR CX outer P w H s Q E) s
section
variable {P : Program} {w : World} {K : PySem.W.Frag} {mg : Str → Option Value} {base : Heap}
theorem FnG.of {CX : CXT} {k : Nat} {f : Addr} {fd : FuncData} {ps : List Str} {sp : Sp} (F : FnOk P w K mg base CX k f fd ps sp) : FnG P w K mg base CX k f fd ps sp :=
  ⟨F.len, fun A outer s H args us vs Q E _ => F.run A outer s H args us vs Q E⟩
theorem Fun.okG {x qual : Str} {st : Stmt} {f : Addr} {fd : FuncData} {N ps : List Str} {k : Nat} {sp : Sp} (F : Fun K x qual st f fd) (S : FnScope N ps (defScope st)) (len : ∀ vs H Q E, sp vs H Q E → vs.length = ps.length)
    (hbody : ∀ (cdv : Value) (A : Around) (outer : List Env) (s : Shared) (H : Hp) (vs : List V) (Q : VK) (E : XK), A.guards = some [] → Room k (A.deeper (envOfC qual (defScope st) s.heap.objs.size f cdv)) → sp vs H Q E →
      ∃ t, PSs (cxOf CX0 P w K mg base N qual (defScope st) f cdv A outer s H E).nox (defBody st) t ∧ t { nx := fun _ H' => Q .non H', rt := Q } (start N vs) H) : FnG P w K mg base CX0 (k + 1) f fd ps sp := by
  obtain ⟨oc, od, kV, doc, pm, an, cdv, ct, osl, rfl, lk, hcd⟩ := F.ex
  refine ⟨len, fun A outer s H args us vs Q E hG hr e0 hb r hsp => ?_⟩
  have hl := len _ _ _ _ hsp
  have KX : K.In s.heap := e0.mod.kin.keeps fun b o e => (e0.bs b o e).1
  have lim : s.heap.NoLimit := e0.mod.nolimit.keeps fun b o e => (e0.bs b o e).1
  have hkind : ∀ y ∈ ps.zip us, (defScope st).names.lookup y.1 = some .local ∨ ((defScope st).names.lookup y.1 = some .cell ∧ ((cellsFrom (s.heap.objs.size + 1) (defScope st).names []).lookup y.1).isSome = true) := fun ⟨n, v⟩ hy => by
    rcases S.par n (List.of_mem_zip hy).1 with q | q
    · exact .inl q
    · exact .inr ⟨q, PySem.W.cellsFrom_some _ _ _ (.inl q)⟩
  refine codeAny_call_function hr.depth (KX _ _ lk) rfl S.co S.gen rfl (PySem.W.codeRec_of KX hcd) (hb _ _ _ _ ?_)
  refine wpAny_newFunctionEnv_cells S.kind hkind fun env he s1 x => ?_
  subst he
  refine ⟨lim.keeps x.toInCall.keep, codeAny_func ?_⟩
  obtain ⟨t, ht0, hq⟩ := hbody cdv A outer s H vs Q E hG (hr.deeper _) hsp
  have ht := ht0.nox
  have I : Inv (cxOf CX0 P w K mg base N qual (defScope st) f cdv A outer s H E) [] (start N vs) H s1 := inv_start S hr.hd e0 hl r x
  refine wpAny_mono (ht.run [] s1 (start N vs) H _ I hq) (fun fl s' hs => ?_) fun e s' hs => hs
  have fin : ∀ {σ' : L2.St} {H' : Hp} {v : V} {u : Value}, Inv (cxOf CX0 P w K mg base N qual (defScope st) f cdv A outer s H E) [] σ' H' s' → RelV v u → Q v H' → CE outer P w H s Q u s' :=
    fun {σ' H' v u} J rv q => ⟨v, H', J.os, J.bare, J.base, J.hok, rv, q⟩
  cases fl with
  | ret u =>
    obtain ⟨v, σ', H', J, rv, q⟩ := hs
    exact fin J rv q
  | next =>
    obtain ⟨σ', H', J, q⟩ := hs
    exact fin (v := V.non) (u := Value.none) J rfl q
  | brk =>
    obtain ⟨_, _, _, q⟩ := hs
    exact False.elim q
  | cont =>
    obtain ⟨_, _, _, q⟩ := hs
    exact False.elim q
end
section
variable {X : Cx} {CX : CXT} {k : Nat} {f : Addr} {fd : FuncData} {ps : List Str} {sp : Sp} {E : XK} {ds : List Value} {dvs : List V} {x : Str} {e : Expr} {es : List Expr} {t : TA} {p pos : Pos}
theorem pe_callG (F : FnG X.prog X.w X.K X.mg X.base CX k f fd ps sp) (hG : X.A.guards = some []) (hr : Room k X.A) (hg : Gl X x) (hm : X.mg x = some (.ref f)) (hk : PySem.W.keepIn X.K (.ref f) = true) (hb : Binds X.K fd ps ds) (hd : Vals dvs ds) (hx : Passes CX X E)
    (ha : PA X (e :: es) t) (hdb : (x == ("__debug__" : Str)) = false := by decide) (he : starEach (e :: es) X.env = (false, eval e X.env) :: starEach es X.env := by rfl) (hpl : (backTo pos (starEach es X.env)).any (·.1) = false := by rfl) :
    PE X (.Call (.Name x p) (e :: es) [] pos) (tCall sp dvs E t) := by
  refine ⟨fun pins s σ H Q I h => ?_⟩
  refine wpAny_Call_Name_kw (ld_glob I hg hm ?_ hdb)
  refine PySem.W.callWith_K (h₀ := X.base) I.ok.mod.kin hk (thn (ha.run pos pins s σ H _ I h) fun us s1 ⟨vs, H1, I1, r, q⟩ => ⟨I1.kIn, ?_⟩) he hpl
  have r2 : Vals (vs ++ dvs) (us ++ ds) := r.append hd
  have hl : (us ++ ds).length = ps.length := by rw [← r2.length]; exact F.len _ _ _ _ q
  refine wpAny_call (codeAny_mono (F.run X.A X.stack s1 H1 ⟨us, []⟩ (us ++ ds) (vs ++ dvs) Q E hG hr I1.env0 (hb s1 us I1.kIn hl) r2 q) fun r s' hq => ?_)
  cases r with
  | error e => exact hx pins σ H1 s1 e s' I1 hq
  | ok fl =>
    cases fl with
    | ret u => exact I1.after hq
    | next => exact False.elim hq
    | brk => exact False.elim hq
    | cont => exact False.elim hq
/-- repr of data: a text that hangs on the data alone -/
def rRepr (K : PySem.W.Frag) : List V → Hp → VK → Prop := fun xs H Q => ∃ a d, xs = [.ref a] ∧ Dp K H (.ref a) d ∧ d.showable = true ∧ d.hasDict = false ∧ d.depth ≤ 40 ∧ d.shown.length ≤ sizeLine ∧ Q (.str d.shown) H
theorem call_reprD (hG : X.A.guards = some []) (hu : X.A.units + 60 < cLine) : CallR X (.builtin "repr") (rRepr X.K) := by
  intro pins s σ H xs us Q I r h
  obtain ⟨a, d, rfl, hd, hs, hh, hdp, hz, q⟩ := h
  cases r with
  | cons rx rr =>
    cases rr
    cases rx
    obtain ⟨as, hr⟩ := Dp.reads I d _ _ hd rfl
    refine repr_of_reads' hr hs (fun z => by rw [hh] at z; cases z) hG (by omega) (fun b o e => e) (fun h' u tk hk => ?_) hz
    exact ⟨.str d.shown, H, I.kept hk, ⟨_, rfl⟩, q⟩
end
/-! ### the law's own call -/
theorem law_callG {P : Program} {w : World} {K : PySem.W.Frag} {mg mb : Str → Option Value} {CX : CXT} {k : Nat} {fa a : Addr} {fd : FuncData} {x : Str} {sp : Sp} {s₁ : Shared} {vs : List Value} {ns : List Int}
    (KX : K.In s₁.heap) (hns : s₁.heap.Ns mainGlobals mg) (hb : s₁.heap.Ns builtinsNs mb) (hbb : ∀ x : Str, x ≠ "__name__" → mb x = bootBuiltins x) (hlim : s₁.heap.NoLimit) (hg : s₁.gens = #[])
    (ha : s₁.heap.get? a = some { cls := .type "list", data := .seq vs.toArray }) (hi : IntsAre vs ns) (hl : ns.length ≤ sizeLine) (hr : Room k callerA)
    (FG : ∀ base : Heap, K.In base → base.Ns mainGlobals mg → FnG P w K mg base CX k fa fd [x] sp) (hbind : ∀ (s : Shared) (u : Value), BindsTo s fd ⟨[u], []⟩ [(x, u)])
    (hsp : ∀ H : Hp, Only H → SqL K H a (ns.map V.int) → sp [.ref a] H (fun v _ => v = .bl true) fun _ _ _ => False)
    (hCX : ∀ H e s', CX [] H s₁ (fun _ _ _ => False) e s' → False) :
    codeAny (model P w) callerA (.call (.ref fa) ⟨[.ref a], []⟩) (fun r s' => r = .ok (.ret (.bool true)) ∧ OldK s₁.heap s'.heap ∧ s'.os = s₁.os ∧ AllBare s'.gens) s₁ := by
  have rv := vals_ints hi
  have lenV := hi.length
  have core : ∀ H : Hp, Only H → SqL K H a (ns.map V.int) → HOk P w H s₁.heap → (∀ b, H b ≠ none → b = a) → (H a ≠ none → K.lookup a = none) →
      codeAny (model P w) callerA (.call (.ref fa) ⟨[.ref a], []⟩) (fun r s' => r = .ok (.ret (.bool true)) ∧ OldK s₁.heap s'.heap ∧ s'.os = s₁.os ∧ AllBare s'.gens) s₁ := by
    intro H hO hS hok hA hK
    have free_of : ∀ {b : Addr}, b ≠ a → H b = none := fun {b} hb => by
      cases q : H b with
      | none => rfl
      | some u => exact absurd (hA b (by rw [q]; simp)) hb
    have noD : ∀ {b : Addr} {o : Obj} {es : Array DictEntry} {ep : Nat}, s₁.heap.get? b = some o → o.data = .dict es ep → H b = none := fun {b o es ep} e d => free_of fun z => by
      subst z
      rw [ha] at e; cases e
      have d' : Data.seq vs.toArray _ = Data.dict es ep := d
      cases d'
    have nsK : ∀ {b : Addr} {m : Str → Option Value}, s₁.heap.Ns b m → (hidT s₁.heap H).Ns b m := fun {b m} ⟨o, es, ep, e, d, r⟩ => ⟨o, es, ep, hidT_get e (noD e d), d, r⟩
    have hKb : K.In (hidT s₁.heap H) := fun b o e => hidT_get (KX b o e) (by
      cases q : H b with
      | none => rfl
      | some u =>
        have z : b = a := hA b (by rw [q]; simp)
        subst z
        rw [hK (by rw [q]; simp)] at e; cases e)
    have hM : Mod K mg (hidT s₁.heap H) := ⟨hKb, nsK hns, ⟨mb, nsK hb, hbb⟩, let ⟨mc, h1, h2⟩ := hlim; ⟨mc, nsK h1, h2⟩⟩
    have e0 : Env0 P w K mg (hidT s₁.heap H) callerA [] s₁ H := ⟨rfl, hM, fun b o e => of_hidT e, Nat.le_of_eq (hidT_size _ _), trivial, fun b hb => absurd (show b ∈ ([] : List Addr) from hb) (by simp), hok, .of_eq hg⟩
    refine codeAny_mono ((FG _ hKb (nsK hns)).run callerA [] s₁ H ⟨[.ref a], []⟩ [.ref a] [.ref a] _ _ rfl hr e0 (hbind s₁ (.ref a)) (.cons rfl .nil) (hsp H hO hS)) fun r s' h => ?_
    cases r with
    | error e => exact (hCX H e s' h).elim
    | ok fl =>
      cases fl with
      | next => exact False.elim h
      | brk => exact False.elim h
      | cont => exact False.elim h
      | ret u =>
        obtain ⟨v, H', os, bare, un, hok', r', q⟩ := h
        have q' : v = .bl true := q
        subst q'
        obtain rfl : u = Value.bool true := r'
        refine ⟨rfl, OldK.of_keep fun b o e => ?_, os, bare⟩
        cases q : H b with
        | none => exact un.keep b o e q (by intro z; exact absurd (show b ∈ ([] : List Addr) from z) (by simp)) (by simp)
        | some u =>
          rcases hO b with z | ⟨ob, xs, z⟩
          · rw [q] at z; cases z
          · obtain ⟨e1, _⟩ := hok b _ z
            obtain ⟨e2, _⟩ := hok' b _ (un.frzs b ob _ z)
            rw [e] at e1; cases e1
            exact e2
  cases hk : K.lookup a with
  | some o =>
    have e := KX a o hk
    rw [ha] at e
    cases e
    refine core (fun _ => none) (fun _ => .inl rfl) (.inr ⟨_, vs.toArray, _, hk, rfl, rfl, rfl, by rw [List.size_toArray, lenV]; exact hl, by simpa using rv⟩) (fun b u z => by have z' : (none : Option HO) = some u := z; cases z') (fun b z => absurd rfl z) fun z => absurd rfl z
  | none =>
    refine core (fun b => if b = a then some (.frz { cls := .type "list", data := .seq vs.toArray } (.lst (ns.map V.int))) else none) (fun b => ?_) (.inl (.inr ⟨{ cls := .type "list", data := .seq vs.toArray }, if_pos rfl⟩)) (fun b u z => ?_) (fun b z => ?_) fun _ => hk
    · by_cases hb : b = a
      · exact .inr ⟨_, _, if_pos hb⟩
      · exact .inl (if_neg hb)
    · by_cases hb : b = a
      · have z' := (if_pos hb).symm.trans z
        cases z'
        subst hb
        exact ⟨ha, by rw [List.length_map]; exact hl, vs, _, rv, ha⟩
      · have z' := (if_neg hb).symm.trans z
        cases z'
    · by_cases hb : b = a
      · exact hb
      · exact absurd (if_neg hb) z
theorem walk_ofG {l : PySem.W.OpenLaw} {n k : Nat} {q : Program} {loose : List Str} {XP : (Str → Option Value) → Heap → Prop} {YP : World → Heap → Prop} {d : DefRec} {K : Params → PySem.W.Frag} {CX : World → CXT} {sp : World → Sp} {x : Str}
    (hn : l.most = some n) (hn2 : n ≤ sizeLine) (hdf : d.params.defaults = []) (hr : Room k callerA)
    (hY : ∀ (w : World) (h : Heap), YP w h → (K w.params).In h)
    (FG : ∀ (w : World) (mg : Str → Option Value) (fa : Addr) (h : Heap), (K w.params).In h → h.Ns mainGlobals mg → mg d.name = some (.ref fa) →
      ∃ fd : FuncData, (∀ (s : Shared) (u : Value), BindsTo s fd ⟨[u], []⟩ [(x, u)]) ∧
        ∀ base : Heap, (K w.params).In base → base.Ns mainGlobals mg → FnG l.prog w (K w.params) mg base (CX w) k fa fd [x] (sp w))
    (hsp : ∀ (w : World) (H : Hp) (a : Addr) (ns : List Int), ns.length ≤ n → (∀ z ∈ ns, Builtin.Int.intBits z ≤ 1048576) → Only H → SqL (K w.params) H a (ns.map V.int) → sp w [.ref a] H (fun v _ => v = .bl true) fun _ _ _ => False)
    (hCX : ∀ (w : World) (H : Hp) (s : Shared) (e : Value) (s' : Shared), CX w [] H s (fun _ _ _ => False) e s' → False) :
    PySem.W.WalkO q loose XP YP l.row.toRowW d [] (fun f vs => PySem.call f vs) := by
  refine Att.attach_callB hn hdf fun w s₀ s₁ mg mb fa o pm cd doc a vs ns G Y ho hd hcd hmg hobj hints hlen hbits hg => ?_
  obtain ⟨fd, hb, hF⟩ := FG w mg fa _ (hY w _ Y) G.T.g hmg
  exact law_callG (hY w _ Y) G.T.g G.T.b G.T.builtins G.T.nolimit hg hobj hints (Nat.le_trans hlen hn2) hr hF hb (fun H hO hS => hsp w H a ns hlen hbits hO hS) fun H e s' => hCX w H s₁ e s'
end Gk
/-! ### repr of a list, some of whose items are data, some a dict of one text and one int -/
namespace Gk
open PySem PySem.Spec PyProof.Rows L2
inductive Dq (K : PySem.W.Frag) (H : Hp) : V → PyData → Prop
  | dat {v : V} {d : PyData} : Dp K H v d → d.hasDict = false → Dq K H v d
  | dic {a : Addr} {x : Str} {i : Int} : H a = some (.dK [(Sum.inr x, .int i)]) → Dq K H (.ref a) (.dict [(.str x, .int i)])
section
variable {X : Cx} {pins : List (Addr × Obj)} {σ : L2.St} {H : Hp} {s : Shared}
theorem dic_reads (I : Inv X pins σ H s) {a : Addr} {x : Str} {i : Int} (h : H a = some (.dK [(Sum.inr x, .int i)])) : Reads s.heap (.ref a) (.dict [(.str x, .int i)]) [a] ∧ a ≠ sysModules := by
  obtain ⟨_, hne, vs, kv, o, es, ep, ho, hex, hd, _, hp, _⟩ := I.hok a _ h
  refine ⟨?_, fun e => by rw [e] at hne; cases hne⟩
  cases kv with
  | cons hk hr =>
    cases hr
    rename_i q _ _
    obtain ⟨h1, t, h2⟩ := hk
    have hel : ∃ e : DictEntry, es.toList = [e] ∧ (mixKind X.prog X.w).is (Sum.inr x) e.key = true ∧ e.val = .int i t := by
      generalize es.toList = l at hp
      cases hp with
      | cons a1 a2 a3 =>
        cases a3
        exact ⟨_, rfl, by rw [show (Sum.inr x : Key) = _ from h1]; exact a1, a2.trans h2⟩
    obtain ⟨e, he, hk1, hv1⟩ := hel
    obtain ⟨tk, hkey⟩ : ∃ tk, e.key = .str x tk := by
      rcases keyIs_shape (show keyIs (Sum.inr x) e.key = true from hk1) with ⟨j, t', e1, _⟩ | ⟨y, t', e1, e2⟩
      · cases e1
      · cases e1
        exact ⟨t', e2⟩
    have A1 : ReadsAll s.heap (es.toList.map (·.key)) ([((PyData.str x), (PyData.int i))].map (·.1)) [] := by
      rw [he]
      show ReadsAll s.heap [e.key] [PyData.str x] []
      rw [hkey]
      exact .cons (as := []) (bs := []) (.str x tk) .nil
    have A2 : ReadsAll s.heap (es.toList.map (·.val)) ([((PyData.str x), (PyData.int i))].map (·.2)) [] := by
      rw [he]
      show ReadsAll s.heap [e.val] [PyData.int i] []
      rw [hv1]
      exact .cons (as := []) (bs := []) (.int i t) .nil
    exact Reads.dict (as := []) (bs := []) ho hex.1 hd A1 A2
theorem dq_reads (I : Inv X pins σ H s) {v : V} {u : Value} {d : PyData} (h : Dq X.K H v d) (r : L2.RelV v u) : ∃ as, Reads s.heap u d as ∧ (d.hasDict = true → sysModules ∉ as) := by
  cases h with
  | dat h1 h2 =>
    obtain ⟨as, hr⟩ := Dp.reads I d v u h1 r
    exact ⟨as, hr, fun z => by rw [h2] at z; cases z⟩
  | dic h1 =>
    cases r
    obtain ⟨h2, h3⟩ := dic_reads I h1
    exact ⟨_, h2, fun _ z => h3 (List.mem_singleton.mp z).symm⟩
theorem dq_all (I : Inv X pins σ H s) : ∀ {vs : List V} {us : List Value} {ds : List PyData}, Vals vs us → Paired (Dq X.K H) vs ds → PyData.showableAll ds = true → (∀ t ∈ PyData.shownAll ds, t.length ≤ sizeLine) →
    ∃ as bs, ReadsAll s.heap us ds as ∧ ReadAtMost s.heap (PyData.depthAll ds) bs ∧ ReprAllK X.prog X.w bs s.heap (PyData.depthAll ds) us (PyData.shownAll ds)
  | _, _, _, .nil, .nil, _, _ => ⟨[], [], .nil, (fun _ h => nomatch h), (by simp only [PyData.shownAll]; exact .nil)⟩
  | _, _, _, .cons r rs, .cons (b := d) (l₂ := ds) h hs, hsh, hz => by
    have hs' : d.showable = true ∧ PyData.showableAll ds = true := by simpa [PyData.showableAll] using hsh
    obtain ⟨as, hr, hn⟩ := dq_reads I h r
    obtain ⟨b1, hb1, k1⟩ := ReprK.of_reads (prog := X.prog) (w := X.w) hr hs'.1 hn (hz _ (by simp only [PyData.shownAll]; exact List.mem_cons_self ..))
    obtain ⟨as2, b2, hr2, hb2, k2⟩ := dq_all I rs hs hs'.2 (fun t ht => hz t (by simp only [PyData.shownAll]; exact List.mem_cons_of_mem _ ht))
    refine ⟨_, b1 ++ b2, .cons hr hr2, ?_, ?_⟩
    · intro b hm
      simp only [PyData.depthAll]
      rcases List.mem_append.mp hm with hm | hm
      · obtain ⟨d', as', r', hd'⟩ := hb1 b hm
        exact ⟨d', as', r', Nat.le_trans hd' (Nat.le_max_left _ _)⟩
      · obtain ⟨d', as', r', hd'⟩ := hb2 b hm
        exact ⟨d', as', r', Nat.le_trans hd' (Nat.le_max_right _ _)⟩
    · simp only [PyData.depthAll, PyData.shownAll]
      exact .cons ((k1.more fun b hb => List.mem_append_left _ hb).level_le (Nat.le_max_left _ _)) (k2.more_le (fun b hb => List.mem_append_right _ hb) (Nat.le_max_right _ _))
/-- repr([..]): the text of the items' data -/
def rReprL (K : PySem.W.Frag) : List V → Hp → VK → Prop := fun xs H Q => ∃ a vs ds, xs = [.ref a] ∧ SqL K H a vs ∧ vs ≠ [] ∧ Paired (Dq K H) vs ds ∧ PyData.showableAll ds = true ∧ PyData.depthAll ds ≤ 40 ∧ (listText (PyData.shownAll ds)).length ≤ sizeLine ∧
  Q (.str (listText (PyData.shownAll ds))) H
theorem call_reprL (hG : X.A.guards = some []) (hu : X.A.units + 60 < cLine) : CallR X (.builtin "repr") (rReprL X.K) := by
  intro pins s σ H xs us Q I r h
  obtain ⟨a, vs, ds, rfl, hS, hne, hp, hs, hdp, hz, q⟩ := h
  cases r with
  | cons rx rr =>
    cases rr
    cases rx
    obtain ⟨its, rv, ⟨o, n, ho, hc, _, hd⟩, _⟩ := I.list hS
    obtain ⟨as, bs, hr, hb, hk⟩ := dq_all I rv hp hs (fun t ht => Nat.le_trans (listText_mem_le ht) hz)
    have hna : a ∉ bs := not_mem_of_deeper (.list ho hc hd hr) (by simp only [PyData.depth]; omega) hb
    have hw : ∃ y l, its = y :: l := by
      cases rv with
      | nil => exact absurd rfl hne
      | cons _ _ => exact ⟨_, _, rfl⟩
    obtain ⟨y, l, rfl⟩ := hw
    refine call_repr_slot (by omega) ⟨o, ho, hc⟩ F.slot_list_repr.toG ?_
    exact call_list_reprK ho hc hd hna (by simpa using hk.length_eq) (fun i y e => hk.item i y (by simpa using e)) hG (fun b _ => Clear.nil b) (by show X.A.units + 1 + (PyData.depthAll ds + 1) < cLine; omega) (fun _ _ e => e)
      (fun h' u tk hk' => ⟨_, _, rfl, ⟨V.str (listText (PyData.shownAll ds)), H, I.kept hk', ⟨_, rfl⟩, q⟩⟩) hz
end
end Gk
/-! ### readings, one step at a time -/
namespace Gk
open PySem PySem.Spec PyProof.Rows L2
section
variable {t u : TS} {D : Ends} {σ : L2.St} {H : Hp} {te ta tb tc : TE} {g : TG} {tl : TA} {r : R2} {Q : VK} {i : Nat} {v : V} {rc : List V → Hp → VK → Prop} {tt tu : TT} {QT : Bool → Hp → Prop} {QA : List V → Hp → Prop}
theorem rd_seq (h : t { D with nx := u D } σ H) : tSeq t u D σ H := h
theorem rd_asg (h : te σ H fun x H1 => g x σ H1 D.nx) : tAsg te g D σ H := h
theorem rd_ret (h : te σ H D.rt) : tRet te D σ H := h
theorem rd_drop (h : te σ H fun _ H1 => D.nx σ H1) : tDrop te D σ H := h
theorem rd_op (h : ta σ H fun x H1 => tb σ H1 fun y H2 => r x y H2 Q) : tOp r ta tb σ H Q := h
theorem rd_var (e : σ[i]? = some (some v)) (h : Q v H) : tVar i σ H Q := ⟨v, e, h⟩
theorem rd_c (h : Q v H) : tC v σ H Q := h
theorem rd_cb (h : tl σ H fun vs H1 => rc vs H1 Q) : tCB rc tl σ H Q := h
theorem rd_cons (h : te σ H fun x H1 => tl σ H1 fun xs H2 => QA (x :: xs) H2) : tCons te tl σ H QA := h
theorem rd_nil (h : QA [] H) : tNil σ H QA := h
theorem rd_lst (h : tl σ H fun xs H1 => xs.length ≤ sizeLine ∧ ∀ p, H1 p = none → Q (.ref p) (upd H1 p (.lst xs))) : tLst tl σ H Q := h
theorem rd_tup (h : tl σ H fun xs H1 => xs.length ≤ sizeLine ∧ ∀ p, H1 p = none → Q (.ref p) (upd H1 p (.tup xs))) : tTup tl σ H Q := h
theorem rd_if (h : tt σ H fun b H1 => if b = true then t D σ H1 else u D σ H1) : tIfS tt t u D σ H := h
theorem rd_test (h : te σ H fun x H1 => ∃ k, x = .bl k ∧ QT k H1) : tTest te σ H QT := h
theorem rd_b (h : te σ H fun x H1 => ∃ k, x = .bl k ∧ QT k H1) : tB te σ H QT := h
theorem rd_not (h : tt σ H fun c H1 => QT (!c) H1) : tNot tt σ H QT := h
theorem rd_and (h : tt σ H fun c H1 => if c = true then tu σ H1 QT else QT false H1) : tAnd tt tu σ H QT := h
theorem rd_or (h : tt σ H fun c H1 => if c = true then QT true H1 else tu σ H1 QT) : tOr tt tu σ H QT := h
theorem rd_call {sp : Sp} {dvs : List V} {E : XK} (h : tl σ H fun vs H1 => sp (vs ++ dvs) H1 Q E) : tCall sp dvs E tl σ H Q := h
theorem rd_gn {QS : L2.St → Hp → Prop} (h : QS (σ.set i (some v)) H) : gName i v σ H QS := h
theorem rd_next (h : D.nx σ H) : tNext D σ H := h
end
end Gk
open Gk in
local macro_rules | `(tactic| walk_at "rd1") => `(tactic| (with_reducible first | refine rd_seq ?_ | refine rd_asg ?_ | refine rd_ret ?_ | refine rd_drop ?_ | refine rd_op ?_ | refine rd_c ?_ | refine rd_cb ?_ | refine rd_cons ?_ | refine rd_nil ?_ | refine rd_lst ?_ | refine rd_tup ?_ | refine rd_if ?_ | refine rd_test ?_ | refine rd_b ?_ | refine rd_not ?_ | refine rd_and ?_ | refine rd_or ?_ | refine rd_call ?_ | refine rd_next ?_ | refine rd_gn ?_ | refine rd_var (by with_unfolding_all rfl) ?_))
local macro_rules | `(tactic| walk_at "rd") => `(tactic| repeat (walk_at "rd1"))
/-! ## the law of the errors: its defs -/
namespace Gk
open PySem PySem.W PySem.Spec PyProof.Rows L2 NdefX
abbrev sKinds : Stmt := (top 27)
abbrev sByPlace : Stmt := (top 28)
abbrev sByName : Stmt := (top 29)
abbrev sStored : Stmt := (top 30)
abbrev sLaw : Stmt := (top 31)
/-- the classes in the order that the law knows them -/
def errTab : List (Str × Str) := [("BadNames", "value"), ("BadMembers", "value"), ("BadSets", "value"), ("BadSet", "value"), ("NoMember", "value"), ("NoSet", "value"), ("BadCaller", "value"), ("BadKinds", "value"), ("BadFallbacks", "value"), ("BadRule", "value"), ("BadName", "value"), ("NoHouse", "value"), ("BadWords", "value"), ("BadRow", "value"), ("NoNeighbour", "name"), ("NotNewer", "name"), ("NameTaken", "name"), ("BadMember", "position"), ("NotHeld", "position"), ("TooFar", "count"), ("BadText", "line")]
def fldOf (i : Nat) : Str := (errTab.getD i ("", "")).2
def argOf (v0 v1 v2 : V) (i : Nat) : V := if i < 14 then v0 else if i < 17 then v1 else v2
structure Errs (P : Program) (K : Frag) (mg : Str → Option Value) (C fI : Nat → Addr) (fd : Nat → FuncData) (G : Addr) : Prop where
  at_ : ∀ i x fld, errTab[i]? = some (x, fld) → ErrTxt P K mg x (C i) (fI i) (fd i) fld ∧ Binds K (fd i) ["self", fld] [] ∧ KwBinds K (fd i) fld ∧ ErrCls K (C i) fld
  kit : ∀ i j, i < 21 → j < 21 → kitOne K (.ref (C j)) (.ref (C i)) = some (decide (i = j))
  kitG : ∀ j, j < 21 → kitOne K (.ref (C j)) (.ref G) = some true
  kitV : ∀ j, j < 21 → kitOne K (.ref (C j)) (.type "ValueError") = some true
  gG : mg "GrowError" = some (.ref G)
  gV : mg "ValueError" = none
  gI : mg "isinstance" = none
theorem boot_isi : bootBuiltins "isinstance" = some (.builtin "isinstance") := by decide +kernel
theorem boot_VE : bootBuiltins "ValueError" = some (.type "ValueError") := by decide +kernel
/-! ### heaps in which only new things come, or one new list changes -/
theorem _root_.L2.Same.new {H H1 : Hp} {p : Addr} {o : HO} (s : Same H H1) (h : H1 p = none) : Same H (upd H1 p o) := fun b u e => by
  rw [upd_ne (ne_of_none (s b u e) h)]
  exact s b u e
theorem _root_.L2.Same.mut {H H1 : Hp} {p : Addr} {o : HO} (s : Same H H1) (h : H p = none) : Same H (upd H1 p o) := fun b u e => by
  rw [upd_ne (ne_of_none e h)]
  exact s b u e
theorem exo_lst {e C : Addr} {d : Option Addr} {xs : List V} : exo e C d ≠ .lst xs := fun z => by
  have z' : HO.ext _ = HO.lst xs := z
  cases z'
theorem exd_lst {e : Addr} {fs : List (Str × V)} {xs : List V} : exd e fs ≠ .lst xs := fun z => by
  have z' : HO.ext _ = HO.lst xs := z
  cases z'
theorem ErrAt.set {C : Addr} {fld : Str} {H : Hp} {a p : Addr} {v : V} {xs : List V} {o : HO} (e : ErrAt C fld H a v) (h : H p = some (.lst xs)) : ErrAt C fld (upd H p o) a v := by
  obtain ⟨d, h1, h2⟩ := e.ob
  exact ⟨d, by rw [upd_ne (ne_of h1 h exo_lst)]; exact h1, by rw [upd_ne (ne_of h2 h exd_lst)]; exact h2⟩
/-! ### lists of values that leave the heap as it is -/
def Pure (t : TA) (σ : L2.St) (H0 : Hp) (ys : List V) : Prop := ∀ H, Same H0 H → ∀ Q : List V → Hp → Prop, Q ys H → t σ H Q
theorem Pure.nil {σ : L2.St} {H0 : Hp} : Pure tNil σ H0 [] := fun _ _ _ q => q
theorem Pure.cons {te : TE} {t : TA} {σ : L2.St} {H0 : Hp} {y : V} {ys : List V} (h : ∀ H, Same H0 H → ∀ Q : VK, Q y H → te σ H Q) (r : Pure t σ H0 ys) : Pure (tCons te t) σ H0 (y :: ys) := fun H s Q q => h H s _ (r H s _ q)
section
variable {t : TA} {D : Ends} {H0 H : Hp} {ys xs : List V} {i : Nat} {σ : L2.St} {p : Addr}
/-- x = [..] -/
theorem lst_step (s : Same H0 H) (h : Pure t σ H0 ys) (hz : ys.length ≤ 1000) (k : ∀ H' p, Same H0 H' → H0 p = none → H' p = some (.lst ys) → D.nx (σ.set i (some (.ref p))) H') : tAsg (tLst t) (gName i) D σ H :=
  h H s _ ⟨Nat.le_trans hz (by decide), fun p hp => k _ p (s.new hp) (s.free hp) upd_same⟩
/-- x.append(e) -/
theorem app_step {K : Frag} {te : TE} {y : V} (s : Same H0 H) (n : H0 p = none) (c : H p = some (.lst xs)) (hσ : σ[i]? = some (some (.ref p))) (h : ∀ H, Same H0 H → ∀ Q : VK, Q y H → te σ H Q) (hz : xs.length ≤ 1000)
    (k : ∀ H', Same H0 H' → H' p = some (.lst (xs ++ [y])) → D.nx σ H') : tDrop (tBM K "list" rAppend (tVar i) (tCons te tNil)) D σ H :=
  ⟨_, hσ, .inl ⟨rfl, _, SqL.of c⟩, h H s _ ⟨p, xs, y, rfl, rfl, c, Nat.lt_of_le_of_lt hz (by decide), k _ (s.mut n) upd_same⟩⟩
theorem cat_core {Q : VK} (s : Same H0 H) (c : H p = some (.lst xs)) (hσ : σ[i]? = some (some (.ref p))) (h : Pure t σ H0 ys) (hz : xs.length + ys.length ≤ 1000)
    (k : ∀ H' q, Same H0 H' → H0 q = none → H' q = some (.lst (xs ++ ys)) → Q (.ref q) H') : tOp rCat (tVar i) (tLst t) σ H Q := by
  refine ⟨_, hσ, h H s _ ⟨Nat.le_trans (by omega) (show 1000 ≤ sizeLine by decide), fun l hl => ?_⟩⟩
  have s1 := s.new (o := .lst ys) hl
  refine ⟨p, l, xs, ys, rfl, rfl, by rw [upd_ne (ne_of_none c hl)]; exact c, upd_same, Nat.le_trans hz (by decide), fun q hq => ?_⟩
  exact k _ q (s1.new hq) (s1.free hq) upd_same
/-- x = x + [..] -/
theorem cat_step (s : Same H0 H) (_ : H0 p = none) (c : H p = some (.lst xs)) (hσ : σ[i]? = some (some (.ref p))) (h : Pure t σ H0 ys) (hz : xs.length + ys.length ≤ 1000)
    (k : ∀ H' q, Same H0 H' → H0 q = none → H' q = some (.lst (xs ++ ys)) → D.nx (σ.set i (some (.ref q))) H') : tAsg (tOp rCat (tVar i) (tLst t)) (gName i) D σ H := cat_core s c hσ h hz k
/-- return x + [..] -/
theorem cat_ret (s : Same H0 H) (_ : H0 p = none) (c : H p = some (.lst xs)) (hσ : σ[i]? = some (some (.ref p))) (h : Pure t σ H0 ys) (hz : xs.length + ys.length ≤ 1000)
    (k : ∀ H' q, Same H0 H' → H0 q = none → H' q = some (.lst (xs ++ ys)) → D.rt (.ref q) H') : tRet (tOp rCat (tVar i) (tLst t)) D σ H := cat_core s c hσ h hz k
end
/-- the errors as stand in Hc, made since H -/
structure Made (C : Nat → Addr) (v0 v1 v2 : V) (H Hc : Hp) (as : List Addr) : Prop where
  same : Same H Hc
  at_ : ∀ i a, as[i]? = some a → ErrAt (C i) (fldOf i) Hc a (argOf v0 v1 v2 i)
section
variable {C : Nat → Addr} {v0 v1 v2 : V} {H Hc : Hp} {as : List Addr}
theorem Made.start : Made C v0 v1 v2 H H [] := ⟨Same.refl H, fun i a h => by simp at h⟩
theorem Made.new {p : Addr} {o : HO} (m : Made C v0 v1 v2 H Hc as) (h : Hc p = none) : Made C v0 v1 v2 H (upd Hc p o) as :=
  ⟨m.same.new h, fun i a e => (m.at_ i a e).later fun b u q => by rw [upd_ne (ne_of_none q h)]; exact q⟩
theorem Made.set {p : Addr} {xs : List V} {o : HO} (m : Made C v0 v1 v2 H Hc as) (h : Hc p = some (.lst xs)) (h0 : H p = none) : Made C v0 v1 v2 H (upd Hc p o) as :=
  ⟨m.same.mut h0, fun i a e => (m.at_ i a e).set h⟩
theorem Made.more {a d : Addr} {v : V} {fld : Str} (n : Nat) (m : Made C v0 v1 v2 H Hc as) (hl : as.length = n) (ha : Hc a = none) (hd : Hc d = none) (hn : d ≠ a) (hv : v = argOf v0 v1 v2 n) (hf : fld = fldOf n) :
    Made C v0 v1 v2 H (upd (upd Hc d (exd d [(fld, v)])) a (exo a (C n) (some d))) (as ++ [a]) ∧ Same Hc (upd (upd Hc d (exd d [(fld, v)])) a (exo a (C n) (some d))) := by
  have k : ∀ b u, Hc b = some u → upd (upd Hc d (exd d [(fld, v)])) a (exo a (C n) (some d)) b = some u := fun b u q => by
    rw [upd_ne (ne_of_none q ha), upd_ne (ne_of_none q hd)]
    exact q
  refine ⟨⟨fun b u q => k b u (m.same b u q), fun i a' e => ?_⟩, k⟩
  by_cases h : i < as.length
  · rw [List.getElem?_append_left h] at e
    exact (m.at_ i a' e).later k
  · rw [List.getElem?_append_right (by omega)] at e
    have h1 : i = n := by
      have := (List.getElem?_eq_some_iff.mp e).1
      simp at this
      omega
    subst h1
    have h2 : a' = a := by
      rw [hl] at e
      simp at e
      exact e.symm
    subst h2 hv hf
    exact ⟨d, upd_same, by rw [upd_ne hn]; exact upd_same⟩
/-- arguments that make the errors n, n + 1, .. : m of them -/
def MkA (C : Nat → Addr) (v0 v1 v2 : V) (t : TA) (σ : L2.St) (n m : Nat) : Prop := ∀ H Hc as, Made C v0 v1 v2 H Hc as → as.length = n → ∀ Q : List V → Hp → Prop,
  (∀ Hc' bs, bs.length = m → Made C v0 v1 v2 H Hc' (as ++ bs) → Same Hc Hc' → Q (bs.map V.ref) Hc') → t σ Hc Q
variable {σ : L2.St} {n m : Nat} {t : TA}
theorem MkA.nil : MkA C v0 v1 v2 tNil σ n 0 := fun H Hc as M _ Q q => q Hc [] rfl (by rw [List.append_nil]; exact M) (Same.refl Hc)
theorem mk_core {fld : Str} {s n' : Nat} (e1 : n = n') (hf : fld = fldOf n') (hσ : σ[s]? = some (some (argOf v0 v1 v2 n'))) (r : MkA C v0 v1 v2 t σ (n' + 1) m) {H Hc : Hp} {as : List Addr} (M : Made C v0 v1 v2 H Hc as) (hl : as.length = n) {Q : List V → Hp → Prop}
    (q : ∀ Hc' bs, bs.length = m + 1 → Made C v0 v1 v2 H Hc' (as ++ bs) → Same Hc Hc' → Q (bs.map V.ref) Hc') :
    σ[s]? = some (some (argOf v0 v1 v2 n')) ∧ ∀ a d, Hc a = none → Hc d = none → d ≠ a → t σ (upd (upd Hc d (exd d [(fld, argOf v0 v1 v2 n')])) a (exo a (C n') (some d))) fun xs H2 => Q (V.ref a :: xs) H2 := by
  refine ⟨hσ, fun a d ha hd hn => ?_⟩
  obtain ⟨M1, S1⟩ := M.more n' (hl.trans e1) ha hd hn rfl hf
  refine r H _ _ M1 (by rw [List.length_append, hl, e1]; rfl) _ fun Hc' bs hb M2 S2 => ?_
  exact q Hc' (a :: bs) (by rw [List.length_cons, hb]) (by rw [List.append_assoc] at M2; exact M2) (S1.trans S2)
theorem MkA.cons {fld : Str} {s : Nat} (n' : Nat) (e1 : n = n') (hf : fld = fldOf n') (hσ : σ[s]? = some (some (argOf v0 v1 v2 n'))) (r : MkA C v0 v1 v2 t σ (n' + 1) m) : MkA C v0 v1 v2 (tCons (tErrV (C n') fld (tVar s)) t) σ n (m + 1) := fun H Hc as M hl Q q => by
  obtain ⟨h1, h2⟩ := mk_core e1 hf hσ r M hl q
  exact ⟨_, h1, h2⟩
theorem MkA.consK {fld : Str} {s : Nat} (n' : Nat) (e1 : n = n') (hf : fld = fldOf n') (hσ : σ[s]? = some (some (argOf v0 v1 v2 n'))) (r : MkA C v0 v1 v2 t σ (n' + 1) m) : MkA C v0 v1 v2 (tCons (tErrVK (C n') fld (tVar s)) t) σ n (m + 1) := fun H Hc as M hl Q q => by
  obtain ⟨h1, h2⟩ := mk_core e1 hf hσ r M hl q
  exact ⟨_, h1, _, rfl, h2⟩
variable {D : Ends} {i : Nat} {p : Addr}
theorem lst_made (M : Made C v0 v1 v2 H Hc []) (h : MkA C v0 v1 v2 t σ 0 m) (hz : m ≤ 500) (k : ∀ H' p bs, Made C v0 v1 v2 H H' bs → bs.length = m → H p = none → H' p = some (.lst (bs.map V.ref)) → D.nx (σ.set i (some (.ref p))) H') : tAsg (tLst t) (gName i) D σ Hc :=
  h H Hc [] M rfl _ fun Hc' bs hb M1 _ => ⟨by rw [List.length_map, hb]; exact Nat.le_trans hz (by decide), fun p hp => k _ p bs (M1.new hp) hb (M1.same.free hp) upd_same⟩
theorem app_made {K : Frag} {te : TE} (M : Made C v0 v1 v2 H Hc as) (hl : as.length = n) (n0 : H p = none) (c : Hc p = some (.lst (as.map V.ref))) (hσ : σ[i]? = some (some (.ref p))) (h : MkA C v0 v1 v2 (tCons te tNil) σ n 1) (hz : n ≤ 500)
    (k : ∀ H' bs, Made C v0 v1 v2 H H' bs → bs.length = n + 1 → H' p = some (.lst (bs.map V.ref)) → D.nx σ H') : tDrop (tBM K "list" rAppend (tVar i) (tCons te tNil)) D σ Hc := by
  refine ⟨_, hσ, .inl ⟨rfl, _, SqL.of c⟩, h H Hc as M hl _ fun Hc' bs hb M1 S1 => ?_⟩
  obtain ⟨a, rfl⟩ : ∃ a, bs = [a] := by
    cases bs with
    | nil => cases hb
    | cons a r =>
      cases r with
      | nil => exact ⟨a, rfl⟩
      | cons _ _ => simp at hb
  refine ⟨p, as.map V.ref, .ref a, rfl, rfl, S1 _ _ c, by rw [List.length_map, hl]; exact Nat.lt_of_le_of_lt hz (by decide), k _ (as ++ [a]) (M1.set (S1 _ _ c) n0) (by rw [List.length_append, hl]; rfl) ?_⟩
  rw [upd_same, List.map_append]
  rfl
theorem cat_mcore {Q : VK} (M : Made C v0 v1 v2 H Hc as) (hl : as.length = n) (c : Hc p = some (.lst (as.map V.ref))) (hσ : σ[i]? = some (some (.ref p))) (h : MkA C v0 v1 v2 t σ n m) (hz : n ≤ 500) (hm : m ≤ 500)
    (k : ∀ H' q bs, Made C v0 v1 v2 H H' bs → bs.length = n + m → H q = none → H' q = some (.lst (bs.map V.ref)) → Q (.ref q) H') : tOp rCat (tVar i) (tLst t) σ Hc Q := by
  refine ⟨_, hσ, h H Hc as M hl _ fun Hc' bs hb M1 S1 => ⟨by rw [List.length_map, hb]; exact Nat.le_trans hm (by decide), fun l hl2 => ?_⟩⟩
  have M2 := M1.new (o := .lst (bs.map V.ref)) hl2
  refine ⟨p, l, as.map V.ref, bs.map V.ref, rfl, rfl, by rw [upd_ne (ne_of_none (S1 _ _ c) hl2)]; exact S1 _ _ c, upd_same, by rw [List.length_map, List.length_map, hb, hl]; exact Nat.le_trans (by omega) (show 1000 ≤ sizeLine by decide), fun q hq => ?_⟩
  rw [← List.map_append]
  exact k _ q (as ++ bs) (M2.new hq) (by rw [List.length_append, hl, hb]) (M2.same.free hq) upd_same
theorem cat_made (M : Made C v0 v1 v2 H Hc as) (hl : as.length = n) (_ : H p = none) (c : Hc p = some (.lst (as.map V.ref))) (hσ : σ[i]? = some (some (.ref p))) (h : MkA C v0 v1 v2 t σ n m) (hz : n ≤ 500) (hm : m ≤ 500)
    (k : ∀ H' q bs, Made C v0 v1 v2 H H' bs → bs.length = n + m → H q = none → H' q = some (.lst (bs.map V.ref)) → D.nx (σ.set i (some (.ref q))) H') : tAsg (tOp rCat (tVar i) (tLst t)) (gName i) D σ Hc := cat_mcore M hl c hσ h hz hm k
theorem cat_mret (M : Made C v0 v1 v2 H Hc as) (hl : as.length = n) (_ : H p = none) (c : Hc p = some (.lst (as.map V.ref))) (hσ : σ[i]? = some (some (.ref p))) (h : MkA C v0 v1 v2 t σ n m) (hz : n ≤ 500) (hm : m ≤ 500)
    (k : ∀ H' q bs, Made C v0 v1 v2 H H' bs → bs.length = n + m → H q = none → H' q = some (.lst (bs.map V.ref)) → D.rt (.ref q) H') : tRet (tOp rCat (tVar i) (tLst t)) D σ Hc := cat_mcore M hl c hσ h hz hm k
end
/-! ### the promises -/
def kindsOf (j : Nat) : List V := (List.range 21).map fun i => V.bl (decide (i = j))
def spKinds (C : Nat → Addr) : Sp := fun vs H Q _ => ∃ (a : Addr) (j : Nat) (v : V), vs = [.ref a] ∧ j < 21 ∧ ErrAt (C j) (fldOf j) H a v ∧ ∀ H' p, Same H H' → H p = none → H' p = some (.lst (kindsOf j)) → Q (.ref p) H'
def spMake (C : Nat → Addr) : Sp := fun vs H Q _ => ∃ (v0 v1 v2 : V), vs = [v0, v1, v2] ∧ ∀ H' p as, Made C v0 v1 v2 H H' as → as.length = 21 → H p = none → H' p = some (.lst (as.map V.ref)) → Q (.ref p) H'
def spStored (K : Frag) (C : Nat → Addr) : Sp := fun vs H Q _ => ∃ (p : Addr) (as : List Addr) (v0 v1 v2 : V), vs = [.ref p] ∧ H p = some (.lst (as.map V.ref)) ∧ as.length = 21 ∧ (∀ i a, as[i]? = some a → ErrAt (C i) (fldOf i) H a (argOf v0 v1 v2 i)) ∧
  ∀ H' q, Same H H' → H q = none → H' q = some (.lst ((List.range 21).map (argOf v0 v1 v2))) → Q (.ref q) H'
section
variable {P : Program} {w : World} {K : Frag} {mg : Str → Option Value} {base : Heap} {C fI : Nat → Addr} {fd : Nat → FuncData} {G : Addr}
theorem isi_reads {σ : L2.St} {H0 H : Hp} {a : Addr} {i j : Nat} {v : V} {Q : VK} (ER : Errs P K mg C fI fd G) (h0 : σ[0]? = some (some (.ref a))) (hi : i < 21) (hj : j < 21) (hA : ErrAt (C j) (fldOf j) H0 a v) (s : Same H0 H) (q : Q (.bl (decide (i = j))) H) :
    tCB (rErrIs K) (tCons (tVar 0) (tCons (tC (.ref (C i))) tNil)) σ H Q := by
  obtain ⟨⟨x, fld⟩, hx⟩ : ∃ r, errTab[j]? = some r := ⟨errTab[j]'hj, List.getElem?_eq_getElem hj⟩
  exact ⟨_, h0, a, C j, fldOf j, v, .ref (C i), .ref (C i), decide (i = j), rfl, fun u r => r, (ER.at_ j x fld hx).2.2.2.xc, hA.later s, ER.kit i j hi hj, q⟩
theorem scKinds : FnScope ["error", "found"] ["error"] (defScope sKinds) := ⟨rfl, rfl, rfl, by decide +kernel, rfl, by decide +kernel, by decide +kernel⟩

theorem ok_kinds {f : Addr} {fd0 : FuncData} (F : Fun K "_law_kinds" "_law_kinds" sKinds f fd0) (ER : Errs P K mg C fI fd G) : FnOk P w K mg base CX0 1 f fd0 ["error"] (spKinds C) := by
  refine F.ok scKinds (fun vs H Q E h => ?_) (fun cdv A outer s H vs Q E hr h => ?_)
  · obtain ⟨a, j, v, rfl, _⟩ := h
    rfl
  · obtain ⟨a, j, v, rfl, hj, hA, k⟩ := h
    have nd := scKinds.nd
    have one : ∀ {σ : L2.St} (i : Nat), i < 21 → ∀ H1, Same H H1 → ∀ Q : VK, Q (.bl (decide (i = j))) H1 → σ[0]? = some (some (.ref a)) → tCB (rErrIs K) (tCons (tVar 0) (tCons (tC (.ref (C i))) tNil)) σ H1 Q := fun i hi H1 s Q q h0 => isi_reads ER h0 hi hj hA s q
    refine ⟨_, (pss_cons (ps_set (i := 1) nd rfl (Or.inl rfl) (pe_lst (pa_cons (pe_callB call_errIs (by rfl) ER.gI boot_isi (pa_cons (pv 0) (pa_cons (pe_glob (v := .ref (C 0)) (by rfl) (ER.at_ 0 _ _ rfl).1.gC rfl) pa_nil))) (pa_cons (pe_callB call_errIs (by rfl) ER.gI boot_isi (pa_cons (pv 0) (pa_cons (pe_glob (v := .ref (C 1)) (by rfl) (ER.at_ 1 _ _ rfl).1.gC rfl) pa_nil))) (pa_cons (pe_callB call_errIs (by rfl) ER.gI boot_isi (pa_cons (pv 0) (pa_cons (pe_glob (v := .ref (C 2)) (by rfl) (ER.at_ 2 _ _ rfl).1.gC rfl) pa_nil))) pa_nil)))))
      (pss_cons (ps_expr (pe_bm PySem.F.plainAttrs_list PySem.F.slot_list_append PySem.F.type_list_append mt_append (pv 1) (pa_cons (pe_callB call_errIs (by rfl) ER.gI boot_isi (pa_cons (pv 0) (pa_cons (pe_glob (v := .ref (C 3)) (by rfl) (ER.at_ 3 _ _ rfl).1.gC rfl) pa_nil))) pa_nil)))
      (pss_cons (ps_set (i := 1) nd rfl (Or.inl rfl) (pe_op op_cat (pv 1) (pe_lst (pa_cons (pe_callB call_errIs (by rfl) ER.gI boot_isi (pa_cons (pv 0) (pa_cons (pe_glob (v := .ref (C 4)) (by rfl) (ER.at_ 4 _ _ rfl).1.gC rfl) pa_nil))) (pa_cons (pe_callB call_errIs (by rfl) ER.gI boot_isi (pa_cons (pv 0) (pa_cons (pe_glob (v := .ref (C 5)) (by rfl) (ER.at_ 5 _ _ rfl).1.gC rfl) pa_nil))) (pa_cons (pe_callB call_errIs (by rfl) ER.gI boot_isi (pa_cons (pv 0) (pa_cons (pe_glob (v := .ref (C 6)) (by rfl) (ER.at_ 6 _ _ rfl).1.gC rfl) pa_nil))) pa_nil))))))
      (pss_cons (ps_set (i := 1) nd rfl (Or.inl rfl) (pe_op op_cat (pv 1) (pe_lst (pa_cons (pe_callB call_errIs (by rfl) ER.gI boot_isi (pa_cons (pv 0) (pa_cons (pe_glob (v := .ref (C 7)) (by rfl) (ER.at_ 7 _ _ rfl).1.gC rfl) pa_nil))) (pa_cons (pe_callB call_errIs (by rfl) ER.gI boot_isi (pa_cons (pv 0) (pa_cons (pe_glob (v := .ref (C 8)) (by rfl) (ER.at_ 8 _ _ rfl).1.gC rfl) pa_nil))) (pa_cons (pe_callB call_errIs (by rfl) ER.gI boot_isi (pa_cons (pv 0) (pa_cons (pe_glob (v := .ref (C 9)) (by rfl) (ER.at_ 9 _ _ rfl).1.gC rfl) pa_nil))) pa_nil))))))
      (pss_cons (ps_set (i := 1) nd rfl (Or.inl rfl) (pe_op op_cat (pv 1) (pe_lst (pa_cons (pe_callB call_errIs (by rfl) ER.gI boot_isi (pa_cons (pv 0) (pa_cons (pe_glob (v := .ref (C 10)) (by rfl) (ER.at_ 10 _ _ rfl).1.gC rfl) pa_nil))) (pa_cons (pe_callB call_errIs (by rfl) ER.gI boot_isi (pa_cons (pv 0) (pa_cons (pe_glob (v := .ref (C 11)) (by rfl) (ER.at_ 11 _ _ rfl).1.gC rfl) pa_nil))) (pa_cons (pe_callB call_errIs (by rfl) ER.gI boot_isi (pa_cons (pv 0) (pa_cons (pe_glob (v := .ref (C 12)) (by rfl) (ER.at_ 12 _ _ rfl).1.gC rfl) pa_nil))) pa_nil))))))
      (pss_cons (ps_set (i := 1) nd rfl (Or.inl rfl) (pe_op op_cat (pv 1) (pe_lst (pa_cons (pe_callB call_errIs (by rfl) ER.gI boot_isi (pa_cons (pv 0) (pa_cons (pe_glob (v := .ref (C 13)) (by rfl) (ER.at_ 13 _ _ rfl).1.gC rfl) pa_nil))) (pa_cons (pe_callB call_errIs (by rfl) ER.gI boot_isi (pa_cons (pv 0) (pa_cons (pe_glob (v := .ref (C 14)) (by rfl) (ER.at_ 14 _ _ rfl).1.gC rfl) pa_nil))) (pa_cons (pe_callB call_errIs (by rfl) ER.gI boot_isi (pa_cons (pv 0) (pa_cons (pe_glob (v := .ref (C 15)) (by rfl) (ER.at_ 15 _ _ rfl).1.gC rfl) pa_nil))) pa_nil))))))
      (pss_cons (ps_set (i := 1) nd rfl (Or.inl rfl) (pe_op op_cat (pv 1) (pe_lst (pa_cons (pe_callB call_errIs (by rfl) ER.gI boot_isi (pa_cons (pv 0) (pa_cons (pe_glob (v := .ref (C 16)) (by rfl) (ER.at_ 16 _ _ rfl).1.gC rfl) pa_nil))) (pa_cons (pe_callB call_errIs (by rfl) ER.gI boot_isi (pa_cons (pv 0) (pa_cons (pe_glob (v := .ref (C 17)) (by rfl) (ER.at_ 17 _ _ rfl).1.gC rfl) pa_nil))) (pa_cons (pe_callB call_errIs (by rfl) ER.gI boot_isi (pa_cons (pv 0) (pa_cons (pe_glob (v := .ref (C 18)) (by rfl) (ER.at_ 18 _ _ rfl).1.gC rfl) pa_nil))) pa_nil))))))
      (pss_one (ps_ret (pe_op op_cat (pv 1) (pe_lst (pa_cons (pe_callB call_errIs (by rfl) ER.gI boot_isi (pa_cons (pv 0) (pa_cons (pe_glob (v := .ref (C 19)) (by rfl) (ER.at_ 19 _ _ rfl).1.gC rfl) pa_nil))) (pa_cons (pe_callB call_errIs (by rfl) ER.gI boot_isi (pa_cons (pv 0) (pa_cons (pe_glob (v := .ref (C 20)) (by rfl) (ER.at_ 20 _ _ rfl).1.gC rfl) pa_nil))) pa_nil))))))))))))), ?_⟩
    refine lst_step (H0 := H) (Same.refl H) (.cons (fun H1 s Q q => one 0 (by decide) H1 s Q q rfl) (.cons (fun H1 s Q q => one 1 (by decide) H1 s Q q rfl) (.cons (fun H1 s Q q => one 2 (by decide) H1 s Q q rfl) .nil))) (Nat.le_of_ble_eq_true rfl) fun H1 p1 s1 n1 c1 => ?_
    refine app_step (H0 := H) s1 n1 c1 rfl (fun H1 s Q q => one 3 (by decide) H1 s Q q rfl) (Nat.le_of_ble_eq_true rfl) fun H2 s2 c2 => ?_
    refine cat_step (H0 := H) s2 n1 c2 rfl (.cons (fun H1 s Q q => one 4 (by decide) H1 s Q q rfl) (.cons (fun H1 s Q q => one 5 (by decide) H1 s Q q rfl) (.cons (fun H1 s Q q => one 6 (by decide) H1 s Q q rfl) .nil))) (Nat.le_of_ble_eq_true rfl) fun H3 p3 s3 n3 c3 => ?_
    refine cat_step (H0 := H) s3 n3 c3 rfl (.cons (fun H1 s Q q => one 7 (by decide) H1 s Q q rfl) (.cons (fun H1 s Q q => one 8 (by decide) H1 s Q q rfl) (.cons (fun H1 s Q q => one 9 (by decide) H1 s Q q rfl) .nil))) (Nat.le_of_ble_eq_true rfl) fun H4 p4 s4 n4 c4 => ?_
    refine cat_step (H0 := H) s4 n4 c4 rfl (.cons (fun H1 s Q q => one 10 (by decide) H1 s Q q rfl) (.cons (fun H1 s Q q => one 11 (by decide) H1 s Q q rfl) (.cons (fun H1 s Q q => one 12 (by decide) H1 s Q q rfl) .nil))) (Nat.le_of_ble_eq_true rfl) fun H5 p5 s5 n5 c5 => ?_
    refine cat_step (H0 := H) s5 n5 c5 rfl (.cons (fun H1 s Q q => one 13 (by decide) H1 s Q q rfl) (.cons (fun H1 s Q q => one 14 (by decide) H1 s Q q rfl) (.cons (fun H1 s Q q => one 15 (by decide) H1 s Q q rfl) .nil))) (Nat.le_of_ble_eq_true rfl) fun H6 p6 s6 n6 c6 => ?_
    refine cat_step (H0 := H) s6 n6 c6 rfl (.cons (fun H1 s Q q => one 16 (by decide) H1 s Q q rfl) (.cons (fun H1 s Q q => one 17 (by decide) H1 s Q q rfl) (.cons (fun H1 s Q q => one 18 (by decide) H1 s Q q rfl) .nil))) (Nat.le_of_ble_eq_true rfl) fun H7 p7 s7 n7 c7 => ?_
    refine cat_ret (H0 := H) s7 n7 c7 rfl (.cons (fun H1 s Q q => one 19 (by decide) H1 s Q q rfl) (.cons (fun H1 s Q q => one 20 (by decide) H1 s Q q rfl) .nil)) (Nat.le_of_ble_eq_true rfl) fun H8 p8 s8 n8 c8 => ?_
    exact k _ _ s8 n8 c8
theorem scPlace : FnScope ["thing", "word", "many", "found"] ["thing", "word", "many"] (defScope sByPlace) := ⟨rfl, rfl, rfl, by decide +kernel, rfl, by decide +kernel, by decide +kernel⟩
theorem ok_Place {f : Addr} {fd0 : FuncData} (F : Fun K "_law_by_place" "_law_by_place" sByPlace f fd0) (ER : Errs P K mg C fI fd G) : FnOk P w K mg base CX0 4 f fd0 ["thing", "word", "many"] (spMake C) := by
  refine F.ok scPlace (fun vs H Q E h => ?_) (fun cdv A outer s H vs Q E hr h => ?_)
  · obtain ⟨v0, v1, v2, rfl, _⟩ := h
    rfl
  · obtain ⟨v0, v1, v2, rfl, k⟩ := h
    have nd := scPlace.nd
    refine ⟨_, (pss_cons (ps_set (i := 3) nd rfl (Or.inl rfl) (pe_lst (pa_cons (pe_err (ER.at_ 0 _ _ rfl).1 (ER.at_ 0 _ _ rfl).2.1 hr (by rfl) (pv 0)) (pa_cons (pe_err (ER.at_ 1 _ _ rfl).1 (ER.at_ 1 _ _ rfl).2.1 hr (by rfl) (pv 0)) (pa_cons (pe_err (ER.at_ 2 _ _ rfl).1 (ER.at_ 2 _ _ rfl).2.1 hr (by rfl) (pv 0)) (pa_cons (pe_err (ER.at_ 3 _ _ rfl).1 (ER.at_ 3 _ _ rfl).2.1 hr (by rfl) (pv 0)) (pa_cons (pe_err (ER.at_ 4 _ _ rfl).1 (ER.at_ 4 _ _ rfl).2.1 hr (by rfl) (pv 0)) (pa_cons (pe_err (ER.at_ 5 _ _ rfl).1 (ER.at_ 5 _ _ rfl).2.1 hr (by rfl) (pv 0)) pa_nil))))))))
      (pss_cons (ps_expr (pe_bm PySem.F.plainAttrs_list PySem.F.slot_list_append PySem.F.type_list_append mt_append (pv 3) (pa_cons (pe_err (ER.at_ 6 _ _ rfl).1 (ER.at_ 6 _ _ rfl).2.1 hr (by rfl) (pv 0)) pa_nil)))
      (pss_cons (ps_set (i := 3) nd rfl (Or.inl rfl) (pe_op op_cat (pv 3) (pe_lst (pa_cons (pe_err (ER.at_ 7 _ _ rfl).1 (ER.at_ 7 _ _ rfl).2.1 hr (by rfl) (pv 0)) (pa_cons (pe_err (ER.at_ 8 _ _ rfl).1 (ER.at_ 8 _ _ rfl).2.1 hr (by rfl) (pv 0)) (pa_cons (pe_err (ER.at_ 9 _ _ rfl).1 (ER.at_ 9 _ _ rfl).2.1 hr (by rfl) (pv 0)) (pa_cons (pe_err (ER.at_ 10 _ _ rfl).1 (ER.at_ 10 _ _ rfl).2.1 hr (by rfl) (pv 0)) (pa_cons (pe_err (ER.at_ 11 _ _ rfl).1 (ER.at_ 11 _ _ rfl).2.1 hr (by rfl) (pv 0)) pa_nil))))))))
      (pss_cons (ps_set (i := 3) nd rfl (Or.inl rfl) (pe_op op_cat (pv 3) (pe_lst (pa_cons (pe_err (ER.at_ 12 _ _ rfl).1 (ER.at_ 12 _ _ rfl).2.1 hr (by rfl) (pv 0)) (pa_cons (pe_err (ER.at_ 13 _ _ rfl).1 (ER.at_ 13 _ _ rfl).2.1 hr (by rfl) (pv 0)) (pa_cons (pe_err (ER.at_ 14 _ _ rfl).1 (ER.at_ 14 _ _ rfl).2.1 hr (by rfl) (pv 1)) (pa_cons (pe_err (ER.at_ 15 _ _ rfl).1 (ER.at_ 15 _ _ rfl).2.1 hr (by rfl) (pv 1)) (pa_cons (pe_err (ER.at_ 16 _ _ rfl).1 (ER.at_ 16 _ _ rfl).2.1 hr (by rfl) (pv 1)) pa_nil))))))))
      (pss_one (ps_ret (pe_op op_cat (pv 3) (pe_lst (pa_cons (pe_err (ER.at_ 17 _ _ rfl).1 (ER.at_ 17 _ _ rfl).2.1 hr (by rfl) (pv 2)) (pa_cons (pe_err (ER.at_ 18 _ _ rfl).1 (ER.at_ 18 _ _ rfl).2.1 hr (by rfl) (pv 2)) (pa_cons (pe_err (ER.at_ 19 _ _ rfl).1 (ER.at_ 19 _ _ rfl).2.1 hr (by rfl) (pv 2)) (pa_cons (pe_err (ER.at_ 20 _ _ rfl).1 (ER.at_ 20 _ _ rfl).2.1 hr (by rfl) (pv 2)) pa_nil)))))))))))), ?_⟩
    refine lst_made (v0 := v0) (v1 := v1) (v2 := v2) (C := C) Made.start (.cons 0 rfl rfl rfl (.cons 1 rfl rfl rfl (.cons 2 rfl rfl rfl (.cons 3 rfl rfl rfl (.cons 4 rfl rfl rfl (.cons 5 rfl rfl rfl .nil)))))) (by decide) fun H1 p1 b1 m1 l1 n1 c1 => ?_
    refine app_made m1 l1 n1 c1 rfl (.cons 6 rfl rfl rfl .nil) (by decide) fun H2 b2 m2 l2 c2 => ?_
    refine cat_made m2 l2 n1 c2 rfl (.cons 7 rfl rfl rfl (.cons 8 rfl rfl rfl (.cons 9 rfl rfl rfl (.cons 10 rfl rfl rfl (.cons 11 rfl rfl rfl .nil))))) (by decide) (by decide) fun H3 p3 b3 m3 l3 n3 c3 => ?_
    refine cat_made m3 l3 n3 c3 rfl (.cons 12 rfl rfl rfl (.cons 13 rfl rfl rfl (.cons 14 rfl rfl rfl (.cons 15 rfl rfl rfl (.cons 16 rfl rfl rfl .nil))))) (by decide) (by decide) fun H4 p4 b4 m4 l4 n4 c4 => ?_
    refine cat_mret m4 l4 n4 c4 rfl (.cons 17 rfl rfl rfl (.cons 18 rfl rfl rfl (.cons 19 rfl rfl rfl (.cons 20 rfl rfl rfl .nil)))) (by decide) (by decide) fun H5 p5 b5 m5 l5 n5 c5 => ?_
    exact k _ _ _ m5 l5 n5 c5
theorem scName : FnScope ["thing", "word", "many", "found"] ["thing", "word", "many"] (defScope sByName) := ⟨rfl, rfl, rfl, by decide +kernel, rfl, by decide +kernel, by decide +kernel⟩
theorem ok_Name {f : Addr} {fd0 : FuncData} (F : Fun K "_law_by_name" "_law_by_name" sByName f fd0) (ER : Errs P K mg C fI fd G) : FnOk P w K mg base CX0 4 f fd0 ["thing", "word", "many"] (spMake C) := by
  refine F.ok scName (fun vs H Q E h => ?_) (fun cdv A outer s H vs Q E hr h => ?_)
  · obtain ⟨v0, v1, v2, rfl, _⟩ := h
    rfl
  · obtain ⟨v0, v1, v2, rfl, k⟩ := h
    have nd := scName.nd
    refine ⟨_, (pss_cons (ps_set (i := 3) nd rfl (Or.inl rfl) (pe_lst (pa_cons (pe_errK (ER.at_ 0 _ _ rfl).1 (ER.at_ 0 _ _ rfl).2.2.1 hr (by rfl) (pv 0)) (pa_cons (pe_errK (ER.at_ 1 _ _ rfl).1 (ER.at_ 1 _ _ rfl).2.2.1 hr (by rfl) (pv 0)) (pa_cons (pe_errK (ER.at_ 2 _ _ rfl).1 (ER.at_ 2 _ _ rfl).2.2.1 hr (by rfl) (pv 0)) (pa_cons (pe_errK (ER.at_ 3 _ _ rfl).1 (ER.at_ 3 _ _ rfl).2.2.1 hr (by rfl) (pv 0)) pa_nil))))))
      (pss_cons (ps_expr (pe_bm PySem.F.plainAttrs_list PySem.F.slot_list_append PySem.F.type_list_append mt_append (pv 3) (pa_cons (pe_errK (ER.at_ 4 _ _ rfl).1 (ER.at_ 4 _ _ rfl).2.2.1 hr (by rfl) (pv 0)) pa_nil)))
      (pss_cons (ps_set (i := 3) nd rfl (Or.inl rfl) (pe_op op_cat (pv 3) (pe_lst (pa_cons (pe_errK (ER.at_ 5 _ _ rfl).1 (ER.at_ 5 _ _ rfl).2.2.1 hr (by rfl) (pv 0)) (pa_cons (pe_errK (ER.at_ 6 _ _ rfl).1 (ER.at_ 6 _ _ rfl).2.2.1 hr (by rfl) (pv 0)) (pa_cons (pe_errK (ER.at_ 7 _ _ rfl).1 (ER.at_ 7 _ _ rfl).2.2.1 hr (by rfl) (pv 0)) (pa_cons (pe_errK (ER.at_ 8 _ _ rfl).1 (ER.at_ 8 _ _ rfl).2.2.1 hr (by rfl) (pv 0)) pa_nil)))))))
      (pss_cons (ps_set (i := 3) nd rfl (Or.inl rfl) (pe_op op_cat (pv 3) (pe_lst (pa_cons (pe_errK (ER.at_ 9 _ _ rfl).1 (ER.at_ 9 _ _ rfl).2.2.1 hr (by rfl) (pv 0)) (pa_cons (pe_errK (ER.at_ 10 _ _ rfl).1 (ER.at_ 10 _ _ rfl).2.2.1 hr (by rfl) (pv 0)) (pa_cons (pe_errK (ER.at_ 11 _ _ rfl).1 (ER.at_ 11 _ _ rfl).2.2.1 hr (by rfl) (pv 0)) (pa_cons (pe_errK (ER.at_ 12 _ _ rfl).1 (ER.at_ 12 _ _ rfl).2.2.1 hr (by rfl) (pv 0)) pa_nil)))))))
      (pss_cons (ps_set (i := 3) nd rfl (Or.inl rfl) (pe_op op_cat (pv 3) (pe_lst (pa_cons (pe_errK (ER.at_ 13 _ _ rfl).1 (ER.at_ 13 _ _ rfl).2.2.1 hr (by rfl) (pv 0)) (pa_cons (pe_errK (ER.at_ 14 _ _ rfl).1 (ER.at_ 14 _ _ rfl).2.2.1 hr (by rfl) (pv 1)) (pa_cons (pe_errK (ER.at_ 15 _ _ rfl).1 (ER.at_ 15 _ _ rfl).2.2.1 hr (by rfl) (pv 1)) (pa_cons (pe_errK (ER.at_ 16 _ _ rfl).1 (ER.at_ 16 _ _ rfl).2.2.1 hr (by rfl) (pv 1)) pa_nil)))))))
      (pss_one (ps_ret (pe_op op_cat (pv 3) (pe_lst (pa_cons (pe_errK (ER.at_ 17 _ _ rfl).1 (ER.at_ 17 _ _ rfl).2.2.1 hr (by rfl) (pv 2)) (pa_cons (pe_errK (ER.at_ 18 _ _ rfl).1 (ER.at_ 18 _ _ rfl).2.2.1 hr (by rfl) (pv 2)) (pa_cons (pe_errK (ER.at_ 19 _ _ rfl).1 (ER.at_ 19 _ _ rfl).2.2.1 hr (by rfl) (pv 2)) (pa_cons (pe_errK (ER.at_ 20 _ _ rfl).1 (ER.at_ 20 _ _ rfl).2.2.1 hr (by rfl) (pv 2)) pa_nil))))))))))))), ?_⟩
    refine lst_made (v0 := v0) (v1 := v1) (v2 := v2) (C := C) Made.start (.consK 0 rfl rfl rfl (.consK 1 rfl rfl rfl (.consK 2 rfl rfl rfl (.consK 3 rfl rfl rfl .nil)))) (by decide) fun H1 p1 b1 m1 l1 n1 c1 => ?_
    refine app_made m1 l1 n1 c1 rfl (.consK 4 rfl rfl rfl .nil) (by decide) fun H2 b2 m2 l2 c2 => ?_
    refine cat_made m2 l2 n1 c2 rfl (.consK 5 rfl rfl rfl (.consK 6 rfl rfl rfl (.consK 7 rfl rfl rfl (.consK 8 rfl rfl rfl .nil)))) (by decide) (by decide) fun H3 p3 b3 m3 l3 n3 c3 => ?_
    refine cat_made m3 l3 n3 c3 rfl (.consK 9 rfl rfl rfl (.consK 10 rfl rfl rfl (.consK 11 rfl rfl rfl (.consK 12 rfl rfl rfl .nil)))) (by decide) (by decide) fun H4 p4 b4 m4 l4 n4 c4 => ?_
    refine cat_made m4 l4 n4 c4 rfl (.consK 13 rfl rfl rfl (.consK 14 rfl rfl rfl (.consK 15 rfl rfl rfl (.consK 16 rfl rfl rfl .nil)))) (by decide) (by decide) fun H5 p5 b5 m5 l5 n5 c5 => ?_
    refine cat_mret m5 l5 n5 c5 rfl (.consK 17 rfl rfl rfl (.consK 18 rfl rfl rfl (.consK 19 rfl rfl rfl (.consK 20 rfl rfl rfl .nil)))) (by decide) (by decide) fun H6 p6 b6 m6 l6 n6 c6 => ?_
    exact k _ _ _ m6 l6 n6 c6
end
end Gk
namespace Gk
open PySem PySem.W PySem.Spec PyProof.Rows L2 NdefX
section
variable {P : Program} {w : World} {K : Frag} {mg : Str → Option Value} {base : Heap} {C fI : Nat → Addr} {fd : Nat → FuncData} {G : Addr}
theorem map_take_more {n : Nat} {f : Nat → V} {i : Nat} : (List.range (i + 1)).map f = (List.range i).map f ++ [f i] := by
  rw [List.range_succ, List.map_append]
  rfl
/-- [e.f for e in errors[lo:hi]] -/
theorem lc_errs {H0 Hc : Hp} {p : Addr} {as : List Addr} {v0 v1 v2 : V} {σ1 : Option V} {z : Option V} {lo hi : Option Int} {tl th : TO} {fld : Str} {a m : Nat} {Q : VK} (ER : Errs P K mg C fI fd G) (s : Same H0 Hc) (hp : H0 p = some (.lst (as.map V.ref)))
    (hA : ∀ i e, as[i]? = some e → ErrAt (C i) (fldOf i) H0 e (argOf v0 v1 v2 i)) (hl : as.length = 21) (hT : ∀ i, i < m → fldOf (a + i) = fld) (hm : a + m ≤ 21) (hcut : cutV (as.map V.ref) lo hi = ((as.drop a).take m).map V.ref)
    (hlo : ∀ (σ : L2.St) H (Q : Option Int → Hp → Prop), Q lo H → tl σ H Q) (hhi : ∀ (σ : L2.St) H (Q : Option Int → Hp → Prop), Q hi H → th σ H Q)
    (k : ∀ H' q, Same H0 H' → H0 q = none → H' q = some (.lst ((List.range m).map fun i => argOf v0 v1 v2 (a + i))) → Same Hc H' → Q (.ref q) H') :
    tLc (iList K (tSl (rSlL K) (tVar 0) tl th)) (gName 2) tYes (tErrFld K fld (tVar 2)) [2] [some (.ref p), σ1, z] Hc Q := by
  refine ⟨_, rfl, hlo _ _ _ (hhi _ _ _ ⟨p, _, rfl, SqL.of (s _ _ hp), fun q hq => ?_⟩)⟩
  rw [hcut]
  have c1 : upd Hc q (.lst (((as.drop a).take m).map V.ref)) q = some (.lst (((as.drop a).take m).map V.ref)) := upd_same
  have s1 : Same Hc (upd Hc q (.lst (((as.drop a).take m).map V.ref))) := (Same.refl Hc).new hq
  generalize upd Hc q (.lst (((as.drop a).take m).map V.ref)) = H1 at c1 s1 ⊢
  have hlen : (((as.drop a).take m).map V.ref).length = m := by
    rw [List.length_map, List.length_take, List.length_drop, hl]
    omega
  refine ⟨q, rfl, ⟨_, SqL.of c1⟩, fun D hD => lc_list (K := K) (a := q) (xs := ((as.drop a).take m).map V.ref) (fun i H => Same H1 H ∧ H D = some (.lst ((List.range i).map fun i => argOf v0 v1 v2 (a + i))))
    ⟨(Same.refl H1).new hD, upd_same⟩ (fun i H _ h => h.1.seq (SqL.of c1)) ?_ ?_⟩
  · rintro i x H hx ⟨s2, d2⟩
    have hi : i < m := by
      have := (List.getElem?_eq_some_iff.mp hx).1
      omega
    obtain ⟨e, he, rfl⟩ : ∃ e, as[a + i]? = some e ∧ x = V.ref e := by
      rw [List.getElem?_map, List.getElem?_take_of_lt hi, List.getElem?_drop] at hx
      cases q : as[a + i]? with
      | none => rw [q] at hx; cases hx
      | some e => rw [q] at hx; exact ⟨e, rfl, (Option.some.inj hx).symm⟩
    obtain ⟨r, hr⟩ : ∃ r, errTab[a + i]? = some r := ⟨errTab[a + i]'(show a + i < 21 by omega), List.getElem?_eq_getElem (show a + i < 21 by omega)⟩
    have hf : fldOf (a + i) = r.2 := by
      unfold fldOf
      rw [List.getD_eq_getElem?_getD, hr]
      rfl
    have T := (ER.at_ (a + i) r.1 r.2 hr).2.2.2
    rw [← hf, hT i hi] at T
    have E1 := (hA _ _ he).later fun b u q => s2 b u (s1 b u (s b u q))
    rw [hT i hi] at E1
    refine ⟨rfl, ?_⟩
    refine ⟨_, rfl, e, C (a + i), _, rfl, T, E1, _, d2, ?_, ?_⟩
    · rw [List.length_map, List.length_range]
      exact Nat.lt_of_le_of_lt (show i ≤ 21 by omega) (by decide)
    · refine ⟨s2.mut (by cases e : H1 D with | none => rfl | some u => rw [e] at hD; cases hD), ?_⟩
      rw [upd_same, map_take_more (n := 0)]
  · rintro H ⟨s2, d2⟩
    rw [hlen] at d2
    have hD0 : Hc D = none := s1.free hD
    exact k H D (s.trans (s1.trans s2)) (s.free hD0) d2 (s1.trans s2)
theorem scStored : FnScope ["errors", "found", "error"] ["errors"] (defScope sStored) := ⟨rfl, rfl, rfl, by decide +kernel, rfl, by decide +kernel, by decide +kernel⟩
theorem cut0 {as : List Addr} (h : as.length = 21) : cutV (as.map V.ref) none (some (14 : Int)) = ((as.drop 0).take 14).map V.ref := by
  have e : as.map V.ref = (as.map V.ref) := rfl
  unfold cutV
  rw [List.length_map, h, HT.sIx_none, show (14 : Int) = ((14 : Nat) : Int) from rfl, HT.sIx_nat]
  rw [List.map_take, List.map_drop]
  rfl
theorem cut2 {as : List Addr} {a b : Nat} (h : as.length = 21) (ha : a ≤ 21) (hb : b ≤ 21) : cutV (as.map V.ref) (some (a : Int)) (some (b : Int)) = ((as.drop a).take (b - a)).map V.ref := by
  unfold cutV
  rw [List.length_map, h, HT.sIx_nat, HT.sIx_nat, Nat.min_eq_left ha, Nat.min_eq_left hb]
  rw [List.map_take, List.map_drop]
theorem stored_list (v0 v1 v2 : V) : ((((List.range 14).map fun i => argOf v0 v1 v2 (0 + i)) ++ ((List.range 3).map fun i => argOf v0 v1 v2 (14 + i))) ++ ((List.range 2).map fun i => argOf v0 v1 v2 (17 + i))) ++ [argOf v0 v1 v2 19, argOf v0 v1 v2 20] = (List.range 21).map (argOf v0 v1 v2) := rfl
theorem ok_stored {f : Addr} {fd0 : FuncData} (F : Fun K "_law_stored" "_law_stored" sStored f fd0) (ER : Errs P K mg C fI fd G) : FnOk P w K mg base CX0 1 f fd0 ["errors"] (spStored K C) := by
  refine F.ok scStored (fun vs H Q E h => ?_) (fun cdv A outer s H vs Q E hr h => ?_)
  · obtain ⟨p, as, v0, v1, v2, rfl, _⟩ := h
    rfl
  · obtain ⟨p, as, v0, v1, v2, rfl, hp, hl, hA, k⟩ := h
    have nd := scStored.nd
    refine ⟨_, pss_cons (ps_set (i := 1) nd rfl (Or.inl rfl) (pe_op op_cat
        (pe_lc (own := [("error", 2)]) (te := tErrFld K "value" (tVar 2)) (g := gName 2) (tt := tYes) rfl nd (pi_list (pe_slice sl_list (pv 0) po_none (po_some pe_int))) (blkOk_by (N := ["errors", "found", "error"]) (sc := defScope sStored) (by decide +kernel)) (fun _ _ _ _ _ => pg_name (i := 2) nd rfl (Or.inl rfl)) (fun _ _ _ _ _ => pts_nil) (fun _ _ _ _ _ => by exact (pe_errFld (fld := "value") (pv 2))))
        (pe_lc (own := [("error", 2)]) (te := tErrFld K "name" (tVar 2)) (g := gName 2) (tt := tYes) rfl nd (pi_list (pe_slice sl_list (pv 0) (po_some pe_int) (po_some pe_int))) (blkOk_by (N := ["errors", "found", "error"]) (sc := defScope sStored) (by decide +kernel)) (fun _ _ _ _ _ => pg_name (i := 2) nd rfl (Or.inl rfl)) (fun _ _ _ _ _ => pts_nil) (fun _ _ _ _ _ => by exact (pe_errFld (fld := "name") (pv 2))))))
      (pss_one (ps_ret (pe_op op_cat (pe_op op_cat (pv 1)
        (pe_lc (own := [("error", 2)]) (te := tErrFld K "position" (tVar 2)) (g := gName 2) (tt := tYes) rfl nd (pi_list (pe_slice sl_list (pv 0) (po_some pe_int) (po_some pe_int))) (blkOk_by (N := ["errors", "found", "error"]) (sc := defScope sStored) (by decide +kernel)) (fun _ _ _ _ _ => pg_name (i := 2) nd rfl (Or.inl rfl)) (fun _ _ _ _ _ => pts_nil) (fun _ _ _ _ _ => by exact (pe_errFld (fld := "position") (pv 2)))))
        (pe_lst (pa_cons (pe_errFld (fld := "count") (pe_ix ix_list (pv 0) pe_int (fun _ _ => rfl))) (pa_cons (pe_errFld (fld := "line") (pe_ix ix_list (pv 0) pe_int (fun _ _ => rfl))) pa_nil)))))), ?_⟩
    have s0 := Same.refl H
    walk_at "rd"
    refine lc_errs (fld := "value") (a := 0) (m := 14) ER s0 hp hA hl (by decide) (by decide) (cut0 hl) (fun _ _ _ q => q) (fun _ _ _ q => ⟨_, rfl, q⟩) fun H1 q1 s1 n1 c1 _ => ?_
    walk_at "rd"
    refine lc_errs (fld := "name") (a := 14) (m := 3) ER s1 hp hA hl (by decide) (by decide) (cut2 (a := 14) (b := 17) hl (by decide) (by decide)) (fun _ _ _ q => ⟨_, rfl, q⟩) (fun _ _ _ q => ⟨_, rfl, q⟩) fun H2 q2 s2 n2 c2 t2 => ?_
    refine ⟨q1, q2, _, _, rfl, rfl, t2 _ _ c1, c2, by simp; decide, fun q3 h3 => ?_⟩
    generalize hG : upd H2 q3 _ = H3
    have c3 : H3 q3 = some (.lst (((List.range 14).map fun i => argOf v0 v1 v2 (0 + i)) ++ ((List.range 3).map fun i => argOf v0 v1 v2 (14 + i)))) := by rw [← hG]; exact upd_same
    have s3 : Same H H3 := by rw [← hG]; exact s2.new h3
    clear hG
    walk_at "rd"
    refine lc_errs (fld := "position") (a := 17) (m := 2) ER s3 hp hA hl (by decide) (by decide) (cut2 (a := 17) (b := 19) hl (by decide) (by decide)) (fun _ _ _ q => ⟨_, rfl, q⟩) (fun _ _ _ q => ⟨_, rfl, q⟩) fun H4 q4 s4 n4 c4 t4 => ?_
    refine ⟨q3, q4, _, _, rfl, rfl, t4 _ _ c3, c4, by simp; decide, fun q5 h5 => ?_⟩
    generalize hG : upd H4 q5 _ = H5
    have c5 : H5 q5 = some (.lst ((((List.range 14).map fun i => argOf v0 v1 v2 (0 + i)) ++ ((List.range 3).map fun i => argOf v0 v1 v2 (14 + i))) ++ ((List.range 2).map fun i => argOf v0 v1 v2 (17 + i)))) := by rw [← hG]; exact upd_same
    have s5 : Same H H5 := by rw [← hG]; exact s4.new h5
    clear hG
    have at19 : as[19]? = some (as[19]'(by omega)) := List.getElem?_eq_getElem (by omega)
    have at20 : as[20]? = some (as[20]'(by omega)) := List.getElem?_eq_getElem (by omega)
    have i19 : atI (as.map V.ref) 19 = some (V.ref (as[19]'(by omega))) := at_of (j := 19) rfl (by rw [List.getElem?_map, at19]; rfl)
    have i20 : atI (as.map V.ref) 20 = some (V.ref (as[20]'(by omega))) := at_of (j := 20) rfl (by rw [List.getElem?_map, at20]; rfl)
    refine ⟨_, rfl, p, _, _, _, rfl, rfl, SqL.of (s5 _ _ hp), i19, _, C 19, _, rfl, (ER.at_ 19 _ _ rfl).2.2.2, (hA 19 _ at19).later s5, ?_⟩
    refine ⟨_, rfl, p, _, _, _, rfl, rfl, SqL.of (s5 _ _ hp), i20, _, C 20, _, rfl, (ER.at_ 20 _ _ rfl).2.2.2, (hA 20 _ at20).later s5, ?_⟩
    refine ⟨Nat.le_trans (show 2 ≤ 1000 by decide) (by decide), fun q6 h6 => ?_⟩
    refine ⟨q5, q6, _, _, rfl, rfl, by rw [upd_ne (ne_of_none c5 h6)]; exact c5, upd_same, by simp; decide, fun q7 h7 => ?_⟩
    have s6 := s5.new (o := .lst [argOf v0 v1 v2 19, argOf v0 v1 v2 20]) h6
    exact k _ q7 (s6.new h7) (s6.free h7) (by rw [stored_list]; exact upd_same)
end
end Gk
/-! ### the thing that the errors hold, and its text -/
namespace Gk
open PySem PySem.W PySem.Spec PyProof.Rows L2 NdefX
def thingD (k n : Nat) : PyData := match k with
  | 0 => .list (.int 5 :: List.replicate n (.int 0))
  | 1 => .list (.str "a" :: .none :: List.replicate n (.int 0))
  | 2 => .list (.list [] :: List.replicate n (.int 0))
  | _ => .dict [(.str "a", .int 1)]
inductive ThingAt (H : Hp) (t : Addr) : Nat → Nat → Prop
  | five (n : Nat) : H t = some (.lst (V.int 5 :: List.replicate n (V.int 0))) → ThingAt H t 0 n
  | two (n : Nat) : H t = some (.lst (V.str "a" :: V.non :: List.replicate n (V.int 0))) → ThingAt H t 1 n
  | nest (n : Nat) (e : Addr) : H e = some (.lst []) → e ≠ t → H t = some (.lst (V.ref e :: List.replicate n (V.int 0))) → ThingAt H t 2 n
  | dic (n : Nat) : H t = some (.dK [(Sum.inr "a", .int 1)]) → ThingAt H t 3 n
theorem ThingAt.later {H H' : Hp} {t : Addr} {k n : Nat} (h : ThingAt H t k n) (s : Same H H') : ThingAt H' t k n := by
  cases h with
  | five n h => exact .five n (s _ _ h)
  | two n h => exact .two n (s _ _ h)
  | nest n e h1 h2 h3 => exact .nest n e (s _ _ h1) h2 (s _ _ h3)
  | dic n h => exact .dic n (s _ _ h)
theorem rep_more {n : Nat} {v : V} : List.replicate n v ++ [v] = List.replicate (n + 1) v := by rw [List.replicate_succ']
theorem rep_cons {n : Nat} {x v : V} : (x :: List.replicate n v) ++ [v] = x :: List.replicate (n + 1) v := by rw [List.cons_append, rep_more]
/-- thing.append(0) -/
theorem ThingAt.app {H : Hp} {t : Addr} {k n : Nat} (h : ThingAt H t k n) (hk : k < 3) : ∃ xs, H t = some (.lst xs) ∧ xs.length ≤ n + 2 ∧ ThingAt (upd H t (.lst (xs ++ [V.int 0]))) t k (n + 1) := by
  cases h with
  | five n h => exact ⟨_, h, by simp, .five (n + 1) (by rw [upd_same, rep_cons])⟩
  | two n h => exact ⟨_, h, by simp, .two (n + 1) (by rw [upd_same, List.cons_append, rep_cons])⟩
  | nest n e h1 h2 h3 => exact ⟨_, h3, by simp, .nest (n + 1) e (by rw [upd_ne h2]; exact h1) h2 (by rw [upd_same, rep_cons])⟩
  | dic n h => omega
theorem dpAll_rep {K : Frag} {H : Hp} : ∀ n : Nat, DpAll K H (List.replicate n (V.int 0)) (List.replicate n (PyData.int 0))
  | 0 => .nil
  | n + 1 => .cons (.int 0) (dpAll_rep n)
theorem noD_rep : ∀ n : Nat, PyData.hasDictAll (List.replicate n (PyData.int 0)) = false
  | 0 => rfl
  | n + 1 => by rw [List.replicate_succ]; simp only [PyData.hasDictAll, PyData.hasDict, noD_rep n, Bool.or_self]
theorem ThingAt.dq {K : Frag} {H : Hp} {t : Addr} {k n : Nat} (h : ThingAt H t k n) : Dq K H (.ref t) (thingD k n) := by
  cases h with
  | five n h => exact .dat (.lst (SqL.of h) (.cons (.int 5) (dpAll_rep n))) (by simp only [thingD, PyData.hasDict, PyData.hasDictAll, noD_rep, Bool.or_self])
  | two n h => exact .dat (.lst (SqL.of h) (.cons (.str "a") (.cons .non (dpAll_rep n)))) (by simp only [thingD, PyData.hasDict, PyData.hasDictAll, noD_rep, Bool.or_self])
  | nest n e h1 h2 h3 => exact .dat (.lst (SqL.of h3) (.cons (.lst (SqL.of h1) .nil) (dpAll_rep n))) (by simp only [thingD, PyData.hasDict, PyData.hasDictAll, noD_rep, Bool.or_self])
  | dic n h => exact .dic h
theorem ThingAt.lt {H : Hp} {t : Addr} {k n : Nat} (h : ThingAt H t k n) : k < 4 := by cases h <;> decide
/-- isinstance(thing, list) -/
theorem ThingAt.isi {K : Frag} {H : Hp} {t : Addr} {k n : Nat} {Q : VK} (h : ThingAt H t k n) (q : Q (.bl (decide (k < 3))) H) : rIsi K [.ref t, .ty "list"] H Q := by
  cases h with
  | five n h => exact ⟨_, _, _, _, _, rfl, .ty "list", .base (.lst h), kit_ty (by decide +kernel), q⟩
  | two n h => exact ⟨_, _, _, _, _, rfl, .ty "list", .base (.lst h), kit_ty (by decide +kernel), q⟩
  | nest n e h1 h2 h3 => exact ⟨_, _, _, _, _, rfl, .ty "list", .base (.lst h3), kit_ty (by decide +kernel), q⟩
  | dic n h => exact ⟨_, _, _, _, _, rfl, .ty "list", .base (.dK h), kit_ty (by decide +kernel), q⟩
def allV (v0 v1 v2 : V) : List V := [v0, v0, v0, v0, v0, v0, v0, v0, v0, v0, v0, v0, v0, v0, v1, v1, v1, v2, v2, v2, v2]
def allD (d0 d1 d2 : PyData) : List PyData := [d0, d0, d0, d0, d0, d0, d0, d0, d0, d0, d0, d0, d0, d0, d1, d1, d1, d2, d2, d2, d2]
theorem all_is (v0 v1 v2 : V) : (List.range 21).map (argOf v0 v1 v2) = allV v0 v1 v2 := rfl
theorem all_rep (v0 v1 v2 : V) : ((List.replicate (14 : Int).toNat [v0]).flatten ++ (List.replicate (3 : Int).toNat [v1]).flatten) ++ (List.replicate (4 : Int).toNat [v2]).flatten = allV v0 v1 v2 := rfl
theorem paired_all {F : V → PyData → Prop} {v0 v1 v2 : V} {d0 d1 d2 : PyData} (h0 : F v0 d0) (h1 : F v1 d1) (h2 : F v2 d2) : Paired F (allV v0 v1 v2) (allD d0 d1 d2) :=
  .cons h0 (.cons h0 (.cons h0 (.cons h0 (.cons h0 (.cons h0 (.cons h0 (.cons h0 (.cons h0 (.cons h0 (.cons h0 (.cons h0 (.cons h0 (.cons h0 (.cons h1 (.cons h1 (.cons h1 (.cons h2 (.cons h2 (.cons h2 (.cons h2 .nil))))))))))))))))))))
def thingOk (k n : Nat) : Bool := (thingD k n).showable && decide ((thingD k n).depth ≤ 30) && decide ((thingD k n).shown.length ≤ 100)
theorem thing_ok : ∀ k < 4, ∀ n < 3, thingOk k n = true := by decide +kernel
def strOk (x : Str) : Bool := decide ((PyData.str x).depth ≤ 30) && decide ((PyData.str x).shown.length ≤ 100)
theorem word_ok : ∀ x ∈ (["a", "low", "abcdefgh"] : List Str), strOk x = true := by decide +kernel
def intOk (i : Int) : Bool := (PyData.int i).showable && decide ((PyData.int i).depth ≤ 30) && decide ((PyData.int i).shown.length ≤ 100)
theorem many_ok0 : ∀ i < 40, intOk ((i : Nat) : Int) = true := by decide +kernel
theorem many_ok {m : Int} (h0 : 0 ≤ m) (h1 : m < 40) : intOk m = true := by
  have := many_ok0 m.toNat (by omega)
  rwa [show ((m.toNat : Nat) : Int) = m by omega] at this
theorem all_text {d0 d1 d2 : PyData} (h0 : d0.shown.length ≤ 100) (h1 : d1.shown.length ≤ 100) (h2 : d2.shown.length ≤ 100) : (listText (PyData.shownAll (allD d0 d1 d2))).length ≤ sizeLine := by
  refine Nat.le_trans (listText_len_le _) ?_
  have e : ((PyData.shownAll (allD d0 d1 d2)).map (·.length)).sum + 2 * (PyData.shownAll (allD d0 d1 d2)).length + 3 ≤ 5000 := by
    simp only [allD, PyData.shownAll, List.map_cons, List.map_nil, List.sum_cons, List.sum_nil, List.length_cons, List.length_nil]
    omega
  exact Nat.le_trans e (by decide)
theorem all_show {d0 d1 d2 : PyData} (h0 : d0.showable = true) (h1 : d1.showable = true) (h2 : d2.showable = true) : PyData.showableAll (allD d0 d1 d2) = true := by
  simp only [allD, PyData.showableAll, h0, h1, h2, Bool.and_self]
theorem all_depth {d0 d1 d2 : PyData} (h0 : d0.depth ≤ 30) (h1 : d1.depth ≤ 30) (h2 : d2.depth ≤ 30) : PyData.depthAll (allD d0 d1 d2) ≤ 40 := by
  simp only [allD, PyData.depthAll]
  omega
/-- repr of such a list -/
theorem repr_all {K : Frag} {H : Hp} {p t : Addr} {k n : Nat} {x : Str} {m : Int} {Q : VK} (hp : H p = some (.lst (allV (.ref t) (.str x) (.int m)))) (hT : ThingAt H t k n) (hn : n < 3) (hx : x ∈ (["a", "low", "abcdefgh"] : List Str)) (h0 : 0 ≤ m) (h1 : m < 40)
    (q : Q (.str (listText (PyData.shownAll (allD (thingD k n) (.str x) (.int m))))) H) : rReprL K [.ref p] H Q := by
  have a1 := thing_ok k hT.lt n hn
  have a2 := word_ok x hx
  have a3 := many_ok h0 h1
  simp only [thingOk, strOk, intOk, Bool.and_eq_true, decide_eq_true_eq] at a1 a2 a3
  refine ⟨p, _, allD (thingD k n) (.str x) (.int m), rfl, SqL.of hp, by simp [allV], paired_all hT.dq (.dat (.str x) rfl) (.dat (.int m) rfl), all_show a1.1.1 rfl a3.1.1, all_depth a1.1.2 a2.1 a3.1.2, all_text a1.2 a2.2 a3.2, q⟩
end Gk
/-! ### one turn of the law over one error -/
namespace Gk
open PySem PySem.W PySem.Spec PyProof.Rows L2 NdefX
abbrev tKind (K : Frag) (C : Nat → Addr) (G : Addr) : TS := tSeq
  (tIfS (tOr (tNot (tB (tCB (rErrIs K) (tCons (tVar 8) (tCons (tC (.ref G)) tNil))))) (tNot (tB (tCB (rErrIs K) (tCons (tVar 8) (tCons (tC (.ty "ValueError")) tNil)))))) (tRet (tC (.bl false))) tNext)
  (tIfS (tTest (tOp (rNeD K) (tCall (spKinds C) [] E0 (tCons (tVar 8) tNil)) (tLc (iRng1 (tCons (tC (.int 21)) tNil)) (gName 9) tYes (tOp rEq (tVar 9) (tVar 7)) [9]))) (tRet (tC (.bl false))) tNext)
def kindsD (j : Nat) : PyData := .list ((List.range 21).map fun i => .bool (decide (i = j)))
theorem kindsD_eqv : ∀ j < 21, PyData.eqv (kindsD j) (kindsD j) = true := by decide +kernel
theorem kindsD_shaped : ∀ j < 21, SeqAt.shaped (kindsD j) = true := by decide +kernel
theorem dpAll_bools {K : Frag} {H : Hp} {j : Nat} : ∀ l : List Nat, DpAll K H (l.map fun i => V.bl (decide (i = j))) (l.map fun i => PyData.bool (decide (i = j)))
  | [] => .nil
  | _ :: l => .cons (.bl _) (dpAll_bools l)
section
variable {P : Program} {K : Frag} {mg : Str → Option Value} {C fI : Nat → Addr} {fd : Nat → FuncData} {G : Addr}
theorem kind_turn {s0 s1 s2 s3 s4 s5 s6 s9 : Option V} {H : Hp} {e : Addr} {j : Nat} {v : V} {D : Ends} (ER : Errs P K mg C fI fd G) (hj : j < 21) (hA : ErrAt (C j) (fldOf j) H e v)
    (k : ∀ H' v9, Same H H' → D.nx [s0, s1, s2, s3, s4, s5, s6, some (.int (j : Nat)), some (.ref e), v9] H') :
    tKind K C G D [s0, s1, s2, s3, s4, s5, s6, some (.int (j : Nat)), some (.ref e), s9] H := by
  obtain ⟨⟨x, fld⟩, hx⟩ : ∃ r, errTab[j]? = some r := ⟨errTab[j]'hj, List.getElem?_eq_getElem hj⟩
  have T := (ER.at_ j x fld hx).2.2.2.xc
  walk_at "rd"
  refine ⟨_, _, _, _, _, _, true, rfl, fun u r => r, T, hA, ER.kitG j hj, _, rfl, ?_⟩
  simp only [Bool.not_true, Bool.false_eq_true, if_false]
  walk_at "rd"
  refine ⟨_, _, _, _, _, _, true, rfl, fun u r => r, T, hA, ER.kitV j hj, _, rfl, ?_⟩
  simp only [Bool.not_true, Bool.false_eq_true, if_false]
  walk_at "rd"
  refine ⟨e, j, v, rfl, hj, hA, fun H1 p q1 n1 c1 => ?_⟩
  refine ⟨_, rfl, by decide, by decide, fun Dl hD => ?_⟩
  refine lc_range (lo := 0) (n := 21) (fun i H2 => Same H1 H2 ∧ H2 Dl = some (.lst ((List.range i).map fun i => V.bl (decide (i = j))))) ⟨(Same.refl H1).new hD, upd_same⟩ ?_ ?_
  · rintro i H2 hi ⟨q2, c2⟩
    walk_at "rd"
    refine ⟨rfl, ?_⟩
    show tOp rEq (tVar 9) (tVar 7) _ H2 _
    walk_at "rd"
    refine ⟨rfl, _, c2, by rw [List.length_map, List.length_range]; exact Nat.lt_of_le_of_lt (show i ≤ 21 by omega) (by decide), q2.mut hD, ?_⟩
    rw [upd_same, map_take_more (n := 0)]
    have e1 : decide (V.int (0 + (i : Int)) = V.int (j : Nat)) = decide (i = j) := by
      rw [decide_eq_decide]
      constructor
      · intro h
        have := V.int.inj h
        omega
      · rintro rfl
        congr 1
        omega
    rw [e1]
  · rintro H2 ⟨q2, c2⟩
    refine ⟨kindsD j, kindsD j, .lst (SqL.of (q2 _ _ c1)) (dpAll_bools _), .lst (SqL.of c2) (dpAll_bools _), kindsD_shaped j hj, kindsD_shaped j hj, _, rfl, ?_⟩
    rw [kindsD_eqv j hj]
    exact k H2 _ (q1.trans q2)
abbrev tEach (K : Frag) (C : Nat → Addr) (G : Addr) : TS := tSeq
  (tFor (iEnum K (tCons (tVar 6) tNil)) (gTup K 2 (gCons (gName 7) (gCons (gName 8) gNil))) (tKind K C G))
  (tSeq (tIfS (tB (tCB (rIsi K) (tCons (tVar 3) (tCons (tC (.ty "list")) tNil)))) (tDrop (tBM K "list" rAppend (tVar 3) (tCons (tC (.int 0)) tNil))) tNext)
    (tIfS (tTest (tOp rNe (tCB (rReprL K) (tCons (tCall (spStored K C) [] E0 (tCons (tVar 6) tNil)) tNil))
      (tCB (rReprL K) (tCons (tOp rCat (tOp rCat (tOp rRep (tLst (tCons (tVar 3) tNil)) (tC (.int 14))) (tOp rRep (tLst (tCons (tVar 4) tNil)) (tC (.int 3)))) (tOp rRep (tLst (tCons (tVar 5) tNil)) (tC (.int 4)))) tNil))))
      (tRet (tC (.bl false))) tNext))
theorem rep_reads {te : TE} {σ : L2.St} {H0 H : Hp} {y : V} {n : Int} {Q : VK} (s : Same H0 H) (hy : ∀ Q : VK, Q y H → te σ H Q) (h0 : 0 ≤ n) (h1 : n ≤ 1000) (k : ∀ H' q, Same H H' → Same H0 H' → H' q = some (.lst (List.replicate n.toNat [y]).flatten) → Q (.ref q) H') :
    tOp rRep (tLst (tCons te tNil)) (tC (.int n)) σ H Q := by
  refine hy _ ⟨Nat.le_trans (show 1 ≤ 1000 by decide) (by decide), fun p hp => ?_⟩
  have s1 : Same H (upd H p (.lst [y])) := (Same.refl H).new hp
  refine ⟨p, n, [y], rfl, rfl, upd_same, by omega, by omega, Nat.le_trans (show 1 * n.toNat ≤ 1000 by omega) (by decide), fun q hq => ?_⟩
  have s2 := s1.new (o := .lst (List.replicate n.toNat [y]).flatten) hq
  exact k _ q s2 (s.trans s2) upd_same
theorem cat_vals {l b : Addr} {xs zs : List V} {H : Hp} {Q : VK} (hl : H l = some (.lst xs)) (hb : H b = some (.lst zs)) (hz : xs.length + zs.length ≤ 1000) (k : ∀ H' q, Same H H' → H' q = some (.lst (xs ++ zs)) → Q (.ref q) H') : rCat (.ref l) (.ref b) H Q :=
  ⟨l, b, xs, zs, rfl, rfl, hl, hb, Nat.le_trans hz (by decide), fun p hp => k _ p ((Same.refl H).new hp) upd_same⟩
/-- what stands while the law asks a list of errors -/
structure Stand (C : Nat → Addr) (H : Hp) (t p : Addr) (k n : Nat) (x : Str) (m : Int) (as : List Addr) : Prop where
  thing : ThingAt H t k n
  lst : H p = some (.lst (as.map V.ref))
  len : as.length = 21
  ne : p ≠ t
  each : ∀ i a, as[i]? = some a → ErrAt (C i) (fldOf i) H a (argOf (.ref t) (.str x) (.int m) i)
theorem Stand.later {H H' : Hp} {t p : Addr} {k n : Nat} {x : Str} {m : Int} {as : List Addr} (h : Stand C H t p k n x m as) (s : Same H H') : Stand C H' t p k n x m as :=
  ⟨h.thing.later s, s _ _ h.lst, h.len, h.ne, fun i a e => (h.each i a e).later s⟩
theorem Stand.app {H : Hp} {t p : Addr} {k n : Nat} {x : Str} {m : Int} {as : List Addr} {xs : List V} {n' : Nat} {o : HO} (h : Stand C H t p k n x m as) (ht : H t = some (.lst xs)) (hT : ThingAt (upd H t o) t k n') : Stand C (upd H t o) t p k n' x m as :=
  ⟨hT, by rw [upd_ne h.ne]; exact h.lst, h.len, h.ne, fun i a e => (h.each i a e).set ht⟩
theorem each_turn {s0 s1 s2 s7 s8 s9 : Option V} {H : Hp} {t p : Addr} {kk n : Nat} {x : Str} {m : Int} {as : List Addr} {D : Ends} (ER : Errs P K mg C fI fd G) (S : Stand C H t p kk n x m as) (hn : n < 2) (hx : x ∈ (["a", "low", "abcdefgh"] : List Str)) (h0 : 0 ≤ m) (h1 : m < 40)
    (k : ∀ H' v7 v8 v9 n', (∀ b u, b ≠ t → H b = some u → H' b = some u) → n' ≤ n + 1 → ThingAt H' t kk n' → D.nx [s0, s1, s2, some (.ref t), some (.str x), some (.int m), some (.ref p), v7, v8, v9] H') :
    tEach K C G D [s0, s1, s2, some (.ref t), some (.str x), some (.int m), some (.ref p), s7, s8, s9] H := by
  refine rd_seq ?_
  walk_at "rd"
  refine ⟨_, rfl, p, as.map V.ref, rfl, SqL.of S.lst, ?_⟩
  refine for_it (walk_enum (xs := as.map V.ref)) (fun i σ H' => ∃ v7 v8 v9, σ = [s0, s1, s2, some (.ref t), some (.str x), some (.int m), some (.ref p), v7, v8, v9] ∧ Same H H') ⟨_, _, _, rfl, Same.refl H⟩ ?_ ?_ ?_
  · rintro i σ H' _ ⟨v7, v8, v9, rfl, q⟩
    exact SqL.of (q _ _ S.lst)
  · rintro i y σ H1 H2 hi ⟨v7, v8, v9, rfl, q⟩ ⟨T, y1, y2, rfl, hT, rfl, e1, e2⟩
    obtain ⟨a, ha, rfl⟩ : ∃ a, as[i]? = some a ∧ y2 = V.ref a := by
      have e2 : (as.map V.ref)[i]? = some y2 := e2
      rw [List.getElem?_map] at e2
      cases q : as[i]? with
      | none => rw [q] at e2; cases e2
      | some e => rw [q] at e2; exact ⟨e, rfl, (Option.some.inj e2).symm⟩
    obtain rfl := Option.some.inj e1
    have q2 : Same H (upd H1 T (.tup [V.int (i : Nat), V.ref a])) := q.new hT
    have c2 : upd H1 T (.tup [V.int (i : Nat), V.ref a]) T = some (.tup [V.int (i : Nat), V.ref a]) := upd_same
    generalize upd H1 T (.tup [V.int (i : Nat), V.ref a]) = H3 at q2 c2 ⊢
    refine ⟨T, _, rfl, SqT.of c2, rfl, _, _, rfl, _, _, rfl, rfl, ?_⟩
    show tKind K C G _ [s0, s1, s2, some (.ref t), some (.str x), some (.int m), some (.ref p), some (.int (i : Nat)), some (.ref a), v9] H3
    have hi' : i < 21 := by
      have := (List.getElem?_eq_some_iff.mp ha).1
      have := S.len
      omega
    exact kind_turn ER hi' ((S.each i a ha).later q2) fun H4 v9 q4 => ⟨_, _, _, rfl, q2.trans q4⟩
  · rintro σ H1 ⟨v7, v8, v9, rfl, q⟩
    have S1 := S.later q
    have fin : ∀ H2 n', (∀ b u, b ≠ t → H b = some u → H2 b = some u) → n' ≤ n + 1 → Stand C H2 t p kk n' x m as → (tIfS (tTest (tOp rNe (tCB (rReprL K) (tCons (tCall (spStored K C) [] E0 (tCons (tVar 6) tNil)) tNil))
      (tCB (rReprL K) (tCons (tOp rCat (tOp rCat (tOp rRep (tLst (tCons (tVar 3) tNil)) (tC (.int 14))) (tOp rRep (tLst (tCons (tVar 4) tNil)) (tC (.int 3)))) (tOp rRep (tLst (tCons (tVar 5) tNil)) (tC (.int 4)))) tNil))))
      (tRet (tC (.bl false))) tNext) D [s0, s1, s2, some (.ref t), some (.str x), some (.int m), some (.ref p), v7, v8, v9] H2 := by
      intro H2 n' far hn' S2
      walk_at "rd"
      refine ⟨p, as, .ref t, .str x, .int m, rfl, S2.lst, S2.len, S2.each, fun H3 r q3 nr c3 => ?_⟩
      refine rd_nil ?_
      refine repr_all (by rw [← all_is]; exact c3) (S2.later q3).thing (by omega) hx h0 h1 ?_
      refine rd_cb (rd_cons ?_)
      refine rep_reads (Same.refl H3) (fun Q q => ⟨_, rfl, q⟩) (by decide) (by decide) fun H4 u1 q4 _ c4 => ?_
      refine rep_reads q4 (fun Q q => ⟨_, rfl, q⟩) (by decide) (by decide) fun H5 u2 t5 q5 c5 => ?_
      refine cat_vals (t5 _ _ c4) c5 (by simp) fun H6 u3 q6 c6 => ?_
      refine rep_reads (q5.trans q6) (fun Q q => ⟨_, rfl, q⟩) (by decide) (by decide) fun H7 u4 t7 q7 c7 => ?_
      refine cat_vals (t7 _ _ c6) c7 (by simp) fun H8 u5 q8 c8 => ?_
      have s8 : Same H2 H8 := q3.trans (q7.trans q8)
      refine rd_nil ?_
      refine repr_all (by rw [← all_rep]; exact c8) (S2.later s8).thing (by omega) hx h0 h1 ?_
      refine ⟨rfl, _, rfl, ?_⟩
      rw [decide_eq_true rfl]
      exact k H8 _ _ _ n' (fun b u e q => s8 b u (far b u e q)) hn' (S2.later s8).thing
    walk_at "rd"
    refine S1.thing.isi ⟨_, rfl, ?_⟩
    by_cases hk : kk < 3
    · rw [decide_eq_true hk]
      obtain ⟨xs, hxs, hlen, hT⟩ := S1.thing.app hk
      have S2 := S1.app hxs hT
      have far : ∀ b u, b ≠ t → H b = some u → upd H1 t (.lst (xs ++ [V.int 0])) b = some u := fun b u e z => by
        rw [upd_ne e]
        exact q b u z
      refine ⟨_, rfl, .inl ⟨rfl, _, SqL.of hxs⟩, t, xs, _, rfl, rfl, hxs, Nat.lt_of_le_of_lt (show xs.length ≤ 10 by omega) (by decide), ?_⟩
      exact fin _ (n + 1) far (Nat.le_refl _) S2
    · rw [decide_eq_false hk]
      exact fin H1 n (fun b u _ e => q b u e) (Nat.le_succ _) S1
/-! ### the two lists of errors -/
theorem ThingAt.ne {H : Hp} {t a : Addr} {k n : Nat} {o : HO} (h : ThingAt H t k n) (ha : H a = some o) (h1 : ∀ xs, o ≠ .lst xs) (h2 : ∀ ks, o ≠ .dK ks) : a ≠ t := by
  rintro rfl
  cases h with
  | five n h => exact h1 _ (Option.some.inj (ha.symm.trans h))
  | two n h => exact h1 _ (Option.some.inj (ha.symm.trans h))
  | nest n e _ _ h => exact h1 _ (Option.some.inj (ha.symm.trans h))
  | dic n h => exact h2 _ (Option.some.inj (ha.symm.trans h))
theorem ErrAt.far {C : Addr} {fld : Str} {H H' : Hp} {a t : Addr} {v : V} {k n : Nat} (e : ErrAt C fld H a v) (T : ThingAt H t k n) (far : ∀ b u, b ≠ t → H b = some u → H' b = some u) : ErrAt C fld H' a v := by
  obtain ⟨d, h1, h2⟩ := e.ob
  exact ⟨d, far _ _ (T.ne h1 (fun xs => exo_lst) (fun ks z => by have z' : HO.ext _ = HO.dK ks := z; cases z')) h1, far _ _ (T.ne h2 (fun xs => exd_lst) (fun ks z => by have z' : HO.ext _ = HO.dK ks := z; cases z')) h2⟩
theorem Stand.far {H H' : Hp} {t p : Addr} {k n n' k' : Nat} {x : Str} {m : Int} {as : List Addr} (h : Stand C H t p k n x m as) (T : ThingAt H' t k n') (far : ∀ b u, b ≠ t → H b = some u → H' b = some u) : Stand C H' t p k n' x m as :=
  ⟨T, far _ _ h.ne h.lst, h.len, h.ne, fun i a e => (h.each i a e).far h.thing far⟩
abbrev tBoth (K : Frag) (C : Nat → Addr) (G : Addr) : TS := tFor
  (iList K (tLst (tCons (tCall (spMake C) [] E0 (tCons (tVar 3) (tCons (tVar 4) (tCons (tVar 5) tNil)))) (tCons (tCall (spMake C) [] E0 (tCons (tVar 3) (tCons (tVar 4) (tCons (tVar 5) tNil)))) tNil))))
  (gName 6) (tEach K C G)
theorem Made.stand {H H' : Hp} {t p : Addr} {k n : Nat} {x : Str} {m : Int} {as : List Addr} (M : Made C (.ref t) (.str x) (.int m) H H' as) (T : ThingAt H t k n) (hl : as.length = 21) (np : H p = none) (hp : H' p = some (.lst (as.map V.ref))) : Stand C H' t p k n x m as := by
  refine ⟨T.later M.same, hp, hl, ?_, M.at_⟩
  rintro rfl
  cases T with
  | five n h => rw [h] at np; cases np
  | two n h => rw [h] at np; cases np
  | nest n e _ _ h => rw [h] at np; cases np
  | dic n h => rw [h] at np; cases np
theorem both_turn {s0 s1 s2 s6 s7 s8 s9 : Option V} {H0 H : Hp} {t : Addr} {kk : Nat} {x : Str} {m : Int} {D : Ends} (ER : Errs P K mg C fI fd G) (q0 : Same H0 H) (nt : H0 t = none) (T : ThingAt H t kk 0) (hx : x ∈ (["a", "low", "abcdefgh"] : List Str)) (h0 : 0 ≤ m) (h1 : m < 40)
    (k : ∀ H' v6 v7 v8 v9, Same H0 H' → D.nx [s0, s1, s2, some (.ref t), some (.str x), some (.int m), v6, v7, v8, v9] H') :
    tBoth K C G D [s0, s1, s2, some (.ref t), some (.str x), some (.int m), s6, s7, s8, s9] H := by
  refine ⟨_, rfl, _, rfl, _, rfl, .ref t, .str x, .int m, rfl, fun H1 p1 as1 M1 l1 n1 c1 => ?_⟩
  have S1 := M1.stand T l1 n1 c1
  refine ⟨_, rfl, _, rfl, _, rfl, .ref t, .str x, .int m, rfl, fun H2 p2 as2 M2 l2 n2 c2 => ?_⟩
  have S2 := M2.stand S1.thing l2 n2 c2
  have S1 := S1.later M2.same
  refine ⟨Nat.le_trans (show 2 ≤ 1000 by decide) (by decide), fun l hl => ?_⟩
  have q3 : Same H2 (upd H2 l (.lst [.ref p1, .ref p2])) := (Same.refl H2).new hl
  have S1 := S1.later q3
  have S2 := S2.later q3
  have q4 : Same H0 (upd H2 l (.lst [.ref p1, .ref p2])) := q0.trans (M1.same.trans (M2.same.trans q3))
  have c3 : upd H2 l (.lst [.ref p1, .ref p2]) l = some (.lst [.ref p1, .ref p2]) := upd_same
  have nl : l ≠ t := by
    rintro rfl
    have T2 := T.later (M1.same.trans M2.same)
    cases T2 with
    | five n h => rw [h] at hl; cases hl
    | two n h => rw [h] at hl; cases hl
    | nest n e _ _ h => rw [h] at hl; cases hl
    | dic n h => rw [h] at hl; cases hl
  generalize upd H2 l (.lst [.ref p1, .ref p2]) = H3 at q3 q4 c3 S1 S2 ⊢
  refine ⟨l, rfl, ⟨_, SqL.of c3⟩, ?_⟩
  refine for_list (K := K) (a := l) (xs := [.ref p1, .ref p2]) (fun i σ H' => ∃ v6 v7 v8 v9 n', σ = [s0, s1, s2, some (.ref t), some (.str x), some (.int m), v6, v7, v8, v9] ∧ Same H0 H' ∧ H' l = some (.lst [.ref p1, .ref p2]) ∧ n' ≤ i ∧ Stand C H' t p1 kk n' x m as1 ∧ Stand C H' t p2 kk n' x m as2)
    ⟨_, _, _, _, 0, rfl, q4, c3, Nat.le_refl _, S1, S2⟩ ?_ ?_ ?_
  · rintro i σ H' _ ⟨v6, v7, v8, v9, n', rfl, _, e, _⟩
    exact SqL.of e
  · rintro i y σ H' hi ⟨v6, v7, v8, v9, n', rfl, qa, ca, hn, Sa, Sb⟩
    have nx : ∀ H'' v6 v7 v8 v9 n'', (∀ b u, b ≠ t → H' b = some u → H'' b = some u) → n'' ≤ n' + 1 → ThingAt H'' t kk n'' →
        ∃ w6 w7 w8 w9 n1, [s0, s1, s2, some (.ref t), some (.str x), some (.int m), v6, v7, v8, v9] = [s0, s1, s2, some (.ref t), some (.str x), some (.int m), w6, w7, w8, w9] ∧ Same H0 H'' ∧ H'' l = some (.lst [.ref p1, .ref p2]) ∧ n1 ≤ i + 1 ∧ Stand C H'' t p1 kk n1 x m as1 ∧ Stand C H'' t p2 kk n1 x m as2 :=
      fun H'' v6 v7 v8 v9 n'' far hn' T' => ⟨v6, v7, v8, v9, n'', rfl, fun b u e => far b u (ne_of_none e nt) (qa b u e), far _ _ nl ca, by omega, Sa.far (k' := 0) T' far, Sb.far (k' := 0) T' far⟩
    have i2 : i < 2 := (List.getElem?_eq_some_iff.mp hi).1
    rcases (show i = 0 ∨ i = 1 by omega) with rfl | rfl
    · obtain rfl := Option.some.inj hi
      exact each_turn ER Sa (by omega) hx h0 h1 fun H'' v7 v8 v9 n'' far hn' T' => nx H'' _ v7 v8 v9 n'' far hn' T'
    · obtain rfl := Option.some.inj hi
      exact each_turn ER Sb (by omega) hx h0 h1 fun H'' v7 v8 v9 n'' far hn' T' => nx H'' _ v7 v8 v9 n'' far hn' T'
  · rintro σ H' ⟨v6, v7, v8, v9, n', rfl, qa, _⟩
    exact k H' _ _ _ _ qa
/-! ### the thing that is picked -/
theorem ThingAt.src {H : Hp} {t p : Addr} {k : Nat} {r m r' m' : Int} (h : ThingAt H t k 0) (hp : H p = some (srcO r m)) : ThingAt (upd H p (srcO r' m')) t k 0 := by
  cases h with
  | five n h => exact .five 0 (by rw [upd_ne (ne_of h hp (fun z => by cases z))]; exact h)
  | two n h => exact .two 0 (by rw [upd_ne (ne_of h hp (fun z => by cases z))]; exact h)
  | nest n e h1 h2 h3 => exact .nest 0 e (by rw [upd_ne (ne_of h1 hp (fun z => by cases z))]; exact h1) h2 (by rw [upd_ne (ne_of h3 hp (fun z => by cases z))]; exact h3)
  | dic n h => exact .dic 0 (by rw [upd_ne (ne_of h hp (fun z => by cases z))]; exact h)
abbrev tThings : TE := tLst (tCons (tLst (tCons (tC (.int 5)) tNil)) (tCons (tLst (tCons (tC (.str "a")) (tCons (tC .non) tNil))) (tCons (tLst (tCons (tLst tNil) tNil)) (tCons (tDisp [(tC (.str "a"), tC (.int 1))]) tNil))))
theorem things_reads {σ : L2.St} {H : Hp} {Q : VK} (k : ∀ H' e xs, Same H H' → H e = none → H' e = some (.lst xs) → xs.length = 4 → (∀ i v, xs[i]? = some v → ∃ t, v = .ref t ∧ H t = none ∧ ThingAt H' t i 0) → Q (.ref e) H') : tThings σ H Q := by
  walk_at "rd"
  refine ⟨Nat.le_trans (show 1 ≤ 1000 by decide) (by decide), fun p1 h1 => ?_⟩
  generalize hG : upd H p1 _ = H1
  have c1 : H1 p1 = some (.lst [.int 5]) := by rw [← hG]; exact upd_same
  have q1 : Same H H1 := by rw [← hG]; exact (Same.refl H).new h1
  clear hG
  walk_at "rd"
  refine ⟨Nat.le_trans (show 2 ≤ 1000 by decide) (by decide), fun p2 h2 => ?_⟩
  generalize hG : upd H1 p2 _ = H2
  have c2 : H2 p2 = some (.lst [.str "a", .non]) := by rw [← hG]; exact upd_same
  have q2 : Same H1 H2 := by rw [← hG]; exact (Same.refl H1).new h2
  clear hG
  walk_at "rd"
  refine ⟨Nat.le_trans (show 0 ≤ 1000 by decide) (by decide), fun p3 h3 => ?_⟩
  generalize hG : upd H2 p3 _ = H3
  have c3 : H3 p3 = some (.lst []) := by rw [← hG]; exact upd_same
  have q3 : Same H2 H3 := by rw [← hG]; exact (Same.refl H2).new h3
  clear hG
  walk_at "rd"
  refine ⟨Nat.le_trans (show 1 ≤ 1000 by decide) (by decide), fun p4 h4 => ?_⟩
  generalize hG : upd H3 p4 _ = H4
  have c4 : H4 p4 = some (.lst [.ref p3]) := by rw [← hG]; exact upd_same
  have q4 : Same H3 H4 := by rw [← hG]; exact (Same.refl H3).new h4
  clear hG
  walk_at "rd"
  intro p5 h5
  have ne54 := ne_of_none c4 h5
  generalize hG : upd H4 p5 _ = H5
  have c5 : H5 p5 = some (.dK []) := by rw [← hG]; exact upd_same
  have q5 : Same H4 H5 := by rw [← hG]; exact (Same.refl H4).new h5
  clear hG
  refine ⟨c5, [(Sum.inr "a", .int 1)], rfl, by decide, ?_⟩
  generalize hG : upd H5 p5 _ = H6
  have c6 : H6 p5 = some (.dK [(Sum.inr "a", .int 1)]) := by rw [← hG]; exact upd_same
  have q6 : Same H4 H6 := by
    intro b u e
    rw [← hG, upd_ne (ne_of_none e h5)]
    exact q5 b u e
  clear hG
  refine rd_nil ⟨Nat.le_trans (show 4 ≤ 1000 by decide) (by decide), fun p7 h7 => ?_⟩
  have q7 : Same H6 (upd H6 p7 (.lst [.ref p1, .ref p2, .ref p4, .ref p5])) := (Same.refl H6).new h7
  have a6 : Same H3 H6 := q4.trans q6
  have a2 : Same H2 H6 := q3.trans a6
  have a1 : Same H1 H6 := q2.trans a2
  have a0 : Same H H6 := q1.trans a1
  refine k _ p7 _ (a0.trans q7) (a0.free h7) upd_same rfl fun i v hv => ?_
  have hi : i < 4 := (List.getElem?_eq_some_iff.mp hv).1
  rcases (show i = 0 ∨ i = 1 ∨ i = 2 ∨ i = 3 by omega) with rfl | rfl | rfl | rfl
  · exact ⟨p1, (Option.some.inj hv).symm, h1, (ThingAt.five 0 (a1 _ _ c1)).later q7⟩
  · exact ⟨p2, (Option.some.inj hv).symm, q1.free h2, (ThingAt.two 0 (a2 _ _ c2)).later q7⟩
  · exact ⟨p4, (Option.some.inj hv).symm, (q1.trans (q2.trans q3)).free h4, (ThingAt.nest 0 p3 (a6 _ _ c3) (ne_of_none c3 h4) (q6 _ _ c4)).later q7⟩
  · exact ⟨p5, (Option.some.inj hv).symm, (q1.trans (q2.trans (q3.trans q4))).free h5, (ThingAt.dic 0 c6).later q7⟩
end
end Gk
namespace Gk
open PySem PySem.W PySem.Spec PyProof.Rows L2 NdefX
theorem boot_max' : bootBuiltins "max" = some (.builtin "max") := by decide +kernel
theorem boot_min' : bootBuiltins "min" = some (.builtin "min") := by decide +kernel
theorem boot_repr' : bootBuiltins "repr" = some (.builtin "repr") := by decide +kernel
theorem boot_list' : bootBuiltins "list" = some (.type "list") := by decide +kernel
abbrev nLaw : List Str := ["script", "start", "source", "thing", "word", "many", "errors", "at", "error", "place"]
theorem scLaw : FnScope nLaw ["script"] (defScope sLaw) := ⟨rfl, rfl, rfl, by decide +kernel, rfl, by decide +kernel, by decide +kernel⟩
def spLaw (K : Frag) : Sp := fun vs H Q _ => ∃ (a : Addr) (ns : List Int), vs = [.ref a] ∧ SqL K H a (ns.map V.int) ∧ ns.length ≤ 63 ∧ (∀ z ∈ ns, Builtin.Int.intBits z ≤ 1048576) ∧ ∀ H', Q (.bl true) H'
/-- what the law's def asks of the others, and of the built-in names -/
structure LawTxt (P : Program) (w : World) (K : Frag) (mg : Str → Option Value) (base : Heap) (C : Nat → Addr) : Prop where
  src : ∃ f fd, FnOk P w K mg base CX0 1 f fd ["script", "start"] (spSource K) ∧ Binds K fd ["script", "start"] [] ∧ mg "_law_source" = some (.ref f) ∧ keepIn K (.ref f) = true
  drw : ∃ f fd, FnOk P w K mg base CX0 1 f fd ["source", "span"] spDraw ∧ Binds K fd ["source", "span"] [] ∧ mg "_law_draw" = some (.ref f) ∧ keepIn K (.ref f) = true
  pck : ∃ f fd, FnOk P w K mg base CX0 2 f fd ["source", "entries"] (spPick K) ∧ Binds K fd ["source", "entries"] [] ∧ mg "_law_pick" = some (.ref f) ∧ keepIn K (.ref f) = true
  knd : ∃ f fd, FnOk P w K mg base CX0 1 f fd ["error"] (spKinds C) ∧ Binds K fd ["error"] [] ∧ mg "_law_kinds" = some (.ref f) ∧ keepIn K (.ref f) = true
  plc : ∃ f fd, FnOk P w K mg base CX0 4 f fd ["thing", "word", "many"] (spMake C) ∧ Binds K fd ["thing", "word", "many"] [] ∧ mg "_law_by_place" = some (.ref f) ∧ keepIn K (.ref f) = true
  nam : ∃ f fd, FnOk P w K mg base CX0 4 f fd ["thing", "word", "many"] (spMake C) ∧ Binds K fd ["thing", "word", "many"] [] ∧ mg "_law_by_name" = some (.ref f) ∧ keepIn K (.ref f) = true
  sto : ∃ f fd, FnOk P w K mg base CX0 1 f fd ["errors"] (spStored K C) ∧ Binds K fd ["errors"] [] ∧ mg "_law_stored" = some (.ref f) ∧ keepIn K (.ref f) = true
  range : mg "range" = none
  max : mg "max" = none
  min : mg "min" = none
  len : mg "len" = none
  enum : mg "enumerate" = none
  list : mg "list" = none
  repr : mg "repr" = none
section
variable {P : Program} {w : World} {K : Frag} {mg : Str → Option Value} {base : Heap} {C fI : Nat → Addr} {fd : Nat → FuncData} {G : Addr}
theorem ok_law {f : Addr} {fd0 : FuncData} (F : Fun K "law" "law" sLaw f fd0) (ER : Errs P K mg C fI fd G) (T : LawTxt P w K mg base C) : FnG P w K mg base CX0 6 f fd0 ["script"] (spLaw K) := by
  obtain ⟨f1, d1, G1, b1, g1, k1⟩ := T.src
  obtain ⟨f2, d2, G2, b2, g2, k2⟩ := T.drw
  obtain ⟨f3, d3, G3, b3, g3, k3⟩ := T.pck
  obtain ⟨f4, d4, G4, b4, g4, k4⟩ := T.knd
  obtain ⟨f5, d5, G5, b5, g5, k5⟩ := T.plc
  obtain ⟨f6, d6, G6, b6, g6, k6⟩ := T.nam
  obtain ⟨f7, d7, G7, b7, g7, k7⟩ := T.sto
  refine Fun.okG F scLaw (fun vs H Q E h => ?_) (fun cdv A outer s H vs Q E hG hr h => ?_)
  · obtain ⟨a, ns, rfl, _⟩ := h
    rfl
  · obtain ⟨a, ns, rfl, hS, hlen, hbits, k⟩ := h
    have nd := scLaw.nd
    have hr1 : Room 1 _ := hr.mono (by decide)
    have hr2 : Room 2 _ := hr.mono (by decide)
    have hr4 : Room 4 _ := hr.mono (by decide)
    have hu := hu_of hr
    have hu64 : (A.deeper (envOfC "law" (defScope sLaw) s.heap.objs.size f cdv)).units + 64 < cLine := by have := hr.un; omega
    have hu60 : (A.deeper (envOfC "law" (defScope sLaw) s.heap.objs.size f cdv)).units + 60 < cLine := by have := hr.un; omega
    have hG1 : (A.deeper (envOfC "law" (defScope sLaw) s.heap.objs.size f cdv)).guards = some [] := hG
    refine ⟨_, pss_cons (ps_for PassesOwn.never rfl (pi_range1 (by rfl) T.range (pa_cons (pe_callB (call_max2 rfl) (by rfl) T.max boot_max' (pa_cons pe_int (pa_cons (pe_callB (call_min2 rfl) (by rfl) T.min boot_min' (pa_cons pe_int (pa_cons (pe_callB call_len_seq (by rfl) T.len PySem.boot_len (pa_cons (pv 0) pa_nil)) pa_nil))) pa_nil))) pa_nil))
        (pg_name (i := 1) nd rfl (Or.inl rfl))
        (pss_cons (ps_set (i := 2) nd rfl (Or.inl rfl) (pe_call G1 hr1 (by rfl) g1 k1 b1 .nil pass0 (pa_cons (pv 0) (pa_cons (pv 1) pa_nil))))
        (pss_cons (ps_set (i := 3) nd rfl (Or.inl rfl) (pe_call G3 hr2 (by rfl) g3 k3 b3 .nil pass0 (pa_cons (pv 2) (pa_cons (pe_lst
          (pa_cons (pe_lst (pa_cons pe_int pa_nil)) (pa_cons (pe_lst (pa_cons pe_str (pa_cons pe_non pa_nil))) (pa_cons (pe_lst (pa_cons (pe_lst pa_nil) pa_nil)) (pa_cons (pe_disp (pps_cons pe_str pe_int pps_nil) rfl rfl (by decide) (by decide)) pa_nil))))) pa_nil))))
        (pss_cons (ps_par (i := 4) (j := 5) rfl nd rfl rfl (by decide) rfl rfl (pa_cons (pe_call G3 hr2 (by rfl) g3 k3 b3 .nil pass0 (pa_cons (pv 2) (pa_cons (pe_lst (pa_cons pe_str (pa_cons pe_str (pa_cons pe_str pa_nil)))) pa_nil)))
          (pa_cons (pe_call G2 hr1 (by rfl) g2 k2 b2 .nil pass0 (pa_cons (pv 2) (pa_cons pe_int pa_nil))) pa_nil)) rfl)
        (pss_one (ps_for PassesOwn.never rfl (pi_list (pe_lst (pa_cons (pe_call G5 hr4 (by rfl) g5 k5 b5 .nil pass0 (pa_cons (pv 3) (pa_cons (pv 4) (pa_cons (pv 5) pa_nil)))) (pa_cons (pe_call G6 hr4 (by rfl) g6 k6 b6 .nil pass0 (pa_cons (pv 3) (pa_cons (pv 4) (pa_cons (pv 5) pa_nil)))) pa_nil))))
          (pg_name (i := 6) nd rfl (Or.inl rfl))
          (pss_cons (ps_for PassesOwn.never rfl (pi_enum (by rfl) T.enum (pa_cons (pv 6) pa_nil)) (pg_tup rfl (pgs_cons (pg_name (i := 7) nd rfl (Or.inr rfl)) (pgs_cons (pg_name (i := 8) nd rfl (Or.inl rfl)) pgs_nil)))
            (pss_cons (ps_if (PW.pt (pw_or (pt_not (pt_val (pe_callB call_errIs (by rfl) ER.gI boot_isi (pa_cons (pv 8) (pa_cons (pe_glob (v := .ref G) (by rfl) ER.gG rfl) pa_nil)))))
                (pw_or1 (pt_not (pt_val (pe_callB call_errIs (by rfl) ER.gI boot_isi (pa_cons (pv 8) (pa_cons (pe_bltn (v := .ty "ValueError") (by rfl) ER.gV boot_VE rfl) pa_nil)))))))) (pss_one (ps_ret pe_bl)) pss_nil)
            (pss_one (ps_if (pt_cmpR (op_neD hu64) (pe_call G4 hr1 (by rfl) g4 k4 b4 .nil pass0 (pa_cons (pv 8) pa_nil))
              (pe_lc (own := [("place", 9)]) (te := tOp rEq (tVar 9) (tVar 7)) (g := gName 9) (tt := tYes) rfl nd (pi_range1 (by rfl) T.range (pa_cons pe_int pa_nil)) (blkOk_by (N := nLaw) (sc := defScope sLaw) (by decide +kernel)) (fun _ _ _ _ _ => pg_name (i := 9) nd rfl (Or.inl rfl)) (fun _ _ _ _ _ => pts_nil) (fun _ _ _ _ _ => by exact (pe_cmpR op_eq (pv 9) (pv 7) (nomark _)))) (nomark _)) (pss_one (ps_ret pe_bl)) pss_nil))))
          (pss_cons (ps_if (pt_val (pe_callB call_isi (by rfl) ER.gI boot_isi (pa_cons (pv 3) (pa_cons (pe_bltn (v := .ty "list") (by rfl) T.list boot_list' rfl) pa_nil))))
            (pss_one (ps_expr (pe_bm PySem.F.plainAttrs_list PySem.F.slot_list_append PySem.F.type_list_append mt_append (pv 3) (pa_cons pe_int pa_nil)))) pss_nil)
          (pss_one (ps_if (pt_cmpR op_ne (pe_callB (call_reprL hG1 hu60) (by rfl) T.repr boot_repr' (pa_cons (pe_call G7 hr1 (by rfl) g7 k7 b7 .nil pass0 (pa_cons (pv 6) pa_nil)) pa_nil))
            (pe_callB (call_reprL hG1 hu60) (by rfl) T.repr boot_repr' (pa_cons (pe_op op_cat (pe_op op_cat (pe_op op_rep (pe_lst (pa_cons (pv 3) pa_nil)) pe_int) (pe_op op_rep (pe_lst (pa_cons (pv 4) pa_nil)) pe_int)) (pe_op op_rep (pe_lst (pa_cons (pv 5) pa_nil)) pe_int)) pa_nil)) (nomark _)) (pss_one (ps_ret pe_bl)) pss_nil))))))))))
      (pss_one (ps_ret pe_bl)), ?_⟩
    walk_at "rd"
    refine ⟨_, rfl, a, _, rfl, .inl hS, _, _, rfl, _, _, rfl, _, rfl, ?_, ?_, ?_⟩
    · split <;> (try split) <;> omega
    · split <;> (try split) <;> omega
    have hn : ∀ j : Int, (if (if ((ns.map V.int).length : Int) < 4 then ((ns.map V.int).length : Int) else 4) > 1 then (if ((ns.map V.int).length : Int) < 4 then ((ns.map V.int).length : Int) else 4) else 1) = j → j.toNat ≤ 4 := by
      intro j e
      split at e <;> (try split at e) <;> omega
    generalize hj : (if (if ((ns.map V.int).length : Int) < 4 then ((ns.map V.int).length : Int) else 4) > 1 then (if ((ns.map V.int).length : Int) < 4 then ((ns.map V.int).length : Int) else 4) else 1) = j
    have hj4 := hn j hj
    refine for_range (lo := 0) (n := j.toNat) (fun i σ H' => ∃ v1 v2 v3 v4 v5 v6 v7 v8 v9, σ = [some (.ref a), v1, v2, v3, v4, v5, v6, v7, v8, v9] ∧ Same H H') ⟨_, _, _, _, _, _, _, _, _, rfl, Same.refl H⟩ ?_ ?_
    · rintro i σ Hs hi ⟨v1, v2, v3, v4, v5, v6, v7, v8, v9, rfl, s0⟩
      walk_at "rd"
      have hi4 : i ≤ 3 := by omega
      refine ⟨a, ns, _, rfl, s0.seq hS, hlen, hbits, by omega, by omega, fun p r m hp hm => ?_⟩
      generalize hG2 : upd Hs p _ = H1
      have c1 : H1 p = some (srcO r m) := by rw [← hG2]; exact upd_same
      have s1 : Same H H1 := by rw [← hG2]; exact s0.new hp
      have n1 : H p = none := s0.free hp
      clear hG2
      refine rd_seq (rd_asg (rd_call (rd_cons (rd_var rfl (rd_cons (things_reads fun H2 e xs q2 ne c2 hl hx => ?_))))))
      have hne : e ≠ p := by
        rintro rfl
        rw [c1] at ne
        cases ne
      refine rd_nil ⟨p, e, r, m, xs, rfl, q2 _ _ c1, hm, SqL.of c2, hne, by omega, by omega, fun at1 v r1 m1 hv hm1 => ?_⟩
      obtain ⟨t, rfl, nt, TT⟩ := hx at1 v hv
      have TT := TT.src (r' := r1) (m' := m1) (q2 _ _ c1)
      have c3 : upd H2 p (srcO r1 m1) p = some (srcO r1 m1) := upd_same
      have q3 : Same H (upd H2 p (srcO r1 m1)) := (s1.trans q2).mut n1
      have nt0 : H t = none := s1.free nt
      generalize upd H2 p (srcO r1 m1) = H3 at TT c3 q3
      walk_at "rd"
      refine rd_call (rd_cons (rd_var rfl (rd_cons (rd_lst ?_))))
      walk_at "rd"
      refine ⟨Nat.le_trans (show 3 ≤ 1000 by decide) (by decide), fun w hw => ?_⟩
      have q4 : Same H3 (upd H3 w (.lst [V.str "a", .str "low", .str "abcdefgh"])) := (Same.refl H3).new hw
      have c4 : upd H3 w (.lst [V.str "a", .str "low", .str "abcdefgh"]) w = some (.lst [V.str "a", .str "low", .str "abcdefgh"]) := upd_same
      generalize upd H3 w (.lst [V.str "a", .str "low", .str "abcdefgh"]) = H4 at q4 c4
      refine rd_nil ⟨p, w, r1, m1, [V.str "a", .str "low", .str "abcdefgh"], rfl, q4 _ _ c3, hm1, SqL.of c4, (ne_of_none c3 hw).symm, by decide, by decide, fun at2 v2 r2 m2 hv2 hm2 => ?_⟩
      obtain ⟨x, rfl, hx2⟩ : ∃ x, v2 = V.str x ∧ x ∈ (["a", "low", "abcdefgh"] : List Str) := by
        have i2 : at2 < 3 := (List.getElem?_eq_some_iff.mp hv2).1
        rcases (show at2 = 0 ∨ at2 = 1 ∨ at2 = 2 by omega) with rfl | rfl | rfl
        · exact ⟨"a", (Option.some.inj hv2).symm, by simp⟩
        · exact ⟨"low", (Option.some.inj hv2).symm, by simp⟩
        · exact ⟨"abcdefgh", (Option.some.inj hv2).symm, by simp⟩
      have TT := (TT.later q4).src (r' := r2) (m' := m2) (q4 _ _ c3)
      have c5 : upd H4 p (srcO r2 m2) p = some (srcO r2 m2) := upd_same
      have q5 : Same H (upd H4 p (srcO r2 m2)) := (q3.trans q4).mut n1
      generalize upd H4 p (srcO r2 m2) = H5 at TT c5 q5
      refine rd_cons (rd_call (rd_cons (rd_var rfl (rd_cons ?_))))
      refine rd_c (rd_nil ?_)
      refine ⟨p, 40, r2, m2, rfl, c5, hm2, by decide, by decide, fun z r3 m3 z0 z1 hm3 => ?_⟩
      have TT := TT.src (r' := r3) (m' := m3) c5
      have q6 : Same H (upd H5 p (srcO r3 m3)) := q5.mut n1
      generalize upd H5 p (srcO r3 m3) = H6 at TT q6
      refine rd_nil ⟨_, _, rfl, ?_⟩
      exact both_turn ER q6 nt0 TT hx2 z0 z1 fun H7 v6 v7 v8 v9 q7 => ⟨_, _, _, _, _, _, _, _, _, rfl, q7⟩
    · rintro σ Hs ⟨v1, v2, v3, v4, v5, v6, v7, v8, v9, rfl, s0⟩
      walk_at "rd"
      exact k _
end
end Gk
/-! ### what the top has written -/
namespace Gk
open PySem PySem.W PySem.Spec PyProof.Rows L2 NdefX
/-- an error class's __init__ as it is written -/
structure ErrSt (st : Stmt) (fld : Str) : Prop where
  ex : ∃ (txt : Str) (j : Nat) (p0 p1 p2 p3 p4 p5 p6 p7 p8 p9 : Pos), defBody st = errBody txt fld j p0 p1 p2 p3 p4 p5 p6 p7 p8 p9 ∧ SupEval txt j p0 p1 p2 p3 p4
  sc : nscB ["self", fld, "__class__"] ["self", fld] ["__class__"] (defScope st) = true
  su : (defScope st).names.lookup ("super" : Str) = some .globalImplicit
  arg : ∃ ar : Arg, ((defArgs st).posonlyargs ++ (defArgs st).args).head? = some ar ∧ ar.arg = "self"
  bnd : ∀ (q : Str) (cl : List (Str × Addr)) (kV doc pm ct cdv : Value) (an : Option Addr) (u v : Value), bindArgs (fnX "__init__" q (defArgs st) (defBody st) (defScope st) cl .none kV doc pm an cdv ct) ⟨[u, v], []⟩ = pure ([("self", u), (fld, v)] : List (Str × Value))
  kwb : ∀ (q : Str) (cl : List (Str × Addr)) (kV doc pm ct cdv : Value) (an : Option Addr) (u v : Value), bindArgs (fnX "__init__" q (defArgs st) (defBody st) (defScope st) cl .none kV doc pm an cdv ct) ⟨[u], [(fld, v)]⟩ = pure ([("self", u), (fld, v)] : List (Str × Value))
def noFd : FuncData := fnX "" "" ⟨[], [], none, [], [], none, []⟩ [] ⟨.function, [], false, false, []⟩ [] .none .none .none .none none .none .none
/-- the def at f -/
def fdAt (K : Frag) (f : Addr) : FuncData := match K.lookup f with
  | some ⟨_, _, .func fd, _⟩ => fd
  | _ => noFd
theorem fdAt_of {K : Frag} {f : Addr} {oc : Value} {od : Option Addr} {fd : FuncData} {osl : Array (Option Value)} (h : K.lookup f = some ⟨oc, od, .func fd, osl⟩) : fdAt K f = fd := by
  unfold fdAt
  rw [h]
/-- the objects of an error class, as they are written -/
structure ErrObj (P : Program) (K : Frag) (st : Stmt) (C fI : Addr) : Prop where
  cls : ∃ nm q N bs bm sn sub ab col dd k0 k1 k2 k3 k5, K.lookup C = some (excClassObj nm q C N bs bm true sn sub ab col dd k0 k1 k2 k3 k5 "ValueError.__new__") ∧ PySem.HandSPX.refsVE bm = true
  fn : ∃ (oc kV doc pm ct ccl cl : Value) (od an cdd cld : Option Addr) (osl ccs csl : Array (Option Value)) (q : Str) (cc cd : Addr) (vs : Array Value) (file : Str) (tf : Tok),
    K.lookup fI = some ⟨oc, od, .func (fnX "__init__" q (defArgs st) (defBody st) (defScope st) [("__class__", cc)] .none kV doc pm an (.ref cd) ct), osl⟩ ∧ codeIn K (.ref cd) q = true ∧ K.lookup cd = some ⟨ccl, cdd, .fields vs, ccs⟩ ∧ vs[2]? = some (.str file tf) ∧ ((P.main.file : Str) == file) = true ∧
    K.lookup cc = some ⟨cl, cld, .cell (some (.ref C)), csl⟩
theorem errObj_mk {P : Program} {K : Frag} {st : Stmt} {C fI : Addr} {nm q0 : Str} {N : Addr} {bs bm : List Value} {sn : List Str} {sub : List Value} {ab : Bool} {col : Option Bool} {dd : Option Addr} {k0 k1 k2 k3 k5 : Option Value}
    {oc kV doc pm ct ccl cl : Value} {od an cdd cld : Option Addr} {osl ccs csl : Array (Option Value)} {q : Str} {cc cd : Addr} {vs : Array Value} {file : Str} {tf : Tok}
    (lC : K.lookup C = some (excClassObj nm q0 C N bs bm true sn sub ab col dd k0 k1 k2 k3 k5 "ValueError.__new__")) (hb : PySem.HandSPX.refsVE bm = true)
    (lI : K.lookup fI = some ⟨oc, od, .func (fnX "__init__" q (defArgs st) (defBody st) (defScope st) [("__class__", cc)] .none kV doc pm an (.ref cd) ct), osl⟩) (hc : codeIn K (.ref cd) q = true) (ld : K.lookup cd = some ⟨ccl, cdd, .fields vs, ccs⟩) (h2 : vs[2]? = some (.str file tf)) (hf : ((P.main.file : Str) == file) = true)
    (lc : K.lookup cc = some ⟨cl, cld, .cell (some (.ref C)), csl⟩) : ErrObj P K st C fI :=
  ⟨⟨nm, q0, N, bs, bm, sn, sub, ab, col, dd, k0, k1, k2, k3, k5, lC, hb⟩, ⟨oc, kV, doc, pm, ct, ccl, cl, od, an, cdd, cld, osl, ccs, csl, q, cc, cd, vs, file, tf, lI, hc, ld, h2, hf, lc⟩⟩
/-- the answers that a class of errors gives -/
def errChk (K : Frag) (x fld : Str) (C fI : Addr) : Bool :=
  nsIn K mainGlobals x == some (some (.ref C)) && (findIn K (.ref C) "__init__" == some (some (.ref fI)) && (typeIn K (.ref fI) == some (.type "function") && (findIn K (.ref C) fld == some none && (subIn K (.ref C) (.type "ValueError") == some true && (mroIn K C (.ref C) == some true &&
  (ks_superIn K C C "__init__" == some (some (.builtin "ValueError.__init__")) && (findIn K (.ref C) "__setattr__" == some (some (.builtin "object.__setattr__")) && (subIn K (.ref C) (.type "BaseException") == some true && (typeIn K (.ref C) == some (.type "type") && (keepIn K (.ref C) &&
  (findIn K (.ref C) "__getattribute__" == some (some (.builtin "BaseException.__getattribute__")) && (findIn K (.ref C) "__getattr__" == some none && (hasDictIn K C && (findIn K (.ref C) "__class__" == some (some (.builtin "object.__class__")) && mroIn K C (.type "object") == some true))))))))))))))
/-- the answers that they give one by another -/
def kitChk (K : Frag) (C : Nat → Addr) (G : Addr) : Bool :=
  (List.range 21).all fun j => kitOne K (.ref (C j)) (.ref G) == some true && (kitOne K (.ref (C j)) (.type "ValueError") == some true && (List.range 21).all fun i => kitOne K (.ref (C j)) (.ref (C i)) == some (decide (i = j)))
def noneChk (K : Frag) : Bool := (["range", "max", "min", "len", "enumerate", "list", "repr", "int", "isinstance", "ValueError", "super"] : List Str).all fun x => nsIn K mainGlobals x == some none
section
variable {P : Program} {K : Frag} {mg : Str → Option Value} {C fI : Nat → Addr} {G : Addr} {h : Heap}
theorem errs_mk {st : Nat → Stmt} (X : K.In h) (NS : h.Ns mainGlobals mg) (hS : ∀ i x fld, errTab[i]? = some (x, fld) → ErrSt (st i) fld ∧ (fld == ("__debug__" : Str)) = false ∧ (fld == ("__classdict__" : Str)) = false)
    (hO : ∀ i, i < 21 → ErrObj P K (st i) (C i) (fI i)) (hE : (List.range 21).all (fun i => errChk K (errTab.getD i ("", "")).1 (errTab.getD i ("", "")).2 (C i) (fI i)) = true) (hK : kitChk K C G = true) (hN : noneChk K = true)
    (hG : nsIn K mainGlobals "GrowError" = some (some (.ref G))) (hn : specialIn K (.builtin "object.__class__") "__get__" = some (some (.builtin "getset_descriptor.__get__"))) (ht : takesIn K (.builtin "object.__class__") = some true)
    (top : (P.main.scope.names.lookup ("super" : Str)).isSome = false) (opq : nsIn K cStatics "thirdparty.any" = some none) : Errs P K mg C fI (fun i => fdAt K (fI i)) G := by
  have none_ : ∀ x ∈ (["range", "max", "min", "len", "enumerate", "list", "repr", "int", "isinstance", "ValueError", "super"] : List Str), mg x = none := fun x hx => mg_none_of X NS (beq_iff_eq.mp (List.all_eq_true.mp hN x hx))
  have kk : ∀ j, j < 21 → kitOne K (.ref (C j)) (.ref G) = some true ∧ kitOne K (.ref (C j)) (.type "ValueError") = some true ∧ ∀ i, i < 21 → kitOne K (.ref (C j)) (.ref (C i)) = some (decide (i = j)) := fun j hj => by
    have := List.all_eq_true.mp hK j (List.mem_range.mpr hj)
    rw [Bool.and_eq_true, Bool.and_eq_true] at this
    exact ⟨beq_iff_eq.mp this.1, beq_iff_eq.mp this.2.1, fun i hi => beq_iff_eq.mp (List.all_eq_true.mp this.2.2 i (List.mem_range.mpr hi))⟩
  refine ⟨fun i x fld hi => ?_, fun i j hi hj => (kk j hj).2.2 i hi, fun j hj => (kk j hj).1, fun j hj => (kk j hj).2.1, mg_of X NS hG, none_ _ (by simp), none_ _ (by simp)⟩
  have i21 : i < 21 := (List.getElem?_eq_some_iff.mp hi).1
  have e1 := List.all_eq_true.mp hE i (List.mem_range.mpr i21)
  rw [List.getD_eq_getElem?_getD, hi] at e1
  simp only [Option.getD_some] at e1
  unfold errChk at e1
  simp only [Bool.and_eq_true] at e1
  obtain ⟨a1, a2, a3, a4, a5, a6, a7, a8, a9, a10, a11, a12, a13, a14, a15, a16⟩ := e1
  obtain ⟨S, fd1, fd2⟩ := hS i x fld hi
  have O := hO i i21
  obtain ⟨oc, kV, doc, pm, ct, ccl, cl, od, an, cdd, cld, osl, ccs, csl, q, cc, cd, vs, file, tf, lI, hc, ld, h2, hf, lc⟩ := O.fn
  obtain ⟨txt, j, p0, p1, p2, p3, p4, p5, p6, p7, p8, p9, hb, hev⟩ := S.ex
  obtain ⟨ar, ha, hself⟩ := S.arg
  have efd := fdAt_of lI
  refine ⟨⟨⟨O.cls, beq_iff_eq.mp a8, beq_iff_eq.mp a9, beq_iff_eq.mp a10, a11⟩, mg_of X NS (beq_iff_eq.mp a1), beq_iff_eq.mp a2, beq_iff_eq.mp a3, beq_iff_eq.mp a4, beq_iff_eq.mp a5, beq_iff_eq.mp a6, beq_iff_eq.mp a7, none_ _ (by simp),
    ⟨oc, kV, doc, pm, ct, ccl, cl, od, an, cdd, cld, osl, ccs, csl, q, defArgs (st i), defScope (st i), txt, j, p0, p1, p2, p3, p4, p5, p6, p7, p8, p9, cc, cd, vs, file, tf, ar, by rw [efd, hb], by rw [efd]; exact lI, hc, ld, h2, hf, lc, nscope_by S.sc, S.su, ha, hself, hev⟩, fd1, fd2, top, opq⟩, ?_, ?_,
    ⟨⟨beq_iff_eq.mp a12, beq_iff_eq.mp a13, beq_iff_eq.mp a9, a14, beq_iff_eq.mp a15, hn, ht, beq_iff_eq.mp a16⟩, beq_iff_eq.mp a4⟩⟩
  · show Binds K (fdAt K (fI i)) _ _
    rw [efd]
    exact .all fun us hl => match us, hl with | [u, v], _ => S.bnd _ _ _ _ _ _ _ _ u v
  · show KwBinds K (fdAt K (fI i)) _
    rw [efd]
    exact fun s u v _ => .of_eq (S.kwb _ _ _ _ _ _ _ _ u v)
end
end Gk
/-! ### each class as it is written -/
namespace Gk
open PySem PySem.W PySem.Spec PyProof.Rows L2 NdefX
abbrev sE0 : Stmt := (inClass (top 12) 0)
theorem st0 : ErrSt sE0 "value" := ⟨⟨_, _, _, _, _, _, _, _, _, _, _, _, rfl, fun env => ⟨_, rfl⟩⟩, by decide +kernel, by decide +kernel, ⟨_, rfl, rfl⟩, fun _ _ _ _ _ _ _ _ _ _ => rfl, fun _ _ _ _ _ _ _ _ _ _ => rfl⟩
abbrev sE1 : Stmt := (inClass (top 2) 0)
theorem st1 : ErrSt sE1 "value" := ⟨⟨_, _, _, _, _, _, _, _, _, _, _, _, rfl, fun env => ⟨_, rfl⟩⟩, by decide +kernel, by decide +kernel, ⟨_, rfl, rfl⟩, fun _ _ _ _ _ _ _ _ _ _ => rfl, fun _ _ _ _ _ _ _ _ _ _ => rfl⟩
abbrev sE2 : Stmt := (inClass (top 4) 0)
theorem st2 : ErrSt sE2 "value" := ⟨⟨_, _, _, _, _, _, _, _, _, _, _, _, rfl, fun env => ⟨_, rfl⟩⟩, by decide +kernel, by decide +kernel, ⟨_, rfl, rfl⟩, fun _ _ _ _ _ _ _ _ _ _ => rfl, fun _ _ _ _ _ _ _ _ _ _ => rfl⟩
abbrev sE3 : Stmt := (inClass (top 5) 0)
theorem st3 : ErrSt sE3 "value" := ⟨⟨_, _, _, _, _, _, _, _, _, _, _, _, rfl, fun env => ⟨_, rfl⟩⟩, by decide +kernel, by decide +kernel, ⟨_, rfl, rfl⟩, fun _ _ _ _ _ _ _ _ _ _ => rfl, fun _ _ _ _ _ _ _ _ _ _ => rfl⟩
abbrev sE4 : Stmt := (inClass (top 6) 0)
theorem st4 : ErrSt sE4 "value" := ⟨⟨_, _, _, _, _, _, _, _, _, _, _, _, rfl, fun env => ⟨_, rfl⟩⟩, by decide +kernel, by decide +kernel, ⟨_, rfl, rfl⟩, fun _ _ _ _ _ _ _ _ _ _ => rfl, fun _ _ _ _ _ _ _ _ _ _ => rfl⟩
abbrev sE5 : Stmt := (inClass (top 7) 0)
theorem st5 : ErrSt sE5 "value" := ⟨⟨_, _, _, _, _, _, _, _, _, _, _, _, rfl, fun env => ⟨_, rfl⟩⟩, by decide +kernel, by decide +kernel, ⟨_, rfl, rfl⟩, fun _ _ _ _ _ _ _ _ _ _ => rfl, fun _ _ _ _ _ _ _ _ _ _ => rfl⟩
abbrev sE6 : Stmt := (inClass (top 9) 0)
theorem st6 : ErrSt sE6 "value" := ⟨⟨_, _, _, _, _, _, _, _, _, _, _, _, rfl, fun env => ⟨_, rfl⟩⟩, by decide +kernel, by decide +kernel, ⟨_, rfl, rfl⟩, fun _ _ _ _ _ _ _ _ _ _ => rfl, fun _ _ _ _ _ _ _ _ _ _ => rfl⟩
abbrev sE7 : Stmt := (inClass (top 11) 0)
theorem st7 : ErrSt sE7 "value" := ⟨⟨_, _, _, _, _, _, _, _, _, _, _, _, rfl, fun env => ⟨_, rfl⟩⟩, by decide +kernel, by decide +kernel, ⟨_, rfl, rfl⟩, fun _ _ _ _ _ _ _ _ _ _ => rfl, fun _ _ _ _ _ _ _ _ _ _ => rfl⟩
abbrev sE8 : Stmt := (inClass (top 13) 0)
theorem st8 : ErrSt sE8 "value" := ⟨⟨_, _, _, _, _, _, _, _, _, _, _, _, rfl, fun env => ⟨_, rfl⟩⟩, by decide +kernel, by decide +kernel, ⟨_, rfl, rfl⟩, fun _ _ _ _ _ _ _ _ _ _ => rfl, fun _ _ _ _ _ _ _ _ _ _ => rfl⟩
abbrev sE9 : Stmt := (inClass (top 14) 0)
theorem st9 : ErrSt sE9 "value" := ⟨⟨_, _, _, _, _, _, _, _, _, _, _, _, rfl, fun env => ⟨_, rfl⟩⟩, by decide +kernel, by decide +kernel, ⟨_, rfl, rfl⟩, fun _ _ _ _ _ _ _ _ _ _ => rfl, fun _ _ _ _ _ _ _ _ _ _ => rfl⟩
abbrev sE10 : Stmt := (inClass (top 15) 0)
theorem st10 : ErrSt sE10 "value" := ⟨⟨_, _, _, _, _, _, _, _, _, _, _, _, rfl, fun env => ⟨_, rfl⟩⟩, by decide +kernel, by decide +kernel, ⟨_, rfl, rfl⟩, fun _ _ _ _ _ _ _ _ _ _ => rfl, fun _ _ _ _ _ _ _ _ _ _ => rfl⟩
abbrev sE11 : Stmt := (inClass (top 17) 0)
theorem st11 : ErrSt sE11 "value" := ⟨⟨_, _, _, _, _, _, _, _, _, _, _, _, rfl, fun env => ⟨_, rfl⟩⟩, by decide +kernel, by decide +kernel, ⟨_, rfl, rfl⟩, fun _ _ _ _ _ _ _ _ _ _ => rfl, fun _ _ _ _ _ _ _ _ _ _ => rfl⟩
abbrev sE12 : Stmt := (inClass (top 18) 0)
theorem st12 : ErrSt sE12 "value" := ⟨⟨_, _, _, _, _, _, _, _, _, _, _, _, rfl, fun env => ⟨_, rfl⟩⟩, by decide +kernel, by decide +kernel, ⟨_, rfl, rfl⟩, fun _ _ _ _ _ _ _ _ _ _ => rfl, fun _ _ _ _ _ _ _ _ _ _ => rfl⟩
abbrev sE13 : Stmt := (inClass (top 20) 0)
theorem st13 : ErrSt sE13 "value" := ⟨⟨_, _, _, _, _, _, _, _, _, _, _, _, rfl, fun env => ⟨_, rfl⟩⟩, by decide +kernel, by decide +kernel, ⟨_, rfl, rfl⟩, fun _ _ _ _ _ _ _ _ _ _ => rfl, fun _ _ _ _ _ _ _ _ _ _ => rfl⟩
abbrev sE14 : Stmt := (inClass (top 8) 0)
theorem st14 : ErrSt sE14 "name" := ⟨⟨_, _, _, _, _, _, _, _, _, _, _, _, rfl, fun env => ⟨_, rfl⟩⟩, by decide +kernel, by decide +kernel, ⟨_, rfl, rfl⟩, fun _ _ _ _ _ _ _ _ _ _ => rfl, fun _ _ _ _ _ _ _ _ _ _ => rfl⟩
abbrev sE15 : Stmt := (inClass (top 10) 0)
theorem st15 : ErrSt sE15 "name" := ⟨⟨_, _, _, _, _, _, _, _, _, _, _, _, rfl, fun env => ⟨_, rfl⟩⟩, by decide +kernel, by decide +kernel, ⟨_, rfl, rfl⟩, fun _ _ _ _ _ _ _ _ _ _ => rfl, fun _ _ _ _ _ _ _ _ _ _ => rfl⟩
abbrev sE16 : Stmt := (inClass (top 16) 0)
theorem st16 : ErrSt sE16 "name" := ⟨⟨_, _, _, _, _, _, _, _, _, _, _, _, rfl, fun env => ⟨_, rfl⟩⟩, by decide +kernel, by decide +kernel, ⟨_, rfl, rfl⟩, fun _ _ _ _ _ _ _ _ _ _ => rfl, fun _ _ _ _ _ _ _ _ _ _ => rfl⟩
abbrev sE17 : Stmt := (inClass (top 3) 0)
theorem st17 : ErrSt sE17 "position" := ⟨⟨_, _, _, _, _, _, _, _, _, _, _, _, rfl, fun env => ⟨_, rfl⟩⟩, by decide +kernel, by decide +kernel, ⟨_, rfl, rfl⟩, fun _ _ _ _ _ _ _ _ _ _ => rfl, fun _ _ _ _ _ _ _ _ _ _ => rfl⟩
abbrev sE18 : Stmt := (inClass (top 19) 0)
theorem st18 : ErrSt sE18 "position" := ⟨⟨_, _, _, _, _, _, _, _, _, _, _, _, rfl, fun env => ⟨_, rfl⟩⟩, by decide +kernel, by decide +kernel, ⟨_, rfl, rfl⟩, fun _ _ _ _ _ _ _ _ _ _ => rfl, fun _ _ _ _ _ _ _ _ _ _ => rfl⟩
abbrev sE19 : Stmt := (inClass (top 21) 0)
theorem st19 : ErrSt sE19 "count" := ⟨⟨_, _, _, _, _, _, _, _, _, _, _, _, rfl, fun env => ⟨_, rfl⟩⟩, by decide +kernel, by decide +kernel, ⟨_, rfl, rfl⟩, fun _ _ _ _ _ _ _ _ _ _ => rfl, fun _ _ _ _ _ _ _ _ _ _ => rfl⟩
abbrev sE20 : Stmt := (inClass (top 22) 0)
theorem st20 : ErrSt sE20 "line" := ⟨⟨_, _, _, _, _, _, _, _, _, _, _, _, rfl, fun env => ⟨_, rfl⟩⟩, by decide +kernel, by decide +kernel, ⟨_, rfl, rfl⟩, fun _ _ _ _ _ _ _ _ _ _ => rfl, fun _ _ _ _ _ _ _ _ _ _ => rfl⟩
abbrev sts : List Stmt := [sE0, sE1, sE2, sE3, sE4, sE5, sE6, sE7, sE8, sE9, sE10, sE11, sE12, sE13, sE14, sE15, sE16, sE17, sE18, sE19, sE20]
def stOf (i : Nat) : Stmt := sts.getD i (.Pass ⟨0, 0, 0, 0⟩)
theorem each21 {p : Nat → Prop} (h0 : p 0) (h1 : p 1) (h2 : p 2) (h3 : p 3) (h4 : p 4) (h5 : p 5) (h6 : p 6) (h7 : p 7) (h8 : p 8) (h9 : p 9) (h10 : p 10) (h11 : p 11) (h12 : p 12) (h13 : p 13) (h14 : p 14) (h15 : p 15) (h16 : p 16) (h17 : p 17) (h18 : p 18) (h19 : p 19) (h20 : p 20) : ∀ i, i < 21 → p i := fun i hi => by
  rcases (show i = 0 ∨ i = 1 ∨ i = 2 ∨ i = 3 ∨ i = 4 ∨ i = 5 ∨ i = 6 ∨ i = 7 ∨ i = 8 ∨ i = 9 ∨ i = 10 ∨ i = 11 ∨ i = 12 ∨ i = 13 ∨ i = 14 ∨ i = 15 ∨ i = 16 ∨ i = 17 ∨ i = 18 ∨ i = 19 ∨ i = 20 by omega) with rfl | rfl | rfl | rfl | rfl | rfl | rfl | rfl | rfl | rfl | rfl | rfl | rfl | rfl | rfl | rfl | rfl | rfl | rfl | rfl | rfl
  · exact h0
  · exact h1
  · exact h2
  · exact h3
  · exact h4
  · exact h5
  · exact h6
  · exact h7
  · exact h8
  · exact h9
  · exact h10
  · exact h11
  · exact h12
  · exact h13
  · exact h14
  · exact h15
  · exact h16
  · exact h17
  · exact h18
  · exact h19
  · exact h20
theorem st_all : ∀ i x fld, errTab[i]? = some (x, fld) → ErrSt (stOf i) fld ∧ (fld == ("__debug__" : Str)) = false ∧ (fld == ("__classdict__" : Str)) = false := by
  intro i x fld hi
  have i21 : i < 21 := (List.getElem?_eq_some_iff.mp hi).1
  refine each21 (p := fun i => errTab[i]? = some (x, fld) → ErrSt (stOf i) fld ∧ (fld == ("__debug__" : Str)) = false ∧ (fld == ("__classdict__" : Str)) = false) ?_ ?_ ?_ ?_ ?_ ?_ ?_ ?_ ?_ ?_ ?_ ?_ ?_ ?_ ?_ ?_ ?_ ?_ ?_ ?_ ?_ i i21 hi
  · intro h
    obtain ⟨rfl, rfl⟩ := Prod.mk.inj (Option.some.inj h)
    exact ⟨st0, by decide +kernel, by decide +kernel⟩
  · intro h
    obtain ⟨rfl, rfl⟩ := Prod.mk.inj (Option.some.inj h)
    exact ⟨st1, by decide +kernel, by decide +kernel⟩
  · intro h
    obtain ⟨rfl, rfl⟩ := Prod.mk.inj (Option.some.inj h)
    exact ⟨st2, by decide +kernel, by decide +kernel⟩
  · intro h
    obtain ⟨rfl, rfl⟩ := Prod.mk.inj (Option.some.inj h)
    exact ⟨st3, by decide +kernel, by decide +kernel⟩
  · intro h
    obtain ⟨rfl, rfl⟩ := Prod.mk.inj (Option.some.inj h)
    exact ⟨st4, by decide +kernel, by decide +kernel⟩
  · intro h
    obtain ⟨rfl, rfl⟩ := Prod.mk.inj (Option.some.inj h)
    exact ⟨st5, by decide +kernel, by decide +kernel⟩
  · intro h
    obtain ⟨rfl, rfl⟩ := Prod.mk.inj (Option.some.inj h)
    exact ⟨st6, by decide +kernel, by decide +kernel⟩
  · intro h
    obtain ⟨rfl, rfl⟩ := Prod.mk.inj (Option.some.inj h)
    exact ⟨st7, by decide +kernel, by decide +kernel⟩
  · intro h
    obtain ⟨rfl, rfl⟩ := Prod.mk.inj (Option.some.inj h)
    exact ⟨st8, by decide +kernel, by decide +kernel⟩
  · intro h
    obtain ⟨rfl, rfl⟩ := Prod.mk.inj (Option.some.inj h)
    exact ⟨st9, by decide +kernel, by decide +kernel⟩
  · intro h
    obtain ⟨rfl, rfl⟩ := Prod.mk.inj (Option.some.inj h)
    exact ⟨st10, by decide +kernel, by decide +kernel⟩
  · intro h
    obtain ⟨rfl, rfl⟩ := Prod.mk.inj (Option.some.inj h)
    exact ⟨st11, by decide +kernel, by decide +kernel⟩
  · intro h
    obtain ⟨rfl, rfl⟩ := Prod.mk.inj (Option.some.inj h)
    exact ⟨st12, by decide +kernel, by decide +kernel⟩
  · intro h
    obtain ⟨rfl, rfl⟩ := Prod.mk.inj (Option.some.inj h)
    exact ⟨st13, by decide +kernel, by decide +kernel⟩
  · intro h
    obtain ⟨rfl, rfl⟩ := Prod.mk.inj (Option.some.inj h)
    exact ⟨st14, by decide +kernel, by decide +kernel⟩
  · intro h
    obtain ⟨rfl, rfl⟩ := Prod.mk.inj (Option.some.inj h)
    exact ⟨st15, by decide +kernel, by decide +kernel⟩
  · intro h
    obtain ⟨rfl, rfl⟩ := Prod.mk.inj (Option.some.inj h)
    exact ⟨st16, by decide +kernel, by decide +kernel⟩
  · intro h
    obtain ⟨rfl, rfl⟩ := Prod.mk.inj (Option.some.inj h)
    exact ⟨st17, by decide +kernel, by decide +kernel⟩
  · intro h
    obtain ⟨rfl, rfl⟩ := Prod.mk.inj (Option.some.inj h)
    exact ⟨st18, by decide +kernel, by decide +kernel⟩
  · intro h
    obtain ⟨rfl, rfl⟩ := Prod.mk.inj (Option.some.inj h)
    exact ⟨st19, by decide +kernel, by decide +kernel⟩
  · intro h
    obtain ⟨rfl, rfl⟩ := Prod.mk.inj (Option.some.inj h)
    exact ⟨st20, by decide +kernel, by decide +kernel⟩
def atL (l : List Addr) (i : Nat) : Addr := l.getD i 0
theorem all_mk {l : PySem.W.OpenLaw} {w : World} {K : Frag} {h : Heap} {mg : Str → Option Value} {fa G c0 f0 c1 f1 c2 f2 c3 f3 c4 f4 c5 f5 c6 f6 c7 f7 c8 f8 c9 f9 c10 f10 c11 f11 c12 f12 c13 f13 c14 f14 c15 f15 c16 f16 c17 f17 c18 f18 c19 f19 c20 f20 : Addr} (X : K.In h) (NS : h.Ns mainGlobals mg) (hfa : mg "law" = some (.ref fa)) (hG : nsIn K mainGlobals "GrowError" = some (some (.ref G)))
    (aC0 : nsIn K mainGlobals "BadNames" = some (some (.ref c0))) (aI0 : findIn K (.ref c0) "__init__" = some (some (.ref f0))) (aC1 : nsIn K mainGlobals "BadMembers" = some (some (.ref c1))) (aI1 : findIn K (.ref c1) "__init__" = some (some (.ref f1))) (aC2 : nsIn K mainGlobals "BadSets" = some (some (.ref c2))) (aI2 : findIn K (.ref c2) "__init__" = some (some (.ref f2))) (aC3 : nsIn K mainGlobals "BadSet" = some (some (.ref c3))) (aI3 : findIn K (.ref c3) "__init__" = some (some (.ref f3))) (aC4 : nsIn K mainGlobals "NoMember" = some (some (.ref c4))) (aI4 : findIn K (.ref c4) "__init__" = some (some (.ref f4))) (aC5 : nsIn K mainGlobals "NoSet" = some (some (.ref c5))) (aI5 : findIn K (.ref c5) "__init__" = some (some (.ref f5))) (aC6 : nsIn K mainGlobals "BadCaller" = some (some (.ref c6))) (aI6 : findIn K (.ref c6) "__init__" = some (some (.ref f6))) (aC7 : nsIn K mainGlobals "BadKinds" = some (some (.ref c7))) (aI7 : findIn K (.ref c7) "__init__" = some (some (.ref f7))) (aC8 : nsIn K mainGlobals "BadFallbacks" = some (some (.ref c8))) (aI8 : findIn K (.ref c8) "__init__" = some (some (.ref f8))) (aC9 : nsIn K mainGlobals "BadRule" = some (some (.ref c9))) (aI9 : findIn K (.ref c9) "__init__" = some (some (.ref f9))) (aC10 : nsIn K mainGlobals "BadName" = some (some (.ref c10))) (aI10 : findIn K (.ref c10) "__init__" = some (some (.ref f10))) (aC11 : nsIn K mainGlobals "NoHouse" = some (some (.ref c11))) (aI11 : findIn K (.ref c11) "__init__" = some (some (.ref f11))) (aC12 : nsIn K mainGlobals "BadWords" = some (some (.ref c12))) (aI12 : findIn K (.ref c12) "__init__" = some (some (.ref f12))) (aC13 : nsIn K mainGlobals "BadRow" = some (some (.ref c13))) (aI13 : findIn K (.ref c13) "__init__" = some (some (.ref f13))) (aC14 : nsIn K mainGlobals "NoNeighbour" = some (some (.ref c14))) (aI14 : findIn K (.ref c14) "__init__" = some (some (.ref f14))) (aC15 : nsIn K mainGlobals "NotNewer" = some (some (.ref c15))) (aI15 : findIn K (.ref c15) "__init__" = some (some (.ref f15))) (aC16 : nsIn K mainGlobals "NameTaken" = some (some (.ref c16))) (aI16 : findIn K (.ref c16) "__init__" = some (some (.ref f16))) (aC17 : nsIn K mainGlobals "BadMember" = some (some (.ref c17))) (aI17 : findIn K (.ref c17) "__init__" = some (some (.ref f17))) (aC18 : nsIn K mainGlobals "NotHeld" = some (some (.ref c18))) (aI18 : findIn K (.ref c18) "__init__" = some (some (.ref f18))) (aC19 : nsIn K mainGlobals "TooFar" = some (some (.ref c19))) (aI19 : findIn K (.ref c19) "__init__" = some (some (.ref f19))) (aC20 : nsIn K mainGlobals "BadText" = some (some (.ref c20))) (aI20 : findIn K (.ref c20) "__init__" = some (some (.ref f20)))
    (O0 : ErrObj l.prog K sE0 c0 f0) (O1 : ErrObj l.prog K sE1 c1 f1) (O2 : ErrObj l.prog K sE2 c2 f2) (O3 : ErrObj l.prog K sE3 c3 f3) (O4 : ErrObj l.prog K sE4 c4 f4) (O5 : ErrObj l.prog K sE5 c5 f5) (O6 : ErrObj l.prog K sE6 c6 f6) (O7 : ErrObj l.prog K sE7 c7 f7) (O8 : ErrObj l.prog K sE8 c8 f8) (O9 : ErrObj l.prog K sE9 c9 f9) (O10 : ErrObj l.prog K sE10 c10 f10) (O11 : ErrObj l.prog K sE11 c11 f11) (O12 : ErrObj l.prog K sE12 c12 f12) (O13 : ErrObj l.prog K sE13 c13 f13) (O14 : ErrObj l.prog K sE14 c14 f14) (O15 : ErrObj l.prog K sE15 c15 f15) (O16 : ErrObj l.prog K sE16 c16 f16) (O17 : ErrObj l.prog K sE17 c17 f17) (O18 : ErrObj l.prog K sE18 c18 f18) (O19 : ErrObj l.prog K sE19 c19 f19) (O20 : ErrObj l.prog K sE20 c20 f20)
    {aSrc : Addr} {odSrc anSrc : Option Addr} {slSrc : Array (Option Value)} {ocSrc kVSrc dcSrc pmSrc cdSrc ctSrc : Value}
    (gSrc : nsIn K mainGlobals "_law_source" = some (some (.ref aSrc))) (lSrc : K.lookup aSrc = some ⟨ocSrc, odSrc, .func (PySem.W.fnOf "_law_source" "_law_source" (defArgs sSource) (defBody sSource) (defScope sSource) .none kVSrc dcSrc pmSrc anSrc cdSrc ctSrc), slSrc⟩) (qSrc : codeIn K cdSrc "_law_source" = true) (kSrc : keepIn K (.ref aSrc) = true)
    {aDrw : Addr} {odDrw anDrw : Option Addr} {slDrw : Array (Option Value)} {ocDrw kVDrw dcDrw pmDrw cdDrw ctDrw : Value}
    (gDrw : nsIn K mainGlobals "_law_draw" = some (some (.ref aDrw))) (lDrw : K.lookup aDrw = some ⟨ocDrw, odDrw, .func (PySem.W.fnOf "_law_draw" "_law_draw" (defArgs sDraw) (defBody sDraw) (defScope sDraw) .none kVDrw dcDrw pmDrw anDrw cdDrw ctDrw), slDrw⟩) (qDrw : codeIn K cdDrw "_law_draw" = true) (kDrw : keepIn K (.ref aDrw) = true)
    {aPck : Addr} {odPck anPck : Option Addr} {slPck : Array (Option Value)} {ocPck kVPck dcPck pmPck cdPck ctPck : Value}
    (gPck : nsIn K mainGlobals "_law_pick" = some (some (.ref aPck))) (lPck : K.lookup aPck = some ⟨ocPck, odPck, .func (PySem.W.fnOf "_law_pick" "_law_pick" (defArgs sPick) (defBody sPick) (defScope sPick) .none kVPck dcPck pmPck anPck cdPck ctPck), slPck⟩) (qPck : codeIn K cdPck "_law_pick" = true) (kPck : keepIn K (.ref aPck) = true)
    {aKnd : Addr} {odKnd anKnd : Option Addr} {slKnd : Array (Option Value)} {ocKnd kVKnd dcKnd pmKnd cdKnd ctKnd : Value}
    (gKnd : nsIn K mainGlobals "_law_kinds" = some (some (.ref aKnd))) (lKnd : K.lookup aKnd = some ⟨ocKnd, odKnd, .func (PySem.W.fnOf "_law_kinds" "_law_kinds" (defArgs sKinds) (defBody sKinds) (defScope sKinds) .none kVKnd dcKnd pmKnd anKnd cdKnd ctKnd), slKnd⟩) (qKnd : codeIn K cdKnd "_law_kinds" = true) (kKnd : keepIn K (.ref aKnd) = true)
    {aPlc : Addr} {odPlc anPlc : Option Addr} {slPlc : Array (Option Value)} {ocPlc kVPlc dcPlc pmPlc cdPlc ctPlc : Value}
    (gPlc : nsIn K mainGlobals "_law_by_place" = some (some (.ref aPlc))) (lPlc : K.lookup aPlc = some ⟨ocPlc, odPlc, .func (PySem.W.fnOf "_law_by_place" "_law_by_place" (defArgs sByPlace) (defBody sByPlace) (defScope sByPlace) .none kVPlc dcPlc pmPlc anPlc cdPlc ctPlc), slPlc⟩) (qPlc : codeIn K cdPlc "_law_by_place" = true) (kPlc : keepIn K (.ref aPlc) = true)
    {aNam : Addr} {odNam anNam : Option Addr} {slNam : Array (Option Value)} {ocNam kVNam dcNam pmNam cdNam ctNam : Value}
    (gNam : nsIn K mainGlobals "_law_by_name" = some (some (.ref aNam))) (lNam : K.lookup aNam = some ⟨ocNam, odNam, .func (PySem.W.fnOf "_law_by_name" "_law_by_name" (defArgs sByName) (defBody sByName) (defScope sByName) .none kVNam dcNam pmNam anNam cdNam ctNam), slNam⟩) (qNam : codeIn K cdNam "_law_by_name" = true) (kNam : keepIn K (.ref aNam) = true)
    {aSto : Addr} {odSto anSto : Option Addr} {slSto : Array (Option Value)} {ocSto kVSto dcSto pmSto cdSto ctSto : Value}
    (gSto : nsIn K mainGlobals "_law_stored" = some (some (.ref aSto))) (lSto : K.lookup aSto = some ⟨ocSto, odSto, .func (PySem.W.fnOf "_law_stored" "_law_stored" (defArgs sStored) (defBody sStored) (defScope sStored) .none kVSto dcSto pmSto anSto cdSto ctSto), slSto⟩) (qSto : codeIn K cdSto "_law_stored" = true) (kSto : keepIn K (.ref aSto) = true)
    {aLaw : Addr} {odLaw anLaw : Option Addr} {slLaw : Array (Option Value)} {ocLaw kVLaw dcLaw pmLaw cdLaw ctLaw : Value}
    (gLaw : nsIn K mainGlobals "law" = some (some (.ref aLaw))) (lLaw : K.lookup aLaw = some ⟨ocLaw, odLaw, .func (PySem.W.fnOf "law" "law" (defArgs sLaw) (defBody sLaw) (defScope sLaw) .none kVLaw dcLaw pmLaw anLaw cdLaw ctLaw), slLaw⟩) (qLaw : codeIn K cdLaw "law" = true) (kLaw : keepIn K (.ref aLaw) = true)
    (hE : (List.range 21).all (fun i => errChk K (errTab.getD i ("", "")).1 (errTab.getD i ("", "")).2 (atL [c0, c1, c2, c3, c4, c5, c6, c7, c8, c9, c10, c11, c12, c13, c14, c15, c16, c17, c18, c19, c20] i) (atL [f0, f1, f2, f3, f4, f5, f6, f7, f8, f9, f10, f11, f12, f13, f14, f15, f16, f17, f18, f19, f20] i)) = true) (hK : kitChk K (atL [c0, c1, c2, c3, c4, c5, c6, c7, c8, c9, c10, c11, c12, c13, c14, c15, c16, c17, c18, c19, c20]) G = true) (hN : noneChk K = true)
    (hn : specialIn K (.builtin "object.__class__") "__get__" = some (some (.builtin "getset_descriptor.__get__"))) (ht : takesIn K (.builtin "object.__class__") = some true)
    (top : (l.prog.main.scope.names.lookup ("super" : Str)).isSome = false) (opq : nsIn K cStatics "thirdparty.any" = some none) :
    ∃ fd : FuncData, (∀ (s : Shared) (v : Value), BindsTo s fd ⟨[v], []⟩ [("script", v)]) ∧ ∀ base : Heap, K.In base → base.Ns mainGlobals mg → FnG l.prog w K mg base CX0 6 fa fd ["script"] (spLaw K) := by
  have e := hfa.symm.trans (mg_of X NS gLaw)
  cases e
  have none_ : ∀ x ∈ (["range", "max", "min", "len", "enumerate", "list", "repr", "int", "isinstance", "ValueError", "super"] : List Str), mg x = none := fun x hx => mg_none_of X NS (beq_iff_eq.mp (List.all_eq_true.mp hN x hx))
  have ER : Errs l.prog K mg (atL [c0, c1, c2, c3, c4, c5, c6, c7, c8, c9, c10, c11, c12, c13, c14, c15, c16, c17, c18, c19, c20]) (atL [f0, f1, f2, f3, f4, f5, f6, f7, f8, f9, f10, f11, f12, f13, f14, f15, f16, f17, f18, f19, f20]) (fun i => fdAt K (atL [f0, f1, f2, f3, f4, f5, f6, f7, f8, f9, f10, f11, f12, f13, f14, f15, f16, f17, f18, f19, f20] i)) G := errs_mk (st := stOf) X NS st_all (each21 (p := fun i => ErrObj l.prog K (stOf i) (atL [c0, c1, c2, c3, c4, c5, c6, c7, c8, c9, c10, c11, c12, c13, c14, c15, c16, c17, c18, c19, c20] i) (atL [f0, f1, f2, f3, f4, f5, f6, f7, f8, f9, f10, f11, f12, f13, f14, f15, f16, f17, f18, f19, f20] i)) O0 O1 O2 O3 O4 O5 O6 O7 O8 O9 O10 O11 O12 O13 O14 O15 O16 O17 O18 O19 O20) hE hK hN hG hn ht top opq
  have FSrc := fun_mk (st := sSource) lSrc qSrc kSrc
  have FDrw := fun_mk (st := sDraw) lDrw qDrw kDrw
  have FPck := fun_mk (st := sPick) lPck qPck kPck
  have FKnd := fun_mk (st := sKinds) lKnd qKnd kKnd
  have FPlc := fun_mk (st := sByPlace) lPlc qPlc kPlc
  have FNam := fun_mk (st := sByName) lNam qNam kNam
  have FSto := fun_mk (st := sStored) lSto qSto kSto
  have FLaw := fun_mk (st := sLaw) lLaw qLaw kLaw
  have bSrc := FSrc.binds (ps := ["script", "start"]) fun _ _ _ _ _ _ us hl => match us, hl with | [_, _], _ => rfl
  have bDrw := FDrw.binds (ps := ["source", "span"]) fun _ _ _ _ _ _ us hl => match us, hl with | [_, _], _ => rfl
  have bPck := FPck.binds (ps := ["source", "entries"]) fun _ _ _ _ _ _ us hl => match us, hl with | [_, _], _ => rfl
  have bKnd := FKnd.binds (ps := ["error"]) fun _ _ _ _ _ _ us hl => match us, hl with | [_], _ => rfl
  have bPlc := FPlc.binds (ps := ["thing", "word", "many"]) fun _ _ _ _ _ _ us hl => match us, hl with | [_, _, _], _ => rfl
  have bNam := FNam.binds (ps := ["thing", "word", "many"]) fun _ _ _ _ _ _ us hl => match us, hl with | [_, _, _], _ => rfl
  have bSto := FSto.binds (ps := ["errors"]) fun _ _ _ _ _ _ us hl => match us, hl with | [_], _ => rfl
  have bLaw := FLaw.binds (ps := ["script"]) fun _ _ _ _ _ _ us hl => match us, hl with | [_], _ => rfl
  have T : ∀ base, LawTxt l.prog w K mg base (atL [c0, c1, c2, c3, c4, c5, c6, c7, c8, c9, c10, c11, c12, c13, c14, c15, c16, c17, c18, c19, c20]) := fun base => by
    have GS : FnOk l.prog w K mg base CX0 1 aSrc _ ["script", "start"] (spSource K) := ok_source FSrc (none_ _ (by simp)) (none_ _ (by simp))
    have GD : FnOk l.prog w K mg base CX0 1 aDrw _ ["source", "span"] spDraw := ok_draw FDrw (none_ _ (by simp))
    have GP : FnOk l.prog w K mg base CX0 2 aPck _ ["source", "entries"] (spPick K) := ok_pick FPck (none_ _ (by simp)) GD bDrw (mg_of X NS gDrw) kDrw
    exact ⟨⟨_, _, GS, bSrc, mg_of X NS gSrc, kSrc⟩, ⟨_, _, GD, bDrw, mg_of X NS gDrw, kDrw⟩, ⟨_, _, GP, bPck, mg_of X NS gPck, kPck⟩,
      ⟨_, _, ok_kinds FKnd ER, bKnd, mg_of X NS gKnd, kKnd⟩, ⟨_, _, ok_Place FPlc ER, bPlc, mg_of X NS gPlc, kPlc⟩, ⟨_, _, ok_Name FNam ER, bNam, mg_of X NS gNam, kNam⟩, ⟨_, _, ok_stored FSto ER, bSto, mg_of X NS gSto, kSto⟩,
      none_ _ (by simp), none_ _ (by simp), none_ _ (by simp), none_ _ (by simp), none_ _ (by simp), none_ _ (by simp), none_ _ (by simp)⟩
  exact ⟨PySem.W.fnOf "law" "law" (defArgs sLaw) (defBody sLaw) (defScope sLaw) .none kVLaw dcLaw pmLaw anLaw cdLaw ctLaw, fun s v => .of_eq rfl, fun base _ _ => ok_law FLaw ER (T base)⟩
end Gk
open PySem PySem.W PyProof.Rows
set_option maxRecDepth 100000 in
set_option maxHeartbeats 0 in
theorem PySem.Challenge.cw_growlists_k91_errors_by_hand_holds : PySem.Challenge.rw_growlists_k91_errors_by_hand.Holds := by
  w_on; o_law; k_headL; (case hw => w_witness2)
  k_fill
  refine Gk.walk_ofG (l := PySem.Challenge.rw_growlists_k91_errors_by_hand) (n := 63) (k := 6) (x := "script") (CX := fun _ => L2.CX0) (sp := fun w => Gk.spLaw _) rfl (by decide) rfl ⟨rfl, by decide, by decide⟩ (fun w h Y => PySem.W.kIn_of Y) ?F (fun _ _ a ns hl hb _ hS => ⟨a, ns, rfl, hS, hl, hb, fun _ => rfl⟩) fun _ _ _ _ _ z => z
  case F =>
    intro w mg fa h KX G hmg
    refine' Gk.all_mk (l := PySem.Challenge.rw_growlists_k91_errors_by_hand) KX G hmg ?hG ?aC0 ?aI0 ?aC1 ?aI1 ?aC2 ?aI2 ?aC3 ?aI3 ?aC4 ?aI4 ?aC5 ?aI5 ?aC6 ?aI6 ?aC7 ?aI7 ?aC8 ?aI8 ?aC9 ?aI9 ?aC10 ?aI10 ?aC11 ?aI11 ?aC12 ?aI12 ?aC13 ?aI13 ?aC14 ?aI14 ?aC15 ?aI15 ?aC16 ?aI16 ?aC17 ?aI17 ?aC18 ?aI18 ?aC19 ?aI19 ?aC20 ?aI20 ?O0 ?O1 ?O2 ?O3 ?O4 ?O5 ?O6 ?O7 ?O8 ?O9 ?O10 ?O11 ?O12 ?O13 ?O14 ?O15 ?O16 ?O17 ?O18 ?O19 ?O20 ?gSrc ?lSrc ?qSrc ?kSrc ?gDrw ?lDrw ?qDrw ?kDrw ?gPck ?lPck ?qPck ?kPck ?gKnd ?lKnd ?qKnd ?kKnd ?gPlc ?lPlc ?qPlc ?kPlc ?gNam ?lNam ?qNam ?kNam ?gSto ?lSto ?qSto ?kSto ?gLaw ?lLaw ?qLaw ?kLaw ?hE ?hK ?hN ?hn ?ht ?top ?opq
    (case hG => k_is)
    (case aC0 => k_is); (case aI0 => k_is)
    (case aC1 => k_is); (case aI1 => k_is)
    (case aC2 => k_is); (case aI2 => k_is)
    (case aC3 => k_is); (case aI3 => k_is)
    (case aC4 => k_is); (case aI4 => k_is)
    (case aC5 => k_is); (case aI5 => k_is)
    (case aC6 => k_is); (case aI6 => k_is)
    (case aC7 => k_is); (case aI7 => k_is)
    (case aC8 => k_is); (case aI8 => k_is)
    (case aC9 => k_is); (case aI9 => k_is)
    (case aC10 => k_is); (case aI10 => k_is)
    (case aC11 => k_is); (case aI11 => k_is)
    (case aC12 => k_is); (case aI12 => k_is)
    (case aC13 => k_is); (case aI13 => k_is)
    (case aC14 => k_is); (case aI14 => k_is)
    (case aC15 => k_is); (case aI15 => k_is)
    (case aC16 => k_is); (case aI16 => k_is)
    (case aC17 => k_is); (case aI17 => k_is)
    (case aC18 => k_is); (case aI18 => k_is)
    (case aC19 => k_is); (case aI19 => k_is)
    (case aC20 => k_is); (case aI20 => k_is)
    (case O0 => (refine' Gk.errObj_mk ?zC0 ?zb0 ?zI0 ?zc0 ?zd0 ?z20 ?zf0 ?zl0; (case zC0 => k_is); (case zb0 => decide +kernel); (case zI0 => k_is); (case zc0 => k_is); (case zd0 => k_is); (case z20 => exact rfl); (case zf0 => decide +kernel); (case zl0 => k_is)))
    (case O1 => (refine' Gk.errObj_mk ?zC1 ?zb1 ?zI1 ?zc1 ?zd1 ?z21 ?zf1 ?zl1; (case zC1 => k_is); (case zb1 => decide +kernel); (case zI1 => k_is); (case zc1 => k_is); (case zd1 => k_is); (case z21 => exact rfl); (case zf1 => decide +kernel); (case zl1 => k_is)))
    (case O2 => (refine' Gk.errObj_mk ?zC2 ?zb2 ?zI2 ?zc2 ?zd2 ?z22 ?zf2 ?zl2; (case zC2 => k_is); (case zb2 => decide +kernel); (case zI2 => k_is); (case zc2 => k_is); (case zd2 => k_is); (case z22 => exact rfl); (case zf2 => decide +kernel); (case zl2 => k_is)))
    (case O3 => (refine' Gk.errObj_mk ?zC3 ?zb3 ?zI3 ?zc3 ?zd3 ?z23 ?zf3 ?zl3; (case zC3 => k_is); (case zb3 => decide +kernel); (case zI3 => k_is); (case zc3 => k_is); (case zd3 => k_is); (case z23 => exact rfl); (case zf3 => decide +kernel); (case zl3 => k_is)))
    (case O4 => (refine' Gk.errObj_mk ?zC4 ?zb4 ?zI4 ?zc4 ?zd4 ?z24 ?zf4 ?zl4; (case zC4 => k_is); (case zb4 => decide +kernel); (case zI4 => k_is); (case zc4 => k_is); (case zd4 => k_is); (case z24 => exact rfl); (case zf4 => decide +kernel); (case zl4 => k_is)))
    (case O5 => (refine' Gk.errObj_mk ?zC5 ?zb5 ?zI5 ?zc5 ?zd5 ?z25 ?zf5 ?zl5; (case zC5 => k_is); (case zb5 => decide +kernel); (case zI5 => k_is); (case zc5 => k_is); (case zd5 => k_is); (case z25 => exact rfl); (case zf5 => decide +kernel); (case zl5 => k_is)))
    (case O6 => (refine' Gk.errObj_mk ?zC6 ?zb6 ?zI6 ?zc6 ?zd6 ?z26 ?zf6 ?zl6; (case zC6 => k_is); (case zb6 => decide +kernel); (case zI6 => k_is); (case zc6 => k_is); (case zd6 => k_is); (case z26 => exact rfl); (case zf6 => decide +kernel); (case zl6 => k_is)))
    (case O7 => (refine' Gk.errObj_mk ?zC7 ?zb7 ?zI7 ?zc7 ?zd7 ?z27 ?zf7 ?zl7; (case zC7 => k_is); (case zb7 => decide +kernel); (case zI7 => k_is); (case zc7 => k_is); (case zd7 => k_is); (case z27 => exact rfl); (case zf7 => decide +kernel); (case zl7 => k_is)))
    (case O8 => (refine' Gk.errObj_mk ?zC8 ?zb8 ?zI8 ?zc8 ?zd8 ?z28 ?zf8 ?zl8; (case zC8 => k_is); (case zb8 => decide +kernel); (case zI8 => k_is); (case zc8 => k_is); (case zd8 => k_is); (case z28 => exact rfl); (case zf8 => decide +kernel); (case zl8 => k_is)))
    (case O9 => (refine' Gk.errObj_mk ?zC9 ?zb9 ?zI9 ?zc9 ?zd9 ?z29 ?zf9 ?zl9; (case zC9 => k_is); (case zb9 => decide +kernel); (case zI9 => k_is); (case zc9 => k_is); (case zd9 => k_is); (case z29 => exact rfl); (case zf9 => decide +kernel); (case zl9 => k_is)))
    (case O10 => (refine' Gk.errObj_mk ?zC10 ?zb10 ?zI10 ?zc10 ?zd10 ?z210 ?zf10 ?zl10; (case zC10 => k_is); (case zb10 => decide +kernel); (case zI10 => k_is); (case zc10 => k_is); (case zd10 => k_is); (case z210 => exact rfl); (case zf10 => decide +kernel); (case zl10 => k_is)))
    (case O11 => (refine' Gk.errObj_mk ?zC11 ?zb11 ?zI11 ?zc11 ?zd11 ?z211 ?zf11 ?zl11; (case zC11 => k_is); (case zb11 => decide +kernel); (case zI11 => k_is); (case zc11 => k_is); (case zd11 => k_is); (case z211 => exact rfl); (case zf11 => decide +kernel); (case zl11 => k_is)))
    (case O12 => (refine' Gk.errObj_mk ?zC12 ?zb12 ?zI12 ?zc12 ?zd12 ?z212 ?zf12 ?zl12; (case zC12 => k_is); (case zb12 => decide +kernel); (case zI12 => k_is); (case zc12 => k_is); (case zd12 => k_is); (case z212 => exact rfl); (case zf12 => decide +kernel); (case zl12 => k_is)))
    (case O13 => (refine' Gk.errObj_mk ?zC13 ?zb13 ?zI13 ?zc13 ?zd13 ?z213 ?zf13 ?zl13; (case zC13 => k_is); (case zb13 => decide +kernel); (case zI13 => k_is); (case zc13 => k_is); (case zd13 => k_is); (case z213 => exact rfl); (case zf13 => decide +kernel); (case zl13 => k_is)))
    (case O14 => (refine' Gk.errObj_mk ?zC14 ?zb14 ?zI14 ?zc14 ?zd14 ?z214 ?zf14 ?zl14; (case zC14 => k_is); (case zb14 => decide +kernel); (case zI14 => k_is); (case zc14 => k_is); (case zd14 => k_is); (case z214 => exact rfl); (case zf14 => decide +kernel); (case zl14 => k_is)))
    (case O15 => (refine' Gk.errObj_mk ?zC15 ?zb15 ?zI15 ?zc15 ?zd15 ?z215 ?zf15 ?zl15; (case zC15 => k_is); (case zb15 => decide +kernel); (case zI15 => k_is); (case zc15 => k_is); (case zd15 => k_is); (case z215 => exact rfl); (case zf15 => decide +kernel); (case zl15 => k_is)))
    (case O16 => (refine' Gk.errObj_mk ?zC16 ?zb16 ?zI16 ?zc16 ?zd16 ?z216 ?zf16 ?zl16; (case zC16 => k_is); (case zb16 => decide +kernel); (case zI16 => k_is); (case zc16 => k_is); (case zd16 => k_is); (case z216 => exact rfl); (case zf16 => decide +kernel); (case zl16 => k_is)))
    (case O17 => (refine' Gk.errObj_mk ?zC17 ?zb17 ?zI17 ?zc17 ?zd17 ?z217 ?zf17 ?zl17; (case zC17 => k_is); (case zb17 => decide +kernel); (case zI17 => k_is); (case zc17 => k_is); (case zd17 => k_is); (case z217 => exact rfl); (case zf17 => decide +kernel); (case zl17 => k_is)))
    (case O18 => (refine' Gk.errObj_mk ?zC18 ?zb18 ?zI18 ?zc18 ?zd18 ?z218 ?zf18 ?zl18; (case zC18 => k_is); (case zb18 => decide +kernel); (case zI18 => k_is); (case zc18 => k_is); (case zd18 => k_is); (case z218 => exact rfl); (case zf18 => decide +kernel); (case zl18 => k_is)))
    (case O19 => (refine' Gk.errObj_mk ?zC19 ?zb19 ?zI19 ?zc19 ?zd19 ?z219 ?zf19 ?zl19; (case zC19 => k_is); (case zb19 => decide +kernel); (case zI19 => k_is); (case zc19 => k_is); (case zd19 => k_is); (case z219 => exact rfl); (case zf19 => decide +kernel); (case zl19 => k_is)))
    (case O20 => (refine' Gk.errObj_mk ?zC20 ?zb20 ?zI20 ?zc20 ?zd20 ?z220 ?zf20 ?zl20; (case zC20 => k_is); (case zb20 => decide +kernel); (case zI20 => k_is); (case zc20 => k_is); (case zd20 => k_is); (case z220 => exact rfl); (case zf20 => decide +kernel); (case zl20 => k_is)))
    (case gSrc => k_is); (case lSrc => k_is); (case qSrc => k_is); (case kSrc => k_is)
    (case gDrw => k_is); (case lDrw => k_is); (case qDrw => k_is); (case kDrw => k_is)
    (case gPck => k_is); (case lPck => k_is); (case qPck => k_is); (case kPck => k_is)
    (case gKnd => k_is); (case lKnd => k_is); (case qKnd => k_is); (case kKnd => k_is)
    (case gPlc => k_is); (case lPlc => k_is); (case qPlc => k_is); (case kPlc => k_is)
    (case gNam => k_is); (case lNam => k_is); (case qNam => k_is); (case kNam => k_is)
    (case gSto => k_is); (case lSto => k_is); (case qSto => k_is); (case kSto => k_is)
    (case gLaw => k_is); (case lLaw => k_is); (case qLaw => k_is); (case kLaw => k_is)
    (case hE => kernel_rfl); (case hK => kernel_rfl); (case hN => kernel_rfl); (case hn => k_is); (case ht => k_is); (case top => decide +kernel); (case opq => k_is)
