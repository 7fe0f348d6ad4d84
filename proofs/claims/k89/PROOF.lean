import PyProof.Rows.All
import Wide.All
import OpenK.AllK
import Wide.FinOn
import HandS.ForMost
import HandS.Exc
import HandS.ExcOwn
import HandS.TryOnly
import HandS.WordsExc
import HandS.Conv
import HandS.More
import HandS.IsInst
import HandS.FStr
import HandS.Star
import HandS.RaiseMore
import HandS.ExcIs
import HandS.DictComp
import HandS.Zip
import HandS.TupAny
import HandS.CallLocal
import HandS.Flow
import HandS.EndBits
import HandS.Text
import HandS.Walk
import PyProof.StrOps2
import PySem.Challenge.RW_byteshape_k89_words_of_a_session
import HandS.Codes
import HandS.Ends
import HandS.Defaults
import HandS.HeadEnd
import HandS.HeadHook1
import HandS.HeadHook2
import HandS.HeadHook3
set_option Elab.async false
set_option linter.all false
set_option maxRecDepth 100000
set_option maxHeartbeats 4000000
/-! words of a session: the text by places, names, numbers -/
namespace Bs
open PySem L2
def top (i : Nat) : Stmt := PySem.Challenge.pw_byteshape_k89_words_of_a_session.main.body.getD i (.Pass ⟨0, 0, 0, 0⟩)
abbrev sIsName : Stmt := top 5
abbrev sSplit : Stmt := top 10
abbrev sIsByte : Stmt := top 11
abbrev sAreNames : Stmt := top 12
abbrev sIsCommand : Stmt := top 13
abbrev sLawRow : Stmt := top 15
abbrev sLawNumbers : Stmt := top 16
abbrev sLawWord : Stmt := top 17
abbrev sLawFormed : Stmt := top 18
abbrev sLawIsName : Stmt := top 19
abbrev sLawIsByte : Stmt := top 20
abbrev sLawAllNames : Stmt := top 21
abbrev sLawCommand : Stmt := top 22
abbrev sLaw : Stmt := top 23
/-! ### names -/
abbrev letters : Str := "abcdefghijklmnopqrstuvwxyz"
abbrev digits : Str := "0123456789"
def isLetter (c : Nat) : Bool := decide (c ∈ letters.cps.toList)
def isDigit (c : Nat) : Bool := decide (c ∈ digits.cps.toList)
def isSign (c : Nat) : Bool := isLetter c || isDigit c
def nameOk : List Nat → Bool
  | [] => false
  | c :: r => decide (r.length < 12) && (isLetter c && (c :: r).all isSign)
def isName (z : Str) : Bool := nameOk z.cps.toList

end Bs

set_option Elab.async false
set_option linter.all false
set_option maxRecDepth 100000
set_option maxHeartbeats 4000000
namespace Bs
open PySem L2
/-- a module's int -/
def GInt (mg : Str → Option Value) (x : Str) (i : Int) : Prop := ∃ t, mg x = some (.int i t)
def GStr (mg : Str → Option Value) (x : Str) (z : Str) : Prop := ∃ t, mg x = some (.str z t)
theorem pe_gint {X : Cx} {x : Str} {i : Int} {pos : Pos} (h : GInt X.mg x i) (hg : Gl X x) (hd : (x == ("__debug__" : Str)) = false := by decide) : PE X (.Name x pos) (tC (.int i)) := by
  obtain ⟨t, e⟩ := h
  exact pe_glob hg e ⟨t, rfl⟩ hd
theorem pe_gstr {X : Cx} {x : Str} {z : Str} {pos : Pos} (h : GStr X.mg x z) (hg : Gl X x) (hd : (x == ("__debug__" : Str)) = false := by decide) : PE X (.Name x pos) (tC (.str z)) := by
  obtain ⟨t, e⟩ := h
  exact pe_glob hg e ⟨t, rfl⟩ hd
/-! ### calls in short -/
structure Cal (P : Program) (w : World) (K : PySem.W.Frag) (mg : Str → Option Value) (base : Heap) (CX : CXT) (k : Nat) (x : Str) (ps : List Str) (sp : Sp) : Prop where
  ex : ∃ (f : Addr) (fd : FuncData), mg x = some (.ref f) ∧ PySem.W.keepIn K (.ref f) = true ∧ Binds K fd ps [] ∧ FnOk P w K mg base CX k f fd ps sp
def tCl (sp : Sp) (E : XK) (t : TA) : TE := fun σ H Q => t σ H fun vs H1 => sp vs H1 Q E
theorem tCall_nil {sp : Sp} {E : XK} {t : TA} : tCall sp [] E t = tCl sp E t := by
  funext σ H Q
  show t σ H (fun vs H1 => sp (vs ++ []) H1 Q E) = _
  congr
  funext vs H1
  rw [List.append_nil]
/-- x(e, ..), x a def of the text -/
theorem pe_cal {X : Cx} {CX : CXT} {k : Nat} {x : Str} {ps : List Str} {sp : Sp} {E : XK} {e : Expr} {es : List Expr} {t : TA} {p pos : Pos} (G : Cal X.prog X.w X.K X.mg X.base CX k x ps sp) (hr : Room k X.A) (hx : Passes CX X E) (ha : PA X (e :: es) t) (hg : Gl X x := by rfl)
    (hdb : (x == ("__debug__" : Str)) = false := by decide) (he : starEach (e :: es) X.env = (false, eval e X.env) :: starEach es X.env := by rfl) (hpl : (backTo pos (starEach es X.env)).any (·.1) = false := by rfl) :
    PE X (.Call (.Name x p) (e :: es) [] pos) (tCl sp E t) := by
  obtain ⟨f, fd, h1, h2, h3, h4⟩ := G.ex
  rw [← tCall_nil]
  exact pe_call h4 hr hg h1 h2 h3 .nil hx ha hdb he hpl
def spIsName : Sp := fun vs H Q _ => ∃ z : Str, vs = [.str z] ∧ z.length ≤ sizeLine ∧ ∀ H', Same H H' → Q (.bl (isName z)) H'
theorem same_new {H : Hp} {p : Addr} (h : H p = none) (o : HO) : Same H (upd H p o) := fun b u q => by rw [upd_ne (ne_of_none q h)]; exact q
theorem same_set {H H' : Hp} {p : Addr} {o : HO} (s : Same H H') (h : H p = none) : Same H (upd H' p o) := fun b u q => by rw [upd_ne (ne_of_none q h)]; exact s b u q
theorem yes_go {te : TE} {σ : L2.St} {H : Hp} {R : V → Hp → Prop} {N : Hp → Prop} (h : te σ H R) : tYes σ H fun b H3 => if b = true then te σ H3 R else N H3 := by
  show if true = true then te σ H R else N H
  rw [if_pos rfl]
  exact h
theorem sizeLine_big : 16777216 = sizeLine := by decide
theorem le_line {n : Nat} (h : n ≤ 16777216) : n ≤ sizeLine := by rw [← sizeLine_big]; exact h
theorem nameOk_len {l : List Nat} (h : ¬ (1 ≤ l.length ∧ l.length ≤ 12)) : nameOk l = false := by
  cases l with
  | nil => rfl
  | cons c r =>
    have : ¬ r.length < 12 := fun q => h ⟨by simp, q⟩
    rw [nameOk, decide_eq_false this]; rfl
section
variable {P : Program} {w : World} {K : PySem.W.Frag} {mg : Str → Option Value} {base : Heap} {f C : Addr} {fd : FuncData}
theorem scIsName : FnScope ["text", "one"] ["text"] (defScope sIsName) := ⟨rfl, rfl, rfl, by decide +kernel, rfl, by decide +kernel, by decide +kernel⟩
theorem ok_isname (F : Fun K "is_name" "is_name" sIsName f fd) (mi : mg "isinstance" = none) (ms : mg "str" = none) (ml : mg "len" = none) (ma : mg "all" = none) (gL : GStr mg "LETTERS" letters) (gD : GStr mg "DIGITS" digits) (gN : GInt mg "LONGEST_NAME" 12) :
    FnOk P w K mg base CX0 1 f fd ["text"] spIsName := by
  refine F.ok scIsName (fun vs H Q E h => ?_) (fun cdv A outer s H vs Q E hr h => ?_)
  · obtain ⟨z, rfl, _⟩ := h
    rfl
  · obtain ⟨z, rfl, hz, q⟩ := h
    refine ⟨_, pss_cons (ps_if (PW.pt (pw_or (pt_not (pt_val (pe_callB call_isi (by rfl) mi (by decide +kernel) (pa_cons (pv 0) (pa_cons (pe_bltn (v := .ty "str") (by rfl) ms (by decide +kernel) rfl) pa_nil)))))
        (pw_or1 (pt_not (pt_chain op_le op_le pe_int (pe_callB call_len_str (by rfl) ml boot_len (pa_cons (pv 0) pa_nil)) (pe_gint gN rfl)))))) (pss_one (ps_ret pe_bl)) pss_nil)
      (pss_one (ps_ret (pe_and (pe_cmpR op_in_sign (pe_item_str (pv 0) pe_int (fun _ _ => rfl)) (pe_gstr gL rfl) rfl)
        (pe_one (pe_callB (cr_all rfl) (by rfl) ma (by decide +kernel) (pa_cons (pe_lc (own := [("one", 1)]) (g := gName 1) (tt := tYes) rfl scIsName.nd (pi_str (pv 0)) (blkOk_by (own := [("one", 1)]) (N := ["text", "one"]) (sc := defScope sIsName) (by decide +kernel))
          (fun _ _ _ _ _ => pg_name (i := 1) scIsName.nd rfl (Or.inl rfl)) (fun _ _ _ _ _ => pts_nil)
          (fun _ _ _ _ _ => pe_or (pe_cmpR op_in_sign (pv 1) (pe_gstr gL rfl) rfl) (pe_one (pe_cmpR op_in_sign (pv 1) (pe_gstr gD rfl) rfl)))) pa_nil)))))), ?_⟩
    refine ⟨_, rfl, _, _, _, _, true, rfl, .ty _, .base (.str _), kit_ty (by decide +kernel), _, rfl, ?_⟩
    refine iteF ?_
    refine ⟨_, rfl, z, rfl, hz, _, _, rfl, rfl, _, rfl, ?_⟩
    have hl : z.length = z.cps.toList.length := by simp [Str.length]
    have bad : ¬ (1 ≤ (z.length : Int) ∧ (z.length : Int) ≤ 12) → isName z = false := fun h => nameOk_len fun ⟨h1, h2⟩ => h (by rw [hl]; omega)
    have out : isName z = false → Q (.bl false) H := fun e => by have z := q H (Same.refl H); rw [e] at z; exact z
    refine ite2 (fun c => ?_) (fun c => ?_)
    · have c : 1 ≤ (z.length : Int) := of_decide_eq_true c
      refine ⟨_, _, rfl, rfl, _, rfl, ?_⟩
      refine ite2 (fun d => ?_) (fun d => ?_)
      · have d : ¬ (z.length : Int) ≤ 12 := by simpa using d
        exact out (bad fun h => d h.2)
      · have d : (z.length : Int) ≤ 12 := by simpa using d
        obtain ⟨a, r, hzr⟩ : ∃ a r, z.cps.toList = a :: r := by
          cases e : z.cps.toList with
          | nil => rw [hl, e] at c; simp at c
          | cons a r => exact ⟨a, r, rfl⟩
        have h0 : z.cps[0]? = some a := by rw [← Array.getElem?_toList, hzr]; rfl
        have hr12 : r.length < 12 := by rw [hl, hzr] at d; simp at d; omega
        have hN : isName z = (isLetter a && (a :: r).all isSign) := by
          show nameOk z.cps.toList = _
          rw [hzr, nameOk, decide_eq_true hr12]; rfl
        refine ⟨_, rfl, z, 0, a, rfl, rfl, by decide, by decide, by omega, h0, a, letters, rfl, rfl, _, rfl, ?_⟩
        refine ite2 (fun e => ?_) (fun e => ?_)
        · have e : isLetter a = true := e
          refine ⟨_, rfl, z, rfl, fun D hD => lc_it (walk_str (z := z)) (fun i H' => Same H H' ∧ H' D = some (.lst ((((a :: r).take i).map isSign).map V.bl))) ⟨same_new hD _, upd_same⟩ (fun _ _ _ _ => trivial) ?_ ?_⟩
          · rintro i x H1 H2 hi ⟨sm, hD1⟩ ⟨rfl, ch, hch, rfl⟩
            have hch' : (a :: r)[i]? = some ch := by rw [← hzr, Array.getElem?_toList]; exact hch
            have step : (a :: r).take (i + 1) = (a :: r).take i ++ [ch] := by rw [List.take_add_one, hch']; rfl
            have fin : ∀ b, b = isSign ch → Same H (upd H2 D (.lst ((((a :: r).take i).map isSign).map V.bl ++ [V.bl b]))) ∧ (upd H2 D (.lst ((((a :: r).take i).map isSign).map V.bl ++ [V.bl b]))) D = some (.lst ((((a :: r).take (i + 1)).map isSign).map V.bl)) := fun b eb => by
              refine ⟨same_set sm hD, ?_⟩
              rw [upd_same, step, eb, List.map_append, List.map_append]
              rfl
            have size : ((((a :: r).take i).map isSign).map V.bl).length < sizeLine := small1000 (by rw [List.length_map, List.length_map, List.length_take]; simp; omega)
            refine ⟨rfl, yes_go ?_⟩
            refine ⟨_, rfl, ch, letters, rfl, rfl, _, rfl, ?_⟩
            refine ite2 (fun g => ?_) (fun g => ?_)
            · exact ⟨_, hD1, size, fin true (by have g : isLetter ch = true := g; rw [isSign, g]; rfl)⟩
            · refine ⟨_, rfl, ch, digits, rfl, rfl, _, hD1, size, fin _ ?_⟩
              have g : isLetter ch = false := by simpa [isLetter] using g
              rw [isSign, g]; rfl
          · rintro H1 ⟨sm, hD1⟩
            have hn : z.cps.size = (a :: r).length := by rw [← hzr]; simp
            rw [hn, List.take_length] at hD1
            refine ⟨D, _, rfl, SqL.of hD1, ?_⟩
            have k := q H1 sm
            rw [hN, e] at k
            rw [List.all_map]
            exact k
        · have e : isLetter a = false := by simpa [isLetter] using e
          exact out (by rw [hN, e]; rfl)
    · have c : ¬ 1 ≤ (z.length : Int) := by simpa using c
      exact ⟨false, rfl, iteT (out (bad fun h => c h.1))⟩
end
end Bs

set_option Elab.async false
set_option linter.all false
set_option maxRecDepth 100000
set_option maxHeartbeats 4000000
namespace Bs
open PySem L2
/-! ### the law's own numbers -/
/-- ints of any size come back, so many -/
def spRow : Sp := fun vs H Q _ => ∃ c m : Int, vs = [.int c, .int m] ∧ 0 ≤ m ∧ m ≤ 100 ∧ ∀ p (ns : List Int) H', Same H H' → H p = none → H' p = some (.lst (ns.map V.int)) → ns.length = m.toNat → Q (.ref p) H'
def spNums (K : PySem.W.Frag) : Sp := fun vs H Q _ => ∃ (a : Addr) (ns : List Int), vs = [.ref a, .int 50] ∧ SqL K H a (ns.map V.int) ∧ ns.length ≤ 63 ∧ ∀ p (rs : List Int) H', Same H H' → H' p = some (.lst (rs.map V.int)) → rs.length = 50 → Q (.ref p) H'
section
variable {P : Program} {w : World} {K : PySem.W.Frag} {mg : Str → Option Value} {base : Heap} {f C : Addr} {fd : FuncData}
abbrev nLawRow : List Str := ["cell", "many", "row", "rest", "mixed", "k"]
theorem scLawRow : FnScope nLawRow ["cell", "many"] (defScope sLawRow) := ⟨rfl, rfl, rfl, by decide +kernel, rfl, by decide +kernel, by decide +kernel⟩
theorem map_snoc (ns : List Int) (i : Int) : ns.map V.int ++ [V.int i] = (ns ++ [i]).map V.int := by rw [List.map_append]; rfl
theorem ok_lawrow (F : Fun K "_law_row" "_law_row" sLawRow f fd) (mabs : mg "abs" = none) (mint : mg "int" = none) (mr : mg "range" = none) : FnOk P w K mg base CX0 1 f fd ["cell", "many"] spRow := by
  refine F.ok scLawRow (fun vs H Q E h => ?_) (fun cdv A outer s H vs Q E hr h => ?_)
  · obtain ⟨c, m, rfl, _⟩ := h
    rfl
  · obtain ⟨c, m, rfl, h0, h1, q⟩ := h
    refine ⟨_, pss_cons (ps_set (i := 2) scLawRow.nd rfl (.inl rfl) (pe_lst pa_nil))
      (pss_cons (ps_set (i := 3) scLawRow.nd rfl (.inl rfl) (pe_callB call_abs (by rfl) mabs (by decide +kernel) (pa_cons (pv 0) pa_nil)))
      (pss_cons (ps_set (i := 4) scLawRow.nd rfl (.inl rfl) (pe_op op_mod (pe_callTy call_int1 (by rfl) mint (by decide +kernel) (pa_cons (pe_op op_add (pe_op op_mul (pv 3) pe_int) pe_int) pa_nil)) pe_int))
      (pss_cons (ps_for PassesOwn.never rfl (pi_range1 (by rfl) mr (pa_cons (pv 1) pa_nil)) (pg_name (i := 5) scLawRow.nd rfl (.inl rfl))
        (pss_cons (ps_set (i := 4) scLawRow.nd rfl (.inl rfl) (pe_op op_mod (pe_callTy call_int1 (by rfl) mint (by decide +kernel) (pa_cons (pe_op op_add (pe_op op_mul (pv 4) pe_int) (pe_op op_mul pe_int (pe_op op_add (pv 5) pe_int))) pa_nil)) pe_int))
        (pss_one (ps_if (pt_cmpR op_ge (pe_callB call_abs (by rfl) mabs (by decide +kernel) (pa_cons (pv 0) pa_nil)) (pe_op op_pow pe_int pe_int) (nomark _))
          (pss_cons (ps_expr (pe_bm PySem.F.plainAttrs_list PySem.F.slot_list_append PySem.F.type_list_append mt_append (pv 2) (pa_cons (pe_op op_mod (pe_callTy call_int1 (by rfl) mint (by decide +kernel) (pa_cons (pv 3) pa_nil)) pe_int) pa_nil)))
            (pss_one (ps_set (i := 3) scLawRow.nd rfl (.inl rfl) (pe_op op_fdiv (pv 3) pe_int))))
          (pss_one (ps_expr (pe_bm PySem.F.plainAttrs_list PySem.F.slot_list_append PySem.F.type_list_append mt_append (pv 2) (pa_cons (pe_op op_mod (pe_callTy call_int1 (by rfl) mint (by decide +kernel) (pa_cons (pe_op op_fdiv (pv 4) pe_int) pa_nil)) pe_int) pa_nil))))))))
      (pss_one (ps_ret (pv 2)))))), ?_⟩
    refine ⟨(by show 0 ≤ sizeLine; decide), fun D hD => ?_⟩
    refine ⟨_, rfl, _, rfl, _, rfl, _, _, rfl, rfl, .inr ⟨by decide, by decide⟩, _, _, rfl, rfl, .inl ⟨_, rfl, _, _, rfl, rfl, (by show (0 : Int) < 2147483647; decide), ?_⟩⟩
    refine ⟨_, rfl, m, rfl, by omega, by omega, for_range (lo := 0) (n := m.toNat) (fun i σ H' => ∃ rest mixed k5, σ = [some (.int c), some (.int m), some (.ref D), some (.int rest), some (.int mixed), k5] ∧ Same H H' ∧ ∃ ns : List Int, ns.length = i ∧ H' D = some (.lst (ns.map V.int)))
      ⟨_, _, none, rfl, same_new hD _, [], rfl, upd_same⟩ ?_ ?_⟩
    · rintro i σ H2 hi ⟨rest, mixed, k5, rfl, s2, ns, hn, hD2⟩
      refine ⟨_, rfl, _, _, rfl, rfl, .inr ⟨by decide, by decide⟩, _, rfl, _, _, rfl, rfl, _, _, rfl, rfl, .inl ⟨by decide, by decide⟩, _, _, rfl, rfl, .inl ⟨_, rfl, _, _, rfl, rfl, (by show (0 : Int) < 2147483629; decide), ?_⟩⟩
      have hz : (ns.map V.int).length < sizeLine := small1000 (by rw [List.length_map]; omega)
      refine ⟨_, rfl, _, rfl, _, _, rfl, rfl, ⟨by decide, by decide, by decide⟩, _, _, rfl, rfl, _, rfl, ite2 (fun _ => ?_) (fun _ => ?_)⟩
      · refine ⟨_, rfl, .inl ⟨rfl, _, SqL.of hD2⟩, _, rfl, .inl ⟨_, rfl, _, _, rfl, rfl, (by show (0 : Int) < 1009; decide), D, _, _, rfl, rfl, hD2, hz, ?_⟩⟩
        rw [map_snoc]
        refine ⟨_, rfl, _, _, rfl, rfl, ⟨by decide, by decide⟩, ?_⟩
        exact ⟨_, _, _, rfl, same_set s2 hD, _, by rw [List.length_append, hn]; rfl, upd_same⟩
      · refine ⟨_, rfl, .inl ⟨rfl, _, SqL.of hD2⟩, _, rfl, _, _, rfl, rfl, ⟨by decide, by decide⟩, .inl ⟨_, rfl, _, _, rfl, rfl, (by show (0 : Int) < 1009; decide), D, _, _, rfl, rfl, hD2, hz, ?_⟩⟩
        rw [map_snoc]
        exact ⟨_, _, _, rfl, same_set s2 hD, _, by rw [List.length_append, hn]; rfl, upd_same⟩
    · rintro σ H2 ⟨rest, mixed, k5, rfl, s2, ns, hn, hD2⟩
      exact ⟨_, rfl, q D ns H2 s2 hD hD2 hn⟩
theorem cut_ints (ns : List Int) (h : Nat) : cutV (ns.map V.int) none (some (h : Int)) = (ns.take h).map V.int := by
  unfold cutV
  rw [HT.sIx_none, HT.sIx_nat, List.drop_zero, Nat.sub_zero, List.map_take]
  by_cases hh : h ≤ (ns.map V.int).length
  · rw [Nat.min_eq_left hh]
  · rw [Nat.min_eq_right (by omega), List.take_length, List.take_of_length_le (by omega)]
abbrev nLawNums : List Str := ["script", "many", "cells", "each", "numbers", "cell", "number"]
theorem scLawNums : FnScope nLawNums ["script", "many"] (defScope sLawNumbers) := ⟨rfl, rfl, rfl, by decide +kernel, rfl, by decide +kernel, by decide +kernel⟩
theorem ok_lawnums {k : Nat} (hk : 1 ≤ k) (F : Fun K "_law_numbers" "_law_numbers" sLawNumbers f fd) (gR : Cal P w K mg base CX0 1 "_law_row" ["cell", "many"] spRow) (mmax : mg "max" = none) (ml : mg "len" = none) : FnOk P w K mg base CX0 2 f fd ["script", "many"] (spNums K) := by
  refine F.ok scLawNums (fun vs H Q E h => ?_) (fun cdv A outer s H vs Q E hr h => ?_)
  · obtain ⟨a, ns, rfl, _⟩ := h
    rfl
  · obtain ⟨a, ns, rfl, ha, hlen, q⟩ := h
    refine ⟨_, pss_cons (ps_set (i := 2) scLawNums.nd rfl (.inl rfl) (pe_slice sl_list (pv 0) po_none (po_some pe_int)))
      (pss_cons (ps_set (i := 3) scLawNums.nd rfl (.inl rfl) (pe_op op_add pe_int (pe_op op_fdiv (pv 1) (pe_callB (call_max2 rfl) (by rfl) mmax (by decide +kernel) (pa_cons pe_int (pa_cons (pe_callB call_len (by rfl) ml boot_len (pa_cons (pv 2) pa_nil)) pa_nil))))))
      (pss_cons (ps_set (i := 4) scLawNums.nd rfl (.inl rfl) (pe_lst pa_nil))
      (pss_cons (ps_for PassesOwn.never rfl (pi_list (pv 2)) (pg_name (i := 5) scLawNums.nd rfl (.inl rfl))
        (pss_one (ps_for PassesOwn.never rfl (pi_list (pe_cal gR (hr.mono (by decide)) pass0 (pa_cons (pv 5) (pa_cons (pv 3) pa_nil)))) (pg_name (i := 6) scLawNums.nd rfl (.inl rfl))
          (pss_one (ps_expr (pe_bm PySem.F.plainAttrs_list PySem.F.slot_list_append PySem.F.type_list_append mt_append (pv 4) (pa_cons (pv 6) pa_nil)))))))
      (pss_cons (ps_while PassesOwn.never (pt_cmpR op_lt (pe_callB call_len (by rfl) ml boot_len (pa_cons (pv 4) pa_nil)) (pv 1) (nomark _))
        (pss_one (ps_expr (pe_bm PySem.F.plainAttrs_list PySem.F.slot_list_append PySem.F.type_list_append mt_append (pv 4) (pa_cons pe_int pa_nil)))))
      (pss_one (ps_ret (pe_slice sl_list (pv 4) po_none (po_some (pv 1))))))))), ?_⟩
    refine ⟨_, rfl, 63, rfl, a, _, rfl, ha, fun pc hpc => ?_⟩
    rw [show ((63 : Int) = ((63 : Nat) : Int)) from rfl, cut_ints]
    have lc : (ns.take 63).length ≤ 63 := by rw [List.length_take]; omega
    generalize hcs : ns.take 63 = cs at lc ⊢
    have s1 := same_new hpc (.lst (cs.map V.int))
    have hc1 : upd H pc (.lst (cs.map V.int)) pc = some (.lst (cs.map V.int)) := upd_same
    generalize upd H pc _ = H1 at s1 hc1 ⊢
    refine ⟨_, rfl, _, rfl, _, _, rfl, .inl ⟨_, SqL.of hc1, rfl⟩, _, _, rfl, ?_⟩
    rw [List.length_map]
    have hmx : (1 : Int) ≤ (if (cs.length : Int) > 1 then (cs.length : Int) else 1) ∧ (if (cs.length : Int) > 1 then (cs.length : Int) else 1) ≤ 63 := by split <;> omega
    generalize hmm : (if (cs.length : Int) > 1 then (cs.length : Int) else 1) = mx at hmx
    have he : (1 : Int) ≤ 1 + 50 / mx ∧ 1 + 50 / mx ≤ 51 := by
      have h1 : (0 : Int) ≤ 50 / mx := Int.ediv_nonneg (by decide) (by omega)
      have h2 : (50 : Int) / mx ≤ 50 := Int.ediv_le_self _ (by decide)
      omega
    refine ⟨_, _, rfl, rfl, ⟨by omega, by omega⟩, _, _, rfl, rfl, ?_⟩
    refine ⟨(by show 0 ≤ sizeLine; decide), fun D hD => ?_⟩
    have zz : ∀ n : Nat, n ≤ 4000 → n < sizeLine := fun n h => Nat.lt_of_le_of_lt h (by decide)
    refine ⟨_, rfl, pc, rfl, ⟨_, SqL.of (same_new hD (.lst []) _ _ hc1)⟩, for_list (K := K) (a := pc) (xs := cs.map V.int) (fun i σ H' => ∃ i5 i6, σ = [some (.ref a), some (.int 50), some (.ref pc), some (.int (1 + 50 / mx)), some (.ref D), i5, i6] ∧ Same H1 H' ∧ ∃ ms : List Int, ms.length ≤ i * 51 ∧ H' D = some (.lst (ms.map V.int)))
      ⟨none, none, rfl, same_new hD _, [], Nat.le_refl _, upd_same⟩ (fun i σ H' _ z => by obtain ⟨_, _, _, z, _⟩ := z; exact SqL.of (z _ _ hc1)) ?_ ?_⟩
    · rintro i v σ H2 hi ⟨i5, i6, rfl, s2, ms, hm, hD2⟩
      have hil : i < (cs.map V.int).length := (List.getElem?_eq_some_iff.mp hi).1
      rw [List.length_map] at hil
      obtain ⟨z, rfl⟩ : ∃ z, v = V.int z := by
        rw [List.getElem?_map] at hi
        cases e : cs[i]? with
        | none => rw [e] at hi; cases hi
        | some z => rw [e] at hi; exact ⟨z, (Option.some.inj hi).symm⟩
      refine ⟨_, rfl, _, rfl, z, _, rfl, by omega, by omega, fun pr rs H3 s3 hnew hr3 hrl => ?_⟩
      refine ⟨pr, rfl, ⟨_, SqL.of hr3⟩, for_list (K := K) (a := pr) (xs := rs.map V.int) (fun j σ H' => ∃ i6, σ = [some (.ref a), some (.int 50), some (.ref pc), some (.int (1 + 50 / mx)), some (.ref D), some (.int z), i6] ∧ Same H1 H' ∧ H' pr = some (.lst (rs.map V.int)) ∧ pr ≠ D ∧ ∃ ms : List Int, ms.length ≤ i * 51 + j ∧ H' D = some (.lst (ms.map V.int)))
        ⟨_, rfl, s2.trans s3, hr3, ?_, ms, by omega, s3 _ _ hD2⟩ (fun j σ H' _ z => by obtain ⟨_, _, _, z, _⟩ := z; exact SqL.of z) ?_ ?_⟩
      · exact fun z => ne_of_none hD2 hnew z.symm
      · rintro j v σ H4 hj ⟨i6, rfl, s4, hr4, ne, ms', hm', hD4⟩
        have hjl : j < (rs.map V.int).length := (List.getElem?_eq_some_iff.mp hj).1
        rw [List.length_map] at hjl
        obtain ⟨y, rfl⟩ : ∃ z, v = V.int z := by
          rw [List.getElem?_map] at hj
          cases e : rs[j]? with
          | none => rw [e] at hj; cases hj
          | some z => rw [e] at hj; exact ⟨z, (Option.some.inj hj).symm⟩
        refine ⟨_, rfl, .inl ⟨rfl, _, SqL.of hD4⟩, _, rfl, D, _, _, rfl, rfl, hD4, zz _ (by rw [List.length_map]; omega), ?_⟩
        rw [map_snoc]
        exact ⟨_, rfl, same_set s4 hD, by rw [upd_ne ne]; exact hr4, ne, _, by rw [List.length_append]; simp; omega, upd_same⟩
      · rintro σ H4 ⟨i6, rfl, s4, hr4, ne, ms', hm', hD4⟩
        rw [List.length_map] at hm'
        exact ⟨_, _, rfl, s4, ms', by omega, hD4⟩
    · rintro σ H2 ⟨i5, i6, rfl, s2, ms, hm, hD2⟩
      rw [List.length_map] at hm
      refine ⟨fun m σ H' => σ = [some (.ref a), some (.int 50), some (.ref pc), some (.int (1 + 50 / mx)), some (.ref D), i5, i6] ∧ Same H1 H' ∧ ∃ ms : List Int, ms.length ≤ 3300 ∧ m = 50 - ms.length ∧ H' D = some (.lst (ms.map V.int)), ⟨_, rfl, s2, ms, by omega, rfl, hD2⟩, ?_⟩
      rintro m σ H3 ⟨rfl, s3, ms', hm', rfl, hD3⟩
      refine ⟨_, rfl, _, _, rfl, .inl ⟨_, SqL.of hD3, rfl⟩, _, rfl, _, _, rfl, rfl, _, rfl, ite2 (fun e => ?_) (fun e => ?_)⟩
      · have e := of_decide_eq_true e
        rw [List.length_map] at e
        refine ⟨_, fun σ' H' z => z, ?_⟩
        refine ⟨_, rfl, .inl ⟨rfl, _, SqL.of hD3⟩, D, _, _, rfl, rfl, hD3, zz _ (by rw [List.length_map]; omega), ?_⟩
        rw [show ms'.map V.int ++ [V.int 0] = (ms' ++ [0]).map V.int from map_snoc _ _]
        exact ⟨50 - (ms' ++ [0]).length, by rw [List.length_append]; simp; omega, rfl, same_set s3 hD, _, by rw [List.length_append]; simp; omega, rfl, upd_same⟩
      · have e : ¬ _ := fun z => e (decide_eq_true z)
        rw [List.length_map] at e
        refine ⟨_, rfl, _, rfl, 50, rfl, D, _, rfl, SqL.of hD3, fun r hr4 => ?_⟩
        rw [show ((50 : Int) = ((50 : Nat) : Int)) from rfl, cut_ints]
        exact q r (ms'.take 50) _ (s1.trans (s3.trans (same_new hr4 _))) upd_same (by rw [List.length_take]; omega)
end
end Bs

set_option Elab.async false
set_option linter.all false
set_option maxRecDepth 100000
set_option maxHeartbeats 4000000
namespace Bs
open PySem L2
theorem tlen (z : Str) : z.length = z.cps.toList.length := by simp [Str.length]
theorem tapp (z y : Str) : (z ++ y).cps.toList = z.cps.toList ++ y.cps.toList := by
  show (z.cps ++ y.cps).toList = _
  simp
theorem text {z y : Str} (h : z.cps.toList = y.cps.toList) : z = y := TL.ext_tl h
/-! ### a text times a number -/
def rep (k : Nat) (z : Str) : Str := ⟨(List.replicate k z.cps).foldl (· ++ ·) #[]⟩
theorem fold_cat (a : Array Nat) : ∀ (k : Nat) (b : Array Nat), ((List.replicate k a).foldl (· ++ ·) b).toList = b.toList ++ (List.replicate k a.toList).flatten
  | 0, b => by simp
  | k + 1, b => by rw [List.replicate_succ, List.foldl_cons, fold_cat a k]; simp [List.replicate_succ]
theorem rep_list (k : Nat) (z : Str) : (rep k z).cps.toList = (List.replicate k z.cps.toList).flatten := by
  show ((List.replicate k z.cps).foldl (· ++ ·) #[]).toList = _
  rw [fold_cat]; simp
theorem rep_blank (k : Nat) : (rep k (" " : Str)).cps.toList = List.replicate k 32 := by
  rw [rep_list, show ((" " : Str).cps.toList) = [32] by decide +kernel]
  induction k with
  | zero => rfl
  | succ k ih => rw [List.replicate_succ, List.flatten_cons, ih, List.replicate_succ]; rfl
theorem rep_len (k : Nat) (z : Str) : (rep k z).length = k * z.length := by
  rw [tlen, rep_list, tlen]
  induction k with
  | zero => simp
  | succ k ih => rw [List.replicate_succ, List.flatten_cons, List.length_append, ih, Nat.succ_mul, Nat.add_comm]
theorem op_mulS {X : Cx} : OpR X (binaryOp .Mult) (fun x y H Q => ∃ (z : Str) (k : Nat), x = .str z ∧ y = .int (k : Int) ∧ z.length ≤ 1000 ∧ k ≤ 1000 ∧ Q (.str (rep k z)) H) := by
  intro pins s σ H x y v u Q I rx ry h
  obtain ⟨z, k, rfl, rfl, h2, h3, q⟩ := h
  obtain ⟨t, rfl⟩ := rx
  obtain ⟨t', rfl⟩ := ry
  have sz : z.length * (k : Int).toNat ≤ 1000000 := by
    rw [Int.toNat_natCast]
    exact Nat.le_trans (Nat.mul_le_mul h2 h3) (by decide)
  have tl1 : PySem.Builtin.Str.tooLong (z.length * (k : Int).toNat) = false := by
    unfold PySem.Builtin.Str.tooLong
    exact decide_eq_false (by rw [sizeLine_eq]; omega)
  refine PySem.P.mul_str (by rw [decide_eq_false (by omega), decide_eq_false (by omega)]; rfl) (fun a b => ?_) (fun a b => tl1) ?_
  · have hk : (0 : Int) < (k : Int) := by omega
    have : (1000 : Int) ≤ (2 ^ 63 - 1) / (k : Int) := by
      rw [Int.le_ediv_iff_mul_le hk]
      omega
    omega
  · by_cases c0 : (k : Int) < 1
    · rw [if_pos c0]
      obtain rfl : k = 0 := by omega
      exact ⟨by decide, .str (rep 0 z), H, I.tok _, ⟨_, rfl⟩, q⟩
    · rw [if_neg c0]
      by_cases c1 : ((k : Int) == 1 || z.length == 0) = true
      · rw [if_pos c1]
        have e : rep k z = z := text (by
          rw [rep_list]
          simp only [Bool.or_eq_true, beq_iff_eq] at c1
          rcases c1 with c1 | c1
          · obtain rfl : k = 1 := by omega
            simp
          · have : z.cps.toList = [] := List.eq_nil_of_length_eq_zero (by rw [← tlen]; exact c1)
            rw [this]
            simp)
        rw [e] at q
        exact ⟨.str z, H, I, ⟨_, rfl⟩, q⟩
      · rw [if_neg c1, Int.toNat_natCast]
        refine ⟨?_, .str (rep k z), H, I.tok _, ⟨_, rfl⟩, q⟩
        have e := rep_len k z
        have : k * z.length ≤ 1000000 := Nat.le_trans (Nat.mul_le_mul h3 h2) (by decide)
        unfold rep at e
        rw [e, sizeLine_eq]
        omega
/-! ### the parts between blanks -/
def keepW (a : List Nat) : Bool := !a.isEmpty
def prt (acc l : List Nat) : List (List Nat) := (TL.spl [32] 0 acc l).filter keepW
def one (acc : List Nat) : List (List Nat) := if acc.isEmpty = true then [] else [acc]
theorem one_cons (a : List Nat) (l : List (List Nat)) : (a :: l).filter keepW = one a ++ l.filter keepW := by
  cases a <;> simp [one, keepW, List.filter_cons]
theorem prt_nil (acc : List Nat) : prt acc [] = one acc := by
  unfold prt
  rw [TL.spl_nil, one_cons]
  simp
theorem prt_sp (acc r : List Nat) : prt acc (32 :: r) = one acc ++ prt [] r := by
  unfold prt
  rw [TL.spl_hit (by simp [TL.pre]), TL.spl_pass, one_cons]
  rfl
theorem prt_ns {c : Nat} (h : c ≠ 32) (acc r : List Nat) : prt acc (c :: r) = prt (acc ++ [c]) r := by
  unfold prt
  rw [TL.spl_miss (TL.pre_of_head [] r h)]
theorem prt_word : ∀ {w : List Nat}, 32 ∉ w → ∀ acc r, prt acc (w ++ r) = prt (acc ++ w) r
  | [], _, acc, r => by simp
  | c :: w, h, acc, r => by
    have h1 : c ≠ 32 := fun e => h (by rw [e]; exact List.mem_cons_self ..)
    have h2 : 32 ∉ w := fun e => h (List.mem_cons_of_mem _ e)
    rw [List.cons_append, prt_ns h1, prt_word h2, List.append_assoc]
    rfl
theorem prt_blanks (r : List Nat) : ∀ k, prt [] (List.replicate k 32 ++ r) = prt [] r
  | 0 => rfl
  | k + 1 => by rw [List.replicate_succ, List.cons_append, prt_sp, prt_blanks r k]; rfl
theorem prt_behind {w : List Nat} (h : w ≠ []) (k : Nat) (r : List Nat) : prt w (List.replicate (k + 1) 32 ++ r) = w :: prt [] r := by
  rw [List.replicate_succ, List.cons_append, prt_sp, prt_blanks]
  cases w with
  | nil => exact absurd rfl h
  | cons c w => rfl
theorem prt_end {w : List Nat} (h : w ≠ []) : ∀ k, prt w (List.replicate k 32) = [w]
  | 0 => by
    rw [List.replicate_zero, prt_nil]
    cases w with
    | nil => exact absurd rfl h
    | cons c w => rfl
  | k + 1 => by
    have := prt_behind h k []
    rw [List.append_nil] at this
    rw [this, prt_nil]
    rfl
/-- the words of a line -/
def wordsOf (z : Str) : List Str := (Txt.split z " ").filter fun a => !decide (a = ("" : Str))
theorem empty_list : (("" : Str).cps.toList) = [] := by decide +kernel
theorem keep_map : ∀ l : List Str, (l.filter fun a => !decide (a = ("" : Str))).map TL.tl = (l.map TL.tl).filter keepW
  | [] => rfl
  | a :: l => by
    rw [List.filter_cons, List.map_cons, List.filter_cons]
    have e : (!decide (a = ("" : Str))) = keepW (TL.tl a) := by
      by_cases h : a = ("" : Str)
      · subst h
        rw [show TL.tl ("" : Str) = [] from empty_list]
        simp [keepW]
      · have h2 : TL.tl a ≠ [] := fun q => h (text (by rw [empty_list]; exact q))
        cases e : TL.tl a with
        | nil => exact absurd e h2
        | cons c r => simp [keepW, h]
    rw [← e]
    split
    · rw [List.map_cons, keep_map l]
    · exact keep_map l
theorem wordsOf_prt (z : Str) : (wordsOf z).map TL.tl = prt [] (TL.tl z) := by
  unfold wordsOf prt
  have b : TL.tl (" " : Str) = [32] := by decide +kernel
  rw [keep_map, TL.split_spl z _ (by rw [b]; simp) (TL.kind_ok (by decide +kernel)), b]
theorem wordsOf_eq {z : Str} {ws : List Str} (h : prt [] z.cps.toList = ws.map TL.tl) : wordsOf z = ws := TL.map_tl_inj ((wordsOf_prt z).trans h)
end Bs

set_option Elab.async false
set_option linter.all false
set_option maxRecDepth 100000
set_option maxHeartbeats 4000000
namespace Bs
open PySem L2
/-! ### byte words -/
def byteOk (l : List Nat) : Bool := decide (1 ≤ l.length ∧ l.length ≤ 3) && (l.all isDigit && ((decide (l = [48]) || decide (l.head? ≠ some 48)) && decide (NumText.digitsVal l ≤ 255)))
def isByte (z : Str) : Bool := byteOk z.cps.toList
def bytes : List Str := (List.range 256).map fun k => Str.ofString (toString ((k : Nat) : Int))
def dgs : List Nat := [48, 49, 50, 51, 52, 53, 54, 55, 56, 57]
theorem digits_dgs : digits.cps.toList = dgs := by decide +kernel
theorem isDigit_dgs (c : Nat) : isDigit c = decide (c ∈ dgs) := by rw [isDigit, digits_dgs]
theorem dgs_range (c : Nat) : c ∈ dgs ↔ 48 ≤ c ∧ c ≤ 57 := by simp [dgs]; omega
def byteLs : List (List Nat) := (List.range 256).map TL.numL
theorem bytes_ls : bytes.map TL.tl = byteLs := by
  unfold bytes byteLs
  rw [List.map_map]
  exact List.map_congr_left fun k _ => TL.tl_num k
theorem num1 : ∀ a ∈ dgs, byteOk [a] = true → TL.numL (NumText.digitsVal [a]) = [a] ∧ NumText.digitsVal [a] < 256 := by decide +kernel
theorem num2 : ∀ a ∈ dgs, ∀ b ∈ dgs, byteOk [a, b] = true → TL.numL (NumText.digitsVal [a, b]) = [a, b] ∧ NumText.digitsVal [a, b] < 256 := by decide +kernel
theorem num3 : ∀ a ∈ dgs, ∀ b ∈ dgs, ∀ c ∈ dgs, byteOk [a, b, c] = true → TL.numL (NumText.digitsVal [a, b, c]) = [a, b, c] ∧ NumText.digitsVal [a, b, c] < 256 := by decide +kernel
theorem num4 : ∀ k ∈ List.range 256, byteOk (TL.numL k) = true := by decide +kernel
theorem byte_in {l : List Nat} : byteOk l = decide (l ∈ byteLs) := by
  rw [Bool.eq_iff_iff, decide_eq_true_iff]
  constructor
  · intro h
    have go : TL.numL (NumText.digitsVal l) = l ∧ NumText.digitsVal l < 256 → l ∈ byteLs := fun ⟨e1, e2⟩ => List.mem_map.mpr ⟨_, List.mem_range.mpr e2, e1⟩
    have h' := h
    unfold byteOk at h'
    rw [Bool.and_eq_true, Bool.and_eq_true, decide_eq_true_iff, List.all_eq_true] at h'
    obtain ⟨⟨h1, h2⟩, hd, _⟩ := h'
    have hd : ∀ c ∈ l, c ∈ dgs := fun c hc => by have := hd c hc; rw [isDigit_dgs] at this; exact of_decide_eq_true this
    match l, h1, h2, hd, h, go with
    | [a], _, _, hd, h, go => exact go (num1 a (hd a (by simp)) h)
    | [a, b], _, _, hd, h, go => exact go (num2 a (hd a (by simp)) b (hd b (by simp)) h)
    | [a, b, c], _, _, hd, h, go => exact go (num3 a (hd a (by simp)) b (hd b (by simp)) c (hd c (by simp)) h)
    | _ :: _ :: _ :: _ :: _, _, h2, _, _, _ => simp at h2
  · intro h
    obtain ⟨k, hk, rfl⟩ := List.mem_map.mp h
    exact num4 k hk
theorem isByte_in (z : Str) : inV (.str z) (bytes.map V.str) = isByte z := by
  unfold isByte
  rw [byte_in, Bool.eq_iff_iff, decide_eq_true_iff, ← bytes_ls]
  unfold inV
  rw [List.any_eq_true]
  constructor
  · rintro ⟨y, hy, e⟩
    obtain ⟨x, hx, rfl⟩ := List.mem_map.mp hy
    have e : (x == z) = true := e
    rw [← eq_of_beq e]
    exact List.mem_map.mpr ⟨x, hx, rfl⟩
  · intro h
    obtain ⟨x, hx, e⟩ := List.mem_map.mp h
    exact ⟨.str x, List.mem_map.mpr ⟨x, hx, rfl⟩, show (x == z) = true from beq_iff_eq.mpr (TL.ext_tl e)⟩
def spIsByte : Sp := fun vs H Q _ => ∃ z : Str, vs = [.str z] ∧ z.length ≤ sizeLine ∧ ∀ H', Same H H' → Q (.bl (isByte z)) H'
section
variable {P : Program} {w : World} {K : PySem.W.Frag} {mg : Str → Option Value} {base : Heap} {f : Addr} {fd : FuncData}
theorem scIsByte : FnScope ["word", "one"] ["word"] (defScope sIsByte) := ⟨rfl, rfl, rfl, by decide +kernel, rfl, by decide +kernel, by decide +kernel⟩
theorem ok_isbyte (F : Fun K "is_byte_word" "is_byte_word" sIsByte f fd) (ml : mg "len" = none) (ma : mg "all" = none) (mint : mg "int" = none) (gD : GStr mg "DIGITS" digits) (gM : GInt mg "MOST_DIGITS" 3) (gG : GInt mg "GREATEST_BYTE" 255) :
    FnOk P w K mg base CX0 1 f fd ["word"] spIsByte := by
  refine F.ok scIsByte (fun vs H Q E h => ?_) (fun cdv A outer s H vs Q E hr h => ?_)
  · obtain ⟨z, rfl, _⟩ := h
    rfl
  · obtain ⟨z, rfl, hz, q⟩ := h
    refine ⟨_, pss_cons (ps_if (PW.pt (pw_or (pt_not (pt_chain op_le op_le pe_int (pe_callB call_len_str (by rfl) ml boot_len (pa_cons (pv 0) pa_nil)) (pe_gint gM rfl)))
        (pw_or1 (pt_not (pt_val (pe_callB (cr_all rfl) (by rfl) ma (by decide +kernel) (pa_cons (pe_lc (own := [("one", 1)]) (g := gName 1) (tt := tYes) rfl scIsByte.nd (pi_str (pv 0)) (blkOk_by (own := [("one", 1)]) (N := ["word", "one"]) (sc := defScope sIsByte) (by decide +kernel))
          (fun _ _ _ _ _ => pg_name (i := 1) scIsByte.nd rfl (Or.inl rfl)) (fun _ _ _ _ _ => pts_nil)
          (fun _ _ _ _ _ => pe_cmpR op_in_sign (pv 1) (pe_gstr gD rfl) rfl)) pa_nil)))))))
        (pss_one (ps_ret pe_bl)) pss_nil)
      (pss_one (ps_ret (pe_and (pe_or (pe_cmpR op_eq (pv 0) pe_str (nomark _)) (pe_one (pe_cmpR op_ne (pe_item_str (pv 0) pe_int (fun _ _ => rfl)) pe_str (nomark _))))
        (pe_one (pe_cmpR op_le (pe_callTy call_int_str (by rfl) mint (by decide +kernel) (pa_cons (pv 0) pa_nil)) (pe_gint gG rfl) (nomark _)))))), ?_⟩
    have hl := tlen z
    have out : ∀ H', Same H H' → isByte z = false → Q (.bl false) H' := fun H' s e => by have k := q H' s; rw [e] at k; exact k
    refine ⟨_, rfl, z, rfl, hz, _, _, rfl, rfl, _, rfl, ?_⟩
    refine ite2 (fun c => ?_) (fun c => ?_)
    · have c : 1 ≤ (z.length : Int) := of_decide_eq_true c
      refine ⟨_, _, rfl, rfl, _, rfl, ?_⟩
      refine ite2 (fun d => ?_) (fun d => ?_)
      · have d : ¬ (z.length : Int) ≤ 3 := by simpa using d
        exact out H (Same.refl H) (by
          unfold isByte byteOk
          rw [decide_eq_false (by rw [← hl]; omega)]; rfl)
      · have d : (z.length : Int) ≤ 3 := by simpa using d
        refine ⟨_, rfl, z, rfl, fun D hD => lc_it (walk_str (z := z)) (fun i H' => Same H H' ∧ H' D = some (.lst (((z.cps.toList.take i).map isDigit).map V.bl))) ⟨same_new hD _, upd_same⟩ (fun _ _ _ _ => trivial) ?_ ?_⟩
        · rintro i x H1 H2 hi ⟨sm, hD1⟩ ⟨rfl, ch, hch, rfl⟩
          have hch' : z.cps.toList[i]? = some ch := by rw [Array.getElem?_toList]; exact hch
          have step : z.cps.toList.take (i + 1) = z.cps.toList.take i ++ [ch] := by rw [List.take_add_one, hch']; rfl
          refine ⟨rfl, yes_go ?_⟩
          refine ⟨_, rfl, ch, digits, rfl, rfl, _, hD1, small1000 (by rw [List.length_map, List.length_map, List.length_take]; omega), same_set sm hD, ?_⟩
          rw [upd_same, step, List.map_append, List.map_append]
          rfl
        · rintro H1 ⟨sm, hD1⟩
          rw [show z.cps.size = z.cps.toList.length by simp, List.take_length] at hD1
          refine ⟨D, _, rfl, SqL.of hD1, ?_⟩
          have ha : ((z.cps.toList.map isDigit).all id) = z.cps.toList.all isDigit := by rw [List.all_map]; rfl
          refine ⟨_, rfl, ?_⟩
          refine ite2 (fun e => ?_) (fun e => ?_)
          · have e : z.cps.toList.all isDigit = false := by rw [← ha]; simpa using e
            exact out H1 sm (by
              unfold isByte byteOk
              rw [e]; simp)
          · have e : z.cps.toList.all isDigit = true := by rw [← ha]; simpa using e
            obtain ⟨a, r, hzr⟩ : ∃ a r, z.cps.toList = a :: r := by
              cases e : z.cps.toList with
              | nil => rw [hl, e] at c; simp at c
              | cons a r => exact ⟨a, r, rfl⟩
            have h0 : z.cps[0]? = some a := by rw [← Array.getElem?_toList, hzr]; rfl
            have hB : isByte z = ((decide (z.cps.toList = [48]) || decide (z.cps.toList.head? ≠ some 48)) && decide (NumText.digitsVal z.cps.toList ≤ 255)) := by
              unfold isByte byteOk
              rw [decide_eq_true (show 1 ≤ z.cps.toList.length ∧ z.cps.toList.length ≤ 3 by rw [← hl]; omega), e]
              rfl
            have e48 : ("0" : Str).cps.toList = [48] := by decide +kernel
            have iv : intText? z = some ((NumText.digitsVal z.cps.toList : Nat) : Int) := intText_digits (x := z) (fun c hc => by
              have := List.all_eq_true.mp e c hc
              rw [isDigit_dgs, decide_eq_true_iff] at this
              exact (dgs_range c).mp this) (by rw [hzr]; simp) (by omega)
            have fin : (decide (z.cps.toList = [48]) || decide (z.cps.toList.head? ≠ some 48)) = true → ∃ a n, [V.str z] = [.str a] ∧ intText? a = some n ∧ a.length ≤ 640 ∧ ∃ i j, V.int n = .int i ∧ V.int 255 = .int j ∧ Q (.bl (decide (i ≤ j))) H1 := fun k => by
              refine ⟨z, _, rfl, iv, by omega, _, _, rfl, rfl, ?_⟩
              have k2 := q H1 sm
              rw [hB, k, Bool.true_and] at k2
              rw [show decide (((NumText.digitsVal z.cps.toList : Nat) : Int) ≤ 255) = decide (NumText.digitsVal z.cps.toList ≤ 255) from decide_eq_decide.mpr (by omega)]
              exact k2
            refine ⟨_, rfl, rfl, _, rfl, ?_⟩
            refine ite2 (fun g => ?_) (fun g => ?_)
            · have g : z = ("0" : Str) := V.str.inj (of_decide_eq_true g)
              refine ⟨_, rfl, iteT ⟨_, rfl, fin ?_⟩⟩
              rw [g, e48]; rfl
            · have g : ¬ z = ("0" : Str) := fun k => g (decide_eq_true (congrArg V.str k))
              have g2 : ¬ z.cps.toList = [48] := fun k => g (text (k.trans e48.symm))
              refine ⟨_, rfl, z, 0, a, rfl, rfl, by decide, by decide, by omega, h0, rfl, _, rfl, ?_⟩
              refine ite2 (fun j => ?_) (fun j => ?_)
              · refine ⟨_, rfl, fin ?_⟩
                have j : ¬ ((⟨#[a]⟩ : Str) = ("0" : Str)) := fun k => by
                  have := congrArg V.str k
                  simp [this] at j
                rw [hzr, Bool.or_eq_true]
                exact .inr (decide_eq_true fun k => j (by
                  have : a = 48 := by simpa using k
                  subst this
                  exact text (by rw [e48])))
              · have j : (⟨#[a]⟩ : Str) = ("0" : Str) := by
                  have := (by simpa using j : V.str ⟨#[a]⟩ = V.str "0")
                  exact V.str.inj this
                refine out H1 sm ?_
                have : a = 48 := by
                  have := congrArg (fun x : Str => x.cps.toList) j
                  simp only [e48] at this
                  simpa using this
                rw [hB, decide_eq_false g2, hzr, this]
                rfl
    · have c : ¬ 1 ≤ (z.length : Int) := by simpa using c
      exact ⟨false, rfl, iteT (out H (Same.refl H) (by
          unfold isByte byteOk
          rw [decide_eq_false (by rw [← hl]; omega)]; rfl))⟩
end
end Bs

set_option Elab.async false
set_option linter.all false
set_option maxRecDepth 100000
set_option maxHeartbeats 4000000
namespace Bs
open PySem L2
/-! ### commands -/
theorem cut_to (xs : List V) (h : Nat) : cutV xs none (some (h : Int)) = xs.take h := by
  unfold cutV
  rw [HT.sIx_none, HT.sIx_nat, List.drop_zero, Nat.sub_zero]
  by_cases hh : h ≤ xs.length
  · rw [Nat.min_eq_left hh]
  · rw [Nat.min_eq_right (by omega), List.take_length, List.take_of_length_le (by omega)]
theorem cut_from (xs : List V) (h : Nat) : cutV xs (some (h : Int)) none = xs.drop h := by
  unfold cutV
  rw [HT.sIx_none, HT.sIx_nat]
  by_cases hh : h ≤ xs.length
  · rw [Nat.min_eq_left hh, List.take_of_length_le (by rw [List.length_drop]; omega)]
  · rw [Nat.min_eq_right (by omega), List.drop_length, List.drop_of_length_le (by omega)]; simp
theorem cut_two (xs : List V) (a b : Nat) : cutV xs (some (a : Int)) (some (b : Int)) = (xs.drop a).take (b - a) := by
  unfold cutV
  rw [HT.sIx_nat, HT.sIx_nat]
  by_cases hh : a ≤ xs.length
  · rw [Nat.min_eq_left hh]
    by_cases hb : b ≤ xs.length
    · rw [Nat.min_eq_left hb]
    · rw [Nat.min_eq_right (by omega), List.take_of_length_le (by rw [List.length_drop]; omega), List.take_of_length_le (by rw [List.length_drop]; omega)]
  · rw [Nat.min_eq_right (show xs.length ≤ a by omega), List.drop_length, List.drop_of_length_le (show xs.length ≤ a by omega)]; simp
/-- how many names stand behind the word of a command -/
def nargs : List (Str × Nat) := [("shape", 1), ("cut", 2), ("drop", 1), ("remove", 1), ("undo", 0), ("redo", 0), ("answer", 1), ("answers", 0), ("print", 1)]
def isCmd : List Str → Bool
  | [] => false
  | w :: ws =>
    if w = ("ask" : Str) then decide (3 ≤ ws.length) && ws.all isName
    else if w = ("show" : Str) then decide (ws.length = 1) && ws.all (fun x => decide (x = ("shapes" : Str) ∨ x = ("questions" : Str)))
    else if w = ("read" : Str) then (ws.take 1).all isName && (decide (1 ≤ ws.length) && (ws.drop 1).all isByte)
    else match nargs.lookup w with
      | some k => decide (ws.length = k) && ws.all isName
      | none => false
/-- NAMES and SHOWN -/
structure Cmds (K : PySem.W.Frag) (w : World) (mg : Str → Option Value) : Prop where
  n : ∃ d es n, mg "NAMES" = some (.ref d) ∧ KDict K w d es n ∧ ∀ z : Str, match nargs.lookup z with
    | some k => ∃ t, PySem.W.nsIn K d z = some (some (.int (k : Nat) t))
    | none => PySem.W.nsIn K d z = some none
  s : ∃ a, mg "SHOWN" = some (.ref a) ∧ ∀ H, SqT K H a [.str "shapes", .str "questions"]
theorem shown_in (z : Str) : inV (.str z) [.str "shapes", .str "questions"] = decide (z = ("shapes" : Str) ∨ z = ("questions" : Str)) := by
  rw [Bool.eq_iff_iff, decide_eq_true_iff]
  simp only [inV, List.any_cons, List.any_nil, eqV, Bool.or_false, Bool.or_eq_true]
  constructor
  · rintro (h | h)
    · exact .inl (eq_of_beq h).symm
    · exact .inr (eq_of_beq h).symm
  · rintro (h | h)
    · exact .inl (beq_iff_eq.mpr h.symm)
    · exact .inr (beq_iff_eq.mpr h.symm)
theorem str_eq {a b : Str} : decide (V.str a = V.str b) = decide (a = b) := decide_eq_decide.mpr ⟨V.str.inj, fun h => congrArg _ h⟩
theorem int_eq {a b : Int} : decide (V.int a = V.int b) = decide (a = b) := decide_eq_decide.mpr ⟨V.int.inj, fun h => congrArg _ h⟩
/-- short words in a list -/
def Short (ws : List Str) : Prop := ws.length ≤ 60 ∧ ∀ w ∈ ws, w.length ≤ 1000
theorem Short.sub {ws vs : List Str} (h : Short ws) (hl : vs.length ≤ ws.length) (hs : ∀ w ∈ vs, w ∈ ws) : Short vs := ⟨Nat.le_trans hl h.1, fun w hw => h.2 w (hs w hw)⟩
theorem Short.drop {ws : List Str} (h : Short ws) (n : Nat) : Short (ws.drop n) := h.sub (by rw [List.length_drop]; omega) fun _ q => List.mem_of_mem_drop q
theorem Short.take {ws : List Str} (h : Short ws) (n : Nat) : Short (ws.take n) := h.sub (by rw [List.length_take]; omega) fun _ q => List.mem_of_mem_take q
def spSplit : Sp := fun vs H Q _ => ∃ z : Str, vs = [.str z] ∧ z.length ≤ 100000 ∧ ∀ p H', Same H H' → H' p = some (.lst ((wordsOf z).map V.str)) → Q (.ref p) H'
def spNames : Sp := fun vs H Q _ => ∃ (a : Addr) (ws : List Str), vs = [.ref a] ∧ H a = some (.lst (ws.map V.str)) ∧ Short ws ∧ ∀ H', Same H H' → Q (.bl (ws.all isName)) H'
def spCmd : Sp := fun vs H Q _ => ∃ (a : Addr) (w : Str) (ws : List Str), vs = [.ref a] ∧ H a = some (.lst ((w :: ws).map V.str)) ∧ Short (w :: ws) ∧ ∀ H', Same H H' → Q (.bl (isCmd (w :: ws))) H'
theorem strs_at {ws : List Str} {i : Nat} {x : V} (h : (ws.map V.str)[i]? = some x) : ∃ z, ws[i]? = some z ∧ x = .str z := by
  rw [List.getElem?_map] at h
  cases e : ws[i]? with
  | none => rw [e] at h; cases h
  | some z => rw [e] at h; exact ⟨z, rfl, (Option.some.inj h).symm⟩
section
variable {P : Program} {w : World} {K : PySem.W.Frag} {mg : Str → Option Value} {base : Heap} {f : Addr} {fd : FuncData}
theorem scSplit : FnScope ["line", "word"] ["line"] (defScope sSplit) := ⟨rfl, rfl, rfl, by decide +kernel, rfl, by decide +kernel, by decide +kernel⟩
theorem ok_split (F : Fun K "split_words" "split_words" sSplit f fd) : FnOk P w K mg base CX0 1 f fd ["line"] spSplit := by
  refine F.ok scSplit (fun vs H Q E h => ?_) (fun cdv A outer s H vs Q E hr h => ?_)
  · obtain ⟨z, rfl, _⟩ := h
    rfl
  · obtain ⟨z, rfl, hz, q⟩ := h
    refine ⟨_, pss_one (ps_ret (pe_lc (own := [("word", 1)]) (g := gName 1) rfl scSplit.nd (pi_list (pe_split (pv 0) pe_str)) (blkOk_by (own := [("word", 1)]) (N := ["line", "word"]) (sc := defScope sSplit) (by decide +kernel))
          (fun _ _ _ _ _ => pg_name (i := 1) scSplit.nd rfl (Or.inl rfl)) (fun _ _ _ _ _ => pts_one (pt_cmpR op_ne (pv 1) pe_str (nomark _)))
          (fun _ _ _ _ _ => pv 1))), ?_⟩
    have ll : (Txt.split z " ").length ≤ z.length + 2 := PyProof.Rows.split_le z " "
    refine ⟨_, rfl, ⟨_, rfl⟩, z, (" " : Str), rfl, rfl, by decide +kernel, by rw [sizeLine_eq]; omega, fun p hp => ?_⟩
    generalize hts : Txt.split z " " = ts at ll
    have s1 := same_new hp (.lst (ts.map V.str))
    have h1 : upd H p (.lst (ts.map V.str)) p = some (.lst (ts.map V.str)) := upd_same
    generalize upd H p (.lst (ts.map V.str)) = H1 at s1 h1 ⊢
    refine ⟨p, rfl, ⟨_, SqL.of h1⟩, fun D hD => lc_list (K := K) (a := p) (xs := ts.map V.str) (fun i H' => Same H1 H' ∧ H' D = some (.lst (((ts.take i).filter fun a => !decide (a = ("" : Str))).map V.str))) ⟨same_new hD _, upd_same⟩ (fun i H' _ z => SqL.of (z.1 _ _ h1)) ?_ ?_⟩
    · rintro i x H2 hi ⟨s2, hD2⟩
      obtain ⟨y, hy, rfl⟩ := strs_at hi
      have hi' : i < ts.length := (List.getElem?_eq_some_iff.mp hy).1
      have step : (ts.take (i + 1)).filter (fun a => !decide (a = ("" : Str))) = (ts.take i).filter (fun a => !decide (a = ("" : Str))) ++ [y].filter (fun a => !decide (a = ("" : Str))) := by
        rw [List.take_add_one, hy, List.filter_append]; rfl
      refine ⟨rfl, ?_⟩
      refine ⟨_, rfl, rfl, _, rfl, ?_⟩
      have es : (!decide (V.str y = V.str "")) = !decide (y = ("" : Str)) := by rw [str_eq]
      refine ite2 (fun c => ?_) (fun c => ?_)
      · rw [es] at c
        refine ⟨_, rfl, _, hD2, ?_, same_set s2 hD, ?_⟩
        · rw [List.length_map]
          refine Nat.lt_of_le_of_lt (List.length_filter_le _ _) ?_
          rw [List.length_take, sizeLine_eq]; omega
        · rw [upd_same, step, List.filter_cons, if_pos c, List.map_append]; rfl
      · rw [es] at c
        refine ⟨s2, ?_⟩
        rw [hD2, step, List.filter_cons, if_neg c]
        simp
    · rintro H2 ⟨s2, hD2⟩
      rw [List.length_map, List.take_length] at hD2
      refine q D H2 (s1.trans s2) ?_
      rw [hD2]
      unfold wordsOf
      rw [hts]
theorem scNames : FnScope ["words", "word"] ["words"] (defScope sAreNames) := ⟨rfl, rfl, rfl, by decide +kernel, rfl, by decide +kernel, by decide +kernel⟩
theorem ok_names (F : Fun K "are_names" "are_names" sAreNames f fd) (gN : Cal P w K mg base CX0 1 "is_name" ["text"] spIsName) (ma : mg "all" = none) : FnOk P w K mg base CX0 2 f fd ["words"] spNames := by
  refine F.ok scNames (fun vs H Q E h => ?_) (fun cdv A outer s H vs Q E hr h => ?_)
  · obtain ⟨a, ws, rfl, _⟩ := h
    rfl
  · obtain ⟨a, ws, rfl, ha, hs, q⟩ := h
    refine ⟨_, pss_one (ps_ret (pe_callB (cr_all rfl) (by rfl) ma (by decide +kernel) (pa_cons (pe_lc (own := [("word", 1)]) (g := gName 1) (tt := tYes) rfl scNames.nd (pi_list (pv 0)) (blkOk_by (own := [("word", 1)]) (N := ["words", "word"]) (sc := defScope sAreNames) (by decide +kernel))
          (fun _ _ _ _ _ => pg_name (i := 1) scNames.nd rfl (Or.inl rfl)) (fun _ _ _ _ _ => pts_nil)
          (fun _ _ _ _ _ => pe_cal gN hr pass0 (pa_cons (pv 1) pa_nil))) pa_nil))), ?_⟩
    refine ⟨_, rfl, a, rfl, ⟨_, SqL.of ha⟩, fun D hD => lc_list (K := K) (a := a) (xs := ws.map V.str) (fun i H' => Same H H' ∧ H' D = some (.lst (((ws.take i).map isName).map V.bl))) ⟨same_new hD _, upd_same⟩ (fun i H' _ z => SqL.of (z.1 _ _ ha)) ?_ ?_⟩
    · rintro i x H2 hi ⟨s2, hD2⟩
      obtain ⟨y, hy, rfl⟩ := strs_at hi
      have hi' : i < ws.length := (List.getElem?_eq_some_iff.mp hy).1
      have step : ws.take (i + 1) = ws.take i ++ [y] := by rw [List.take_add_one, hy]; rfl
      refine ⟨rfl, yes_go ?_⟩
      refine ⟨_, rfl, y, rfl, Nat.le_of_lt (small1000 (hs.2 y (List.mem_of_getElem? hy))), fun H3 s3 => ?_⟩
      refine ⟨_, s3 _ _ hD2, small1000 (by rw [List.length_map, List.length_map, List.length_take]; have := hs.1; omega), same_set (s2.trans s3) hD, ?_⟩
      rw [upd_same, step, List.map_append, List.map_append]
      rfl
    · rintro H2 ⟨s2, hD2⟩
      rw [List.length_map, List.take_length] at hD2
      refine ⟨D, _, rfl, SqL.of hD2, ?_⟩
      have k := q H2 s2
      rw [List.all_map]
      exact k
theorem scCmd : FnScope ["words", "word", "rest", "one"] ["words"] (defScope sIsCommand) := ⟨rfl, rfl, rfl, by decide +kernel, rfl, by decide +kernel, by decide +kernel⟩
theorem ok_cmd (F : Fun K "is_command" "is_command" sIsCommand f fd) (T : Cmds K w mg) (gA : Cal P w K mg base CX0 2 "are_names" ["words"] spNames) (gB : Cal P w K mg base CX0 1 "is_byte_word" ["word"] spIsByte) (ma : mg "all" = none) (ml : mg "len" = none) :
    FnOk P w K mg base CX0 3 f fd ["words"] spCmd := by
  refine F.ok scCmd (fun vs H Q E h => ?_) (fun cdv A outer s H vs Q E hr h => ?_)
  · obtain ⟨a, w, ws, rfl, _⟩ := h
    rfl
  · obtain ⟨a, wd, ws, rfl, ha, hs, q⟩ := h
    obtain ⟨dN, es, nn, gN, DN, hN⟩ := T.n
    obtain ⟨aS, gS, hS⟩ := T.s
    have hr1 : Room 1 _ := hr.mono (by decide)
    refine ⟨_, pss_cons (ps_par (i := 1) (j := 2) (by rfl) scCmd.nd rfl rfl (by decide) rfl rfl (pa_cons (pe_ix ix_list (pv 0) pe_int (fun _ _ => rfl)) (pa_cons (pe_slice sl_list (pv 0) (po_some pe_int) po_none) pa_nil)) (by rfl))
      (pss_cons (ps_if (pt_cmpR op_eq (pv 1) pe_str (nomark _)) (pss_one (ps_ret (pe_and (pe_cmpR op_ge (pe_callB call_len (by rfl) ml boot_len (pa_cons (pv 2) pa_nil)) pe_int (nomark _)) (pe_one (pe_cal gA hr pass0 (pa_cons (pv 2) pa_nil)))))) pss_nil)
      (pss_cons (ps_if (pt_cmpR op_eq (pv 1) pe_str (nomark _)) (pss_one (ps_ret (pe_and (pe_cmpR op_eq (pe_callB call_len (by rfl) ml boot_len (pa_cons (pv 2) pa_nil)) pe_int (nomark _)) (pe_one (pe_cmpR op_in_seq (pe_ix ix_list (pv 2) pe_int (fun _ _ => rfl)) (pe_glob (v := .ref aS) (by rfl) gS rfl) (by rfl)))))) pss_nil)
      (pss_cons (ps_if (pt_cmpR op_eq (pv 1) pe_str (nomark _)) (pss_one (ps_ret (pe_and (pe_cal gA hr pass0 (pa_cons (pe_slice sl_list (pv 2) po_none (po_some pe_int)) pa_nil)) (pe_and (pe_cmpR op_ge (pe_callB call_len (by rfl) ml boot_len (pa_cons (pv 2) pa_nil)) pe_int (nomark _))
          (pe_one (pe_callB (cr_all rfl) (by rfl) ma (by decide +kernel) (pa_cons (pe_lc (own := [("one", 3)]) (g := gName 3) (tt := tYes) rfl scCmd.nd (pi_list (pe_slice sl_list (pv 2) (po_some pe_int) po_none)) (blkOk_by (own := [("one", 3)]) (N := ["words", "word", "rest", "one"]) (sc := defScope sIsCommand) (by decide +kernel))
            (fun _ _ _ _ _ => pg_name (i := 3) scCmd.nd rfl (Or.inl rfl)) (fun _ _ _ _ _ => pts_nil) (fun _ _ _ _ _ => pe_cal gB hr1 pass0 (pa_cons (pv 3) pa_nil))) pa_nil)))))) ) pss_nil)
      (pss_one (ps_ret (pe_and (pe_cmpR (op_in_kd DN) (pv 1) (pe_glob (v := .ref dN) (by rfl) gN rfl) (by rfl)) (pe_and (pe_cmpR op_eq (pe_callB call_len (by rfl) ml boot_len (pa_cons (pv 2) pa_nil)) (pe_ix ix_kdict (pe_glob (v := .ref dN) (by rfl) gN rfl) (pv 1) (fun _ _ => rfl)) (nomark _))
        (pe_one (pe_cal gA hr pass0 (pa_cons (pv 2) pa_nil)))))))))), ?_⟩
    have hws : Short ws := hs.drop 1
    refine ⟨_, rfl, a, _, 0, _, rfl, rfl, SqL.of ha, atI_nat (j := 0) rfl, ?_⟩
    refine ⟨_, rfl, 1, rfl, a, _, rfl, SqL.of ha, fun p hp => ?_⟩
    rw [show ((1 : Int) = ((1 : Nat) : Int)) from rfl, cut_from, show ((wd :: ws).map V.str).drop 1 = ws.map V.str from rfl]
    have s1 := same_new hp (.lst (ws.map V.str))
    have h1 : upd H p (.lst (ws.map V.str)) p = some (.lst (ws.map V.str)) := upd_same
    have hp0 := hp
    generalize upd H p (.lst (ws.map V.str)) = H1 at s1 h1 ⊢
    have lw : (ws.map V.str).length = ws.length := List.length_map ..
    refine ⟨_, _, rfl, ?_⟩
    refine ⟨_, rfl, rfl, _, rfl, ?_⟩
    refine ite2 (fun c => ?_) (fun c => ?_)
    · rw [str_eq, decide_eq_true_iff] at c
      have hq : ∀ H', Same H H' → Q (.bl (decide (3 ≤ ws.length) && ws.all isName)) H' := fun H' s => by have k := q H' s; rw [isCmd, if_pos c] at k; exact k
      refine ⟨_, rfl, _, _, rfl, .inl ⟨_, SqL.of h1, rfl⟩, _, _, rfl, rfl, _, rfl, ?_⟩
      rw [lw]
      refine ite2 (fun e => ?_) (fun e => ?_)
      · have e : (3 : Int) ≤ ws.length := of_decide_eq_true e
        refine ⟨_, rfl, p, ws, rfl, h1, hws, fun H2 s2 => ?_⟩
        have k := hq H2 (s1.trans s2)
        rw [decide_eq_true (by omega), Bool.true_and] at k
        exact k
      · have e : ¬ (3 : Int) ≤ ws.length := fun k => e (decide_eq_true k)
        have k := hq H1 s1
        rw [decide_eq_false (by omega), Bool.false_and] at k
        exact k
    rw [str_eq, decide_eq_true_iff] at c
    refine ⟨_, rfl, rfl, _, rfl, ?_⟩
    refine ite2 (fun d => ?_) (fun d => ?_)
    · rw [str_eq, decide_eq_true_iff] at d
      have hq : ∀ H', Same H H' → Q (.bl (decide (ws.length = 1) && ws.all (fun x => decide (x = ("shapes" : Str) ∨ x = ("questions" : Str))))) H' := fun H' s => by have k := q H' s; rw [isCmd, if_neg c, if_pos d] at k; exact k
      refine ⟨_, rfl, _, _, rfl, .inl ⟨_, SqL.of h1, rfl⟩, rfl, _, rfl, ?_⟩
      rw [lw]
      refine ite2 (fun e => ?_) (fun e => ?_)
      · rw [int_eq, decide_eq_true_iff] at e
        obtain ⟨x, rfl⟩ : ∃ x, ws = [x] := List.length_eq_one_iff.mp (by omega)
        refine ⟨_, rfl, p, _, 0, _, rfl, rfl, SqL.of h1, atI_nat (j := 0) rfl, ?_⟩
        refine ⟨aS, _, rfl, .inr (hS H1), rfl, by decide +kernel, ?_⟩
        have k := hq H1 s1
        rw [show inV (.str x) [.str "shapes", .str "questions"] = _ from shown_in x]
        simpa using k
      · rw [int_eq, decide_eq_true_iff] at e
        have k := hq H1 s1
        rw [decide_eq_false (by omega), Bool.false_and] at k
        exact k
    rw [str_eq, decide_eq_true_iff] at d
    refine ⟨_, rfl, rfl, _, rfl, ?_⟩
    refine ite2 (fun r => ?_) (fun r => ?_)
    · rw [str_eq, decide_eq_true_iff] at r
      have hq : ∀ H', Same H H' → Q (.bl ((ws.take 1).all isName && (decide (1 ≤ ws.length) && (ws.drop 1).all isByte))) H' := fun H' s => by have k := q H' s; rw [isCmd, if_neg c, if_neg d, if_pos r] at k; exact k
      refine ⟨_, rfl, 1, rfl, p, _, rfl, SqL.of h1, fun p2 hp2 => ?_⟩
      rw [show ((1 : Int) = ((1 : Nat) : Int)) from rfl, cut_to, ← List.map_take]
      have s2 := same_new hp2 (.lst ((ws.take 1).map V.str))
      refine ⟨p2, _, rfl, upd_same, hws.take 1, fun H3 s3 => ?_⟩
      have s23 := s2.trans s3
      have h3 := s23 _ _ h1
      refine ⟨_, rfl, ?_⟩
      refine ite2 (fun e => ?_) (fun e => ?_)
      · refine ⟨_, rfl, _, _, rfl, .inl ⟨_, SqL.of h3, rfl⟩, _, _, rfl, rfl, _, rfl, ?_⟩
        rw [lw]
        refine ite2 (fun g => ?_) (fun g => ?_)
        · have g : (1 : Int) ≤ ws.length := of_decide_eq_true g
          refine ⟨_, rfl, 1, rfl, p, _, rfl, SqL.of h3, fun p4 hp4 => ?_⟩
          rw [show ((1 : Int) = ((1 : Nat) : Int)) from rfl, cut_from, ← List.map_drop]
          have s4 := same_new hp4 (.lst ((ws.drop 1).map V.str))
          have h4 : upd H3 p4 (.lst ((ws.drop 1).map V.str)) p4 = some (.lst ((ws.drop 1).map V.str)) := upd_same
          generalize upd H3 p4 (.lst ((ws.drop 1).map V.str)) = H4 at s4 h4 ⊢
          have hsd := hws.drop 1
          generalize hus : ws.drop 1 = us at h4 hsd hq
          refine ⟨p4, rfl, ⟨_, SqL.of h4⟩, fun D hD => lc_list (K := K) (a := p4) (xs := us.map V.str) (fun i H' => Same H4 H' ∧ H' D = some (.lst (((us.take i).map isByte).map V.bl))) ⟨same_new hD _, upd_same⟩ (fun i H' _ z => SqL.of (z.1 _ _ h4)) ?_ ?_⟩
          · rintro i x H5 hi ⟨s5, hD5⟩
            obtain ⟨y, hy, rfl⟩ := strs_at hi
            have hi' : i < us.length := (List.getElem?_eq_some_iff.mp hy).1
            have step : us.take (i + 1) = us.take i ++ [y] := by rw [List.take_add_one, hy]; rfl
            refine ⟨rfl, yes_go ?_⟩
            refine ⟨_, rfl, y, rfl, Nat.le_of_lt (small1000 (hsd.2 y (List.mem_of_getElem? hy))), fun H6 s6 => ?_⟩
            refine ⟨_, s6 _ _ hD5, small1000 (by rw [List.length_map, List.length_map, List.length_take]; have := hsd.1; omega), same_set (s5.trans s6) hD, ?_⟩
            rw [upd_same, step, List.map_append, List.map_append]
            rfl
          · rintro H5 ⟨s5, hD5⟩
            rw [List.length_map, List.take_length] at hD5
            refine ⟨D, _, rfl, SqL.of hD5, ?_⟩
            have k := hq H5 (s1.trans (s23.trans (s4.trans s5)))
            rw [e, decide_eq_true (by omega), Bool.true_and, Bool.true_and] at k
            rw [List.all_map]
            exact k
        · have g : ¬ (1 : Int) ≤ ws.length := fun k => g (decide_eq_true k)
          have k := hq H3 (s1.trans s23)
          rw [decide_eq_false (show ¬ 1 ≤ ws.length by omega), Bool.false_and, Bool.and_false] at k
          exact k
      · have k := hq H3 (s1.trans s23)
        rw [Bool.not_eq_true] at e
        rw [e, Bool.false_and] at k
        exact k
    rw [str_eq, decide_eq_true_iff] at r
    have hq : ∀ H', Same H H' → Q (.bl (match nargs.lookup wd with | some k => decide (ws.length = k) && ws.all isName | none => false)) H' := fun H' s => by have k := q H' s; rw [isCmd, if_neg c, if_neg d, if_neg r] at k; exact k
    have hNw := hN wd
    cases el : nargs.lookup wd with
    | none =>
      rw [el] at hNw hq
      dsimp only at hq
      refine ⟨_, rfl, wd, none, rfl, rfl, hNw, false, rfl, iteF (hq H1 s1)⟩
    | some k =>
      rw [el] at hNw hq
      dsimp only at hq
      obtain ⟨t, hNw⟩ := hNw
      refine ⟨_, rfl, wd, _, rfl, rfl, hNw, true, rfl, iteT ?_⟩
      refine ⟨_, rfl, _, _, rfl, .inl ⟨_, SqL.of h1, rfl⟩, _, rfl, dN, wd, .int (k : Nat), rfl, rfl, ⟨es, nn, _, DN.at_, DN.lit, hNw, t, rfl⟩, rfl, _, rfl, ?_⟩
      rw [lw]
      refine ite2 (fun e => ?_) (fun e => ?_)
      · rw [int_eq, decide_eq_true_iff] at e
        refine ⟨_, rfl, p, ws, rfl, h1, hws, fun H2 s2 => ?_⟩
        have k := hq H2 (s1.trans s2)
        rw [decide_eq_true (by omega), Bool.true_and] at k
        exact k
      · rw [int_eq, decide_eq_true_iff] at e
        have k := hq H1 s1
        rw [decide_eq_false (by omega), Bool.false_and] at k
        exact k
end
end Bs

set_option Elab.async false
set_option linter.all false
set_option maxRecDepth 100000
set_option maxHeartbeats 4000000
namespace Bs
open PySem L2
/-! ### the law's own names, byte words, commands -/
theorem good_sign (c : Nat) : decide (c ∈ ("abcdefghijklmnopqrstuvwxyz0123456789" : Str).cps.toList) = isSign c := by
  have e : ("abcdefghijklmnopqrstuvwxyz0123456789" : Str).cps.toList = letters.cps.toList ++ digits.cps.toList := by decide +kernel
  rw [e, isSign, isLetter, isDigit]
  simp only [List.mem_append]
  by_cases h1 : c ∈ letters.cps.toList <;> by_cases h2 : c ∈ digits.cps.toList <;> simp [h1, h2]
theorem name_is (z : Str) : isName z = (decide (1 ≤ z.length ∧ z.length ≤ 12) && ((match z.cps.toList with | [] => false | c :: _ => isLetter c) && z.cps.toList.all isSign)) := by
  unfold isName
  rw [tlen]
  cases z.cps.toList with
  | nil => rfl
  | cons c r =>
    rw [nameOk]
    have : decide (r.length < 12) = decide (1 ≤ (c :: r).length ∧ (c :: r).length ≤ 12) := decide_eq_decide.mpr (by simp; omega)
    rw [this]
theorem strs_app (l : List Str) (z : Str) : l.map V.str ++ [V.str z] = (l ++ [z]).map V.str := by rw [List.map_append]; rfl
theorem with_rest {t u : TS} {D : Ends} {σ : L2.St} {H : Hp} (Pv : L2.St → Hp → Prop) (h2 : ∀ σ' H', Pv σ' H' → u D σ' H') (h1 : (∀ σ' H', Pv σ' H' → u D σ' H') → tSeq t u D σ H) : tSeq t u D σ H := h1 h2
section
variable {P : Program} {w : World} {K : PySem.W.Frag} {mg : Str → Option Value} {base : Heap} {f : Addr} {fd : FuncData}
theorem scLName : FnScope ["word", "char"] ["word"] (defScope sLawIsName) := ⟨rfl, rfl, rfl, by decide +kernel, rfl, by decide +kernel, by decide +kernel⟩
theorem ok_lname (F : Fun K "_law_is_name" "_law_is_name" sLawIsName f fd) (ml : mg "len" = none) : FnOk P w K mg base CX0 1 f fd ["word"] spIsName := by
  refine F.ok scLName (fun vs H Q E h => ?_) (fun cdv A outer s H vs Q E hr h => ?_)
  · obtain ⟨z, rfl, _⟩ := h
    rfl
  · obtain ⟨z, rfl, hz, q⟩ := h
    refine ⟨_, pss_cons (ps_if (PW.pt (pw_or (pt_cmpR op_lt (pe_callB call_len_str (by rfl) ml boot_len (pa_cons (pv 0) pa_nil)) pe_int (nomark _)) (pw_or (pt_cmpR op_gt (pe_callB call_len_str (by rfl) ml boot_len (pa_cons (pv 0) pa_nil)) pe_int (nomark _))
        (pw_or1 (pt_cmpR op_notIn_sign (pe_item_str (pv 0) pe_int (fun _ _ => rfl)) pe_str (by rfl)))))) (pss_one (ps_ret pe_bl)) pss_nil)
      (pss_cons (ps_for PassesOwn.never rfl (pi_str (pv 0)) (pg_name (i := 1) scLName.nd rfl (.inl rfl)) (pss_one (ps_if (pt_cmpR op_notIn_sign (pv 1) pe_str (by rfl)) (pss_one (ps_ret pe_bl)) pss_nil)))
      (pss_one (ps_ret pe_bl))), ?_⟩
    have z0 := q H (Same.refl H)
    rw [name_is] at z0
    refine ⟨_, rfl, z, rfl, hz, _, _, rfl, rfl, _, rfl, ?_⟩
    refine ite2 (fun c => ?_) (fun c => ?_)
    · have c : (z.length : Int) < 1 := of_decide_eq_true c
      rw [decide_eq_false (by omega)] at z0
      exact z0
    have c : ¬ (z.length : Int) < 1 := fun k => c (decide_eq_true k)
    refine ⟨_, rfl, z, rfl, hz, _, _, rfl, rfl, _, rfl, ?_⟩
    refine ite2 (fun d => ?_) (fun d => ?_)
    · have d : (12 : Int) < (z.length : Int) := of_decide_eq_true d
      rw [decide_eq_false (by omega)] at z0
      exact z0
    have d : ¬ (12 : Int) < (z.length : Int) := fun k => d (decide_eq_true k)
    rw [decide_eq_true (by omega), Bool.true_and] at z0
    have hl := tlen z
    obtain ⟨a, r, hzr⟩ : ∃ a r, z.cps.toList = a :: r := by
      cases e : z.cps.toList with
      | nil => rw [hl, e] at c; simp at c
      | cons a r => exact ⟨a, r, rfl⟩
    have h0 : z.cps[0]? = some a := by rw [← Array.getElem?_toList, hzr]; rfl
    rw [hzr] at z0
    dsimp only at z0
    refine ⟨_, rfl, z, 0, a, rfl, rfl, by decide, by decide, by omega, h0, a, ("abcdefghijklmnopqrstuvwxyz" : Str), rfl, rfl, _, rfl, ?_⟩
    refine ite2 (fun e => ?_) (fun e => ?_)
    · have e : isLetter a = false := by
        have e : (!isLetter a) = true := e
        simpa using e
      rw [e] at z0
      exact z0
    have e : isLetter a = true := by
      have e : ¬ (!isLetter a) = true := e
      simpa using e
    rw [e, Bool.true_and, ← hzr] at z0
    refine ⟨_, rfl, z, rfl, for_it (walk_str (z := z)) (fun i σ H' => ∃ k, σ = [some (.str z), k] ∧ H' = H ∧ (z.cps.toList.take i).all isSign = true) ⟨none, rfl, rfl, rfl⟩ (fun _ _ _ _ _ => trivial) ?_ ?_⟩
    · rintro i x σ H1 H2 hi ⟨k, rfl, rfl, ha⟩ ⟨rfl, ch, hch, rfl⟩
      have hch' : z.cps.toList[i]? = some ch := by rw [Array.getElem?_toList]; exact hch
      have step : z.cps.toList.take (i + 1) = z.cps.toList.take i ++ [ch] := by rw [List.take_add_one, hch']; rfl
      refine ⟨_, rfl, ch, ("abcdefghijklmnopqrstuvwxyz0123456789" : Str), rfl, rfl, _, rfl, ?_⟩
      refine ite2 (fun g => ?_) (fun g => ?_)
      · have g : isSign ch = false := by
          have g : (!decide (ch ∈ ("abcdefghijklmnopqrstuvwxyz0123456789" : Str).cps.toList)) = true := g
          rw [good_sign] at g
          simpa using g
        have : z.cps.toList.all isSign = false := by
          rw [Bool.eq_false_iff]
          intro k
          have := List.all_eq_true.mp k ch (List.mem_of_getElem? hch')
          rw [g] at this
          cases this
        rw [this] at z0
        exact z0
      · have g : isSign ch = true := by
          have g : ¬ (!decide (ch ∈ ("abcdefghijklmnopqrstuvwxyz0123456789" : Str).cps.toList)) = true := g
          rw [good_sign] at g
          simpa using g
        exact ⟨_, rfl, rfl, by rw [step, List.all_append, ha]; simp [g]⟩
    · rintro σ H1 ⟨k, rfl, rfl, ha⟩
      rw [show z.cps.size = z.cps.toList.length by simp, List.take_length] at ha
      rw [ha] at z0
      exact z0
theorem scLByte : FnScope ["word", "k"] ["word"] (defScope sLawIsByte) := ⟨rfl, rfl, rfl, by decide +kernel, rfl, by decide +kernel, by decide +kernel⟩
theorem ok_lbyte (F : Fun K "_law_is_byte" "_law_is_byte" sLawIsByte f fd) (mr : mg "range" = none) (ms : mg "str" = none) : FnOk P w K mg base CX0 1 f fd ["word"] spIsByte := by
  refine F.ok scLByte (fun vs H Q E h => ?_) (fun cdv A outer s H vs Q E hr h => ?_)
  · obtain ⟨z, rfl, _⟩ := h
    rfl
  · obtain ⟨z, rfl, hz, q⟩ := h
    refine ⟨_, pss_one (ps_ret (pe_cmpR op_in_seq (pv 0) (pe_lc (own := [("k", 1)]) (g := gName 1) (tt := tYes) rfl scLByte.nd (pi_range1 (by rfl) mr (pa_cons pe_int pa_nil)) (blkOk_by (own := [("k", 1)]) (N := ["word", "k"]) (sc := defScope sLawIsByte) (by decide +kernel))
          (fun _ _ _ _ _ => pg_name (i := 1) scLByte.nd rfl (Or.inl rfl)) (fun _ _ _ _ _ => pts_nil)
          (fun _ _ _ _ _ => pe_callTy call_str_int (by rfl) ms (by decide +kernel) (pa_cons (pv 1) pa_nil))) (by rfl))), ?_⟩
    refine ⟨_, rfl, 256, rfl, by decide, by decide, fun D hD => lc_range (lo := 0) (n := 256) (fun i H' => Same H H' ∧ H' D = some (.lst ((bytes.take i).map V.str))) ⟨same_new hD _, upd_same⟩ ?_ ?_⟩
    · rintro i H1 hi ⟨sm, hD1⟩
      refine ⟨rfl, yes_go ?_⟩
      refine ⟨_, rfl, _, rfl, ?_, ?_⟩
      · have : ((0 : Int) + (i : Int)).natAbs = i := by omega
        rw [this]
        exact Nat.lt_of_le_of_lt (Nat.log2_le_self i) (by omega)
      have gi : bytes[i]? = some (Str.ofString (toString ((i : Nat) : Int))) := by
        unfold bytes
        rw [List.getElem?_map, List.getElem?_range hi]
        rfl
      have step : bytes.take (i + 1) = bytes.take i ++ [Str.ofString (toString ((i : Nat) : Int))] := by rw [List.take_add_one, gi]; rfl
      refine ⟨_, hD1, small1000 (by rw [List.length_map, List.length_take]; omega), same_set sm hD, ?_⟩
      rw [upd_same, Int.zero_add, step, ← strs_app]
    · rintro H1 ⟨sm, hD1⟩
      rw [List.take_of_length_le (by unfold bytes; simp)] at hD1
      refine ⟨D, _, rfl, .inl (SqL.of hD1), rfl, ?_, ?_⟩
      · rw [List.all_map]
        exact List.all_eq_true.mpr fun _ _ => rfl
      have k := q H1 sm
      rw [← isByte_in] at k
      exact k
theorem scLNames : FnScope ["words", "word"] ["words"] (defScope sLawAllNames) := ⟨rfl, rfl, rfl, by decide +kernel, rfl, by decide +kernel, by decide +kernel⟩
theorem ok_lnames (F : Fun K "_law_all_names" "_law_all_names" sLawAllNames f fd) (gN : Cal P w K mg base CX0 1 "_law_is_name" ["text"] spIsName ∨ Cal P w K mg base CX0 1 "_law_is_name" ["word"] spIsName) : FnOk P w K mg base CX0 2 f fd ["words"] spNames := by
  refine F.ok scLNames (fun vs H Q E h => ?_) (fun cdv A outer s H vs Q E hr h => ?_)
  · obtain ⟨a, ws, rfl, _⟩ := h
    rfl
  · obtain ⟨a, ws, rfl, ha, hs, q⟩ := h
    obtain ⟨ps, gN⟩ : ∃ ps, Cal P w K mg base CX0 1 "_law_is_name" ps spIsName := gN.elim (fun g => ⟨_, g⟩) fun g => ⟨_, g⟩
    refine ⟨_, pss_cons (ps_for PassesOwn.never rfl (pi_list (pv 0)) (pg_name (i := 1) scLNames.nd rfl (.inl rfl)) (pss_one (ps_if (pt_not (pt_val (pe_cal gN hr pass0 (pa_cons (pv 1) pa_nil)))) (pss_one (ps_ret pe_bl)) pss_nil)))
      (pss_one (ps_ret pe_bl)), ?_⟩
    refine ⟨_, rfl, a, rfl, ⟨_, SqL.of ha⟩, for_list (K := K) (a := a) (xs := ws.map V.str) (fun i σ H' => ∃ k, σ = [some (.ref a), k] ∧ Same H H' ∧ (ws.take i).all isName = true) ⟨none, rfl, Same.refl H, rfl⟩ (fun i σ H' _ z => by obtain ⟨_, _, z, _⟩ := z; exact SqL.of (z _ _ ha)) ?_ ?_⟩
    · rintro i x σ H2 hi ⟨k, rfl, s2, hall⟩
      obtain ⟨y, hy, rfl⟩ := strs_at hi
      have step : ws.take (i + 1) = ws.take i ++ [y] := by rw [List.take_add_one, hy]; rfl
      refine ⟨_, rfl, y, rfl, Nat.le_of_lt (small1000 (hs.2 y (List.mem_of_getElem? hy))), fun H3 s3 => ?_⟩
      refine ⟨_, rfl, ?_⟩
      refine ite2 (fun g => ?_) (fun g => ?_)
      · have g : isName y = false := by simpa using g
        have k := q H3 (s2.trans s3)
        have : ws.all isName = false := by
          rw [Bool.eq_false_iff]
          intro k
          have := List.all_eq_true.mp k y (List.mem_of_getElem? hy)
          rw [g] at this
          cases this
        rw [this] at k
        exact k
      · have g : isName y = true := by simpa using g
        exact ⟨_, rfl, s2.trans s3, by rw [step, List.all_append, hall]; simp [g]⟩
    · rintro σ H2 ⟨k, rfl, s2, hall⟩
      rw [List.length_map, List.take_length] at hall
      have k := q H2 s2
      rw [hall] at k
      exact k
end
end Bs

set_option Elab.async false
set_option linter.all false
set_option maxRecDepth 100000
set_option maxHeartbeats 4000000
namespace Bs
open PySem L2
/-! ### the law's own commands -/
theorem in_strs (z : Str) (l : List Str) : inV (.str z) (l.map V.str) = decide (z ∈ l) := by
  rw [Bool.eq_iff_iff, decide_eq_true_iff]
  unfold inV
  rw [List.any_eq_true]
  constructor
  · rintro ⟨y, hy, e⟩
    obtain ⟨x, hx, rfl⟩ := List.mem_map.mp hy
    have e : (x == z) = true := e
    rw [← eq_of_beq e]
    exact hx
  · intro h
    exact ⟨.str z, List.mem_map.mpr ⟨z, h, rfl⟩, show (z == z) = true from beq_iff_eq.mpr rfl⟩
theorem cmd_of {w : Str} {k : Nat} {ws : List Str} (h1 : w ≠ "ask") (h2 : w ≠ "show") (h3 : w ≠ "read") (h4 : nargs.lookup w = some k) : isCmd (w :: ws) = (decide (ws.length = k) && ws.all isName) := by
  rw [isCmd, if_neg h1, if_neg h2, if_neg h3, h4]
theorem cmd_zero {w : Str} {ws : List Str} (h1 : w ≠ "ask") (h2 : w ≠ "show") (h3 : w ≠ "read") (h4 : nargs.lookup w = some 0) : isCmd (w :: ws) = decide (ws.length = 0) := by
  rw [cmd_of h1 h2 h3 h4]
  cases ws with
  | nil => rfl
  | cons a r => rfl
def w0s : List Str := ["undo", "redo", "answers"]
def w1s : List Str := ["shape", "drop", "remove", "answer", "print"]
theorem cmd0 {w : Str} (h : w ∈ w0s) (ws : List Str) : isCmd (w :: ws) = decide (ws.length = 0) := by
  have : ∀ w ∈ w0s, w ≠ "ask" ∧ w ≠ "show" ∧ w ≠ "read" ∧ nargs.lookup w = some 0 := by decide +kernel
  obtain ⟨h1, h2, h3, h4⟩ := this w h
  exact cmd_zero h1 h2 h3 h4
theorem cmd1 {w : Str} (h : w ∈ w1s) (ws : List Str) : isCmd (w :: ws) = (decide (ws.length = 1) && ws.all isName) := by
  have : ∀ w ∈ w1s, w ≠ "ask" ∧ w ≠ "show" ∧ w ≠ "read" ∧ nargs.lookup w = some 1 := by decide +kernel
  obtain ⟨h1, h2, h3, h4⟩ := this w h
  exact cmd_of h1 h2 h3 h4
theorem cmd_no {w : Str} (h0 : w ∉ w0s) (h1 : w ∉ w1s) (h2 : w ≠ "cut") (h3 : w ≠ "ask") (h4 : w ≠ "show") (h5 : w ≠ "read") (ws : List Str) : isCmd (w :: ws) = false := by
  rw [isCmd, if_neg h3, if_neg h4, if_neg h5]
  have : nargs.lookup w = none := by
    have hk : ∀ p ∈ nargs, p.1 ∈ w0s ∨ p.1 ∈ w1s ∨ p.1 = "cut" := by decide +kernel
    have : ∀ l : List (Str × Nat), (∀ p ∈ l, p.1 ≠ w) → l.lookup w = none := by
      intro l
      induction l with
      | nil => intro _; rfl
      | cons p r ih =>
        intro h
        have e : (w == p.1) = false := beq_eq_false_iff_ne.mpr fun z => h p (List.mem_cons_self ..) z.symm
        rw [show List.lookup w (p :: r) = (match w == p.1 with | true => some p.2 | false => List.lookup w r) from rfl, e]
        exact ih fun q hq => h q (List.mem_cons_of_mem _ hq)
    refine this _ fun p hp e => ?_
    rcases hk p hp with k | k | k
    · exact h0 (e ▸ k)
    · exact h1 (e ▸ k)
    · exact h2 (e.symm.trans k)
  rw [this]
section
variable {P : Program} {w : World} {K : PySem.W.Frag} {mg : Str → Option Value} {base : Heap} {f : Addr} {fd : FuncData}
theorem scLCmd : FnScope ["words", "first", "rest", "word"] ["words"] (defScope sLawCommand) := ⟨rfl, rfl, rfl, by decide +kernel, rfl, by decide +kernel, by decide +kernel⟩
theorem ok_lcmd (F : Fun K "_law_command" "_law_command" sLawCommand f fd) (gN : Cal P w K mg base CX0 1 "_law_is_name" ["word"] spIsName) (gA : Cal P w K mg base CX0 2 "_law_all_names" ["words"] spNames) (gB : Cal P w K mg base CX0 1 "_law_is_byte" ["word"] spIsByte) (ml : mg "len" = none) :
    FnOk P w K mg base CX0 3 f fd ["words"] spCmd := by
  refine F.ok scLCmd (fun vs H Q E h => ?_) (fun cdv A outer s H vs Q E hr h => ?_)
  · obtain ⟨a, w, ws, rfl, _⟩ := h
    rfl
  · obtain ⟨a, wd, ws, rfl, ha, hs, q⟩ := h
    have hr1 : Room 1 _ := hr.mono (by decide)
    refine ⟨_, pss_cons (ps_set (i := 1) scLCmd.nd rfl (.inl rfl) (pe_ix ix_list (pv 0) pe_int (fun _ _ => rfl)))
      (pss_cons (ps_set (i := 2) scLCmd.nd rfl (.inl rfl) (pe_slice sl_list (pv 0) (po_some pe_int) po_none))
      (pss_cons (ps_if (PW.pt (pw_or (pt_cmpR op_eq (pv 1) pe_str (nomark _)) (pw_or (pt_cmpR op_eq (pv 1) pe_str (nomark _)) (pw_or1 (pt_cmpR op_eq (pv 1) pe_str (nomark _)))))) (pss_one (ps_ret (pe_cmpR op_eq (pe_callB call_len (by rfl) ml boot_len (pa_cons (pv 2) pa_nil)) pe_int (nomark _)))) pss_nil)
      (pss_cons (ps_if (pt_cmpR op_in_seq (pv 1) (pe_tup (pa_cons pe_str (pa_cons pe_str (pa_cons pe_str (pa_cons pe_str (pa_cons pe_str pa_nil)))))) (by rfl)) (pss_one (ps_ret (pe_and (pe_cmpR op_eq (pe_callB call_len (by rfl) ml boot_len (pa_cons (pv 2) pa_nil)) pe_int (nomark _)) (pe_one (pe_cal gN hr1 pass0 (pa_cons (pe_ix ix_list (pv 2) pe_int (fun _ _ => rfl)) pa_nil)))))) pss_nil)
      (pss_cons (ps_if (pt_cmpR op_eq (pv 1) pe_str (nomark _)) (pss_one (ps_ret (pe_and (pe_cmpR op_eq (pe_callB call_len (by rfl) ml boot_len (pa_cons (pv 2) pa_nil)) pe_int (nomark _)) (pe_one (pe_cal gA hr pass0 (pa_cons (pv 2) pa_nil)))))) pss_nil)
      (pss_cons (ps_if (pt_cmpR op_eq (pv 1) pe_str (nomark _)) (pss_one (ps_ret (pe_and (pe_cmpR op_gt (pe_callB call_len (by rfl) ml boot_len (pa_cons (pv 2) pa_nil)) pe_int (nomark _)) (pe_one (pe_cal gA hr pass0 (pa_cons (pv 2) pa_nil)))))) pss_nil)
      (pss_cons (ps_if (pt_cmpR op_eq (pv 1) pe_str (nomark _)) (pss_one (ps_ret (pe_and (pe_cmpR op_eq (pe_callB call_len (by rfl) ml boot_len (pa_cons (pv 2) pa_nil)) pe_int (nomark _)) (pe_one (pe_or (pe_cmpR op_eq (pe_ix ix_list (pv 2) pe_int (fun _ _ => rfl)) pe_str (nomark _)) (pe_one (pe_cmpR op_eq (pe_ix ix_list (pv 2) pe_int (fun _ _ => rfl)) pe_str (nomark _)))))))) pss_nil)
      (pss_cons (ps_if (PW.pt (pw_or (pt_cmpR op_ne (pv 1) pe_str (nomark _)) (pw_or (pt_cmpR op_eq (pe_callB call_len (by rfl) ml boot_len (pa_cons (pv 2) pa_nil)) pe_int (nomark _)) (pw_or1 (pt_not (pt_val (pe_cal gN hr1 pass0 (pa_cons (pe_ix ix_list (pv 2) pe_int (fun _ _ => rfl)) pa_nil)))))))) (pss_one (ps_ret pe_bl)) pss_nil)
      (pss_cons (ps_for PassesOwn.never rfl (pi_list (pe_slice sl_list (pv 2) (po_some pe_int) po_none)) (pg_name (i := 3) scLCmd.nd rfl (.inl rfl)) (pss_one (ps_if (pt_not (pt_val (pe_cal gB hr1 pass0 (pa_cons (pv 3) pa_nil)))) (pss_one (ps_ret pe_bl)) pss_nil)))
      (pss_one (ps_ret pe_bl)))))))))), ?_⟩
    have hws : Short ws := hs.drop 1
    refine ⟨_, rfl, a, _, 0, _, rfl, rfl, SqL.of ha, atI_nat (j := 0) rfl, ?_⟩
    refine ⟨_, rfl, 1, rfl, a, _, rfl, SqL.of ha, fun p hp => ?_⟩
    rw [show ((1 : Int) = ((1 : Nat) : Int)) from rfl, cut_from, show ((wd :: ws).map V.str).drop 1 = ws.map V.str from rfl]
    have s1 := same_new hp (.lst (ws.map V.str))
    have h1 : upd H p (.lst (ws.map V.str)) p = some (.lst (ws.map V.str)) := upd_same
    generalize upd H p (.lst (ws.map V.str)) = H1 at s1 h1 ⊢
    have lw : (ws.map V.str).length = ws.length := List.length_map ..
    have hlen : ∀ H', H' p = some (.lst (ws.map V.str)) → LenV K (.ref p) H' ws.length := fun H' e => .inl ⟨_, SqL.of e, lw.symm⟩
    have zero : isCmd (wd :: ws) = decide (ws.length = 0) → Q (.bl (decide (V.int (ws.length : Nat) = V.int 0))) H1 := fun e => by
      have k := q H1 s1
      rw [e] at k
      rw [int_eq, show decide ((ws.length : Int) = 0) = decide (ws.length = 0) from decide_eq_decide.mpr (by omega)]
      exact k
    refine ⟨_, rfl, rfl, _, rfl, ?_⟩
    refine ite2 (fun c => ?_) (fun c => ?_)
    · rw [str_eq, decide_eq_true_iff] at c
      exact ⟨_, rfl, _, _, rfl, hlen _ h1, rfl, zero (cmd0 (by rw [c]; decide +kernel) ws)⟩
    rw [str_eq, decide_eq_true_iff] at c
    refine ⟨_, rfl, rfl, _, rfl, ?_⟩
    refine ite2 (fun d => ?_) (fun d => ?_)
    · rw [str_eq, decide_eq_true_iff] at d
      exact ⟨_, rfl, _, _, rfl, hlen _ h1, rfl, zero (cmd0 (by rw [d]; decide +kernel) ws)⟩
    rw [str_eq, decide_eq_true_iff] at d
    refine ⟨_, rfl, rfl, _, rfl, ?_⟩
    refine ite2 (fun e => ?_) (fun e => ?_)
    · rw [str_eq, decide_eq_true_iff] at e
      exact ⟨_, rfl, _, _, rfl, hlen _ h1, rfl, zero (cmd0 (by rw [e]; decide +kernel) ws)⟩
    rw [str_eq, decide_eq_true_iff] at e
    have n0 : wd ∉ w0s := fun k => by
      simp only [w0s, List.mem_cons, List.not_mem_nil, or_false] at k
      exact k.elim c fun k => k.elim d e
    -- one name
    refine ⟨_, rfl, (by show 5 ≤ sizeLine; decide), fun o ho => ?_⟩
    have s2 := s1.trans (same_new ho (.tup [.str "shape", .str "drop", .str "remove", .str "answer", .str "print"]))
    have h2 : upd H1 o (.tup [.str "shape", .str "drop", .str "remove", .str "answer", .str "print"]) p = some (.lst (ws.map V.str)) := (same_new ho _) _ _ h1
    have ho2 : upd H1 o (.tup [.str "shape", .str "drop", .str "remove", .str "answer", .str "print"]) o = some (.tup (w1s.map V.str)) := upd_same
    generalize upd H1 o (.tup [.str "shape", .str "drop", .str "remove", .str "answer", .str "print"]) = H2 at s2 h2 ho2 ⊢
    refine ⟨o, w1s.map V.str, rfl, .inr (SqT.of ho2), rfl, by decide +kernel, _, rfl, ?_⟩
    rw [in_strs]
    refine ite2 (fun g => ?_) (fun g => ?_)
    · have g : wd ∈ w1s := of_decide_eq_true g
      have hq : ∀ H', Same H H' → Q (.bl (decide (ws.length = 1) && ws.all isName)) H' := fun H' s => by have k := q H' s; rw [cmd1 g] at k; exact k
      refine ⟨_, rfl, _, _, rfl, hlen _ h2, rfl, _, rfl, ?_⟩
      rw [int_eq]
      refine ite2 (fun x => ?_) (fun x => ?_)
      · rw [decide_eq_true_iff] at x
        obtain ⟨y, rfl⟩ : ∃ x, ws = [x] := List.length_eq_one_iff.mp (by omega)
        refine ⟨_, rfl, p, _, 0, _, rfl, rfl, SqL.of h2, atI_nat (j := 0) rfl, y, rfl, Nat.le_of_lt (small1000 (hws.2 y (by simp))), fun H3 s3 => ?_⟩
        have k := hq H3 (s2.trans s3)
        simpa using k
      · rw [decide_eq_true_iff] at x
        have k := hq H2 s2
        rw [decide_eq_false (show ¬ ws.length = 1 by omega), Bool.false_and] at k
        exact k
    have g : wd ∉ w1s := fun k => g (decide_eq_true k)
    -- cut
    refine ⟨_, rfl, rfl, _, rfl, ?_⟩
    refine ite2 (fun t => ?_) (fun t => ?_)
    · rw [str_eq, decide_eq_true_iff] at t
      have hq : ∀ H', Same H H' → Q (.bl (decide (ws.length = 2) && ws.all isName)) H' := fun H' s => by have k := q H' s; rw [cmd_of (k := 2) (by rw [t]; decide +kernel) (by rw [t]; decide +kernel) (by rw [t]; decide +kernel) (by rw [t]; decide +kernel)] at k; exact k
      refine ⟨_, rfl, _, _, rfl, hlen _ h2, rfl, _, rfl, ?_⟩
      rw [int_eq]
      refine ite2 (fun x => ?_) (fun x => ?_)
      · rw [decide_eq_true_iff] at x
        refine ⟨_, rfl, p, ws, rfl, h2, hws, fun H3 s3 => ?_⟩
        have k := hq H3 (s2.trans s3)
        rw [decide_eq_true (show ws.length = 2 by omega), Bool.true_and] at k
        exact k
      · rw [decide_eq_true_iff] at x
        have k := hq H2 s2
        rw [decide_eq_false (show ¬ ws.length = 2 by omega), Bool.false_and] at k
        exact k
    rw [str_eq, decide_eq_true_iff] at t
    -- ask
    refine ⟨_, rfl, rfl, _, rfl, ?_⟩
    refine ite2 (fun u => ?_) (fun u => ?_)
    · rw [str_eq, decide_eq_true_iff] at u
      have hq : ∀ H', Same H H' → Q (.bl (decide (3 ≤ ws.length) && ws.all isName)) H' := fun H' s => by have k := q H' s; rw [isCmd, if_pos u] at k; exact k
      refine ⟨_, rfl, _, _, rfl, hlen _ h2, _, _, rfl, rfl, _, rfl, ?_⟩
      refine ite2 (fun x => ?_) (fun x => ?_)
      · have x : (2 : Int) < ws.length := of_decide_eq_true x
        refine ⟨_, rfl, p, ws, rfl, h2, hws, fun H3 s3 => ?_⟩
        have k := hq H3 (s2.trans s3)
        rw [decide_eq_true (show 3 ≤ ws.length by omega), Bool.true_and] at k
        exact k
      · have x : ¬ (2 : Int) < ws.length := fun k => x (decide_eq_true k)
        have k := hq H2 s2
        rw [decide_eq_false (show ¬ 3 ≤ ws.length by omega), Bool.false_and] at k
        exact k
    rw [str_eq, decide_eq_true_iff] at u
    -- show
    refine ⟨_, rfl, rfl, _, rfl, ?_⟩
    refine ite2 (fun v => ?_) (fun v => ?_)
    · rw [str_eq, decide_eq_true_iff] at v
      have hq : ∀ H', Same H H' → Q (.bl (decide (ws.length = 1) && ws.all (fun x => decide (x = ("shapes" : Str) ∨ x = ("questions" : Str))))) H' := fun H' s => by have k := q H' s; rw [isCmd, if_neg u, if_pos v] at k; exact k
      refine ⟨_, rfl, _, _, rfl, hlen _ h2, rfl, _, rfl, ?_⟩
      rw [int_eq]
      refine ite2 (fun x => ?_) (fun x => ?_)
      · rw [decide_eq_true_iff] at x
        obtain ⟨y, rfl⟩ : ∃ x, ws = [x] := List.length_eq_one_iff.mp (by omega)
        have k := hq H2 s2
        refine ⟨_, rfl, p, _, 0, _, rfl, rfl, SqL.of h2, atI_nat (j := 0) rfl, rfl, _, rfl, ?_⟩
        rw [str_eq]
        refine ite2 (fun m => ?_) (fun m => ?_)
        · rw [decide_eq_true_iff] at m
          simp only [List.length_cons, List.length_nil, List.all_cons, List.all_nil, m] at k
          simpa using k
        · rw [decide_eq_true_iff] at m
          refine ⟨_, rfl, p, _, 0, _, rfl, rfl, SqL.of h2, atI_nat (j := 0) rfl, rfl, ?_⟩
          rw [str_eq]
          have e1 : decide (y = ("shapes" : Str) ∨ y = ("questions" : Str)) = decide (y = ("questions" : Str)) := decide_eq_decide.mpr ⟨fun z => z.elim (fun z => absurd z m) id, .inr⟩
          simp only [List.length_cons, List.length_nil, List.all_cons, List.all_nil, e1] at k
          simpa using k
      · rw [decide_eq_true_iff] at x
        have k := hq H2 s2
        rw [decide_eq_false (show ¬ ws.length = 1 by omega), Bool.false_and] at k
        exact k
    rw [str_eq, decide_eq_true_iff] at v
    -- read
    refine ⟨_, rfl, rfl, _, rfl, ?_⟩
    refine ite2 (fun m => ?_) (fun m => ?_)
    · have m : wd ≠ "read" := fun z => by rw [z] at m; simp at m
      have k := q H2 s2
      rw [cmd_no n0 g t u v m] at k
      exact k
    have m : wd = "read" := by
      have m : V.str wd = V.str "read" := by simpa using m
      exact V.str.inj m
    have hq : ∀ H', Same H H' → Q (.bl ((ws.take 1).all isName && (decide (1 ≤ ws.length) && (ws.drop 1).all isByte))) H' := fun H' s => by have k := q H' s; rw [isCmd, if_neg u, if_neg v, if_pos m] at k; exact k
    refine ⟨_, rfl, _, _, rfl, hlen _ h2, rfl, _, rfl, ?_⟩
    rw [int_eq]
    refine ite2 (fun x => ?_) (fun x => ?_)
    · rw [decide_eq_true_iff] at x
      have k := hq H2 s2
      rw [decide_eq_false (show ¬ 1 ≤ ws.length by omega), Bool.false_and, Bool.and_false] at k
      exact k
    rw [decide_eq_true_iff] at x
    obtain ⟨y, r, rfl⟩ : ∃ y r, ws = y :: r := by
      cases ws with
      | nil => exact absurd rfl x
      | cons y r => exact ⟨y, r, rfl⟩
    refine ⟨_, rfl, p, _, 0, _, rfl, rfl, SqL.of h2, atI_nat (j := 0) rfl, y, rfl, Nat.le_of_lt (small1000 (hws.2 y (by simp))), fun H3 s3 => ?_⟩
    refine ⟨_, rfl, ?_⟩
    have hr' : (decide (1 ≤ (y :: r).length)) = true := decide_eq_true (by simp)
    have ht1 : ((y :: r).take 1).all isName = isName y := by simp
    have hd1 : (y :: r).drop 1 = r := rfl
    rw [hr', ht1, hd1, Bool.true_and] at hq
    refine ite2 (fun o => ?_) (fun o => ?_)
    · have o : isName y = false := by simpa using o
      have k := hq H3 (s2.trans s3)
      rw [o, Bool.false_and] at k
      exact k
    have o : isName y = true := by simpa using o
    rw [o, Bool.true_and] at hq
    have h3 := s3 _ _ h2
    refine ⟨_, rfl, 1, rfl, p, _, rfl, SqL.of h3, fun p4 hp4 => ?_⟩
    rw [show ((1 : Int) = ((1 : Nat) : Int)) from rfl, cut_from, ← List.map_drop, hd1]
    have s4 := same_new hp4 (.lst (r.map V.str))
    have h4 : upd H3 p4 (.lst (r.map V.str)) p4 = some (.lst (r.map V.str)) := upd_same
    generalize upd H3 p4 (.lst (r.map V.str)) = H4 at s4 h4 ⊢
    have s24 := s2.trans (s3.trans s4)
    refine ⟨p4, rfl, ⟨_, SqL.of h4⟩, for_list (K := K) (a := p4) (xs := r.map V.str) (fun i σ H' => ∃ k, σ = [some (.ref a), some (.str wd), some (.ref p), k] ∧ Same H4 H' ∧ (r.take i).all isByte = true) ⟨none, rfl, Same.refl H4, rfl⟩ (fun i σ H' _ z => by obtain ⟨_, _, z, _⟩ := z; exact SqL.of (z _ _ h4)) ?_ ?_⟩
    · rintro i x σ H5 hi ⟨k, rfl, s5, hall⟩
      obtain ⟨b, hb, rfl⟩ := strs_at hi
      have step : r.take (i + 1) = r.take i ++ [b] := by rw [List.take_add_one, hb]; rfl
      refine ⟨_, rfl, b, rfl, Nat.le_of_lt (small1000 (hws.2 b (List.mem_cons_of_mem _ (List.mem_of_getElem? hb)))), fun H6 s6 => ?_⟩
      refine ⟨_, rfl, ?_⟩
      refine ite2 (fun j => ?_) (fun j => ?_)
      · have j : isByte b = false := by simpa using j
        have k := hq H6 (s24.trans (s5.trans s6))
        have : r.all isByte = false := by
          rw [Bool.eq_false_iff]
          intro k
          have := List.all_eq_true.mp k b (List.mem_of_getElem? hb)
          rw [j] at this
          cases this
        rw [this] at k
        exact k
      · have j : isByte b = true := by simpa using j
        exact ⟨_, rfl, s5.trans s6, by rw [step, List.all_append, hall]; simp [j]⟩
    · rintro σ H5 ⟨k, rfl, s5, hall⟩
      rw [List.length_map, List.take_length] at hall
      have k := hq H5 (s24.trans s5)
      rw [hall] at k
      exact k
end
end Bs

set_option Elab.async false
set_option linter.all false
set_option maxRecDepth 100000
set_option maxHeartbeats 4000000
namespace Bs
open PySem L2
/-! ### the law's words -/
def Wd (z : Str) : Prop := z.cps.toList ≠ [] ∧ (∀ c ∈ z.cps.toList, c ≠ 32 ∧ c < 128) ∧ z.length ≤ 40
def Wds (ws : List Str) : Prop := 1 ≤ ws.length ∧ ws.length ≤ 12 ∧ ∀ w ∈ ws, Wd w
instance (z : Str) : Decidable (Wd z) := by unfold Wd; infer_instance
theorem Wds.short {ws : List Str} (h : Wds ws) : Short ws := ⟨Nat.le_trans h.2.1 (by decide), fun w hw => Nat.le_trans (h.2.2 w hw).2.2 (by decide)⟩
abbrev lets : Str := "abcdefghijklmnopqrstuvwxyz0123456789"
theorem lets_ok : ∀ c ∈ lets.cps.toList, c ≠ 32 ∧ c < 128 := by decide +kernel
theorem at_mem {α : Type} (l : List α) {i : Int} (h0 : 0 ≤ i) (h1 : i < (l.length : Int)) : ∃ c ∈ l, atI l i = some c := by
  obtain ⟨n, rfl⟩ := Int.eq_ofNat_of_zero_le h0
  have hn : n < l.length := by omega
  exact ⟨l[n], List.getElem_mem _, atI_nat (List.getElem?_eq_getElem hn)⟩
theorem at_map {l : List Str} {i : Int} {z : Str} (h : atI l i = some z) : atI (l.map V.str) i = some (.str z) := by
  unfold atI at h ⊢
  rw [List.length_map]
  revert h
  cases ixN l.length i with
  | none => intro h; cases h
  | some n => intro h; simp only [Option.bind_some] at h ⊢; rw [List.getElem?_map, h]; rfl
def sing (c : Nat) : Str := ⟨#[c]⟩
theorem join_chars (cs : List Nat) : (Txt.join ("" : Str) (cs.map sing)).cps.toList = cs := by
  rw [TL.join_eq]
  have := TL.tl_join ("" : Str) (cs.map sing)
  rw [show TL.tl (Str.join ("" : Str) (cs.map sing)) = (Str.join ("" : Str) (cs.map sing)).cps.toList from rfl] at this
  rw [this, show TL.tl ("" : Str) = [] from empty_list, List.map_map]
  have e : ∀ l : List Nat, TL.joinL [] (l.map (TL.tl ∘ sing)) = l := by
    intro l
    induction l with
    | nil => rfl
    | cons a r ih =>
      cases r with
      | nil => rfl
      | cons b r => 
        show [a] ++ ([] ++ TL.joinL [] ((b :: r).map (TL.tl ∘ sing))) = _
        rw [ih]; rfl
  exact e cs
theorem join_wd {cs : List Nat} (h1 : 1 ≤ cs.length) (h2 : cs.length ≤ 30) (h : ∀ c ∈ cs, c ≠ 32 ∧ c < 128) : Wd (Txt.join ("" : Str) (cs.map sing)) ∧ (Txt.join ("" : Str) (cs.map sing)).length ≤ 30 := by
  have e := join_chars cs
  refine ⟨⟨?_, ?_, ?_⟩, ?_⟩
  · rw [e]; intro z; rw [z] at h1; simp at h1
  · rw [e]; exact h
  · rw [tlen, e]; omega
  · rw [tlen, e]; omega
theorem sing_sum (cs : List Nat) : ((cs.map sing).map (·.length)).sum = cs.length := by
  induction cs with
  | nil => rfl
  | cons a r ih => rw [List.map_cons, List.map_cons, List.sum_cons, ih, List.length_cons, show (sing a).length = 1 from rfl]; omega
theorem cutS_mem {z : Str} {lo hi : Option Int} {c : Nat} (h : c ∈ (cutS z lo hi).cps.toList) : c ∈ z.cps.toList := by
  unfold cutS at h
  exact List.mem_of_mem_drop (List.mem_of_mem_take (by simpa using h))
theorem cutS_le (z : Str) (lo hi : Option Int) : (cutS z lo hi).length ≤ z.length := by
  have h : ∀ z : Str, z.length = z.cps.toList.length := fun z => by simp [Str.length]
  unfold cutS
  rw [h, h]
  simp
  omega
theorem slen (x y : Str) : (x ++ y).length = x.length + y.length := by rw [tlen, tlen, tlen, tapp, List.length_append]
def rInt : List V → Hp → VK → Prop := fun xs H Q => (∃ i, xs = [.int i] ∧ Q (.int i) H) ∨ ∃ k, xs = [.bl k] ∧ Q (.int (if k then 1 else 0)) H
def table : List Str := ["shape", "drop", "remove", "undo", "redo", "answer", "answers", "print", "cut", "ask", "read", "show", "shapes", "questions", "done", "ways", "covers", "0", "255", "256", "00", "+1", "1_0"]
theorem table_ok : ∀ z ∈ table, Wd z := by decide +kernel
def spWord : Sp := fun vs H Q _ => ∃ n m : Int, vs = [.int n, .int m] ∧ ∀ z H', Same H H' → Wd z → Q (.str z) H'
section
variable {P : Program} {w : World} {K : PySem.W.Frag} {mg : Str → Option Value} {base : Heap} {f : Addr} {fd : FuncData}
abbrev nWord : List Str := ["number", "more", "words", "letters", "size", "word", "k"]
theorem scWord : FnScope nWord ["number", "more"] (defScope sLawWord) := ⟨rfl, rfl, rfl, by decide +kernel, rfl, by decide +kernel, by decide +kernel⟩
theorem ok_word (F : Fun K "_law_word" "_law_word" sLawWord f fd) (mint : mg "int" = none) (mr : mg "range" = none) : FnOk P w K mg base CX0 1 f fd ["number", "more"] spWord := by
  refine F.ok scWord (fun vs H Q E h => ?_) (fun cdv A outer s H vs Q E hr h => ?_)
  · obtain ⟨n, m, rfl, _⟩ := h
    rfl
  · obtain ⟨n, m, rfl, q⟩ := h
    refine ⟨_, pss_cons (ps_set (i := 2) scWord.nd rfl (.inl rfl) (pe_tup (pa_cons pe_str (pa_cons pe_str (pa_cons pe_str (pa_cons pe_str (pa_cons pe_str (pa_cons pe_str (pa_cons pe_str (pa_cons pe_str (pa_cons pe_str (pa_cons pe_str (pa_cons pe_str (pa_cons pe_str pa_nil))))))))))))))
      (pss_cons (ps_set (i := 2) scWord.nd rfl (.inl rfl) (pe_op op_catT (pv 2) (pe_tup (pa_cons pe_str (pa_cons pe_str (pa_cons pe_str (pa_cons pe_str (pa_cons pe_str (pa_cons pe_str (pa_cons pe_str (pa_cons pe_str (pa_cons pe_str (pa_cons pe_str (pa_cons pe_str pa_nil))))))))))))))
      (pss_cons (ps_if (pt_cmpR op_eq (pe_op op_mod (pe_callTy (r := rInt) call_int1 (by rfl) mint (by decide +kernel) (pa_cons (pv 0) pa_nil)) pe_int) pe_int (nomark _)) (pss_one (ps_ret (pe_ix ix_tup (pv 2) (pe_op op_mod (pe_op op_fdiv (pv 0) pe_int) pe_int) (fun _ _ => rfl)))) pss_nil)
      (pss_cons (ps_set (i := 3) scWord.nd rfl (.inr rfl) pe_str)
      (pss_cons (ps_set (i := 4) scWord.nd rfl (.inl rfl) (pe_op op_add pe_int (pe_op op_mod (pe_op op_fdiv (pv 0) pe_int) pe_int)))
      (pss_cons (ps_if (pt_cmpR op_eq (pe_op op_mod (pe_callTy (r := rInt) call_int1 (by rfl) mint (by decide +kernel) (pa_cons (pv 0) pa_nil)) pe_int) pe_int (nomark _))
        (pss_one (ps_ret (pe_join pe_str (pe_lc (own := [("k", 6)]) (g := gName 6) (tt := tYes) rfl scWord.nd (pi_range1 (by rfl) mr (pa_cons (pv 4) pa_nil)) (blkOk_by (own := [("k", 6)]) (N := nWord) (sc := defScope sLawWord) (by decide +kernel))
          (fun _ _ _ _ _ => pg_name (i := 6) scWord.nd rfl (Or.inl rfl)) (fun _ _ _ _ _ => pts_nil)
          (fun _ _ _ _ _ => pe_ix (r := rIxS) ix_str (pv 3) (pe_op op_add pe_int (pe_op op_mod (pe_callTy (r := rInt) call_int1 (by rfl) mint (by decide +kernel) (pa_cons (pe_op op_add (pe_op op_add (pv 1) (pe_op op_mul (pv 6) (pv 6))) (pe_op op_fdiv (pv 0) pe_int)) pa_nil)) pe_int)) (fun _ _ => rfl)))))) pss_nil)
      (pss_cons (ps_set (i := 5) scWord.nd rfl (.inl rfl) (pe_join pe_str (pe_lc (own := [("k", 6)]) (g := gName 6) (tt := tYes) rfl scWord.nd (pi_range1 (by rfl) mr (pa_cons (pe_op op_add (pv 4) (pe_op op_mod (pe_op op_fdiv (pv 0) pe_int) pe_int)) pa_nil)) (blkOk_by (own := [("k", 6)]) (N := nWord) (sc := defScope sLawWord) (by decide +kernel))
          (fun _ _ _ _ _ => pg_name (i := 6) scWord.nd rfl (Or.inl rfl)) (fun _ _ _ _ _ => pts_nil)
          (fun _ _ _ _ _ => pe_ix (r := rIxS) ix_str (pv 3) (pe_op op_mod (pe_callTy (r := rInt) call_int1 (by rfl) mint (by decide +kernel) (pa_cons (pe_op op_add (pe_op op_add (pv 1) (pe_op op_mul (pe_op op_mul pe_int (pv 6)) (pv 0))) (pv 6)) pa_nil)) pe_int) (fun _ _ => rfl)))))
      (pss_cons (ps_if (pt_cmpR op_eq (pe_op op_mod (pe_callTy (r := rInt) call_int1 (by rfl) mint (by decide +kernel) (pa_cons (pv 1) pa_nil)) pe_int) pe_int (nomark _)) (pss_one (ps_ret (pe_op op_add_str (pe_op op_add_str (pe_slice sl_str (pv 5) po_none (po_some pe_int)) pe_str) (pe_slice sl_str (pv 5) (po_some pe_int) po_none)))) pss_nil)
      (pss_cons (ps_if (pt_cmpR op_eq (pe_op op_mod (pe_callTy (r := rInt) call_int1 (by rfl) mint (by decide +kernel) (pa_cons (pv 1) pa_nil)) pe_int) pe_int (nomark _)) (pss_one (ps_ret (pe_op op_add_str (pv 5) pe_str))) pss_nil)
      (pss_one (ps_ret (pv 5))))))))))), ?_⟩
    have zz : ∀ n : Nat, n ≤ 1000 → n ≤ sizeLine := fun n h => Nat.le_of_lt (small1000 h)
    refine ⟨(by show 12 ≤ sizeLine; decide), fun t1 ht1 => ?_⟩
    have s1 := same_new ht1 (.tup ((table.take 12).map V.str))
    have g1 : upd H t1 (.tup ((table.take 12).map V.str)) t1 = some (.tup ((table.take 12).map V.str)) := upd_same
    refine ⟨_, rfl, (by show 11 ≤ sizeLine; decide), fun t2 ht2 => ?_⟩
    have s2 := same_new ht2 (.tup ((table.drop 12).map V.str))
    have g2 := s2 _ _ g1
    refine ⟨t1, t2, (table.take 12).map V.str, (table.drop 12).map V.str, rfl, rfl, SqT.of g2, SqT.of upd_same, by simp [table], by decide +kernel, fun e => by simp [table] at e, fun _ t3 ht3 => ?_⟩
    have s3 := same_new ht3 (.tup ((table.take 12).map V.str ++ (table.drop 12).map V.str))
    have s13 := s1.trans (s2.trans s3)
    have g3 : upd (upd (upd H t1 (.tup ((table.take 12).map V.str))) t2 (.tup ((table.drop 12).map V.str))) t3 (.tup ((table.take 12).map V.str ++ (table.drop 12).map V.str)) t3 = some (.tup (table.map V.str)) := by
      rw [upd_same, ← List.map_append, List.take_append_drop]
    generalize hH : upd (upd (upd H t1 _) t2 _) t3 _ = H3
    have s13 : Same H H3 := by rw [← hH]; exact s13
    have g3 : H3 t3 = some (.tup (table.map V.str)) := by rw [← hH]; exact g3
    clear hH s3 ht3 g2 s2 ht2 g1 s1 ht1
    refine ⟨_, rfl, .inl ⟨_, rfl, _, _, rfl, rfl, (by show (0 : Int) < 4; decide), rfl, _, rfl, ?_⟩⟩
    refine ite2 (fun _ => ?_) (fun _ => ?_)
    · obtain ⟨z, hz, ez⟩ := at_mem table (i := n / 4 % 23) (Int.emod_nonneg _ (by decide)) (by rw [show table.length = 23 from rfl]; exact Int.emod_lt_of_pos _ (by decide))
      refine ⟨_, rfl, _, rfl, _, _, rfl, rfl, ⟨by decide, by decide⟩, _, _, rfl, rfl, (by show (0 : Int) < 23; decide), t3, _, _, _, rfl, rfl, SqT.of g3, at_map ez, ?_⟩
      exact q z H3 s13 (table_ok z hz)
    have m4 : 0 ≤ n / 4 % 4 ∧ n / 4 % 4 < 4 := ⟨Int.emod_nonneg _ (by decide), Int.emod_lt_of_pos _ (by decide)⟩
    refine ⟨_, rfl, _, _, rfl, rfl, ⟨by decide, by decide⟩, _, _, rfl, rfl, (by show (0 : Int) < 4; decide), _, _, rfl, rfl, ?_⟩
    refine ⟨_, rfl, .inl ⟨_, rfl, _, _, rfl, rfl, (by show (0 : Int) < 4; decide), rfl, _, rfl, ?_⟩⟩
    have hG : lets.cps.toList.length = 36 := by decide +kernel
    have lsz : lets.length ≤ sizeLine := by decide +kernel
    refine ite2 (fun _ => ?_) (fun _ => ?_)
    · refine ⟨⟨_, rfl⟩, _, rfl, _, rfl, by omega, by omega, fun D hD => lc_range (lo := 0) (n := (1 + n / 4 % 4).toNat) (fun i H' => Same H3 H' ∧ ∃ cs : List Nat, cs.length = i ∧ (∀ c ∈ cs, c ≠ 32 ∧ c < 128) ∧ H' D = some (.lst ((cs.map sing).map V.str))) ⟨same_new hD _, [], rfl, by simp, upd_same⟩ ?_ ?_⟩
      · rintro i H4 hi ⟨s4, cs, hcs, hok, hD4⟩
        have r10 : ∀ x : Int, 0 ≤ 26 + x % 10 ∧ 26 + x % 10 < 36 := fun x => by
          have := Int.emod_nonneg x (show (10 : Int) ≠ 0 by decide)
          have := Int.emod_lt_of_pos x (show (0 : Int) < 10 by decide)
          omega
        refine ⟨rfl, yes_go ?_⟩
        obtain ⟨c, hc, ec⟩ := at_mem lets.cps.toList (i := 26 + (m + (0 + (i : Int)) * (0 + (i : Int)) + n / 20) % 10) (r10 _).1 (by rw [hG]; exact (r10 _).2)
        refine ⟨_, rfl, _, rfl, _, rfl, _, rfl, _, _, rfl, rfl, .inl ⟨by omega, by omega⟩, _, _, rfl, rfl, _, rfl, _, _, rfl, rfl, ⟨by decide, by decide⟩, _, _, rfl, rfl, .inl ⟨_, rfl, _, _, rfl, rfl, (by show (0 : Int) < 10; decide), _, _, rfl, rfl, _, _, c, rfl, rfl, lsz, ec, ?_⟩⟩
        refine ⟨_, hD4, small1000 (by rw [List.length_map, List.length_map]; omega), same_set s4 hD, cs ++ [c], by rw [List.length_append, hcs]; rfl, fun x hx => ?_, by rw [upd_same, List.map_append, List.map_append]; rfl⟩
        rcases List.mem_append.mp hx with hx | hx
        · exact hok x hx
        · rw [List.mem_singleton.mp hx]; exact lets_ok c hc
      · rintro H4 ⟨s4, cs, hcs, hok, hD4⟩
        obtain ⟨w1, w2⟩ := join_wd (cs := cs) (by omega) (by omega) hok
        refine ⟨_, D, cs.map sing, rfl, rfl, .inl (SqL.of hD4), ?_, q _ H4 (s13.trans s4) w1⟩
        rw [sing_sum, List.length_map, show ("" : Str).length = 0 from rfl]
        omega
    have m11 : 0 ≤ n / 20 % 11 ∧ n / 20 % 11 < 11 := ⟨Int.emod_nonneg _ (by decide), Int.emod_lt_of_pos _ (by decide)⟩
    refine ⟨⟨_, rfl⟩, _, rfl, _, rfl, _, _, rfl, rfl, ⟨by decide, by decide⟩, _, _, rfl, rfl, (by show (0 : Int) < 11; decide), _, _, rfl, rfl, _, rfl, by omega, by omega, fun D hD => lc_range (lo := 0) (n := (1 + n / 4 % 4 + n / 20 % 11).toNat) (fun i H' => Same H3 H' ∧ ∃ cs : List Nat, cs.length = i ∧ (∀ c ∈ cs, c ≠ 32 ∧ c < 128) ∧ H' D = some (.lst ((cs.map sing).map V.str))) ⟨same_new hD _, [], rfl, by simp, upd_same⟩ ?_ ?_⟩
    · rintro i H4 hi ⟨s4, cs, hcs, hok, hD4⟩
      have r36 : ∀ x : Int, 0 ≤ x % 36 ∧ x % 36 < 36 := fun x => ⟨Int.emod_nonneg x (by decide), Int.emod_lt_of_pos x (by decide)⟩
      refine ⟨rfl, yes_go ?_⟩
      obtain ⟨c, hc, ec⟩ := at_mem lets.cps.toList (i := (m + 11 * (0 + (i : Int)) * n + (0 + (i : Int))) % 36) (r36 _).1 (by rw [hG]; exact (r36 _).2)
      refine ⟨_, rfl, _, rfl, _, rfl, _, _, rfl, rfl, .inl ⟨by decide, by decide⟩, _, rfl, _, _, rfl, rfl, .inl ⟨by omega, by omega⟩, _, _, rfl, rfl, _, rfl, _, _, rfl, rfl, .inl ⟨_, rfl, _, _, rfl, rfl, (by show (0 : Int) < 36; decide), _, _, c, rfl, rfl, lsz, ec, ?_⟩⟩
      refine ⟨_, hD4, small1000 (by rw [List.length_map, List.length_map]; omega), same_set s4 hD, cs ++ [c], by rw [List.length_append, hcs]; rfl, fun x hx => ?_, by rw [upd_same, List.map_append, List.map_append]; rfl⟩
      rcases List.mem_append.mp hx with hx | hx
      · exact hok x hx
      · rw [List.mem_singleton.mp hx]; exact lets_ok c hc
    rintro H4 ⟨s4, cs, hcs, hok, hD4⟩
    obtain ⟨w1, w2⟩ := join_wd (cs := cs) (by omega) (by omega) hok
    refine ⟨_, D, cs.map sing, rfl, rfl, .inl (SqL.of hD4), by rw [sing_sum, List.length_map, show ("" : Str).length = 0 from rfl]; omega, ?_⟩
    generalize Txt.join ("" : Str) (cs.map sing) = z at w1 w2 ⊢
    have q4 := fun z w => q z H4 (s13.trans s4) w
    refine ⟨_, rfl, .inl ⟨_, rfl, _, _, rfl, rfl, (by show (0 : Int) < 7; decide), rfl, _, rfl, ?_⟩⟩
    refine ite2 (fun _ => ?_) (fun _ => ?_)
    · have e1 := cutS_le z none (some 2)
      have e2 := cutS_le z (some 2) none
      have eu : ("_" : Str).length = 1 := rfl
      refine ⟨_, rfl, 2, rfl, z, rfl, zz _ (by omega), _, _, rfl, rfl, zz _ (by rw [eu]; omega), _, rfl, 2, rfl, z, rfl, zz _ (by omega), _, _, rfl, rfl, zz _ (by rw [slen, eu]; omega), ?_⟩
      refine q4 _ ⟨?_, ?_, ?_⟩
      · rw [tapp, tapp]
        have : ("_" : Str).cps.toList = [95] := by decide +kernel
        rw [this]
        simp
      · intro c hc
        rw [tapp, tapp, show ("_" : Str).cps.toList = [95] by decide +kernel] at hc
        rcases List.mem_append.mp hc with hc | hc
        · rcases List.mem_append.mp hc with hc | hc
          · exact w1.2.1 c (cutS_mem hc)
          · rw [List.mem_singleton.mp hc]; decide
        · exact w1.2.1 c (cutS_mem hc)
      · rw [slen, slen, eu]
        have : (cutS z none (some 2)).length ≤ 2 := by
          unfold cutS
          rw [HT.sIx_none, show (2 : Int) = ((2 : Nat) : Int) from rfl, HT.sIx_nat, tlen]
          simp
          omega
        omega
    refine ⟨_, rfl, .inl ⟨_, rfl, _, _, rfl, rfl, (by show (0 : Int) < 7; decide), rfl, _, rfl, ?_⟩⟩
    refine ite2 (fun _ => ?_) (fun _ => ?_)
    · have eu : ("A" : Str).length = 1 := rfl
      refine ⟨_, rfl, _, _, rfl, rfl, zz _ (by rw [eu]; omega), ?_⟩
      refine q4 _ ⟨?_, ?_, ?_⟩
      · rw [tapp]
        have : ("A" : Str).cps.toList = [65] := by decide +kernel
        rw [this]
        simp
      · intro c hc
        rw [tapp, show ("A" : Str).cps.toList = [65] by decide +kernel] at hc
        rcases List.mem_append.mp hc with hc | hc
        · exact w1.2.1 c hc
        · rw [List.mem_singleton.mp hc]; decide
      · rw [slen, eu]; omega
    exact ⟨_, rfl, q4 z w1⟩
end
end Bs

set_option Elab.async false
set_option linter.all false
set_option maxRecDepth 100000
set_option maxHeartbeats 4000000
namespace Bs
open PySem L2
/-! ### the law's formed commands -/
def spFormed : Sp := fun vs H Q _ => ∃ (a : Addr) (ws : List Str) (n m : Int), vs = [.ref a, .int n, .int m] ∧ H a = some (.lst (ws.map V.str)) ∧ ws.length ≤ 8 ∧ (∀ w ∈ ws, Wd w) ∧ ∀ p us H', Same H H' → H p = none → H' p = some (.lst (us.map V.str)) → Wds us → Q (.ref p) H'
/-- lists of words -/
def Forms (H : Hp) (l : List V) : Prop := ∀ v ∈ l, ∃ p us, v = .ref p ∧ H p = some (.lst (us.map V.str)) ∧ Wds us
theorem Forms.same {H H' : Hp} {l : List V} (s : Same H H') (h : Forms H l) : Forms H' l := fun v hv => by obtain ⟨p, us, e, a, b⟩ := h v hv; exact ⟨p, us, e, s _ _ a, b⟩
theorem Forms.nil {H : Hp} : Forms H [] := fun v hv => by cases hv
theorem Forms.cons {H : Hp} {p : Addr} {us : List Str} {l : List V} (h : H p = some (.lst (us.map V.str))) (w : Wds us) (r : Forms H l) : Forms H (.ref p :: l) := fun v hv => by
  rcases List.mem_cons.mp hv with e | hv
  · exact ⟨p, us, e, h, w⟩
  · exact r v hv
theorem Forms.app {H : Hp} {l m : List V} (a : Forms H l) (b : Forms H m) : Forms H (l ++ m) := fun v hv => (List.mem_append.mp hv).elim (a v) (b v)
theorem at_memV (l : List V) {i : Int} (h0 : 0 ≤ i) (h1 : i < (l.length : Int)) : ∃ v ∈ l, atI l i = some v := at_mem l h0 h1
theorem wd_lit : ∀ z ∈ (["shape", "drop", "remove", "undo", "redo", "answers", "answer", "print", "show", "cut", "ask", "read", "shapes", "questions", "a", "b", "c", "d", "e", "0", "9", "255"] : List Str), Wd z := by decide +kernel
section
variable {P : Program} {w : World} {K : PySem.W.Frag} {mg : Str → Option Value} {base : Heap} {f : Addr} {fd : FuncData}
abbrev nFormed : List Str := ["words", "number", "more", "names", "numbers", "forms", "word"]
theorem scFormed : FnScope nFormed ["words", "number", "more"] (defScope sLawFormed) := ⟨rfl, rfl, rfl, by decide +kernel, rfl, by decide +kernel, by decide +kernel⟩
/-- a filter by a call that tells -/
theorem ok_formed (F : Fun K "_law_formed" "_law_formed" sLawFormed f fd) (gN : Cal P w K mg base CX0 1 "_law_is_name" ["word"] spIsName) (gB : Cal P w K mg base CX0 1 "_law_is_byte" ["word"] spIsByte) (mint : mg "int" = none) (ml : mg "list" = none) : FnOk P w K mg base CX0 2 f fd ["words", "number", "more"] spFormed := by
  refine F.ok scFormed (fun vs H Q E h => ?_) (fun cdv A outer s H vs Q E hr h => ?_)
  · obtain ⟨a, ws, n, m, rfl, _⟩ := h
    rfl
  · obtain ⟨a, ws, n, m, rfl, ha, hl, hw, q⟩ := h
    refine ⟨_, pss_cons (ps_set (i := 3) scFormed.nd rfl (.inl rfl) (pe_op op_cat (pe_lc (own := [("word", 6)]) (g := gName 6) rfl scFormed.nd (pi_list (pv 0)) (blkOk_by (own := [("word", 6)]) (N := nFormed) (sc := defScope sLawFormed) (by decide +kernel))
          (fun _ _ _ _ _ => pg_name (i := 6) scFormed.nd rfl (Or.inl rfl)) (fun _ _ _ _ _ => pts_one (pt_val (pe_cal gN hr pass0 (pa_cons (pv 6) pa_nil)))) (fun _ _ _ _ _ => pv 6)) (pe_lst (pa_cons pe_str (pa_cons pe_str (pa_cons pe_str (pa_cons pe_str (pa_cons pe_str pa_nil))))))))
      (pss_cons (ps_set (i := 4) scFormed.nd rfl (.inl rfl) (pe_op op_cat (pe_lc (own := [("word", 6)]) (g := gName 6) rfl scFormed.nd (pi_list (pv 0)) (blkOk_by (own := [("word", 6)]) (N := nFormed) (sc := defScope sLawFormed) (by decide +kernel))
          (fun _ _ _ _ _ => pg_name (i := 6) scFormed.nd rfl (Or.inl rfl)) (fun _ _ _ _ _ => pts_one (pt_val (pe_cal gB hr pass0 (pa_cons (pv 6) pa_nil)))) (fun _ _ _ _ _ => pv 6)) (pe_lst (pa_cons pe_str (pa_cons pe_str (pa_cons pe_str pa_nil))))))
      (pss_cons (ps_set (i := 5) scFormed.nd rfl (.inl rfl) (pe_tup (pa_cons (pe_lst (pa_cons pe_str (pa_cons (pe_ix ix_list (pv 3) pe_int (fun _ _ => rfl)) pa_nil))) (pa_cons (pe_lst (pa_cons pe_str (pa_cons (pe_ix ix_list (pv 3) pe_int (fun _ _ => rfl)) pa_nil))) (pa_cons (pe_lst (pa_cons pe_str (pa_cons (pe_ix ix_list (pv 3) pe_int (fun _ _ => rfl)) pa_nil)))
        (pa_cons (pe_lst (pa_cons pe_str pa_nil)) (pa_cons (pe_lst (pa_cons pe_str pa_nil)) (pa_cons (pe_lst (pa_cons pe_str pa_nil)) pa_nil))))))))
      (pss_cons (ps_set (i := 5) scFormed.nd rfl (.inl rfl) (pe_op op_catT (pv 5) (pe_tup (pa_cons (pe_lst (pa_cons pe_str (pa_cons (pe_ix ix_list (pv 3) pe_int (fun _ _ => rfl)) pa_nil))) (pa_cons (pe_lst (pa_cons pe_str (pa_cons (pe_ix ix_list (pv 3) pe_int (fun _ _ => rfl)) pa_nil)))
        (pa_cons (pe_lst (pa_cons pe_str (pa_cons (pe_ix ix_tup (pe_tup (pa_cons pe_str (pa_cons pe_str pa_nil))) (pe_op op_mod (pe_callTy (r := rInt) call_int1 (by rfl) mint (by decide +kernel) (pa_cons (pv 2) pa_nil)) pe_int) (fun _ _ => rfl)) pa_nil))) pa_nil))))))
      (pss_cons (ps_set (i := 5) scFormed.nd rfl (.inl rfl) (pe_op op_catT (pv 5) (pe_tup (pa_cons (pe_lst (pa_cons pe_str (pa_cons (pe_ix ix_list (pv 3) pe_int (fun _ _ => rfl)) (pa_cons (pe_ix ix_list (pv 3) pe_int (fun _ _ => rfl)) pa_nil))))
        (pa_cons (pe_op op_cat (pe_lst (pa_cons pe_str (pa_cons (pe_ix ix_list (pv 3) pe_int (fun _ _ => rfl)) (pa_cons (pe_ix ix_list (pv 3) pe_int (fun _ _ => rfl)) pa_nil)))) (pe_slice sl_list (pv 3) (po_some pe_int) (po_some (pe_op op_add pe_int (pe_op op_mod (pe_callTy (r := rInt) call_int1 (by rfl) mint (by decide +kernel) (pa_cons (pv 2) pa_nil)) pe_int))))) pa_nil)))))
      (pss_cons (ps_set (i := 5) scFormed.nd rfl (.inl rfl) (pe_op op_catT (pv 5) (pe_tup (pa_cons (pe_op op_cat (pe_lst (pa_cons pe_str (pa_cons (pe_ix ix_list (pv 3) pe_int (fun _ _ => rfl)) pa_nil))) (pe_slice sl_list (pv 4) po_none (po_some (pe_op op_mod (pe_callTy (r := rInt) call_int1 (by rfl) mint (by decide +kernel) (pa_cons (pv 2) pa_nil)) pe_int)))) pa_nil))))
      (pss_one (ps_ret (pe_callTy call_list_of (by rfl) ml (by decide +kernel) (pa_cons (pe_ix ix_tup (pv 5) (pe_op op_mod (pe_callTy (r := rInt) call_int1 (by rfl) mint (by decide +kernel) (pa_cons (pv 1) pa_nil)) pe_int) (fun _ _ => rfl)) pa_nil))))))))), ?_⟩
    have zz : ∀ n : Nat, n ≤ 1000 → n ≤ sizeLine := fun n h => Nat.le_of_lt (small1000 h)
    have lit : ∀ z ∈ (["shape", "drop", "remove", "undo", "redo", "answers", "answer", "print", "show", "cut", "ask", "read", "shapes", "questions", "a", "b", "c", "d", "e", "0", "9", "255"] : List Str), Wd z := wd_lit
    have lits : ∀ w : Str, (w ∈ (["a", "b", "c", "d", "e"] : List Str) ∨ w ∈ (["0", "9", "255"] : List Str)) → Wd w := by
      have : ∀ w ∈ (["a", "b", "c", "d", "e", "0", "9", "255"] : List Str), Wd w := by decide +kernel
      exact fun w h => this w (h.elim (fun k => List.mem_append_left (["0", "9", "255"] : List Str) k) fun k => List.mem_append_right (["a", "b", "c", "d", "e"] : List Str) k)
    -- names
    refine ⟨_, rfl, a, rfl, ⟨_, SqL.of ha⟩, fun D hD => lc_list (K := K) (a := a) (xs := ws.map V.str) (fun i H' => Same H H' ∧ ∃ us : List Str, us.length ≤ i ∧ (∀ w ∈ us, Wd w) ∧ H' D = some (.lst (us.map V.str))) ⟨same_new hD _, [], Nat.le_refl _, (fun _ z => by cases z), upd_same⟩ (fun i H' _ z => SqL.of (z.1 _ _ ha)) ?_ ?_⟩
    · rintro i x H2 hi ⟨s2, us, hus, huw, hD2⟩
      obtain ⟨y, hy, rfl⟩ := strs_at hi
      have hi' : i < ws.length := (List.getElem?_eq_some_iff.mp hy).1
      have hyw := hw y (List.mem_of_getElem? hy)
      refine ⟨rfl, ?_⟩
      refine ⟨_, rfl, y, rfl, zz _ (by have := hyw.2.2; omega), fun H3 s3 => ?_⟩
      refine ⟨_, rfl, ?_⟩
      refine ite2 (fun c => ?_) (fun c => ?_)
      · refine ⟨_, rfl, _, s3 _ _ hD2, small1000 (by rw [List.length_map]; omega), same_set (s2.trans s3) hD, us ++ [y], by rw [List.length_append]; simp; omega, fun w hw2 => (List.mem_append.mp hw2).elim (huw w) fun z => by rw [List.mem_singleton.mp z]; exact hyw, by rw [upd_same, strs_app]⟩
      · exact ⟨s2.trans s3, us, by omega, huw, s3 _ _ hD2⟩
    rintro H2 ⟨s2, us, hus, huw, hD2⟩
    rw [List.length_map] at hus
    refine ⟨(by show 5 ≤ sizeLine; decide), fun p3 hp3 => ?_⟩
    have s3 := same_new hp3 (.lst ((["a", "b", "c", "d", "e"] : List Str).map V.str))
    refine ⟨D, p3, us.map V.str, (["a", "b", "c", "d", "e"] : List Str).map V.str, rfl, rfl, s3 _ _ hD2, upd_same, zz _ (by rw [List.length_map]; show us.length + 5 ≤ 1000; omega), fun pn hpn => ?_⟩
    have s4 := same_new hpn (.lst (us.map V.str ++ (["a", "b", "c", "d", "e"] : List Str).map V.str))
    have S4 := s2.trans (s3.trans s4)
    obtain ⟨ns, hns, hn5, hn13, hnw⟩ : ∃ ns : List Str, us.map V.str ++ (["a", "b", "c", "d", "e"] : List Str).map V.str = ns.map V.str ∧ 5 ≤ ns.length ∧ ns.length ≤ 13 ∧ ∀ w ∈ ns, Wd w := by
      refine ⟨us ++ (["a", "b", "c", "d", "e"] : List Str), by rw [List.map_append], by rw [List.length_append]; show 5 ≤ us.length + 5; omega, by rw [List.length_append]; show us.length + 5 ≤ 13; omega, fun w hw2 => ?_⟩
      rcases List.mem_append.mp hw2 with k | k
      · exact huw w k
      · exact lits w (.inl k)
    have g4 : upd (upd H2 p3 (.lst ((["a", "b", "c", "d", "e"] : List Str).map V.str))) pn (.lst (us.map V.str ++ (["a", "b", "c", "d", "e"] : List Str).map V.str)) pn = some (.lst (ns.map V.str)) := by rw [upd_same, hns]
    generalize hH : upd (upd H2 p3 _) pn _ = H4
    have S4 : Same H H4 := by rw [← hH]; exact S4
    have g4 : H4 pn = some (.lst (ns.map V.str)) := by rw [← hH]; exact g4
    clear hH s4 s3 hpn hp3 hD2 s2 hns
    have ha4 := S4 _ _ ha
    -- numbers
    refine ⟨_, rfl, a, rfl, ⟨_, SqL.of ha4⟩, fun D2 hD2 => lc_list (K := K) (a := a) (xs := ws.map V.str) (fun i H' => Same H4 H' ∧ ∃ us : List Str, us.length ≤ i ∧ (∀ w ∈ us, Wd w) ∧ H' D2 = some (.lst (us.map V.str))) ⟨same_new hD2 _, [], Nat.le_refl _, (fun _ z => by cases z), upd_same⟩ (fun i H' _ z => SqL.of (z.1 _ _ ha4)) ?_ ?_⟩
    · rintro i x H2 hi ⟨s2, us, hus, huw, hD3⟩
      obtain ⟨y, hy, rfl⟩ := strs_at hi
      have hi' : i < ws.length := (List.getElem?_eq_some_iff.mp hy).1
      have hyw := hw y (List.mem_of_getElem? hy)
      refine ⟨rfl, ?_⟩
      refine ⟨_, rfl, y, rfl, zz _ (by have := hyw.2.2; omega), fun H3 s3 => ?_⟩
      refine ⟨_, rfl, ?_⟩
      refine ite2 (fun c => ?_) (fun c => ?_)
      · refine ⟨_, rfl, _, s3 _ _ hD3, small1000 (by rw [List.length_map]; omega), same_set (s2.trans s3) hD2, us ++ [y], by rw [List.length_append]; simp; omega, fun w hw2 => (List.mem_append.mp hw2).elim (huw w) fun z => by rw [List.mem_singleton.mp z]; exact hyw, by rw [upd_same, strs_app]⟩
      · exact ⟨s2.trans s3, us, by omega, huw, s3 _ _ hD3⟩
    rintro H5 ⟨s5, vs2, hvs, hvw, hD5⟩
    rw [List.length_map] at hvs
    refine ⟨(by show 3 ≤ sizeLine; decide), fun p6 hp6 => ?_⟩
    have s6 := same_new hp6 (.lst ((["0", "9", "255"] : List Str).map V.str))
    refine ⟨D2, p6, vs2.map V.str, (["0", "9", "255"] : List Str).map V.str, rfl, rfl, s6 _ _ hD5, upd_same, zz _ (by rw [List.length_map]; show vs2.length + 3 ≤ 1000; omega), fun pb hpb => ?_⟩
    have s7 := same_new hpb (.lst (vs2.map V.str ++ (["0", "9", "255"] : List Str).map V.str))
    have S7 := s5.trans (s6.trans s7)
    obtain ⟨bs, hbs, hb3, hb11, hbw⟩ : ∃ ns : List Str, vs2.map V.str ++ (["0", "9", "255"] : List Str).map V.str = ns.map V.str ∧ 3 ≤ ns.length ∧ ns.length ≤ 11 ∧ ∀ w ∈ ns, Wd w := by
      refine ⟨vs2 ++ (["0", "9", "255"] : List Str), by rw [List.map_append], by rw [List.length_append]; show 3 ≤ vs2.length + 3; omega, by rw [List.length_append]; show vs2.length + 3 ≤ 11; omega, fun w hw2 => ?_⟩
      rcases List.mem_append.mp hw2 with k | k
      · exact hvw w k
      · exact lits w (.inr k)
    have g7 : upd (upd H5 p6 (.lst ((["0", "9", "255"] : List Str).map V.str))) pb (.lst (vs2.map V.str ++ (["0", "9", "255"] : List Str).map V.str)) pb = some (.lst (bs.map V.str)) := by rw [upd_same, hbs]
    generalize hH : upd (upd H5 p6 _) pb _ = H7
    have S7 : Same H4 H7 := by rw [← hH]; exact S7
    have g7 : H7 pb = some (.lst (bs.map V.str)) := by rw [← hH]; exact g7
    clear hH s7 s6 hpb hp6 hD5 s5 hbs
    have hN7 := S7 _ _ g4
    obtain ⟨n0, n1, nr, rfl⟩ : ∃ n0 n1 nr, ns = n0 :: n1 :: nr := by
      match ns, hn5 with
      | n0 :: n1 :: nr, _ => exact ⟨n0, n1, nr, rfl⟩
    have w0 : Wd n0 := hnw n0 (by simp)
    have w1 : Wd n1 := hnw n1 (by simp)
    have L2w : ∀ {x y : Str}, Wd x → Wd y → Wds [x, y] := fun hx hy => ⟨by simp, by simp, fun w hw => by simp only [List.mem_cons, List.not_mem_nil, or_false] at hw; exact hw.elim (fun e => e ▸ hx) fun e => e ▸ hy⟩
    have L1w : ∀ {x : Str}, Wd x → Wds [x] := fun hx => ⟨by simp, by simp, fun w hw => by simp only [List.mem_cons, List.not_mem_nil, or_false] at hw; exact hw ▸ hx⟩
    have at0 : atI ((n0 :: n1 :: nr).map V.str) 0 = some (.str n0) := atI_nat (j := 0) rfl
    have at1 : atI ((n0 :: n1 :: nr).map V.str) 1 = some (.str n1) := atI_nat (j := 1) rfl
    -- the first six
    refine ⟨_, rfl, pn, _, 0, _, rfl, rfl, SqL.of hN7, at0, (by show 2 ≤ sizeLine; decide), fun a1 ha1 => ?_⟩
    have t1 := same_new ha1 (.lst (([("shape" : Str), n0]).map V.str))
    have f1 : Forms (upd H7 a1 (.lst (([("shape" : Str), n0]).map V.str))) [.ref a1] := .cons upd_same (L2w (lit _ (by simp)) w0) .nil
    generalize hH : upd H7 a1 _ = H8
    have t1 : Same H7 H8 := by rw [← hH]; exact t1
    have f1 : Forms H8 [.ref a1] := by rw [← hH]; exact f1
    clear hH
    have hN8 := t1 _ _ hN7
    refine ⟨_, rfl, pn, _, 0, _, rfl, rfl, SqL.of hN8, at0, (by show 2 ≤ sizeLine; decide), fun a2 ha2 => ?_⟩
    have t2 := same_new ha2 (.lst (([("drop" : Str), n0]).map V.str))
    have f2 : Forms (upd H8 a2 (.lst (([("drop" : Str), n0]).map V.str))) ([.ref a1] ++ [.ref a2]) := (f1.same t2).app (.cons upd_same (L2w (lit _ (by simp)) w0) .nil)
    generalize hH : upd H8 a2 _ = H9
    have t2 : Same H8 H9 := by rw [← hH]; exact t2
    have f2 : Forms H9 [.ref a1, .ref a2] := by rw [← hH]; exact f2
    clear hH
    have hN9 := t2 _ _ hN8
    refine ⟨_, rfl, pn, _, 0, _, rfl, rfl, SqL.of hN9, at0, (by show 2 ≤ sizeLine; decide), fun a3 ha3 => ?_⟩
    have t3 := same_new ha3 (.lst (([("remove" : Str), n0]).map V.str))
    have f3 : Forms (upd H9 a3 (.lst (([("remove" : Str), n0]).map V.str))) ([.ref a1, .ref a2] ++ [.ref a3]) := (f2.same t3).app (.cons upd_same (L2w (lit _ (by simp)) w0) .nil)
    generalize hH : upd H9 a3 _ = H10
    have t3 : Same H9 H10 := by rw [← hH]; exact t3
    have f3 : Forms H10 [.ref a1, .ref a2, .ref a3] := by rw [← hH]; exact f3
    clear hH
    have hN10 := t3 _ _ hN9
    refine ⟨(by show 1 ≤ sizeLine; decide), fun a4 ha4' => ?_⟩
    have t4 := same_new ha4' (.lst (([("undo" : Str)]).map V.str))
    have f4 : Forms (upd H10 a4 (.lst (([("undo" : Str)]).map V.str))) ([.ref a1, .ref a2, .ref a3] ++ [.ref a4]) := (f3.same t4).app (.cons upd_same (L1w (lit _ (by simp))) .nil)
    generalize hH : upd H10 a4 _ = H11
    have t4 : Same H10 H11 := by rw [← hH]; exact t4
    have f4 : Forms H11 [.ref a1, .ref a2, .ref a3, .ref a4] := by rw [← hH]; exact f4
    clear hH
    refine ⟨(by show 1 ≤ sizeLine; decide), fun a5 ha5 => ?_⟩
    have t5 := same_new ha5 (.lst (([("redo" : Str)]).map V.str))
    have f5 : Forms (upd H11 a5 (.lst (([("redo" : Str)]).map V.str))) ([.ref a1, .ref a2, .ref a3, .ref a4] ++ [.ref a5]) := (f4.same t5).app (.cons upd_same (L1w (lit _ (by simp))) .nil)
    generalize hH : upd H11 a5 _ = H12
    have t5 : Same H11 H12 := by rw [← hH]; exact t5
    have f5 : Forms H12 [.ref a1, .ref a2, .ref a3, .ref a4, .ref a5] := by rw [← hH]; exact f5
    clear hH
    refine ⟨(by show 1 ≤ sizeLine; decide), fun a6 ha6 => ?_⟩
    have t6 := same_new ha6 (.lst (([("answers" : Str)]).map V.str))
    have f6 : Forms (upd H12 a6 (.lst (([("answers" : Str)]).map V.str))) ([.ref a1, .ref a2, .ref a3, .ref a4, .ref a5] ++ [.ref a6]) := (f5.same t6).app (.cons upd_same (L1w (lit _ (by simp))) .nil)
    generalize hH : upd H12 a6 _ = H13
    have t6 : Same H12 H13 := by rw [← hH]; exact t6
    have f6 : Forms H13 [.ref a1, .ref a2, .ref a3, .ref a4, .ref a5, .ref a6] := by rw [← hH]; exact f6
    clear hH
    refine ⟨(by show 6 ≤ sizeLine; decide), fun o1 ho1 => ?_⟩
    have t7 := same_new ho1 (.tup [.ref a1, .ref a2, .ref a3, .ref a4, .ref a5, .ref a6])
    have c1 : upd H13 o1 (.tup [.ref a1, .ref a2, .ref a3, .ref a4, .ref a5, .ref a6]) o1 = some (.tup [.ref a1, .ref a2, .ref a3, .ref a4, .ref a5, .ref a6]) := upd_same
    have f7 := f6.same t7
    generalize upd H13 o1 (.tup [.ref a1, .ref a2, .ref a3, .ref a4, .ref a5, .ref a6]) = H14 at t7 c1 f7 ⊢
    have T14 : Same H7 H14 := t1.trans (t2.trans (t3.trans (t4.trans (t5.trans (t6.trans t7)))))
    have hN14 := T14 _ _ hN7
    have hl6 : ([.ref a1, .ref a2, .ref a3, .ref a4, .ref a5, .ref a6] : List V).length = 6 := rfl
    generalize ([.ref a1, .ref a2, .ref a3, .ref a4, .ref a5, .ref a6] : List V) = F6 at c1 f7 hl6 ⊢
    clear f6 t6 f5 t5 f4 t4 f3 t3 f2 t2 f1 t1 t7
    -- three more
    refine ⟨_, rfl, ?_⟩
    refine ⟨_, rfl, pn, _, 0, _, rfl, rfl, SqL.of hN14, at0, (by show 2 ≤ sizeLine; decide), fun b1 hb1 => ?_⟩
    have t1 := same_new hb1 (.lst (([("answer" : Str), n0]).map V.str))
    have f1 : Forms (upd H14 b1 (.lst (([("answer" : Str), n0]).map V.str))) [.ref b1] := .cons upd_same (L2w (lit _ (by simp)) w0) .nil
    generalize hH : upd H14 b1 _ = H15
    have t1 : Same H14 H15 := by rw [← hH]; exact t1
    have f1 : Forms H15 [.ref b1] := by rw [← hH]; exact f1
    clear hH
    have hN15 := t1 _ _ hN14
    refine ⟨_, rfl, pn, _, 0, _, rfl, rfl, SqL.of hN15, at0, (by show 2 ≤ sizeLine; decide), fun b2 hb2 => ?_⟩
    have t2 := same_new hb2 (.lst (([("print" : Str), n0]).map V.str))
    have f2 : Forms (upd H15 b2 (.lst (([("print" : Str), n0]).map V.str))) ([.ref b1] ++ [.ref b2]) := (f1.same t2).app (.cons upd_same (L2w (lit _ (by simp)) w0) .nil)
    generalize hH : upd H15 b2 _ = H16
    have t2 : Same H15 H16 := by rw [← hH]; exact t2
    have f2 : Forms H16 [.ref b1, .ref b2] := by rw [← hH]; exact f2
    clear hH
    refine ⟨(by show 2 ≤ sizeLine; decide), fun o2 ho2 => ?_⟩
    have t3 := same_new ho2 (.tup [.str "shapes", .str "questions"])
    have r2 : 0 ≤ m % 2 ∧ m % 2 < 2 := ⟨Int.emod_nonneg m (by decide), Int.emod_lt_of_pos m (by decide)⟩
    obtain ⟨zq, hzq, ezq⟩ := at_mem (["shapes", "questions"] : List Str) (i := m % 2) r2.1 (by rw [show (["shapes", "questions"] : List Str).length = 2 from rfl]; exact r2.2)
    have hzw : Wd zq := lit zq (by
      simp only [List.mem_cons, List.not_mem_nil, or_false] at hzq ⊢
      rcases hzq with rfl | rfl <;> simp)
    have ezq := at_map ezq
    refine ⟨_, rfl, .inl ⟨_, rfl, _, _, rfl, rfl, (by show (0 : Int) < 2; decide), o2, _, _, _, rfl, rfl, SqT.of upd_same, ezq, (by show 2 ≤ sizeLine; decide), fun b3 hb3 => ?_⟩⟩
    have t4 := same_new hb3 (.lst (([("show" : Str), zq]).map V.str))
    have f4 := (f2.same (t3.trans t4)).app (.cons (us := [("show" : Str), zq]) (p := b3) upd_same (L2w (lit _ (by simp)) hzw) .nil)
    generalize hH : upd (upd H16 o2 _) b3 _ = H17
    have t4 : Same H16 H17 := by rw [← hH]; exact t3.trans t4
    have f4 : Forms H17 [.ref b1, .ref b2, .ref b3] := by rw [← hH]; exact f4
    clear hH
    refine ⟨(by show 3 ≤ sizeLine; decide), fun o3 ho3 => ?_⟩
    have t5 := same_new ho3 (.tup [.ref b1, .ref b2, .ref b3])
    have T := t1.trans (t2.trans (t4.trans t5))
    refine ⟨o1, o3, F6, [.ref b1, .ref b2, .ref b3], rfl, rfl, SqT.of (T _ _ c1), SqT.of upd_same, (fun e => by rw [e] at hl6; cases hl6), zz _ (by rw [hl6]; show 6 + 3 ≤ 1000; decide), (fun e => by cases e), fun _ o4 ho4 => ?_⟩
    have t6 := same_new ho4 (.tup (F6 ++ [.ref b1, .ref b2, .ref b3]))
    have T18 := T.trans t6
    have f6 := (f7.same T18).app (f4.same (t5.trans t6))
    have c2 : upd (upd H17 o3 (.tup [.ref b1, .ref b2, .ref b3])) o4 (.tup (F6 ++ [.ref b1, .ref b2, .ref b3])) o4 = some (.tup (F6 ++ [.ref b1, .ref b2, .ref b3])) := upd_same
    have hl9 : (F6 ++ [.ref b1, .ref b2, .ref b3] : List V).length = 9 := by rw [List.length_append, hl6]; rfl
    generalize upd (upd H17 o3 _) o4 _ = H18 at T18 f6 c2 ⊢
    generalize (F6 ++ [.ref b1, .ref b2, .ref b3] : List V) = F9 at f6 c2 hl9 ⊢
    clear t6 T t5 f4 t4 t3 f2 t2 f1 t1
    have hN18 := T18 _ _ hN14
    -- two more
    refine ⟨_, rfl, ?_⟩
    refine ⟨_, rfl, pn, _, 0, _, rfl, rfl, SqL.of hN18, at0, _, rfl, pn, _, 1, _, rfl, rfl, SqL.of hN18, at1, (by show 3 ≤ sizeLine; decide), fun d1 hd1 => ?_⟩
    have L3w : ∀ {x : Str}, Wd x → Wds [x, n0, n1] := fun hx => ⟨by simp, by simp, fun w hw => by simp only [List.mem_cons, List.not_mem_nil, or_false] at hw; rcases hw with e | e | e <;> rw [e] <;> assumption⟩
    have t1 := same_new hd1 (.lst (([("cut" : Str), n0, n1]).map V.str))
    have f1 : Forms (upd H18 d1 (.lst (([("cut" : Str), n0, n1]).map V.str))) [.ref d1] := .cons upd_same (L3w (lit _ (by simp))) .nil
    generalize hH : upd H18 d1 _ = H19
    have t1 : Same H18 H19 := by rw [← hH]; exact t1
    have f1 : Forms H19 [.ref d1] := by rw [← hH]; exact f1
    clear hH
    have hN19 := t1 _ _ hN18
    refine ⟨_, rfl, pn, _, 0, _, rfl, rfl, SqL.of hN19, at0, _, rfl, pn, _, 1, _, rfl, rfl, SqL.of hN19, at1, (by show 3 ≤ sizeLine; decide), fun e1 he1 => ?_⟩
    have t2 := same_new he1 (.lst (([("ask" : Str), n0, n1]).map V.str))
    have k2 : upd H19 e1 (.lst (([("ask" : Str), n0, n1]).map V.str)) e1 = some (.lst (([("ask" : Str), n0, n1]).map V.str)) := upd_same
    have hN20 := t2 _ _ hN19
    generalize hH : upd H19 e1 _ = H20
    have t2 : Same H19 H20 := by rw [← hH]; exact t2
    have k2 : H20 e1 = some (.lst (([("ask" : Str), n0, n1]).map V.str)) := by rw [← hH]; exact k2
    have hN20 : H20 pn = some (.lst ((n0 :: n1 :: nr).map V.str)) := by rw [← hH]; exact hN20
    clear hH
    have r3 : 0 ≤ m % 3 ∧ m % 3 < 3 := ⟨Int.emod_nonneg m (by decide), Int.emod_lt_of_pos m (by decide)⟩
    obtain ⟨j3, hj3⟩ := Int.eq_ofNat_of_zero_le r3.1
    refine ⟨_, rfl, 2, rfl, _, rfl, .inl ⟨_, rfl, _, _, rfl, rfl, (by show (0 : Int) < 3; decide), _, _, rfl, rfl, 3 + m % 3, rfl, pn, _, rfl, SqL.of hN20, fun e2 he2 => ?_⟩⟩
    have cut3 : cutV ((n0 :: n1 :: nr).map V.str) (some 2) (some (3 + m % 3)) = ((nr.take (1 + j3)).map V.str) := by
      rw [hj3, show ((3 : Int) + (j3 : Int)) = ((3 + j3 : Nat) : Int) by omega, show ((2 : Int) = ((2 : Nat) : Int)) from rfl, cut_two, show 3 + j3 - 2 = 1 + j3 by omega, List.map_take]
      rfl
    rw [cut3]
    have t3 := same_new he2 (.lst ((nr.take (1 + j3)).map V.str))
    have lt3 : (nr.take (1 + j3)).length ≤ 3 := by rw [List.length_take]; omega
    refine ⟨e1, e2, _, _, rfl, rfl, t3 _ _ k2, upd_same, zz _ (by rw [List.length_map, List.length_map]; show 3 + _ ≤ _; omega), fun d2 hd2 => ?_⟩
    rw [← List.map_append]
    have t4 := same_new hd2 (.lst (([("ask" : Str), n0, n1] ++ nr.take (1 + j3)).map V.str))
    have f4 := (f1.same (t2.trans (t3.trans t4))).app (.cons (us := [("ask" : Str), n0, n1] ++ nr.take (1 + j3)) (p := d2) upd_same ⟨by simp, by rw [List.length_append]; show 3 + _ ≤ _; omega, fun w hw => (List.mem_append.mp hw).elim ((L3w (lit _ (by simp))).2.2 w) fun k => hnw w (List.mem_cons_of_mem _ (List.mem_cons_of_mem _ (List.mem_of_mem_take k)))⟩ .nil)
    generalize hH : upd (upd H20 e2 _) d2 _ = H21
    have t4 : Same H20 H21 := by rw [← hH]; exact t3.trans t4
    have f4 : Forms H21 [.ref d1, .ref d2] := by rw [← hH]; exact f4
    clear hH
    refine ⟨(by show 2 ≤ sizeLine; decide), fun o5 ho5 => ?_⟩
    have t5 := same_new ho5 (.tup [.ref d1, .ref d2])
    have T := t1.trans (t2.trans (t4.trans t5))
    refine ⟨o4, o5, F9, [.ref d1, .ref d2], rfl, rfl, SqT.of (T _ _ c2), SqT.of upd_same, (fun e => by rw [e] at hl9; cases hl9), zz _ (by rw [hl9]; show 9 + 2 ≤ 1000; decide), (fun e => by cases e), fun _ o6 ho6 => ?_⟩
    have t6 := same_new ho6 (.tup (F9 ++ [.ref d1, .ref d2]))
    have T22 := T.trans t6
    have f8 := (f6.same T22).app (f4.same (t5.trans t6))
    have c3 : upd (upd H21 o5 (.tup [.ref d1, .ref d2])) o6 (.tup (F9 ++ [.ref d1, .ref d2])) o6 = some (.tup (F9 ++ [.ref d1, .ref d2])) := upd_same
    have hl11 : (F9 ++ [.ref d1, .ref d2] : List V).length = 11 := by rw [List.length_append, hl9]; rfl
    generalize upd (upd H21 o5 _) o6 _ = H22 at T22 f8 c3 ⊢
    generalize (F9 ++ [.ref d1, .ref d2] : List V) = F11 at f8 c3 hl11 ⊢
    clear t6 T t5 f4 t4 t3 t2 f1 t1
    have hN22 := T22 _ _ hN18
    have hB22 := (T14.trans (T18.trans T22)) _ _ g7
    -- the last one
    refine ⟨_, rfl, ?_⟩
    refine ⟨_, rfl, pn, _, 0, _, rfl, rfl, SqL.of hN22, at0, (by show 2 ≤ sizeLine; decide), fun e1 he1 => ?_⟩
    have t1 := same_new he1 (.lst (([("read" : Str), n0]).map V.str))
    have k1 : upd H22 e1 (.lst (([("read" : Str), n0]).map V.str)) e1 = some (.lst (([("read" : Str), n0]).map V.str)) := upd_same
    generalize hH : upd H22 e1 _ = H23
    have t1 : Same H22 H23 := by rw [← hH]; exact t1
    have k1 : H23 e1 = some (.lst (([("read" : Str), n0]).map V.str)) := by rw [← hH]; exact k1
    clear hH
    have hB23 := t1 _ _ hB22
    have r4 : 0 ≤ m % 4 ∧ m % 4 < 4 := ⟨Int.emod_nonneg m (by decide), Int.emod_lt_of_pos m (by decide)⟩
    obtain ⟨j4, hj4⟩ := Int.eq_ofNat_of_zero_le r4.1
    refine ⟨_, rfl, _, rfl, .inl ⟨_, rfl, _, _, rfl, rfl, (by show (0 : Int) < 4; decide), m % 4, rfl, pb, _, rfl, SqL.of hB23, fun e2 he2 => ?_⟩⟩
    rw [hj4, cut_to, ← List.map_take]
    have t3 := same_new he2 (.lst ((bs.take j4).map V.str))
    have lt4 : (bs.take j4).length ≤ 3 := by rw [List.length_take]; omega
    refine ⟨e1, e2, _, _, rfl, rfl, t3 _ _ k1, upd_same, zz _ (by rw [List.length_map, List.length_map]; show 2 + _ ≤ _; omega), fun d2 hd2 => ?_⟩
    rw [← List.map_append]
    have t4 := same_new hd2 (.lst (([("read" : Str), n0] ++ bs.take j4).map V.str))
    have f4 : Forms (upd (upd H23 e2 (.lst ((bs.take j4).map V.str))) d2 (.lst (([("read" : Str), n0] ++ bs.take j4).map V.str))) [.ref d2] := .cons (us := [("read" : Str), n0] ++ bs.take j4) (p := d2) upd_same ⟨by simp, by rw [List.length_append]; show 2 + _ ≤ _; omega, fun w hw => (List.mem_append.mp hw).elim ((L2w (lit _ (by simp)) w0).2.2 w) fun k => hbw w (List.mem_of_mem_take k)⟩ .nil
    generalize hH : upd (upd H23 e2 _) d2 _ = H24
    have t4 : Same H23 H24 := by rw [← hH]; exact t3.trans t4
    have f4 : Forms H24 [.ref d2] := by rw [← hH]; exact f4
    clear hH
    refine ⟨(by show 1 ≤ sizeLine; decide), fun o7 ho7 => ?_⟩
    have t5 := same_new ho7 (.tup [.ref d2])
    have T := t1.trans (t4.trans t5)
    refine ⟨o6, o7, F11, [.ref d2], rfl, rfl, SqT.of (T _ _ c3), SqT.of upd_same, (fun e => by rw [e] at hl11; cases hl11), zz _ (by rw [hl11]; show 11 + 1 ≤ 1000; decide), (fun e => by cases e), fun _ o8 ho8 => ?_⟩
    have t6 := same_new ho8 (.tup (F11 ++ [.ref d2]))
    have T25 := T.trans t6
    have f9 := (f8.same T25).app (f4.same (t5.trans t6))
    have c4 : upd (upd H24 o7 (.tup [.ref d2])) o8 (.tup (F11 ++ [.ref d2])) o8 = some (.tup (F11 ++ [.ref d2])) := upd_same
    have hl12 : (F11 ++ [.ref d2] : List V).length = 12 := by rw [List.length_append, hl11]; rfl
    generalize upd (upd H24 o7 _) o8 _ = H25 at T25 f9 c4 ⊢
    generalize (F11 ++ [.ref d2] : List V) = F12 at f9 c4 hl12 ⊢
    have S25 : Same H H25 := S4.trans (S7.trans (T14.trans (T18.trans (T22.trans T25))))
    have r12 : 0 ≤ n % 12 ∧ n % 12 < 12 := ⟨Int.emod_nonneg n (by decide), Int.emod_lt_of_pos n (by decide)⟩
    obtain ⟨v, hv, ev⟩ := at_mem F12 (i := n % 12) r12.1 (by rw [hl12]; exact r12.2)
    obtain ⟨pv, us, rfl, hpv, hus⟩ := f9 v hv
    refine ⟨_, rfl, _, rfl, .inl ⟨_, rfl, _, _, rfl, rfl, (by show (0 : Int) < 12; decide), o8, _, _, _, rfl, rfl, SqT.of c4, ev, pv, _, rfl, .inl (SqL.of hpv), fun l hl2 => ?_⟩⟩
    refine q l us _ (S25.trans (same_new hl2 _)) ?_ upd_same hus
    cases e : H l with
    | none => rfl
    | some o => have := S25 _ _ e; rw [hl2] at this; cases this
end
end Bs

set_option Elab.async false
set_option linter.all false
set_option maxRecDepth 100000
set_option maxHeartbeats 4000000
namespace Bs
open PySem L2
/-! ### the law -/
def spLaw (K : PySem.W.Frag) : Sp := fun vs H Q _ => ∃ (a : Addr) (ns : List Int), vs = [.ref a] ∧ SqL K H a (ns.map V.int) ∧ ns.length ≤ 63 ∧ ∀ H', Q (.bl true) H'
theorem blank_tl : (" " : Str).cps.toList = [32] := by decide +kernel
theorem Wd.no32 {z : Str} (h : Wd z) : 32 ∉ TL.tl z := fun k => (h.2.1 32 k).1 rfl
theorem Wd.ne {z : Str} (h : Wd z) : TL.tl z ≠ [] := h.1
/-- the parts of a line so far: all words but the last are whole; acc is what is open -/
theorem prt_step {L W : List Nat} {d : List (List Nat)} (h : ∀ r, prt [] (L ++ r) = d ++ prt [] r) (hw : 32 ∉ W) : ∀ r, prt [] (L ++ W ++ r) = d ++ prt W r := fun r => by
  rw [List.append_assoc, h, prt_word hw]; rfl
theorem prt_gap {L W : List Nat} {d : List (List Nat)} (h : ∀ r, prt [] (L ++ r) = d ++ prt W r) (hne : W ≠ []) (k : Nat) : ∀ r, prt [] (L ++ List.replicate (k + 1) 32 ++ r) = (d ++ [W]) ++ prt [] r := fun r => by
  rw [List.append_assoc, h, prt_behind hne, List.append_assoc]; rfl
theorem strs_all {K : PySem.W.Frag} {H : Hp} : ∀ ws : List Str, DpAll K H (ws.map V.str) (ws.map PyData.str)
  | [] => .nil
  | w :: ws => .cons (.str w) (strs_all ws)
theorem str_ok {w : Str} (h : ∀ c ∈ w.cps.toList, c < 128) : PySem.PyData.canLay0 (.str w) = true := by
  show PySem.PyData.strOk w = true
  unfold PySem.PyData.strOk
  rw [← Array.all_toList, List.all_eq_true]
  exact fun c hc => decide_eq_true (Nat.lt_trans (h c hc) (by decide))
theorem lay_strs : ∀ {ws : List Str}, (∀ w ∈ ws, ∀ c ∈ w.cps.toList, c < 128) → PySem.PyData.canLayAll0 (ws.map PyData.str) = true ∧ PySem.PyData.depthAll (ws.map PyData.str) = 0
  | [], _ => ⟨rfl, rfl⟩
  | w :: ws, h => by
    obtain ⟨h1, h2⟩ := lay_strs (ws := ws) fun w hw => h w (List.mem_cons_of_mem _ hw)
    refine ⟨?_, ?_⟩
    · show (PySem.PyData.canLay0 (.str w) && PySem.PyData.canLayAll0 (ws.map PyData.str)) = true
      rw [h1, str_ok (h w (List.mem_cons_self ..))]; rfl
    · show max 0 (PySem.PyData.depthAll (ws.map PyData.str)) = 0
      rw [h2]; rfl
theorem lay_list {ws : List Str} (h : ∀ w ∈ ws, ∀ c ∈ w.cps.toList, c < 128) : PySem.PyData.canLay0 (.list (ws.map PyData.str)) = true := (lay_strs h).1
theorem shaped_strs {ws : List Str} (h : ∀ w ∈ ws, ∀ c ∈ w.cps.toList, c < 128) : SeqAt.shaped (.list (ws.map PyData.str)) = true := by
  unfold SeqAt.shaped
  rw [lay_list h, Bool.true_and]
  refine decide_eq_true ?_
  show PySem.PyData.depthAll (ws.map PyData.str) + 1 ≤ 64
  rw [(lay_strs h).2]; decide
/-- a list of texts, twice -/
theorem same_strs {K : PySem.W.Frag} {H : Hp} {p q : Addr} {ws : List Str} (hp : H p = some (.lst (ws.map V.str))) (hq : H q = some (.lst (ws.map V.str))) (h : ∀ w ∈ ws, ∀ c ∈ w.cps.toList, c < 128) :
    Dp K H (.ref p) (.list (ws.map PyData.str)) ∧ Dp K H (.ref q) (.list (ws.map PyData.str)) ∧ SeqAt.shaped (.list (ws.map PyData.str)) = true ∧ PyData.eqv (.list (ws.map PyData.str)) (.list (ws.map PyData.str)) = true :=
  ⟨.lst (SqL.of hp) (strs_all ws), .lst (SqL.of hq) (strs_all ws), shaped_strs h, SeqAt.eqv_refl _ (lay_list h)⟩
def Wdl (ws : List Str) : Prop := 1 ≤ ws.length ∧ ws.length ≤ 20 ∧ ∀ w ∈ ws, Wd w
theorem Wdl.short {ws : List Str} (h : Wdl ws) : Short ws := ⟨Nat.le_trans h.2.1 (by decide), fun w hw => Nat.le_trans (h.2.2 w hw).2.2 (by decide)⟩
theorem Wdl.ascii {ws : List Str} (h : Wdl ws) : ∀ w ∈ ws, ∀ c ∈ w.cps.toList, c < 128 := fun w hw c hc => ((h.2.2 w hw).2.1 c hc).2
theorem nums_at {rs : List Int} {j : Nat} (h : j < rs.length) : atI (rs.map V.int) ((j : Nat) : Int) = some (.int (rs[j])) := atI_nat (by rw [List.getElem?_map, List.getElem?_eq_getElem h]; rfl)
theorem atI_nat' {xs : List V} {i : Int} {j : Nat} {v : V} (e : i = (j : Int)) (h : xs[j]? = some v) : atI xs i = some v := by rw [e]; exact atI_nat h
def tabs : Str := "a\tb \t"
def two : List Str := ["a\tb", "\t"]
theorem tabs_words : wordsOf tabs = two := wordsOf_eq (by decide +kernel)
theorem blanks_words (k : Nat) : wordsOf (rep k (" " : Str)) = [] := wordsOf_eq (by
  rw [rep_blank]
  have := prt_blanks [] k
  rw [List.append_nil] at this
  rw [this]; rfl)
section
variable {P : Program} {w : World} {K : PySem.W.Frag} {mg : Str → Option Value} {base : Heap} {f : Addr} {fd : FuncData}
abbrev nLaw : List Str := ["script", "numbers", "k", "words", "formed", "place", "line", "told", "word", "actual", "passed"]
theorem scLaw : FnScope nLaw ["script"] (defScope sLaw) := ⟨rfl, rfl, rfl, by decide +kernel, rfl, by decide +kernel, by decide +kernel⟩
abbrev St11 (a b c d e f g h i j k : Option V) : L2.St := [a, b, c, d, e, f, g, h, i, j, k]
theorem ok_law (F : Fun K "law" "law" sLaw f fd) (gN : Cal P w K mg base CX0 2 "_law_numbers" ["script", "many"] (spNums K)) (gW : Cal P w K mg base CX0 1 "_law_word" ["number", "more"] spWord) (gF : Cal P w K mg base CX0 2 "_law_formed" ["words", "number", "more"] spFormed)
    (gS : Cal P w K mg base CX0 1 "split_words" ["line"] spSplit) (gB : Cal P w K mg base CX0 1 "is_byte_word" ["word"] spIsByte) (gLB : Cal P w K mg base CX0 1 "_law_is_byte" ["word"] spIsByte) (gC : Cal P w K mg base CX0 3 "is_command" ["words"] spCmd) (gLC : Cal P w K mg base CX0 3 "_law_command" ["words"] spCmd)
    (mr : mg "range" = none) (mint : mg "int" = none) (ml : mg "len" = none) (mi : mg "isinstance" = none) (mb : mg "bool" = none) (mlist : mg "list" = none) : FnOk P w K mg base CX0 4 f fd ["script"] (spLaw K) := by
  refine F.ok scLaw (fun vs H Q E h => ?_) (fun cdv A outer s H vs Q E hr h => ?_)
  · obtain ⟨a, ns, rfl, _⟩ := h
    rfl
  · obtain ⟨a, ns, rfl, ha, hlen, q⟩ := h
    have hr1 : Room 1 _ := hr.mono (by decide)
    have hr2 : Room 2 _ := hr.mono (by decide)
    refine ⟨_, pss_cons (ps_set (i := 1) scLaw.nd rfl (.inr rfl) (pe_cal gN hr2 pass0 (pa_cons (pv 0) (pa_cons pe_int pa_nil))))
      (pss_cons (ps_setLc (i := 3) (own := [("k", 2)]) (g := gName 2) (tt := tYes) rfl scLaw.nd rfl rfl (sw_true rfl rfl rfl (by decide +kernel)) (pi_range1 (by rfl) mr (pa_cons (pe_op op_add pe_int (pe_op op_mod (pe_callTy (r := rInt) call_int1 (by rfl) mint (by decide +kernel) (pa_cons (pe_ix ix_list (pv 1) pe_int (fun _ _ => rfl)) pa_nil)) pe_int)) pa_nil))
            (blkOk_by (own := [("k", 2)]) (N := nLaw) (sc := defScope sLaw) (by decide +kernel)) (fun _ _ _ _ _ => pg_name (i := 2) scLaw.nd rfl (Or.inl rfl)) (fun _ _ _ _ _ => pts_nil)
            (fun _ _ _ _ _ => pe_cal gW hr1 pass0 (pa_cons (pe_ix (r := rIxL K) ix_list (pv 1) (pe_op op_mul pe_int (pv 2)) (fun _ _ => rfl)) (pa_cons (pe_ix (r := rIxL K) ix_list (pv 1) (pe_op op_add (pe_op op_mul pe_int (pv 2)) pe_int) (fun _ _ => rfl)) pa_nil))))
      (pss_cons (ps_if (pt_cmpR op_gt (pe_op op_mod (pe_callTy (r := rInt) call_int1 (by rfl) mint (by decide +kernel) (pa_cons (pe_ix ix_list (pv 1) pe_int (fun _ _ => rfl)) pa_nil)) pe_int) pe_int (nomark _))
          (pss_cons (ps_set (i := 4) scLaw.nd rfl (.inl rfl) (pe_cal gF hr2 pass0 (pa_cons (pv 3) (pa_cons (pe_ix ix_list (pv 1) pe_int (fun _ _ => rfl)) (pa_cons (pe_ix ix_list (pv 1) pe_int (fun _ _ => rfl)) pa_nil)))))
          (pss_cons (ps_set (i := 5) scLaw.nd rfl (.inl rfl) (pe_op op_mod (pe_callTy (r := rInt) call_int1 (by rfl) mint (by decide +kernel) (pa_cons (pe_ix ix_list (pv 1) pe_int (fun _ _ => rfl)) pa_nil)) (pe_callB call_len (by rfl) ml boot_len (pa_cons (pv 4) pa_nil))))
          (pss_cons (ps_if (pt_cmpR op_eq (pe_op op_mod (pe_callTy (r := rInt) call_int1 (by rfl) mint (by decide +kernel) (pa_cons (pe_ix ix_list (pv 1) pe_int (fun _ _ => rfl)) pa_nil)) pe_int) pe_int (nomark _))
              (pss_one (ps_asg (pe_ix ix_list (pv 3) pe_int (fun _ _ => rfl)) (pg_sub (pv 4) (pv 5) set_list))) pss_nil)
          (pss_cons (ps_if (PW.pt (pw_and (pt_cmpR op_eq (pe_op op_mod (pe_callTy (r := rInt) call_int1 (by rfl) mint (by decide +kernel) (pa_cons (pe_ix ix_list (pv 1) pe_int (fun _ _ => rfl)) pa_nil)) pe_int) pe_int (nomark _)) (pw_and1 (pt_cmpR op_gt (pe_callB call_len (by rfl) ml boot_len (pa_cons (pv 4) pa_nil)) pe_int (nomark _)))))
              (pss_one (ps_set (i := 4) scLaw.nd rfl (.inl rfl) (pe_op op_cat (pe_slice sl_list (pv 4) po_none (po_some (pv 5))) (pe_slice sl_list (pv 4) (po_some (pe_op op_add (pv 5) pe_int)) po_none)))) pss_nil)
          (pss_cons (ps_if (pt_cmpR op_eq (pe_op op_mod (pe_callTy (r := rInt) call_int1 (by rfl) mint (by decide +kernel) (pa_cons (pe_ix ix_list (pv 1) pe_int (fun _ _ => rfl)) pa_nil)) pe_int) pe_int (nomark _))
              (pss_one (ps_expr (pe_bm PySem.F.plainAttrs_list PySem.F.slot_list_append PySem.F.type_list_append mt_append (pv 4) (pa_cons (pe_ix ix_list (pv 3) pe_int (fun _ _ => rfl)) pa_nil)))) pss_nil)
          (pss_one (ps_set (i := 3) scLaw.nd rfl (.inl rfl) (pv 4)))))))) pss_nil)
      (pss_cons (ps_set (i := 6) scLaw.nd rfl (.inl rfl) (pe_op op_mulS pe_str (pe_op op_mod (pe_callTy (r := rInt) call_int1 (by rfl) mint (by decide +kernel) (pa_cons (pe_ix ix_list (pv 1) pe_int (fun _ _ => rfl)) pa_nil)) pe_int)))
      (pss_cons (ps_for PassesOwn.never rfl (pi_range1 (by rfl) mr (pa_cons (pe_callB call_len (by rfl) ml boot_len (pa_cons (pv 3) pa_nil)) pa_nil)) (pg_name (i := 2) scLaw.nd rfl (.inl rfl))
          (pss_cons (ps_set (i := 6) scLaw.nd rfl (.inl rfl) (pe_op op_add_str (pv 6) (pe_ix ix_list (pv 3) (pv 2) (fun _ _ => rfl))))
          (pss_one (ps_if (pt_cmpR op_lt (pe_op op_add (pv 2) pe_int) (pe_callB call_len (by rfl) ml boot_len (pa_cons (pv 3) pa_nil)) (nomark _))
              (pss_one (ps_set (i := 6) scLaw.nd rfl (.inl rfl) (pe_op op_add_str (pv 6) (pe_op op_mulS pe_str (pe_op op_add pe_int (pe_op op_mod (pe_callTy (r := rInt) call_int1 (by rfl) mint (by decide +kernel) (pa_cons (pe_op op_add (pe_ix ix_list (pv 1) pe_int (fun _ _ => rfl)) (pe_op op_mul (pv 2) (pe_ix ix_list (pv 1) pe_int (fun _ _ => rfl)))) pa_nil)) pe_int)))))) pss_nil))))
      (pss_cons (ps_set (i := 6) scLaw.nd rfl (.inl rfl) (pe_op op_add_str (pv 6) (pe_op op_mulS pe_str (pe_op op_mod (pe_callTy (r := rInt) call_int1 (by rfl) mint (by decide +kernel) (pa_cons (pe_ix ix_list (pv 1) pe_int (fun _ _ => rfl)) pa_nil)) pe_int))))
      (pss_cons (ps_set (i := 7) scLaw.nd rfl (.inl rfl) (pe_cal gS hr1 pass0 (pa_cons (pv 6) pa_nil)))
      (pss_cons (ps_if (PW.pt (pw_or (pt_not (pt_val (pe_callB call_isi (by rfl) mi (by decide +kernel) (pa_cons (pv 7) (pa_cons (pe_bltn (v := .ty "list") (by rfl) mlist (by decide +kernel) rfl) pa_nil))))) (pw_or (pt_cmpR (op_neD hr.units) (pv 7) (pv 3) (nomark _))
          (pw_or1 (pt_cmpR (op_neD hr.units) (pe_cal gS hr1 pass0 (pa_cons (pe_op op_mulS pe_str (pe_op op_mod (pe_callTy (r := rInt) call_int1 (by rfl) mint (by decide +kernel) (pa_cons (pe_ix ix_list (pv 1) pe_int (fun _ _ => rfl)) pa_nil)) pe_int)) pa_nil)) (pe_lst pa_nil) (nomark _)))))) (pss_one (ps_ret pe_bl)) pss_nil)
      (pss_cons (ps_if (pt_cmpR (op_neD hr.units) (pe_cal gS hr1 pass0 (pa_cons pe_str pa_nil)) (pe_lst (pa_cons pe_str (pa_cons pe_str pa_nil))) (nomark _)) (pss_one (ps_ret pe_bl)) pss_nil)
      (pss_cons (ps_for PassesOwn.never rfl (pi_list (pv 3)) (pg_name (i := 8) scLaw.nd rfl (.inl rfl))
          (pss_cons (ps_set (i := 9) scLaw.nd rfl (.inl rfl) (pe_cal gB hr1 pass0 (pa_cons (pv 8) pa_nil)))
          (pss_one (ps_if (PW.pt (pw_or (pt_not (pt_val (pe_callB call_isi (by rfl) mi (by decide +kernel) (pa_cons (pv 9) (pa_cons (pe_bltn (v := .ty "bool") (by rfl) mb (by decide +kernel) rfl) pa_nil))))) (pw_or1 (pt_cmpR op_ne (pv 9) (pe_cal gLB hr1 pass0 (pa_cons (pv 8) pa_nil)) (nomark _))))) (pss_one (ps_ret pe_bl)) pss_nil))))
      (pss_cons (ps_set (i := 10) scLaw.nd rfl (.inl rfl) (pe_callTy call_list_of (by rfl) mlist (by decide +kernel) (pa_cons (pv 3) pa_nil)))
      (pss_cons (ps_set (i := 9) scLaw.nd rfl (.inl rfl) (pe_cal gC hr pass0 (pa_cons (pv 10) pa_nil)))
      (pss_one (ps_ret (pe_and (pe_callB call_isi (by rfl) mi (by decide +kernel) (pa_cons (pv 9) (pa_cons (pe_bltn (v := .ty "bool") (by rfl) mb (by decide +kernel) rfl) pa_nil))) (pe_and (pe_cmpR op_eq (pv 9) (pe_cal gLC hr pass0 (pa_cons (pv 3) pa_nil)) (nomark _)) (pe_one (pe_cmpR (op_eqD hr.units) (pv 10) (pv 3) (nomark _)))))))))))))))))), ?_⟩
    have zz : ∀ n : Nat, n ≤ 10000 → n ≤ sizeLine := fun n h => Nat.le_trans h (by decide)
    refine ⟨_, rfl, a, ns, rfl, ha, hlen, fun pn rs H1 s1 hn hrl => ?_⟩
    have g : ∀ (j : Nat) (hj : j < 50), (rs.map V.int)[j]? = some (.int (rs[j]'(by omega))) := fun j hj => by rw [List.getElem?_map, List.getElem?_eq_getElem (by omega)]; rfl
    have r8 := Int.emod_nonneg (rs[40]'(by omega)) (show (8 : Int) ≠ 0 by decide)
    have s8 := Int.emod_lt_of_pos (rs[40]'(by omega)) (show (0 : Int) < 8 by decide)
    -- the words
    refine ⟨_, rfl, pn, _, 40, _, rfl, rfl, SqL.of hn, atI_nat (j := 40) (g 40 (by decide)), .inl ⟨_, rfl, _, _, rfl, rfl, (by show (0 : Int) < 8; decide), _, _, rfl, rfl, _, rfl, by omega, by omega, fun D hD => lc_range (lo := 0) (n := (1 + rs[40]'(by omega) % 8).toNat)
      (fun i H' => Same H1 H' ∧ ∃ us : List Str, us.length = i ∧ (∀ w ∈ us, Wd w) ∧ H' D = some (.lst (us.map V.str))) ⟨same_new hD _, [], rfl, (fun _ z => by cases z), upd_same⟩ ?_ ?_⟩⟩
    · rintro i H2 hi ⟨s2, us, hus, huw, hD2⟩
      have hn2 := s2 _ _ hn
      have i8 : i < 8 := by omega
      refine ⟨rfl, yes_go ?_⟩
      refine ⟨_, rfl, _, rfl, _, _, rfl, rfl, .inl ⟨by decide, by decide⟩, pn, _, _, _, rfl, rfl, SqL.of hn2, atI_nat' (j := 2 * i) (by omega) (g (2 * i) (by omega)), ?_⟩
      refine ⟨_, rfl, _, rfl, _, _, rfl, rfl, .inl ⟨by decide, by decide⟩, _, _, rfl, rfl, pn, _, _, _, rfl, rfl, SqL.of hn2, atI_nat' (j := 2 * i + 1) (by omega) (g (2 * i + 1) (by omega)), ?_⟩
      refine ⟨_, _, rfl, fun z H3 s3 hz => ?_⟩
      refine ⟨_, s3 _ _ hD2, small1000 (by rw [List.length_map]; omega), same_set (s2.trans s3) hD, us ++ [z], by rw [List.length_append, hus]; rfl, fun w hw2 => (List.mem_append.mp hw2).elim (huw w) fun k => by rw [List.mem_singleton.mp k]; exact hz, by rw [upd_same, strs_app]⟩
    rintro H2 ⟨s2, us, hus, huw, hD2⟩
    have hn2 := s2 _ _ hn
    have neD : D ≠ pn := fun e => by rw [e] at hD; rw [hn] at hD; cases hD
    have hus1 : 1 ≤ us.length ∧ us.length ≤ 8 := by omega
    dsimp only
    refine with_rest (fun σ' Hx => ∃ (p : Addr) (ws : List Str) (k4 k5 : Option V), σ' = [some (.ref a), some (.ref pn), none, some (.ref p), k4, k5, none, none, none, none, none] ∧ Hx pn = some (.lst (rs.map V.int)) ∧ Hx p = some (.lst (ws.map V.str)) ∧ Wdl ws) ?_ fun rest => ?_
    rotate_left
    · refine ⟨_, rfl, pn, _, 41, _, rfl, rfl, SqL.of hn2, atI_nat (j := 41) (g 41 (by decide)), .inl ⟨_, rfl, _, _, rfl, rfl, (by show (0 : Int) < 3; decide), _, _, rfl, rfl, _, rfl, ite2 (fun _ => ?_) (fun _ => rest _ _ ⟨_, _, _, _, rfl, hn2, hD2, hus1.1, by omega, huw⟩)⟩⟩
      refine ⟨_, rfl, _, rfl, pn, _, 42, _, rfl, rfl, SqL.of hn2, atI_nat (j := 42) (g 42 (by decide)), _, rfl, pn, _, 43, _, rfl, rfl, SqL.of hn2, atI_nat (j := 43) (g 43 (by decide)), ?_⟩
      refine ⟨_, _, _, _, rfl, hD2, hus1.2, huw, fun pf fs H3 s3 hpf hf3 hfw => ?_⟩
      have hn3 := s3 _ _ hn2
      have hD3 := s3 _ _ hD2
      have nf1 : pn ≠ pf := fun e => by rw [← e, hn2] at hpf; cases hpf
      have nf2 : D ≠ pf := fun e => by rw [← e, hD2] at hpf; cases hpf
      clear s3 hpf
      have lf : (fs.map V.str).length = fs.length := List.length_map ..
      obtain ⟨j, hj⟩ := Int.eq_ofNat_of_zero_le (Int.emod_nonneg (rs[44]'(by omega)) (show (fs.length : Int) ≠ 0 by have := hfw.1; omega))
      have hjl := Int.emod_lt_of_pos (rs[44]'(by omega)) (show (0 : Int) < (fs.length : Int) by have := hfw.1; omega)
      rw [hj] at hjl
      refine ⟨_, rfl, pn, _, 44, _, rfl, rfl, SqL.of hn3, atI_nat (j := 44) (g 44 (by decide)), .inl ⟨_, rfl, _, rfl, _, _, rfl, .inl ⟨_, SqL.of hf3, lf.symm⟩, _, _, rfl, rfl, (by have := hfw.1; omega), ?_⟩⟩
      obtain ⟨u0, ur, rfl⟩ : ∃ u0 ur, us = u0 :: ur := by
        cases us with
        | nil => simp at hus1
        | cons u0 ur => exact ⟨u0, ur, rfl⟩
      have hu0 : Wd u0 := huw u0 (by simp)
      dsimp only
      rw [hj]
      refine with_rest (fun σ' Hx => ∃ gs : List Str, σ' = [some (.ref a), some (.ref pn), none, some (.ref D), some (.ref pf), some (.int (j : Int)), none, none, none, none, none] ∧ Hx pn = some (.lst (rs.map V.int)) ∧ Hx D = some (.lst ((u0 :: ur).map V.str)) ∧ Hx pf = some (.lst (gs.map V.str)) ∧ gs.length = fs.length ∧ ∀ w ∈ gs, Wd w) ?_ fun rest1 => ?_
      rotate_left
      · refine ⟨_, rfl, pn, _, 41, _, rfl, rfl, SqL.of hn3, atI_nat (j := 41) (g 41 (by decide)), .inl ⟨_, rfl, _, _, rfl, rfl, (by show (0 : Int) < 9; decide), rfl, _, rfl, ite2 (fun _ => ?_) (fun _ => rest1 _ _ ⟨_, rfl, hn3, hD3, hf3, rfl, hfw.2.2⟩)⟩⟩
        refine ⟨_, rfl, D, _, 0, _, rfl, rfl, SqL.of hD3, atI_nat (j := 0) rfl, _, rfl, _, rfl, pf, _, _, j, rfl, rfl, hf3, ?_, ?_⟩
        · unfold ixN
          rw [lf]
          simp
          omega
        refine rest1 _ _ ⟨fs.set j u0, rfl, by rw [upd_ne nf1]; exact hn3, by rw [upd_ne nf2]; exact hD3, by rw [upd_same, List.map_set], by simp, fun w hw2 => ?_⟩
        rcases List.mem_or_eq_of_mem_set hw2 with k | k
        · exact hfw.2.2 w k
        · rw [k]; exact hu0
      rintro σ Hx ⟨gs, rfl, hnx, hDx, hfx, hgl, hgw⟩
      clear hn3 hD3 hf3
      have lg : (gs.map V.str).length = gs.length := List.length_map ..
      refine with_rest (fun σ' Hy => ∃ (pg : Addr) (hs : List Str), σ' = [some (.ref a), some (.ref pn), none, some (.ref D), some (.ref pg), some (.int (j : Int)), none, none, none, none, none] ∧ Hy pn = some (.lst (rs.map V.int)) ∧ Hy D = some (.lst ((u0 :: ur).map V.str)) ∧ Hy pg = some (.lst (hs.map V.str)) ∧ 1 ≤ hs.length ∧ hs.length ≤ fs.length ∧ (∀ w ∈ hs, Wd w) ∧ pn ≠ pg) ?_ fun rest2 => ?_
      rotate_left
      · refine ⟨_, rfl, pn, _, 41, _, rfl, rfl, SqL.of hnx, atI_nat (j := 41) (g 41 (by decide)), .inl ⟨_, rfl, _, _, rfl, rfl, (by show (0 : Int) < 9; decide), rfl, _, rfl, ite2 (fun _ => ?_) (fun _ => iteF (rest2 _ _ ⟨_, _, rfl, hnx, hDx, hfx, by have := hfw.1; omega, by omega, hgw, nf1⟩))⟩⟩
        refine ⟨_, rfl, _, _, rfl, .inl ⟨_, SqL.of hfx, lg.symm⟩, _, _, rfl, rfl, _, rfl, ite2 (fun e => ?_) (fun _ => rest2 _ _ ⟨_, _, rfl, hnx, hDx, hfx, by have := hfw.1; omega, by omega, hgw, nf1⟩)⟩
        have e : (1 : Int) < (gs.length : Int) := of_decide_eq_true e
        refine ⟨_, rfl, _, rfl, _, rfl, pf, _, rfl, SqL.of hfx, fun p1 hp1 => ?_⟩
        rw [cut_to, ← List.map_take]
        have t1 := same_new hp1 (.lst ((gs.take j).map V.str))
        refine ⟨_, rfl, _, rfl, _, _, rfl, rfl, _, rfl, pf, _, rfl, SqL.of (t1 _ _ hfx), fun p2 hp2 => ?_⟩
        rw [show ((j : Int) + 1) = ((j + 1 : Nat) : Int) from rfl, cut_from, ← List.map_drop]
        have t2 := same_new hp2 (.lst ((gs.drop (j + 1)).map V.str))
        refine ⟨p1, p2, _, _, rfl, rfl, t2 _ _ upd_same, upd_same, zz _ (by rw [List.length_map, List.length_map, List.length_take, List.length_drop]; have := hfw.2.1; omega), fun p3 hp3 => ?_⟩
        rw [← List.map_append]
        have t3 := same_new hp3 (.lst ((gs.take j ++ gs.drop (j + 1)).map V.str))
        have T := t1.trans (t2.trans t3)
        refine rest2 _ _ ⟨p3, gs.take j ++ gs.drop (j + 1), rfl, T _ _ hnx, T _ _ hDx, upd_same, ?_, ?_, fun w hw2 => ?_, fun e => ?_⟩
        · rw [List.length_append, List.length_take, List.length_drop]; omega
        · rw [List.length_append, List.length_take, List.length_drop]; omega
        · exact (List.mem_append.mp hw2).elim (fun k => hgw w (List.mem_of_mem_take k)) fun k => hgw w (List.mem_of_mem_drop k)
        · rw [← e] at hp3
          rw [(t1.trans t2) _ _ hnx] at hp3
          cases hp3
      rintro σ Hy ⟨pg, hs, rfl, hny, hDy, hgy, hh1, hh2, hhw, ng⟩
      clear hnx hDx hfx
      refine with_rest (fun σ' Hz => ∃ us2 : List Str, σ' = [some (.ref a), some (.ref pn), none, some (.ref D), some (.ref pg), some (.int (j : Int)), none, none, none, none, none] ∧ Hz pn = some (.lst (rs.map V.int)) ∧ Hz pg = some (.lst (us2.map V.str)) ∧ 1 ≤ us2.length ∧ us2.length ≤ fs.length + 1 ∧ ∀ w ∈ us2, Wd w) ?_ fun rest3 => ?_
      rotate_left
      · refine ⟨_, rfl, pn, _, 41, _, rfl, rfl, SqL.of hny, atI_nat (j := 41) (g 41 (by decide)), .inl ⟨_, rfl, _, _, rfl, rfl, (by show (0 : Int) < 9; decide), rfl, _, rfl, ite2 (fun _ => ?_) (fun _ => rest3 _ _ ⟨_, rfl, hny, hgy, hh1, by omega, hhw⟩)⟩⟩
        refine ⟨_, rfl, .inl ⟨rfl, _, SqL.of hgy⟩, _, rfl, D, _, 0, _, rfl, rfl, SqL.of hDy, atI_nat (j := 0) rfl, pg, _, _, rfl, rfl, hgy, small1000 (by rw [List.length_map]; have := hfw.2.1; omega), ?_⟩
        rw [strs_app]
        refine rest3 _ _ ⟨hs ++ [u0], rfl, by rw [upd_ne ng]; exact hny, upd_same, by rw [List.length_append]; simp, by rw [List.length_append]; simp; omega, fun w hw2 => (List.mem_append.mp hw2).elim (hhw w) fun k => by rw [List.mem_singleton.mp k]; exact hu0⟩
      rintro σ Hz ⟨us2, rfl, hnz, hgz, hl1, hl2, huw2⟩
      exact ⟨_, rfl, rest _ _ ⟨pg, us2, _, _, rfl, hnz, hgz, hl1, by have := hfw.2.1; omega, huw2⟩⟩
    clear hD2 hn2
    rintro σ Hx ⟨p, ws, k4, k5, rfl, hn, hp, hw⟩
    clear neD huw hus1 hus s2 hD s1
    have lw : (ws.map V.str).length = ws.length := List.length_map ..
    have hlen : ∀ H', H' p = some (.lst (ws.map V.str)) → LenV K (.ref p) H' ws.length := fun H' e => .inl ⟨_, SqL.of e, lw.symm⟩
    have bl1 : (" " : Str).length ≤ 1000 := by decide +kernel
    have m3 : ∀ x : Int, ∃ k : Nat, x % 3 = (k : Int) ∧ k ≤ 2 := fun x => by
      have h1 := Int.emod_nonneg x (show (3 : Int) ≠ 0 by decide)
      have h2 := Int.emod_lt_of_pos x (show (0 : Int) < 3 by decide)
      exact ⟨(x % 3).toNat, by omega, by omega⟩
    have rl : ∀ k, (rep k (" " : Str)).length = k := fun k => by rw [rep_len]; show k * 1 = k; omega
    have rt : ∀ k, (rep k (" " : Str)).cps.toList = List.replicate k 32 := rep_blank
    -- the line
    obtain ⟨b1, hb1, lb1⟩ := m3 (rs[45]'(by omega))
    refine ⟨_, rfl, pn, _, 45, _, rfl, rfl, SqL.of hn, atI_nat (j := 45) (g 45 (by decide)), .inl ⟨_, rfl, _, _, rfl, rfl, (by show (0 : Int) < 3; decide), " ", b1, rfl, by show V.int _ = _; rw [hb1], bl1, by omega, ?_⟩⟩
    refine ⟨_, rfl, _, _, rfl, hlen _ hp, _, rfl, by omega, by have := hw.2.1; omega, for_range (lo := 0) (n := ws.length)
      (fun i σ H' => ∃ (k2 : Option V) (z : Str), σ = [some (.ref a), some (.ref pn), k2, some (.ref p), k4, k5, some (.str z), none, none, none, none] ∧ H' = Hx ∧ z.length ≤ 2 + 45 * i ∧
        ((i < ws.length ∧ ∀ r, prt [] (z.cps.toList ++ r) = (ws.take i).map TL.tl ++ prt [] r) ∨ (i = ws.length ∧ ∃ (j : Nat) (u : Str), i = j + 1 ∧ ws[j]? = some u ∧ ∀ r, prt [] (z.cps.toList ++ r) = (ws.take j).map TL.tl ++ prt (TL.tl u) r)))
      ⟨none, _, rfl, rfl, by rw [rl]; omega, .inl ⟨by have := hw.1; omega, fun r => by rw [rt, prt_blanks]; rfl⟩⟩ ?_ ?_⟩
    · rintro i σ H' hi ⟨k2, z, rfl, rfl, hz, hh⟩
      obtain ⟨_, hh⟩ : i < ws.length ∧ ∀ r, prt [] (z.cps.toList ++ r) = (ws.take i).map TL.tl ++ prt [] r := hh.elim id fun k => absurd k.1 (by omega)
      obtain ⟨u, hu⟩ : ∃ u, ws[i]? = some u := ⟨_, List.getElem?_eq_getElem hi⟩
      have huw := hw.2.2 u (List.mem_of_getElem? hu)
      have h20 := hw.2.1
      have step := prt_step hh huw.no32
      have st : ws.take (i + 1) = ws.take i ++ [u] := by rw [List.take_add_one, hu]; rfl
      refine ⟨_, rfl, _, rfl, _, rfl, p, _, _, _, rfl, rfl, SqL.of hp, atI_nat' (j := i) (by omega) (by rw [List.getElem?_map, hu]; rfl), z, u, rfl, rfl, zz _ (by have := huw.2.2; omega), ?_⟩
      have lz : (z ++ u).length ≤ 2 + 45 * i + 40 := by rw [slen]; have := huw.2.2; omega
      have tz : (z ++ u).cps.toList = z.cps.toList ++ TL.tl u := tapp z u
      refine ⟨_, rfl, _, _, rfl, rfl, _, rfl, _, _, rfl, hlen _ hp, _, _, rfl, rfl, _, rfl, ?_⟩
      refine ite2 (fun e => ?_) (fun e => ?_)
      · have e : (0 : Int) + (i : Int) + 1 < (ws.length : Int) := of_decide_eq_true e
        obtain ⟨b2, hb2, lb2⟩ := m3 (rs[46]'(by omega) + ((0 : Int) + (i : Int)) * rs[47]'(by omega))
        refine ⟨_, rfl, _, rfl, pn, _, 46, _, rfl, rfl, SqL.of hn, atI_nat (j := 46) (g 46 (by decide)), _, rfl, _, rfl, pn, _, 47, _, rfl, rfl, SqL.of hn, atI_nat (j := 47) (g 47 (by decide)), _, _, rfl, rfl, .inl ⟨by omega, by omega⟩, _, _, rfl, rfl, .inl ⟨_, rfl, _, _, rfl, rfl, (by show (0 : Int) < 3; decide), _, _, rfl, rfl, " ", 1 + b2, rfl, by show V.int (1 + _) = _; rw [hb2]; rfl, bl1, by omega, _, _, rfl, rfl, zz _ (by rw [rl]; omega), ?_⟩⟩
        refine ⟨_, _, rfl, rfl, by rw [slen, rl]; omega, .inl ⟨by omega, fun r => ?_⟩⟩
        rw [tapp, rt, tz, Nat.add_comm 1 b2, prt_gap step huw.ne, st, List.map_append]
        rfl
      · have e : ¬ (0 : Int) + (i : Int) + 1 < (ws.length : Int) := fun k => e (decide_eq_true k)
        exact ⟨_, _, rfl, rfl, by omega, .inr ⟨by omega, i, u, rfl, hu, fun r => by rw [tz]; exact step r⟩⟩
    rintro σ H' ⟨k2, z, rfl, rfl, hz, hh⟩
    obtain ⟨_, j, u, hj, hu, hh⟩ : ws.length = ws.length ∧ ∃ (j : Nat) (u : Str), ws.length = j + 1 ∧ ws[j]? = some u ∧ ∀ r, prt [] (z.cps.toList ++ r) = (ws.take j).map TL.tl ++ prt (TL.tl u) r := hh.elim (fun k => absurd k.1 (Nat.lt_irrefl _)) id
    have h20 := hw.2.1
    have huw := hw.2.2 u (List.mem_of_getElem? hu)
    obtain ⟨b3, hb3, lb3⟩ := m3 (rs[48]'(by omega))
    refine ⟨_, rfl, _, rfl, pn, _, 48, _, rfl, rfl, SqL.of hn, atI_nat (j := 48) (g 48 (by decide)), .inl ⟨_, rfl, _, _, rfl, rfl, (by show (0 : Int) < 3; decide), " ", b3, rfl, by show V.int _ = _; rw [hb3], bl1, by omega, _, _, rfl, rfl, zz _ (by rw [rl]; omega), ?_⟩⟩
    have hwords : wordsOf (z ++ rep b3 (" " : Str)) = ws := wordsOf_eq (by
      rw [tapp, rt, hh, prt_end huw.ne, ← show [u].map TL.tl = [TL.tl u] from rfl, ← List.map_append]
      congr 1
      have : ws.take (j + 1) = ws.take j ++ [u] := by rw [List.take_add_one, hu]; rfl
      rw [← this, ← hj, List.take_length])
    -- what is told
    refine ⟨_, rfl, _, rfl, by rw [slen, rl]; omega, fun pt H2 s2 hpt => ?_⟩
    rw [hwords] at hpt
    have hp2 := s2 _ _ hp
    have hn2 := s2 _ _ hn
    obtain ⟨d1, d2, d3, d4⟩ := same_strs (K := K) hpt hp2 hw.ascii
    refine ⟨_, rfl, _, _, _, _, true, rfl, .ty _, .base (.lst hpt), kit_ty (by decide +kernel), _, rfl, ?_⟩
    refine iteF ?_
    refine ⟨_, rfl, _, rfl, _, _, d1, d2, d3, d3, _, rfl, ?_⟩
    rw [d4]
    refine iteF ?_
    obtain ⟨b4, hb4, lb4⟩ : ∃ k : Nat, rs[49]'(by omega) % 4 = (k : Int) ∧ k ≤ 3 := by
      have h1 := Int.emod_nonneg (rs[49]'(by omega)) (show (4 : Int) ≠ 0 by decide)
      have h2 := Int.emod_lt_of_pos (rs[49]'(by omega)) (show (0 : Int) < 4 by decide)
      exact ⟨(rs[49]'(by omega) % 4).toNat, by omega, by omega⟩
    refine ⟨_, rfl, pn, _, 49, _, rfl, rfl, SqL.of hn2, atI_nat (j := 49) (g 49 (by decide)), .inl ⟨_, rfl, _, _, rfl, rfl, (by show (0 : Int) < 4; decide), " ", b4, rfl, by show V.int _ = _; rw [hb4], bl1, by omega, _, rfl, by rw [rl]; omega, fun pe H3 s3 hpe => ?_⟩⟩
    rw [blanks_words] at hpe
    refine ⟨(by show 0 ≤ sizeLine; decide), fun pz hpz => ?_⟩
    have s4 := same_new hpz (.lst [])
    obtain ⟨e1, e2, e3, e4⟩ := same_strs (K := K) (ws := []) (s4 _ _ hpe) (show upd H3 pz (.lst []) pz = some (.lst []) from upd_same) (fun _ z => by cases z)
    refine ⟨_, _, e1, e2, e3, e3, _, rfl, ?_⟩
    rw [e4]
    refine iteF ?_
    have S4 := s3.trans s4
    have hp4 := S4 _ _ hp2
    generalize upd H3 pz (.lst []) = H4 at S4 hp4 ⊢
    -- tabs
    refine ⟨_, rfl, by decide +kernel, fun pa H5 s5 hpa => ?_⟩
    have hpa : H5 pa = some (.lst (two.map V.str)) := by rw [← tabs_words]; exact hpa
    refine ⟨(by show 2 ≤ sizeLine; decide), fun pb hpb => ?_⟩
    have s6 := same_new hpb (.lst (two.map V.str))
    obtain ⟨f1, f2, f3, f4⟩ := same_strs (K := K) (ws := two) (s6 _ _ hpa) (show upd H5 pb (.lst (two.map V.str)) pb = some (.lst (two.map V.str)) from upd_same) (by decide +kernel)
    refine ⟨_, _, f1, f2, f3, f3, _, rfl, ?_⟩
    rw [f4]
    refine iteF ?_
    have hp6 := (s5.trans s6) _ _ hp4
    generalize hH : upd H5 pb _ = H6
    have hp6 : H6 p = some (.lst (ws.map V.str)) := by rw [← hH]; exact hp6
    clear hH
    -- byte words
    refine ⟨_, rfl, p, rfl, ⟨_, SqL.of hp6⟩, for_list (K := K) (a := p) (xs := ws.map V.str) (fun i σ H' => ∃ k8 k9, σ = [some (.ref a), some (.ref pn), k2, some (.ref p), k4, k5, some (.str (z ++ rep b3 (" " : Str))), some (.ref pt), k8, k9, none] ∧ H' p = some (.lst (ws.map V.str))) ⟨none, none, rfl, hp6⟩ (fun i σ H' _ z => by obtain ⟨_, _, _, z⟩ := z; exact SqL.of z) ?_ ?_⟩
    · rintro i x σ H7 hi ⟨k8, k9, rfl, hp7⟩
      obtain ⟨y, hy, rfl⟩ := strs_at hi
      have ly := hw.2.2 y (List.mem_of_getElem? hy)
      refine ⟨_, rfl, y, rfl, zz _ (by have := ly.2.2; omega), fun H8 s8 => ?_⟩
      refine ⟨_, rfl, _, _, _, _, true, rfl, .ty _, .base (.bl _), kit_ty (by decide +kernel), _, rfl, ?_⟩
      refine iteF ?_
      refine ⟨_, rfl, _, rfl, y, rfl, zz _ (by have := ly.2.2; omega), fun H9 s9 => ?_⟩
      refine ⟨rfl, _, rfl, ?_⟩
      rw [decide_eq_true rfl]
      refine iteF ?_
      exact ⟨_, _, rfl, s9 _ _ (s8 _ _ hp7)⟩
    rintro σ H7 ⟨k8, k9, rfl, hp7⟩
    -- the command
    refine ⟨_, rfl, p, _, rfl, .inl (SqL.of hp7), fun pl hpl => ?_⟩
    have s8 := same_new hpl (.lst (ws.map V.str))
    have hp8 := s8 _ _ hp7
    have hl8 : upd H7 pl (.lst (ws.map V.str)) pl = some (.lst (ws.map V.str)) := upd_same
    generalize upd H7 pl (.lst (ws.map V.str)) = H8 at s8 hp8 hl8 ⊢
    obtain ⟨w0, wr, rfl⟩ : ∃ w0 wr, ws = w0 :: wr := by
      cases ws with
      | nil => exact absurd hw.1 (by decide)
      | cons w0 wr => exact ⟨w0, wr, rfl⟩
    refine ⟨_, rfl, pl, w0, wr, rfl, hl8, hw.short, fun H9 s9 => ?_⟩
    have hp9 := s9 _ _ hp8
    have hl9 := s9 _ _ hl8
    refine ⟨_, rfl, _, _, _, _, true, rfl, .ty _, .base (.bl _), kit_ty (by decide +kernel), _, rfl, iteT ?_⟩
    refine ⟨_, rfl, _, rfl, p, w0, wr, rfl, hp9, hw.short, fun HA sA => ?_⟩
    refine ⟨rfl, _, rfl, ?_⟩
    rw [decide_eq_true rfl]
    refine iteT ?_
    obtain ⟨x1, x2, x3, x4⟩ := same_strs (K := K) (sA _ _ hl9) (sA _ _ hp9) hw.ascii
    refine ⟨_, rfl, _, rfl, _, _, x1, x2, x3, x3, ?_⟩
    rw [x4]
    exact q HA
end
end Bs

set_option Elab.async false
set_option linter.all false
set_option maxRecDepth 100000
set_option maxHeartbeats 0
namespace Bs
open PySem L2
/-! ### the head: what the top leaves -/
def gDef (x : Str) (i : Nat) : He.DefD := ⟨(x, none), x, x, defArgs (top i), defBody (top i), defScope (top i), [], []⟩
def fns : List He.DefD := [gDef "is_name" 5, gDef "split_words" 10, gDef "is_byte_word" 11, gDef "are_names" 12, gDef "is_command" 13, gDef "_law_row" 15, gDef "_law_numbers" 16, gDef "_law_word" 17, gDef "_law_formed" 18, gDef "_law_is_name" 19, gDef "_law_is_byte" 20, gDef "_law_all_names" 21, gDef "_law_command" 22, gDef "law" 23]
def fas : List He.Fa := [.glo "is_name", .glo "split_words", .glo "is_byte_word", .glo "are_names", .glo "is_command", .glo "_law_row", .glo "_law_numbers", .glo "_law_word", .glo "_law_formed", .glo "_law_is_name", .glo "_law_is_byte", .glo "_law_all_names", .glo "_law_command", .glo "law",
  .glo "NAMES", .glo "SHOWN",
  .free "isinstance", .free "int", .free "bool", .free "str", .free "list", .free "len", .free "all", .free "max", .free "range", .free "abs",
  .int "LONGEST_NAME" 12, .int "GREATEST_BYTE" 255, .int "MOST_DIGITS" 3, .str "LETTERS" letters, .str "DIGITS" digits]
def cmdV : List (Str × He.Dv) := [("shape", .int 1), ("cut", .int 2), ("drop", .int 1), ("remove", .int 1), ("undo", .int 0), ("redo", .int 0), ("answer", .int 1), ("answers", .int 0), ("print", .int 1)]
def tbs : List He.Tab := [(fun K => He.ga K "NAMES", cmdV.map (·.1))]
/-- no other keys -/
def onlyB (K : PySem.W.Frag) (a : Addr) (ks : List Str) : Bool := match K.lookup a with
  | some ⟨_, _, .dict es _, _⟩ => es.toList.all fun e => !e.refKey && ks.any fun k => e.key.isStr k
  | _ => false
def exs (K : PySem.W.Frag) : Bool := He.tupB K "SHOWN" [.str "shapes", .str "questions"] && (He.valsB K (He.ga K "NAMES") cmdV && onlyB K (He.ga K "NAMES") (cmdV.map (·.1)))
theorem only_ok {K : PySem.W.Frag} {a : Addr} {ks : List Str} (h : onlyB K a ks = true) {z : Str} (hz : z ∉ ks) : PySem.W.nsIn K a z = some none := by
  unfold onlyB at h
  unfold PySem.W.nsIn
  cases e : K.lookup a with
  | none => rw [e] at h; cases h
  | some o =>
    rw [e] at h
    obtain ⟨c, d, dt, sl⟩ := o
    cases dt with
    | dict es n =>
      dsimp only at h ⊢
      rw [List.all_eq_true] at h
      have nf : es.toList.find? (·.key.isStr z) = none := by
        rw [List.find?_eq_none]
        intro x hx hk
        have h2 := h x hx
        rw [Bool.and_eq_true, List.any_eq_true] at h2
        obtain ⟨_, k, hk2, e2⟩ := h2
        have : k = z := by
          revert e2 hk
          cases x.key <;> simp [Value.isStr]
          intro a b
          rw [← a, ← b]
        exact hz (this ▸ hk2)
      rw [nf]
      dsimp only
      rw [if_neg]
      intro k
      obtain ⟨x, hx, e2⟩ := List.any_eq_true.mp k
      have h2 := h x hx
      rw [e2] at h2
      cases h2
    | _ => cases h
end Bs

set_option Elab.async false
set_option linter.all false
set_option maxRecDepth 100000
set_option maxHeartbeats 4000000
namespace Bs
open PySem L2
/-! ### all defs together -/
section
variable {P : Program} {w : World} {K : PySem.W.Frag} {mg : Str → Option Value} {h base : Heap} {C : Addr}
theorem fun_of {x q : Str} {st : Stmt} {f : Addr} {fd : FuncData} (F : FunD K x q (defArgs st) (defBody st) (defScope st) [] [] f fd) : Fun K x q st f fd := by
  obtain ⟨oc, od, dV, kV, doc, pm, an, cdv, ct, osl, rfl, lk, c, d, _⟩ := F.ex
  have e : dV = .none := d.elim (·.2) (fun z => absurd rfl z.1)
  subst e
  exact ⟨⟨oc, od, kV, doc, pm, an, cdv, ct, osl, rfl, lk, c⟩, F.kp⟩
theorem def_of (c : He.SaysT fas fns tbs w K) (j : Nat) {x : Str} {i : Nat} (e : fns[j]? = some (gDef x i)) : ∃ fd, Fun K x x (top i) (He.ga K x) fd := by
  obtain ⟨fd, F⟩ := c.d.def_ j (d := gDef x i) e
  exact ⟨fd, fun_of F⟩
theorem cal_of (X : K.In h) (G : h.Ns mainGlobals mg) (c : He.SaysT fas fns tbs w K) (j jg : Nat) {x : Str} {i : Nat} (e : fns[j]? = some (gDef x i)) (eg : fas[jg]? = some (.glo x)) {CX : CXT} {k : Nat} {ps : List Str} {sp : Sp}
    (bn : ∀ (f : Addr) (fd : FuncData), Fun K x x (top i) f fd → Binds K fd ps []) (ok : ∀ (f : Addr) (fd : FuncData), Fun K x x (top i) f fd → FnOk P w K mg base CX k f fd ps sp) : Cal P w K mg base CX k x ps sp := by
  obtain ⟨fd, F⟩ := def_of c j e
  exact ⟨_, fd, He.glo_ok X G (c.d.fact jg eg), F.kp, bn _ fd F, ok _ fd F⟩
theorem Cal.mono {CX : CXT} {j k : Nat} {x : Str} {ps : List Str} {sp : Sp} (g : Cal P w K mg base CX j x ps sp) (h : j ≤ k) : Cal P w K mg base CX k x ps sp := by
  obtain ⟨f, fd, h1, h2, h3, h4⟩ := g.ex
  exact ⟨f, fd, h1, h2, h3, h4.mono h⟩
theorem Cal.no {CX : CXT} {j k : Nat} {x : Str} {ps : List Str} {sp sq : Sp} (g : Cal P w K mg base CX j x ps sp) (no : ∀ vs H Q E, ¬ sq vs H Q E) : Cal P w K mg base CX k x ps sq := by
  obtain ⟨f, fd, h1, h2, h3, h4⟩ := g.ex
  exact ⟨f, fd, h1, h2, h3, ⟨fun _ _ _ _ z => (no _ _ _ _ z).elim, fun _ _ _ _ _ _ _ _ _ _ _ _ _ z => (no _ _ _ _ z).elim⟩⟩
theorem cmdsC (X : K.In h) (G : h.Ns mainGlobals mg) (c : He.SaysT fas fns tbs w K) (ex : exs K = true) : Cmds K w mg := by
  obtain ⟨h1, ex⟩ := He.ba ex
  obtain ⟨h2, h3⟩ := He.ba ex
  refine ⟨?_, ⟨_, (He.glo_ok X G (c.d.fact 15 (f := .glo "SHOWN") rfl)), fun H => He.tupB_ok h1 H⟩⟩
  obtain ⟨es, n, D⟩ := c.tab 0 (t := (fun K => He.ga K "NAMES", cmdV.map (·.1))) rfl
  refine ⟨_, es, n, (He.glo_ok X G (c.d.fact 14 (f := .glo "NAMES") rfl)), D, fun z => ?_⟩
  have f : ∀ (z : Str) (i : Int), (z, He.Dv.int i) ∈ cmdV → ∃ t, PySem.W.nsIn K (He.ga K "NAMES") z = some (some (.int i t)) := fun z i hz => by
    obtain ⟨u, e, r⟩ := He.valsB_ok h2 hz
    obtain ⟨t, rfl⟩ := (show ∃ t, u = Value.int i t from r)
    exact ⟨t, e⟩
  have pairs : ∀ l : List (Str × Nat), ∀ z, match l.lookup z with
      | some k => (z, k) ∈ l
      | none => ∀ p ∈ l, p.1 ≠ z := by
    intro l
    induction l with
    | nil => intro z; exact fun _ hp => by cases hp
    | cons p r ih =>
      intro z
      rw [show List.lookup z (p :: r) = (match z == p.1 with | true => some p.2 | false => List.lookup z r) from rfl]
      cases e : z == p.1 with
      | true =>
        have e := eq_of_beq e
        dsimp only
        rw [e]
        exact List.mem_cons_self ..
      | false =>
        dsimp only
        have k := ih z
        cases e2 : r.lookup z with
        | none =>
          rw [e2] at k
          exact fun q hq => (List.mem_cons.mp hq).elim (fun z1 => by rw [z1]; exact fun z2 => by rw [z2] at e; simp at e) (k q)
        | some v =>
          rw [e2] at k
          exact List.mem_cons_of_mem _ k
  have k := pairs nargs z
  cases e : nargs.lookup z with
  | none =>
    rw [e] at k
    dsimp only at k ⊢
    refine only_ok h3 fun hz => ?_
    have : ∀ y ∈ cmdV.map (·.1), y ∈ nargs.map (·.1) := by decide +kernel
    obtain ⟨p, hp, e3⟩ := List.mem_map.mp (this z hz)
    exact k p hp e3
  | some v =>
    rw [e] at k
    dsimp only at k ⊢
    have all : nargs.map (fun p => (p.1, He.Dv.int (p.2 : Int))) = cmdV := rfl
    exact f z v (by rw [← all]; exact List.mem_map.mpr ⟨(z, v), k, rfl⟩)
theorem facts (X : K.In h) (G : h.Ns mainGlobals mg) (c : He.SaysT fas fns tbs w K) (ex : exs K = true) {fa : Addr} (hfa : mg ("law" : Str) = some (.ref fa)) : ∃ fd : FuncData, (∀ (s : Shared) (v : Value), BindsTo s fd ⟨[v], []⟩ [("script", v)]) ∧ ∀ base : Heap, K.In base → base.Ns mainGlobals mg → FnOk P w K mg base CX0 4 fa fd ["script"] (spLaw K) := by
  have e := hfa.symm.trans (He.glo_ok X G (c.d.fact 13 (f := .glo "law") rfl))
  cases e
  obtain ⟨fd, FD⟩ := c.d.def_ 13 (d := gDef "law" 23) rfl
  have b := FunD.bindsA (ps := ["script"]) FD fun _ _ _ _ _ _ us hl => match us, hl with | [_], _ => rfl
  have F : Fun K "law" "law" sLaw (He.ga K "law") fd := fun_of FD
  refine ⟨fd, fun s v => b s [v] rfl, fun base _ _ => ?_⟩
  have gIs : Cal P w K mg base CX0 1 "is_name" ["text"] spIsName := cal_of X G c 0 0 (i := 5) rfl rfl (fun _ _ F => F.binds fun _ _ _ _ _ _ us hl => match us, hl with | [_], _ => rfl) fun _ _ F => ok_isname F (He.free_ok X G (c.d.fact 16 (f := .free "isinstance") rfl)) (He.free_ok X G (c.d.fact 19 (f := .free "str") rfl)) (He.free_ok X G (c.d.fact 21 (f := .free "len") rfl)) (He.free_ok X G (c.d.fact 22 (f := .free "all") rfl)) (He.str_ok X G (c.d.fact 29 (f := .str "LETTERS" letters) rfl)) (He.str_ok X G (c.d.fact 30 (f := .str "DIGITS" digits) rfl)) (He.int_ok X G (c.d.fact 26 (f := .int "LONGEST_NAME" 12) rfl))
  have gS : Cal P w K mg base CX0 1 "split_words" ["line"] spSplit := cal_of X G c 1 1 (i := 10) rfl rfl (fun _ _ F => F.binds fun _ _ _ _ _ _ us hl => match us, hl with | [_], _ => rfl) fun _ _ F => ok_split F
  have gB : Cal P w K mg base CX0 1 "is_byte_word" ["word"] spIsByte := cal_of X G c 2 2 (i := 11) rfl rfl (fun _ _ F => F.binds fun _ _ _ _ _ _ us hl => match us, hl with | [_], _ => rfl) fun _ _ F => ok_isbyte F (He.free_ok X G (c.d.fact 21 (f := .free "len") rfl)) (He.free_ok X G (c.d.fact 22 (f := .free "all") rfl)) (He.free_ok X G (c.d.fact 17 (f := .free "int") rfl)) (He.str_ok X G (c.d.fact 30 (f := .str "DIGITS" digits) rfl)) (He.int_ok X G (c.d.fact 28 (f := .int "MOST_DIGITS" 3) rfl)) (He.int_ok X G (c.d.fact 27 (f := .int "GREATEST_BYTE" 255) rfl))
  have gA : Cal P w K mg base CX0 2 "are_names" ["words"] spNames := cal_of X G c 3 3 (i := 12) rfl rfl (fun _ _ F => F.binds fun _ _ _ _ _ _ us hl => match us, hl with | [_], _ => rfl) fun _ _ F => ok_names F gIs (He.free_ok X G (c.d.fact 22 (f := .free "all") rfl))
  have gC : Cal P w K mg base CX0 3 "is_command" ["words"] spCmd := cal_of X G c 4 4 (i := 13) rfl rfl (fun _ _ F => F.binds fun _ _ _ _ _ _ us hl => match us, hl with | [_], _ => rfl) fun _ _ F => ok_cmd F (cmdsC X G c ex) gA gB (He.free_ok X G (c.d.fact 22 (f := .free "all") rfl)) (He.free_ok X G (c.d.fact 21 (f := .free "len") rfl))
  have gRow : Cal P w K mg base CX0 1 "_law_row" ["cell", "many"] spRow := cal_of X G c 5 5 (i := 15) rfl rfl (fun _ _ F => F.binds fun _ _ _ _ _ _ us hl => match us, hl with | [_, _], _ => rfl) fun _ _ F => ok_lawrow F (He.free_ok X G (c.d.fact 25 (f := .free "abs") rfl)) (He.free_ok X G (c.d.fact 17 (f := .free "int") rfl)) (He.free_ok X G (c.d.fact 24 (f := .free "range") rfl))
  have gN : Cal P w K mg base CX0 2 "_law_numbers" ["script", "many"] (spNums K) := cal_of X G c 6 6 (i := 16) rfl rfl (fun _ _ F => F.binds fun _ _ _ _ _ _ us hl => match us, hl with | [_, _], _ => rfl) fun _ _ F => ok_lawnums (k := 1) (by decide) F gRow (He.free_ok X G (c.d.fact 23 (f := .free "max") rfl)) (He.free_ok X G (c.d.fact 21 (f := .free "len") rfl))
  have gW : Cal P w K mg base CX0 1 "_law_word" ["number", "more"] spWord := cal_of X G c 7 7 (i := 17) rfl rfl (fun _ _ F => F.binds fun _ _ _ _ _ _ us hl => match us, hl with | [_, _], _ => rfl) fun _ _ F => ok_word F (He.free_ok X G (c.d.fact 17 (f := .free "int") rfl)) (He.free_ok X G (c.d.fact 24 (f := .free "range") rfl))
  have gLN : Cal P w K mg base CX0 1 "_law_is_name" ["word"] spIsName := cal_of X G c 9 9 (i := 19) rfl rfl (fun _ _ F => F.binds fun _ _ _ _ _ _ us hl => match us, hl with | [_], _ => rfl) fun _ _ F => ok_lname F (He.free_ok X G (c.d.fact 21 (f := .free "len") rfl))
  have gLB : Cal P w K mg base CX0 1 "_law_is_byte" ["word"] spIsByte := cal_of X G c 10 10 (i := 20) rfl rfl (fun _ _ F => F.binds fun _ _ _ _ _ _ us hl => match us, hl with | [_], _ => rfl) fun _ _ F => ok_lbyte F (He.free_ok X G (c.d.fact 24 (f := .free "range") rfl)) (He.free_ok X G (c.d.fact 19 (f := .free "str") rfl))
  have gLA : Cal P w K mg base CX0 2 "_law_all_names" ["words"] spNames := cal_of X G c 11 11 (i := 21) rfl rfl (fun _ _ F => F.binds fun _ _ _ _ _ _ us hl => match us, hl with | [_], _ => rfl) fun _ _ F => ok_lnames F (.inr gLN)
  have gF : Cal P w K mg base CX0 2 "_law_formed" ["words", "number", "more"] spFormed := cal_of X G c 8 8 (i := 18) rfl rfl (fun _ _ F => F.binds fun _ _ _ _ _ _ us hl => match us, hl with | [_, _, _], _ => rfl) fun _ _ F => ok_formed F gLN gLB (He.free_ok X G (c.d.fact 17 (f := .free "int") rfl)) (He.free_ok X G (c.d.fact 20 (f := .free "list") rfl))
  have gLC : Cal P w K mg base CX0 3 "_law_command" ["words"] spCmd := cal_of X G c 12 12 (i := 22) rfl rfl (fun _ _ F => F.binds fun _ _ _ _ _ _ us hl => match us, hl with | [_], _ => rfl) fun _ _ F => ok_lcmd F gLN gLA gLB (He.free_ok X G (c.d.fact 21 (f := .free "len") rfl))
  exact ok_law F gN gW gF gS gB gLB gC gLC (He.free_ok X G (c.d.fact 24 (f := .free "range") rfl)) (He.free_ok X G (c.d.fact 17 (f := .free "int") rfl)) (He.free_ok X G (c.d.fact 21 (f := .free "len") rfl)) (He.free_ok X G (c.d.fact 16 (f := .free "isinstance") rfl)) (He.free_ok X G (c.d.fact 18 (f := .free "bool") rfl)) (He.free_ok X G (c.d.fact 20 (f := .free "list") rfl))
end
theorem walk {l : PySem.W.OpenLaw} {q : Program} {loose : List Str} {XP : (Str → Option Value) → Heap → Prop} {YP : World → Heap → Prop} {d : DefRec} {K : Params → PySem.W.Frag} (hn : l.most = some 63) (hdf : d.params.defaults = [])
    (hY : ∀ (w : World) (h : Heap), YP w h → (K w.params).In h)
    (F : ∀ (w : World) (mg : Str → Option Value) (fa : Addr) (h : Heap), (K w.params).In h → h.Ns mainGlobals mg → mg d.name = some (.ref fa) →
      ∃ fd : FuncData, (∀ (s : Shared) (u : Value), BindsTo s fd ⟨[u], []⟩ [("script", u)]) ∧ ∀ base : Heap, (K w.params).In base → base.Ns mainGlobals mg → FnOk l.prog w (K w.params) mg base CX0 4 fa fd ["script"] (spLaw (K w.params))) :
    PySem.W.WalkO q loose XP YP l.row.toRowW d [] (fun f vs => PySem.call f vs) :=
  L2.walk_of (n := 63) (k := 4) (x := "script") (CX := fun _ => CX0) (sp := fun w => spLaw (K w.params)) hn (by decide) hdf ⟨rfl, by decide, by decide⟩ hY F (fun _ _ a ns hl _ hS => ⟨a, ns, rfl, hS, hl, fun _ => rfl⟩) fun _ _ _ _ _ z => z
end Bs

set_option Elab.async false
set_option linter.all false
set_option maxRecDepth 100000
set_option maxHeartbeats 0
open PySem PySem.W PyProof.Rows
theorem PySem.Challenge.cw_byteshape_k89_words_of_a_session_holds : PySem.Challenge.rw_byteshape_k89_words_of_a_session.Holds := by
  w_on; o_law; k_head; (case hw => w_witness2)
  k_fill
  refine Bs.walk (l := PySem.Challenge.rw_byteshape_k89_words_of_a_session) rfl rfl (fun w h Y => PySem.W.kIn_of Y) ?F
  case F =>
    intro w mg fa h KX G hmg
    refine Bs.facts KX G ?c ?ex hmg
    case c =>
      show He.obsT Bs.fas Bs.fns Bs.tbs _ = He.valT Bs.fns Bs.tbs w
      kernel_rfl
    case ex =>
      kernel_rfl

