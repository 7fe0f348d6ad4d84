import PyProof.Rows.All
import Wide.All
import OpenK.AllK
import Wide.FinOn
import HandS.ForMost
import HandS.Exc
import HandS.ExcOwn
import HandS.TryOnly
import HandS.WordsExc
import HandS.Conv
import HandS.More
import HandS.IsInst
import HandS.FStr
import HandS.Star
import HandS.RaiseMore
import HandS.ExcIs
import HandS.DictComp
import HandS.Zip
import HandS.TupAny
import HandS.CallLocal
import HandS.Flow
import HandS.EndBits
import KE.GoesComp
import KE.GoesRaise
import PySem.Challenge.RW_byteshape_k82_values_at_spots
import HandS.Walk
import HandS.Ends
import HandS.Defaults
import HandS.HeadEnd
import HandS.HeadHook1
import HandS.HeadHook2
import HandS.HeadHook3
set_option Elab.async false
set_option linter.all false
set_option maxRecDepth 100000
set_option maxHeartbeats 4000000
/-! What the later laws share: small words. -/
namespace Bm
open PySem L2
def top (i : Nat) : Stmt := PySem.Challenge.pw_byteshape_k82_values_at_spots.main.body.getD i (.Pass ⟨0, 0, 0, 0⟩)
/-! ### names -/
abbrev letters : Str := "abcdefghijklmnopqrstuvwxyz"
abbrev digits : Str := "0123456789"
def isLetter (c : Nat) : Bool := decide (c ∈ letters.cps.toList)
def isDigit (c : Nat) : Bool := decide (c ∈ digits.cps.toList)
def isSign (c : Nat) : Bool := isLetter c || isDigit c
def nameOk : List Nat → Bool
  | [] => false
  | c :: r => decide (r.length < 12) && (isLetter c && (c :: r).all isSign)
def isName (z : Str) : Bool := nameOk z.cps.toList

/-! ### small words -/
theorem same_new {H : Hp} {p : Addr} (h : H p = none) (o : HO) : Same H (upd H p o) := fun b u q => by rw [upd_ne (ne_of_none q h)]; exact q
theorem same_set {H H' : Hp} {p : Addr} {o : HO} (s : Same H H') (h : H p = none) : Same H (upd H' p o) := fun b u q => by rw [upd_ne (ne_of_none q h)]; exact s b u q
theorem yes_go {te : TE} {σ : L2.St} {H : Hp} {R : V → Hp → Prop} {N : Hp → Prop} (h : te σ H R) : tYes σ H fun b H3 => if b = true then te σ H3 R else N H3 := by
  show if true = true then te σ H R else N H
  rw [if_pos rfl]
  exact h
theorem sizeLine_big : 16777216 = sizeLine := by decide
theorem le_line {n : Nat} (h : n ≤ 16777216) : n ≤ sizeLine := by rw [← sizeLine_big]; exact h
theorem lt_line {n : Nat} (h : n < 16777216) : n < sizeLine := by rw [← sizeLine_big]; exact h
theorem kne {a b : Str} (h : a ≠ b) : ¬ V.str a = V.str b := fun z => h (V.str.inj z)
theorem with_rest {t u : TS} {D : Ends} {σ : L2.St} {H : Hp} (Pv : L2.St → Hp → Prop) (h2 : ∀ σ' H', Pv σ' H' → u D σ' H') (h1 : (∀ σ' H', Pv σ' H' → u D σ' H') → tSeq t u D σ H) : tSeq t u D σ H := h1 h2
theorem nx_go {D : Ends} {σ : L2.St} {H : Hp} (h : D.nx σ H) : tNext D σ H := h
theorem g_nx {i : Nat} {v : V} {σ : L2.St} {H : Hp} {N : L2.St → Hp → Prop} (h : N (σ.set i (some v)) H) : gName i v σ H N := h
theorem seq_asg {te : TE} {g : TG} {u : TS} {D : Ends} {σ : L2.St} {H : Hp} (h : te σ H fun x H1 => g x σ H1 (u D)) : tSeq (tAsg te g) u D σ H := h
theorem slen0 (x y : Str) : (x ++ y).length = x.length + y.length := by
  show (x.cps ++ y.cps).size = _
  rw [Array.size_append]; rfl
theorem slen_tl (z : Str) : z.length = z.cps.toList.length := by simp [Str.length]
def rInt1 : List V → Hp → VK → Prop := fun xs H Q => (∃ i, xs = [.int i] ∧ Q (.int i) H) ∨ ∃ k, xs = [.bl k] ∧ Q (.int (if k then 1 else 0)) H
def spSub (sp : Nat → Sp) : Nat → Sp
  | 0 => fun _ _ _ _ => False
  | n + 1 => sp n
theorem ifT {a b : Str} {p q : Prop} (e : a = b) (h : p) : if decide (V.str a = V.str b) = true then p else q := by
  rw [if_pos (decide_eq_true (by rw [e]))]; exact h
theorem ifN {a b : Str} {p q : Prop} (e : a ≠ b) (h : q) : if decide (V.str a = V.str b) = true then p else q := by
  rw [if_neg (fun z => e (V.str.inj (of_decide_eq_true z)))]; exact h
theorem ifP {i j : Int} {p q : Prop} (e : i = j) (h : p) : if decide (V.int i = V.int j) = true then p else q := by
  rw [if_pos (decide_eq_true (by rw [e]))]; exact h
theorem ifQ {i j : Int} {p q : Prop} (e : ¬ i = j) (h : q) : if decide (V.int i = V.int j) = true then p else q := by
  rw [if_neg (fun z => e (V.int.inj (of_decide_eq_true z)))]; exact h
theorem ifB {b : Bool} {p q : Prop} (e : b = true) (h : p) : if b = true then p else q := by rw [if_pos e]; exact h
theorem ifF {b : Bool} {p q : Prop} (e : b = false) (h : q) : if b = true then p else q := by rw [e]; exact iteF h
theorem map_snoc (ns : List Int) (i : Int) : ns.map V.int ++ [V.int i] = (ns ++ [i]).map V.int := by rw [List.map_append]; rfl
theorem cutV_to (xs : List V) (j : Nat) : cutV xs none (some (j : Int)) = xs.take j := by
  unfold cutV
  rw [HT.sIx_none, HT.sIx_nat, List.drop_zero, Nat.sub_zero]
  by_cases c : j ≤ xs.length
  · rw [Nat.min_eq_left c]
  · rw [Nat.min_eq_right (by omega), List.take_length, List.take_of_length_le (by omega)]
theorem cutV_from (xs : List V) (j : Nat) : cutV xs (some (j : Int)) none = xs.drop j := by
  unfold cutV
  rw [HT.sIx_none, HT.sIx_nat]
  by_cases c : j ≤ xs.length
  · rw [Nat.min_eq_left c, List.take_of_length_le (by rw [List.length_drop]; omega)]
  · rw [Nat.min_eq_right (by omega), List.drop_length, List.take_nil, List.drop_eq_nil_of_le (by omega)]
theorem cutV_part (xs : List V) (i j : Nat) : cutV xs (some (i : Int)) (some (j : Int)) = (xs.drop i).take (j - i) := by
  unfold cutV
  rw [HT.sIx_nat, HT.sIx_nat]
  by_cases c : i ≤ xs.length
  · rw [Nat.min_eq_left c]
    by_cases d : j ≤ xs.length
    · rw [Nat.min_eq_left d]
    · rw [Nat.min_eq_right (by omega), List.take_of_length_le (by rw [List.length_drop]; omega), List.take_of_length_le (by rw [List.length_drop]; omega)]
  · rw [Nat.min_eq_right (show xs.length ≤ i by omega), List.drop_length, List.take_nil, List.drop_eq_nil_of_le (show xs.length ≤ i by omega), List.take_nil]
theorem at_mem {xs : List V} {r : Int} (h0 : 0 ≤ r) (h1 : r < (xs.length : Int)) : ∃ v, v ∈ xs ∧ atI xs r = some v := by
  obtain ⟨n, rfl⟩ := Int.eq_ofNat_of_zero_le h0
  have hn : n < xs.length := by omega
  exact ⟨xs[n], List.getElem_mem hn, atI_nat (List.getElem?_eq_getElem hn)⟩
/-- one of some ints -/
theorem at_ints {is : List Int} {r : Int} (h0 : 0 ≤ r) (h1 : r < (is.length : Int)) : ∃ i, i ∈ is ∧ atI (is.map V.int) r = some (.int i) := by
  obtain ⟨v, hv, e⟩ := at_mem (xs := is.map V.int) h0 (by rw [List.length_map]; exact h1)
  obtain ⟨i, hi, rfl⟩ := List.mem_map.mp hv
  exact ⟨i, hi, e⟩
theorem ixN_nat {n j : Nat} (h : j < n) : ixN n (j : Int) = some j := by
  unfold ixN
  rw [if_pos (by omega), if_pos (by omega)]
  simp
theorem passE0 {X : Cx} {P : Program} {w : World} : Passes (L2.CX P w) X E0 := fun _ _ _ _ _ _ _ h => by
  obtain ⟨_, _, _, _, _, _, _, _, _, _, _, _, h⟩ := h
  exact h.elim
theorem str_app (z y : Str) : (z ++ y).cps.toList = z.cps.toList ++ y.cps.toList := by
  show (z.cps ++ y.cps).toList = _
  simp
theorem cutS_to (z : Str) (p : Nat) : (cutS z none (some (p : Int))).cps.toList = z.cps.toList.take p := by
  have h : ∀ z : Str, z.length = z.cps.toList.length := fun z => by simp [Str.length]
  unfold cutS
  rw [HT.sIx_none, HT.sIx_nat, h, List.drop_zero, Nat.sub_zero]
  by_cases c : p ≤ z.cps.toList.length
  · rw [Nat.min_eq_left c]
  · rw [Nat.min_eq_right (by omega), List.take_length, List.take_of_length_le (by omega)]
theorem cutS_from (z : Str) (p : Nat) : (cutS z (some (p : Int)) none).cps.toList = z.cps.toList.drop p := by
  have h : ∀ z : Str, z.length = z.cps.toList.length := fun z => by simp [Str.length]
  unfold cutS
  rw [HT.sIx_none, HT.sIx_nat, h]
  by_cases c : p ≤ z.cps.toList.length
  · rw [Nat.min_eq_left c, List.take_of_length_le (by rw [List.length_drop]; omega)]
  · rw [Nat.min_eq_right (by omega)]
    rw [List.drop_of_length_le (by omega), List.drop_of_length_le (by omega)]
    simp
abbrev chs : Str := "abcdefghijklmnopqrstuvwxyz0123456789"
theorem chs_len : chs.cps.toList.length = 36 := by decide +kernel
theorem chs_sign : ∀ c ∈ chs.cps.toList, isSign c = true := by decide +kernel
theorem chs_letter : ∀ c ∈ chs.cps.toList.take 26, isLetter c = true := by decide +kernel
theorem chs_nodup : chs.cps.toList.Nodup := by decide +kernel
theorem ch_at (i : Int) (h0 : 0 ≤ i) (h1 : i < 36) : ∃ c, atI chs.cps.toList i = some c ∧ chs.cps.toList[i.toNat]? = some c ∧ isSign c = true ∧ (i < 26 → isLetter c = true) := by
  obtain ⟨n, rfl⟩ := Int.eq_ofNat_of_zero_le h0
  have hn : n < chs.cps.toList.length := by rw [chs_len]; omega
  have e : chs.cps.toList[n]? = some chs.cps.toList[n] := List.getElem?_eq_getElem hn
  refine ⟨chs.cps.toList[n], atI_nat e, e, chs_sign _ (List.getElem_mem hn), fun h => chs_letter _ ?_⟩
  refine List.mem_of_getElem? (i := n) ?_
  rw [List.getElem?_take, if_pos (by omega)]
  exact e
/-! ### calls in short -/
structure Cal (P : Program) (w : World) (K : PySem.W.Frag) (mg : Str → Option Value) (base : Heap) (CX : CXT) (k : Nat) (x : Str) (ps : List Str) (sp : Sp) : Prop where
  ex : ∃ (f : Addr) (fd : FuncData), mg x = some (.ref f) ∧ PySem.W.keepIn K (.ref f) = true ∧ Binds K fd ps [] ∧ FnOk P w K mg base CX k f fd ps sp
def tCl (sp : Sp) (E : XK) (t : TA) : TE := fun σ H Q => t σ H fun vs H1 => sp vs H1 Q E
theorem tCall_nil {sp : Sp} {E : XK} {t : TA} : tCall sp [] E t = tCl sp E t := by
  funext σ H Q
  show t σ H (fun vs H1 => sp (vs ++ []) H1 Q E) = _
  congr
  funext vs H1
  rw [List.append_nil]
/-- x(e, ..), x a def of the text -/
theorem pe_cal {X : Cx} {CX : CXT} {k : Nat} {x : Str} {ps : List Str} {sp : Sp} {E : XK} {e : Expr} {es : List Expr} {t : TA} {p pos : Pos} (G : Cal X.prog X.w X.K X.mg X.base CX k x ps sp) (hr : Room k X.A) (hx : Passes CX X E) (ha : PA X (e :: es) t) (hg : Gl X x := by rfl)
    (hdb : (x == ("__debug__" : Str)) = false := by decide) (he : starEach (e :: es) X.env = (false, eval e X.env) :: starEach es X.env := by rfl) (hpl : (backTo pos (starEach es X.env)).any (·.1) = false := by rfl) :
    PE X (.Call (.Name x p) (e :: es) [] pos) (tCl sp E t) := by
  obtain ⟨f, fd, h1, h2, h3, h4⟩ := G.ex
  rw [← tCall_nil]
  exact pe_call h4 hr hg h1 h2 h3 .nil hx ha hdb he hpl
/-- x in a list or a tuple -/
def RowR (K : PySem.W.Frag) (a : Addr) (R : L2.It → Hp → Prop) (H : Hp) : Prop := ((∃ xs, SqL K H a xs) ∧ R (Itl K a) H) ∨ ((∃ xs, SqT K H a xs) ∧ R (Itt K a) H)
def iRow (K : PySem.W.Frag) (tl : TE) : TI := fun σ H R => tl σ H fun x H1 => ∃ a, x = .ref a ∧ RowR K a R H1
theorem pi_row {X : Cx} {tg l : Expr} {tl : TE} (hl : PE X l tl) : PI X tg l (iRow X.K tl) := by
  refine ⟨fun pins s σ H R I h => thn (hl.run pins s σ H _ I h) fun v s1 ⟨x, H1, I1, r1, a, ex, q1⟩ => ?_⟩
  subst ex
  cases r1
  rcases q1 with ⟨⟨xs, hq⟩, q⟩ | ⟨⟨xs, hq⟩, q⟩
  · obtain ⟨its, rv, p, hz⟩ := I1.list hq
    exact wpAny_pyIter_list p.isList (pi_one (tk := s1.toks) I1 _ (turn_list a _) ⟨_, Heap.get?_push_size _ rfl, rfl, rfl⟩ q)
  · obtain ⟨its, rv, p, hz⟩ := I1.tuple hq
    exact PySem.wpAny_pyIter_tuple (show s1.heap.IsTuple a its.toArray from p) (pi_one (tk := s1.toks) I1 _ (turn_tuple a _) ⟨_, Heap.get?_push_size _ rfl, rfl, rfl⟩ q)
theorem row_t {K : PySem.W.Frag} {H : Hp} {p : Addr} {xs : List V} {R : L2.It → Hp → Prop} (hp : H p = some (.tup xs)) (h : ∀ J, Walk J xs.length (fun H' => Same H H') (YAt xs) → R J H) : RowR K p R H :=
  .inr ⟨⟨xs, SqT.of hp⟩, h _ (walk_tup.mono (fun H' s => SqT.of (s _ _ hp)) fun _ _ _ _ _ _ y => y)⟩
theorem row_l {K : PySem.W.Frag} {H : Hp} {p : Addr} {xs : List V} {R : L2.It → Hp → Prop} (hp : H p = some (.lst xs)) (h : ∀ J, Walk J xs.length (fun H' => Same H H') (YAt xs) → R J H) : RowR K p R H :=
  .inl ⟨⟨xs, SqL.of hp⟩, h _ (walk_list.mono (fun H' s => SqL.of (s _ _ hp)) fun _ _ _ _ _ _ y => y)⟩
/-- the same, what is looked at since an earlier heap -/
theorem row_t2 {K : PySem.W.Frag} {H0 H : Hp} {p : Addr} {xs : List V} {R : L2.It → Hp → Prop} (hp : H0 p = some (.tup xs)) (s0 : Same H0 H) (h : ∀ J, Walk J xs.length (fun H' => Same H0 H') (YAt xs) → R J H) : RowR K p R H :=
  .inr ⟨⟨xs, SqT.of (s0 _ _ hp)⟩, h _ (walk_tup.mono (fun H' s => SqT.of (s _ _ hp)) fun _ _ _ _ _ _ y => y)⟩
theorem row_l2 {K : PySem.W.Frag} {H0 H : Hp} {p : Addr} {xs : List V} {R : L2.It → Hp → Prop} (hp : H0 p = some (.lst xs)) (s0 : Same H0 H) (h : ∀ J, Walk J xs.length (fun H' => Same H0 H') (YAt xs) → R J H) : RowR K p R H :=
  .inl ⟨⟨xs, SqL.of (s0 _ _ hp)⟩, h _ (walk_list.mono (fun H' s => SqL.of (s _ _ hp)) fun _ _ _ _ _ _ y => y)⟩
theorem Cal.mono {P : Program} {w : World} {K : PySem.W.Frag} {mg : Str → Option Value} {base : Heap} {CX : CXT} {j k : Nat} {x : Str} {ps : List Str} {sp : Sp} (g : Cal P w K mg base CX j x ps sp) (h : j ≤ k) : Cal P w K mg base CX k x ps sp := by
  obtain ⟨f, fd, a, b, c, d⟩ := g.ex
  exact ⟨f, fd, a, b, c, d.mono h⟩
end Bm

set_option Elab.async false
set_option linter.all false
set_option maxRecDepth 100000
set_option maxHeartbeats 4000000
/-! the law's own numbers -/
namespace Bm
open PySem L2
abbrev sRow : Stmt := top 6
abbrev sNums : Stmt := top 7
/-- small numbers -/
def Nb (ns : List Int) : Prop := ∀ n ∈ ns, 0 ≤ n ∧ n < 1009
theorem Nb.nil : Nb [] := fun _ h => by cases h
theorem Nb.snoc {ns : List Int} {i : Int} (h : Nb ns) (hi : 0 ≤ i ∧ i < 1009) : Nb (ns ++ [i]) := fun n hn => (List.mem_append.mp hn).elim (h n) fun k => by rw [List.mem_singleton.mp k]; exact hi
theorem Nb.take {ns : List Int} (h : Nb ns) (k : Nat) : Nb (ns.take k) := fun n hn => h n (List.mem_of_mem_take hn)
theorem mod_nb (x : Int) : 0 ≤ x % 1009 ∧ x % 1009 < 1009 := ⟨Int.emod_nonneg x (by decide), Int.emod_lt_of_pos x (by decide)⟩
/-- ints of any size come back, so many -/
def spRow : Sp := fun vs H Q _ => ∃ c m : Int, vs = [.int c, .int m] ∧ 0 ≤ m ∧ m ≤ 900 ∧ ∀ p (ns : List Int) H', Same H H' → H p = none → H' p = some (.lst (ns.map V.int)) → ns.length = m.toNat → Nb ns → Q (.ref p) H'
def spNums (m : Nat) (K : PySem.W.Frag) : Sp := fun vs H Q _ => ∃ (a : Addr) (ns : List Int), vs = [.ref a, .int (m : Int)] ∧ m ≤ 400 ∧ SqL K H a (ns.map V.int) ∧ ns.length ≤ 63 ∧ ∀ p (rs : List Int) H', Same H H' → H' p = some (.lst (rs.map V.int)) → rs.length = m → Nb rs → Q (.ref p) H'
section
variable {P : Program} {w : World} {K : PySem.W.Frag} {mg : Str → Option Value} {base : Heap} {f C : Addr} {fd : FuncData}
abbrev nRow : List Str := ["cell", "many", "row", "rest", "mixed", "k"]
theorem scRow : FnScope nRow ["cell", "many"] (defScope sRow) := ⟨rfl, rfl, rfl, by decide +kernel, rfl, by decide +kernel, by decide +kernel⟩
theorem ok_row (F : Fun K "_law_row" "_law_row" sRow f fd) (mabs : mg "abs" = none) (mint : mg "int" = none) (mr : mg "range" = none) : FnOk P w K mg base CX0 1 f fd ["cell", "many"] spRow := by
  refine F.ok scRow (fun vs H Q E h => ?_) (fun cdv A outer s H vs Q E hr h => ?_)
  · obtain ⟨c, m, rfl, _⟩ := h
    rfl
  · obtain ⟨c, m, rfl, h0, h1, q⟩ := h
    refine ⟨_, pss_cons (ps_set (i := 2) scRow.nd rfl (.inl rfl) (pe_lst pa_nil))
      (pss_cons (ps_set (i := 3) scRow.nd rfl (.inl rfl) (pe_callB call_abs (by rfl) mabs (by decide +kernel) (pa_cons (pv 0) pa_nil)))
      (pss_cons (ps_set (i := 4) scRow.nd rfl (.inl rfl) (pe_op op_mod (pe_callTy call_int1 (by rfl) mint (by decide +kernel) (pa_cons (pe_op op_add (pe_op op_mul (pv 3) pe_int) pe_int) pa_nil)) pe_int))
      (pss_cons (ps_for PassesOwn.never rfl (pi_range1 (by rfl) mr (pa_cons (pv 1) pa_nil)) (pg_name (i := 5) scRow.nd rfl (.inl rfl))
        (pss_cons (ps_set (i := 4) scRow.nd rfl (.inl rfl) (pe_op op_mod (pe_callTy call_int1 (by rfl) mint (by decide +kernel) (pa_cons (pe_op op_add (pe_op op_mul (pv 4) pe_int) (pe_op op_mul pe_int (pe_op op_add (pv 5) pe_int))) pa_nil)) pe_int))
        (pss_one (ps_if (pt_cmpR op_ge (pe_callB call_abs (by rfl) mabs (by decide +kernel) (pa_cons (pv 0) pa_nil)) (pe_op op_pow pe_int pe_int) (nomark _))
          (pss_cons (ps_expr (pe_bm PySem.F.plainAttrs_list PySem.F.slot_list_append PySem.F.type_list_append mt_append (pv 2) (pa_cons (pe_op op_mod (pe_callTy call_int1 (by rfl) mint (by decide +kernel) (pa_cons (pv 3) pa_nil)) pe_int) pa_nil)))
            (pss_one (ps_set (i := 3) scRow.nd rfl (.inl rfl) (pe_op op_fdiv (pv 3) pe_int))))
          (pss_one (ps_expr (pe_bm PySem.F.plainAttrs_list PySem.F.slot_list_append PySem.F.type_list_append mt_append (pv 2) (pa_cons (pe_op op_mod (pe_callTy call_int1 (by rfl) mint (by decide +kernel) (pa_cons (pe_op op_fdiv (pv 4) pe_int) pa_nil)) pe_int) pa_nil))))))))
      (pss_one (ps_ret (pv 2)))))), ?_⟩
    refine ⟨(by show 0 ≤ sizeLine; decide), fun D hD => ?_⟩
    refine ⟨_, rfl, _, rfl, _, rfl, _, _, rfl, rfl, .inr ⟨by decide, by decide⟩, _, _, rfl, rfl, .inl ⟨_, rfl, _, _, rfl, rfl, (by show (0 : Int) < 2147483647; decide), ?_⟩⟩
    refine ⟨_, rfl, m, rfl, by omega, by omega, for_range (lo := 0) (n := m.toNat) (fun i σ H' => ∃ rest mixed k5, σ = [some (.int c), some (.int m), some (.ref D), some (.int rest), some (.int mixed), k5] ∧ Same H H' ∧ ∃ ns : List Int, ns.length = i ∧ Nb ns ∧ H' D = some (.lst (ns.map V.int)))
      ⟨_, _, none, rfl, same_new hD _, [], rfl, Nb.nil, upd_same⟩ ?_ ?_⟩
    · rintro i σ H2 hi ⟨rest, mixed, k5, rfl, s2, ns, hn, hb, hD2⟩
      refine ⟨_, rfl, _, _, rfl, rfl, .inr ⟨by decide, by decide⟩, _, rfl, _, _, rfl, rfl, _, _, rfl, rfl, .inl ⟨by decide, by decide⟩, _, _, rfl, rfl, .inl ⟨_, rfl, _, _, rfl, rfl, (by show (0 : Int) < 2147483629; decide), ?_⟩⟩
      have hz : (ns.map V.int).length < sizeLine := small1000 (by rw [List.length_map]; omega)
      refine ⟨_, rfl, _, rfl, _, _, rfl, rfl, ⟨by decide, by decide, by decide⟩, _, _, rfl, rfl, _, rfl, ite2 (fun _ => ?_) (fun _ => ?_)⟩
      · refine ⟨_, rfl, .inl ⟨rfl, _, SqL.of hD2⟩, _, rfl, .inl ⟨_, rfl, _, _, rfl, rfl, (by show (0 : Int) < 1009; decide), D, _, _, rfl, rfl, hD2, hz, ?_⟩⟩
        rw [map_snoc]
        refine ⟨_, rfl, _, _, rfl, rfl, ⟨by decide, by decide⟩, ?_⟩
        exact ⟨_, _, _, rfl, same_set s2 hD, _, by rw [List.length_append, hn]; rfl, hb.snoc (mod_nb _), upd_same⟩
      · refine ⟨_, rfl, .inl ⟨rfl, _, SqL.of hD2⟩, _, rfl, _, _, rfl, rfl, ⟨by decide, by decide⟩, .inl ⟨_, rfl, _, _, rfl, rfl, (by show (0 : Int) < 1009; decide), D, _, _, rfl, rfl, hD2, hz, ?_⟩⟩
        rw [map_snoc]
        exact ⟨_, _, _, rfl, same_set s2 hD, _, by rw [List.length_append, hn]; rfl, hb.snoc (mod_nb _), upd_same⟩
    · rintro σ H2 ⟨rest, mixed, k5, rfl, s2, ns, hn, hb, hD2⟩
      exact ⟨_, rfl, q D ns H2 s2 hD hD2 hn hb⟩
theorem cut_ints (ns : List Int) (h : Nat) : cutV (ns.map V.int) none (some (h : Int)) = (ns.take h).map V.int := by
  unfold cutV
  rw [HT.sIx_none, HT.sIx_nat, List.drop_zero, Nat.sub_zero, List.map_take]
  by_cases hh : h ≤ (ns.map V.int).length
  · rw [Nat.min_eq_left hh]
  · rw [Nat.min_eq_right (by omega), List.take_length, List.take_of_length_le (by omega)]
abbrev nNums : List Str := ["script", "many", "cells", "each", "numbers", "cell", "number"]
theorem scNums : FnScope nNums ["script", "many"] (defScope sNums) := ⟨rfl, rfl, rfl, by decide +kernel, rfl, by decide +kernel, by decide +kernel⟩
theorem ok_nums {m k : Nat} (hk : 1 ≤ k) (F : Fun K "_law_numbers" "_law_numbers" sNums f fd) (gR : Cal P w K mg base CX0 1 "_law_row" ["cell", "many"] spRow) (mmax : mg "max" = none) (ml : mg "len" = none) : FnOk P w K mg base CX0 2 f fd ["script", "many"] (spNums m K) := by
  refine F.ok scNums (fun vs H Q E h => ?_) (fun cdv A outer s H vs Q E hr h => ?_)
  · obtain ⟨a, ns, rfl, _⟩ := h
    rfl
  · obtain ⟨a, ns, rfl, hm4, ha, hlen, q⟩ := h
    refine ⟨_, pss_cons (ps_set (i := 2) scNums.nd rfl (.inl rfl) (pe_slice sl_list (pv 0) po_none (po_some pe_int)))
      (pss_cons (ps_set (i := 3) scNums.nd rfl (.inl rfl) (pe_op op_add pe_int (pe_op op_fdiv (pv 1) (pe_callB (call_max2 rfl) (by rfl) mmax (by decide +kernel) (pa_cons pe_int (pa_cons (pe_callB call_len (by rfl) ml boot_len (pa_cons (pv 2) pa_nil)) pa_nil))))))
      (pss_cons (ps_set (i := 4) scNums.nd rfl (.inl rfl) (pe_lst pa_nil))
      (pss_cons (ps_for PassesOwn.never rfl (pi_list (pv 2)) (pg_name (i := 5) scNums.nd rfl (.inl rfl))
        (pss_one (ps_for PassesOwn.never rfl (pi_list (pe_cal gR (hr.mono (by decide)) pass0 (pa_cons (pv 5) (pa_cons (pv 3) pa_nil)))) (pg_name (i := 6) scNums.nd rfl (.inl rfl))
          (pss_one (ps_expr (pe_bm PySem.F.plainAttrs_list PySem.F.slot_list_append PySem.F.type_list_append mt_append (pv 4) (pa_cons (pv 6) pa_nil)))))))
      (pss_cons (ps_while PassesOwn.never (pt_cmpR op_lt (pe_callB call_len (by rfl) ml boot_len (pa_cons (pv 4) pa_nil)) (pv 1) (nomark _))
        (pss_one (ps_expr (pe_bm PySem.F.plainAttrs_list PySem.F.slot_list_append PySem.F.type_list_append mt_append (pv 4) (pa_cons pe_int pa_nil)))))
      (pss_one (ps_ret (pe_slice sl_list (pv 4) po_none (po_some (pv 1))))))))), ?_⟩
    refine ⟨_, rfl, 63, rfl, a, _, rfl, ha, fun pc hpc => ?_⟩
    rw [show ((63 : Int) = ((63 : Nat) : Int)) from rfl, cut_ints]
    have lc : (ns.take 63).length ≤ 63 := by rw [List.length_take]; omega
    generalize hcs : ns.take 63 = cs at lc ⊢
    have s1 := same_new hpc (.lst (cs.map V.int))
    have hc1 : upd H pc (.lst (cs.map V.int)) pc = some (.lst (cs.map V.int)) := upd_same
    generalize upd H pc _ = H1 at s1 hc1 ⊢
    refine ⟨_, rfl, _, rfl, _, _, rfl, .inl ⟨_, SqL.of hc1, rfl⟩, _, _, rfl, ?_⟩
    rw [List.length_map]
    have hmx : (1 : Int) ≤ (if (cs.length : Int) > 1 then (cs.length : Int) else 1) ∧ (if (cs.length : Int) > 1 then (cs.length : Int) else 1) ≤ 63 := by split <;> omega
    generalize hmm : (if (cs.length : Int) > 1 then (cs.length : Int) else 1) = mx at hmx
    have he : (1 : Int) ≤ 1 + (m : Int) / mx ∧ 1 + (m : Int) / mx ≤ (m : Int) + 1 := by
      have h1 : (0 : Int) ≤ (m : Int) / mx := Int.ediv_nonneg (by omega) (by omega)
      have h2 : (m : Int) / mx ≤ (m : Int) := Int.ediv_le_self _ (by omega)
      omega
    refine ⟨_, _, rfl, rfl, ⟨by omega, by omega⟩, _, _, rfl, rfl, ?_⟩
    refine ⟨(by show 0 ≤ sizeLine; decide), fun D hD => ?_⟩
    have zz : ∀ n : Nat, n ≤ 27000 → n < sizeLine := fun n h => Nat.lt_of_le_of_lt h (by decide)
    refine ⟨_, rfl, pc, rfl, ⟨_, SqL.of (same_new hD (.lst []) _ _ hc1)⟩, for_list (K := K) (a := pc) (xs := cs.map V.int) (fun i σ H' => ∃ i5 i6, σ = [some (.ref a), some (.int (m : Int)), some (.ref pc), some (.int (1 + (m : Int) / mx)), some (.ref D), i5, i6] ∧ Same H1 H' ∧ ∃ ms : List Int, ms.length ≤ i * (m + 1) ∧ Nb ms ∧ H' D = some (.lst (ms.map V.int)))
      ⟨none, none, rfl, same_new hD _, [], Nat.zero_le _, Nb.nil, upd_same⟩ (fun i σ H' _ z => by obtain ⟨_, _, _, z, _⟩ := z; exact SqL.of (z _ _ hc1)) ?_ ?_⟩
    · rintro i v σ H2 hi ⟨i5, i6, rfl, s2, ms, hm, hb, hD2⟩
      have hil : i < (cs.map V.int).length := (List.getElem?_eq_some_iff.mp hi).1
      rw [List.length_map] at hil
      have nl : i * (m + 1) ≤ 62 * 401 := Nat.mul_le_mul (by omega) (by omega)
      have nl2 : (i + 1) * (m + 1) = i * (m + 1) + (m + 1) := Nat.succ_mul _ _
      obtain ⟨z, rfl⟩ : ∃ z, v = V.int z := by
        rw [List.getElem?_map] at hi
        cases e : cs[i]? with
        | none => rw [e] at hi; cases hi
        | some z => rw [e] at hi; exact ⟨z, (Option.some.inj hi).symm⟩
      refine ⟨_, rfl, _, rfl, z, _, rfl, by omega, by omega, fun pr rs H3 s3 hnew hr3 hrl hrb => ?_⟩
      refine ⟨pr, rfl, ⟨_, SqL.of hr3⟩, for_list (K := K) (a := pr) (xs := rs.map V.int) (fun j σ H' => ∃ i6, σ = [some (.ref a), some (.int (m : Int)), some (.ref pc), some (.int (1 + (m : Int) / mx)), some (.ref D), some (.int z), i6] ∧ Same H1 H' ∧ H' pr = some (.lst (rs.map V.int)) ∧ pr ≠ D ∧ ∃ ms : List Int, ms.length ≤ i * (m + 1) + j ∧ Nb ms ∧ H' D = some (.lst (ms.map V.int)))
        ⟨_, rfl, s2.trans s3, hr3, ?_, ms, by omega, hb, s3 _ _ hD2⟩ (fun j σ H' _ z => by obtain ⟨_, _, _, z, _⟩ := z; exact SqL.of z) ?_ ?_⟩
      · exact fun z => ne_of_none hD2 hnew z.symm
      · rintro j v σ H4 hj ⟨i6, rfl, s4, hr4, ne, ms', hm', hb', hD4⟩
        have hjl : j < (rs.map V.int).length := (List.getElem?_eq_some_iff.mp hj).1
        rw [List.length_map] at hjl
        obtain ⟨y, rfl, hy⟩ : ∃ z, v = V.int z ∧ (0 ≤ z ∧ z < 1009) := by
          rw [List.getElem?_map] at hj
          cases e : rs[j]? with
          | none => rw [e] at hj; cases hj
          | some z => rw [e] at hj; exact ⟨z, (Option.some.inj hj).symm, hrb z (List.mem_of_getElem? e)⟩
        refine ⟨_, rfl, .inl ⟨rfl, _, SqL.of hD4⟩, _, rfl, D, _, _, rfl, rfl, hD4, zz _ (by rw [List.length_map]; omega), ?_⟩
        rw [map_snoc]
        exact ⟨_, rfl, same_set s4 hD, by rw [upd_ne ne]; exact hr4, ne, _, by rw [List.length_append]; simp; omega, hb'.snoc hy, upd_same⟩
      · rintro σ H4 ⟨i6, rfl, s4, hr4, ne, ms', hm', hb', hD4⟩
        rw [List.length_map] at hm'
        exact ⟨_, _, rfl, s4, ms', by omega, hb', hD4⟩
    · rintro σ H2 ⟨i5, i6, rfl, s2, ms, hm, hb, hD2⟩
      rw [List.length_map] at hm
      have nl : cs.length * (m + 1) ≤ 63 * 401 := Nat.mul_le_mul (by omega) (by omega)
      refine ⟨fun mm σ H' => σ = [some (.ref a), some (.int (m : Int)), some (.ref pc), some (.int (1 + (m : Int) / mx)), some (.ref D), i5, i6] ∧ Same H1 H' ∧ ∃ ms : List Int, ms.length ≤ 25500 ∧ mm = m - ms.length ∧ Nb ms ∧ H' D = some (.lst (ms.map V.int)), ⟨_, rfl, s2, ms, by omega, rfl, hb, hD2⟩, ?_⟩
      rintro mm σ H3 ⟨rfl, s3, ms', hm', rfl, hb', hD3⟩
      refine ⟨_, rfl, _, _, rfl, .inl ⟨_, SqL.of hD3, rfl⟩, _, rfl, _, _, rfl, rfl, _, rfl, ite2 (fun e => ?_) (fun e => ?_)⟩
      · have e := of_decide_eq_true e
        rw [List.length_map] at e
        refine ⟨_, fun σ' H' z => z, ?_⟩
        refine ⟨_, rfl, .inl ⟨rfl, _, SqL.of hD3⟩, D, _, _, rfl, rfl, hD3, zz _ (by rw [List.length_map]; omega), ?_⟩
        rw [show ms'.map V.int ++ [V.int 0] = (ms' ++ [0]).map V.int from map_snoc _ _]
        exact ⟨m - (ms' ++ [0]).length, by rw [List.length_append]; simp; omega, rfl, same_set s3 hD, _, by rw [List.length_append]; simp; omega, rfl, hb'.snoc ⟨by decide, by decide⟩, upd_same⟩
      · have e : ¬ _ := fun z => e (decide_eq_true z)
        rw [List.length_map] at e
        refine ⟨_, rfl, _, rfl, (m : Int), rfl, D, _, rfl, SqL.of hD3, fun r hr4 => ?_⟩
        rw [cut_ints]
        exact q r (ms'.take m) _ (s1.trans (s3.trans (same_new hr4 _))) upd_same (by rw [List.length_take]; omega) (hb'.take _)
end
end Bm

set_option Elab.async false
set_option linter.all false
set_option maxRecDepth 100000
set_option maxHeartbeats 8000000
/-! the names -/
namespace Bm
open PySem L2
abbrev sNames : Stmt := top 8
theorem joinL_nil : ∀ ps : List (List Nat), TL.joinL [] ps = ps.flatten
  | [] => rfl
  | [p] => by simp [TL.joinL]
  | p :: q :: r => by rw [TL.joinL, joinL_nil (q :: r)]; simp
theorem join0_tl (ys : List Str) : (Txt.join "" ys).cps.toList = (ys.map fun z => z.cps.toList).flatten := by
  rw [← joinL_nil]
  show TL.tl (Txt.join "" ys) = _
  rw [TL.join_eq, TL.tl_join, show TL.tl ("" : Str) = [] from by decide +kernel]
/-- the k-th name: c the number, own the rest or the rest less its first sign -/
structure IsNm (c : Int) (own : List Nat) (p : Nat) (k : Nat) (z : Str) : Prop where
  e : ∃ a b, z.cps.toList = a :: (own.take p ++ b :: own.drop p) ∧ chs.cps.toList[((c + 3 * (k : Int)) % 26).toNat]? = some a ∧ chs.cps.toList[((c + 5 * (k : Int)) % 36).toNat]? = some b ∧ isLetter a = true ∧ isSign b = true
def ownOf (rest : List Nat) (c : Int) (k : Nat) : List Nat := if (c / 121 + (k : Int)) % 3 = 0 then rest.drop 1 else rest
theorem nm_ok {c : Int} {own : List Nat} {p k : Nat} {z : Str} (h : IsNm c own p k z) (hl : own.length ≤ 10) (hs : own.all isSign = true) : isName z = true := by
  obtain ⟨a, b, e, _, _, ha, hb⟩ := h.e
  unfold isName
  have sa : isSign a = true := by rw [isSign, ha]; rfl
  have tl := List.take_append_drop p own
  rw [← tl, List.all_append, Bool.and_eq_true] at hs
  rw [e, nameOk, decide_eq_true (by rw [List.length_append, List.length_cons, List.length_take, List.length_drop]; omega), ha, List.all_cons, sa, List.all_append, hs.1, List.all_cons, hb, hs.2]
  rfl
theorem ch_inj (x y : Int) (m : Int) (q : Nat) (h0 : 0 < m) (h36 : m ≤ 36) (h1 : chs.cps.toList[(x % m).toNat]? = some q) (h2 : chs.cps.toList[(y % m).toNat]? = some q) : x % m = y % m := by
  have z1 := Int.emod_nonneg x (show m ≠ 0 by omega)
  have z2 := Int.emod_lt_of_pos x h0
  have z3 := Int.emod_nonneg y (show m ≠ 0 by omega)
  have z4 := Int.emod_lt_of_pos y h0
  have hlt : (x % m).toNat < chs.cps.toList.length := by rw [chs_len]; omega
  have := (List.getElem?_inj hlt chs_nodup).mp (h1.trans h2.symm)
  omega
theorem nm_ne {c : Int} {rest : List Nat} {pl i j : Nat} {z y : Str} (hi : IsNm c (ownOf rest c i) (min pl (ownOf rest c i).length) i z) (hj : IsNm c (ownOf rest c j) (min pl (ownOf rest c j).length) j y) (hij : i < j) (hj28 : j < 28) : z ≠ y := by
  intro ez
  obtain ⟨a, b, e, ha, hb, _, _⟩ := hi.e
  obtain ⟨a', b', e', ha', hb', _, _⟩ := hj.e
  rw [ez, e'] at e
  injection e with e1 e2
  have l2 := congrArg List.length e2
  simp only [List.length_append, List.length_cons, List.length_take, List.length_drop] at l2
  have m26 := ch_inj _ _ 26 a (by decide) (by decide) ha (e1 ▸ ha')
  have ji : j = i + 26 := by omega
  have eo : ownOf rest c j = ownOf rest c i := by
    unfold ownOf at l2 ⊢
    split
    · split
      · rfl
      · rename_i h1 h2
        rw [if_pos h1, if_neg h2, List.length_drop] at l2
        have : rest.length = 0 := by omega
        rw [List.length_eq_zero_iff.mp this]; rfl
    · split
      · rename_i h1 h2
        rw [if_neg h1, if_pos h2, List.length_drop] at l2
        have : rest.length = 0 := by omega
        rw [List.length_eq_zero_iff.mp this]; rfl
      · rfl
  rw [eo] at e2
  have e3 := List.append_cancel_left e2
  injection e3 with e4 _
  have m36 := ch_inj _ _ 36 b (by decide) (by decide) hb (e4 ▸ hb')
  omega
def spNames : Sp := fun vs H Q _ => ∃ (c : Int) (m : Nat), vs = [.int c, .int (m : Int)] ∧ m ≤ 28 ∧ ∀ p (zs : List Str) H', Same H H' → H p = none → H' p = some (.lst (zs.map V.str)) → zs.length = m → zs.Nodup → (∀ z ∈ zs, isName z = true ∧ 2 ≤ z.length) → (∀ (i j : Nat) (z y : Str), zs[i]? = some z → zs[j]? = some y → i < j → j < i + 26 → z.cps.toList.head? ≠ y.cps.toList.head?) → Q (.ref p) H'
section
variable {P : Program} {w : World} {K : PySem.W.Frag} {mg : Str → Option Value} {base : Heap} {f : Addr} {fd : FuncData}
abbrev nNames : List Str := ["number", "many", "letters", "size", "k", "rest", "place", "names", "own", "spot"]
theorem scNames : FnScope nNames ["number", "many"] (defScope sNames) := ⟨rfl, rfl, rfl, by decide +kernel, rfl, by decide +kernel, by decide +kernel⟩
theorem ok_names (F : Fun K "_law_names" "_law_names" sNames f fd) (ml : mg "len" = none) (mr : mg "range" = none) (mint : mg "int" = none) (mmin : mg "min" = none) : FnOk P w K mg base CX0 1 f fd ["number", "many"] spNames := by
  refine F.ok scNames (fun vs H Q E h => ?_) (fun cdv A outer s H vs Q E hr h => ?_)
  · obtain ⟨c, m, rfl, _⟩ := h
    rfl
  · obtain ⟨c, m, rfl, hm, q⟩ := h
    refine ⟨_, (pss_cons (ps_set (i := 2) scNames.nd rfl (.inr rfl) pe_str)
      (pss_cons (ps_set (i := 3) scNames.nd rfl (.inl rfl) (pe_op op_mod (pe_callTy (r := rInt1) call_int1 (by rfl) mint (by decide +kernel) (pa_cons (pv 0) pa_nil)) pe_int))
      (pss_cons (ps_set (i := 5) scNames.nd rfl (.inl rfl) (pe_join pe_str (pe_lc (own := [("k", 4)]) (g := gName 4) (tt := tYes) rfl scNames.nd (pi_range1 (by rfl) mr (pa_cons (pv 3) pa_nil)) (blkOk_by (own := [("k", 4)]) (N := nNames) (sc := defScope sNames) (by decide +kernel)) (fun _ _ _ _ _ => pg_name (i := 4) scNames.nd rfl (Or.inl rfl)) (fun _ _ _ _ _ => pts_nil) (fun _ _ _ _ _ => (pe_ix ix_str (pv 2) (pe_op op_mod (pe_callTy (r := rInt1) call_int1 (by rfl) mint (by decide +kernel) (pa_cons (pe_op op_add (pv 0) (pe_op op_mul (pe_op op_mul pe_int (pv 4)) (pv 4))) pa_nil)) pe_int) (fun _ _ => rfl))))))
      (pss_cons (ps_set (i := 6) scNames.nd rfl (.inl rfl) (pe_op op_mod (pe_callTy (r := rInt1) call_int1 (by rfl) mint (by decide +kernel) (pa_cons (pe_op op_fdiv (pv 0) pe_int) pa_nil)) (pe_op op_add (pv 3) pe_int)))
      (pss_cons (ps_set (i := 7) scNames.nd rfl (.inl rfl) (pe_lst pa_nil))
      (pss_cons (ps_for PassesOwn.never rfl (pi_range1 (by rfl) mr (pa_cons (pv 1) pa_nil)) (pg_name (i := 4) scNames.nd rfl (.inl rfl))
      (pss_cons (ps_set (i := 8) scNames.nd rfl (.inl rfl) (pv 5))
      (pss_cons (ps_if (pt_cmpR op_eq (pe_op op_mod (pe_callTy (r := rInt1) call_int1 (by rfl) mint (by decide +kernel) (pa_cons (pe_op op_add (pe_op op_fdiv (pv 0) pe_int) (pv 4)) pa_nil)) pe_int) pe_int (nomark _)) (pss_one (ps_set (i := 8) scNames.nd rfl (.inl rfl) (pe_slice sl_str (pv 5) (po_some pe_int) po_none))) pss_nil)
      (pss_cons (ps_set (i := 9) scNames.nd rfl (.inl rfl) (pe_callB (call_min2 rfl) (by rfl) mmin (by decide +kernel) (pa_cons (pv 6) (pa_cons (pe_callB call_len_str (by rfl) ml boot_len (pa_cons (pv 8) pa_nil)) pa_nil))))
      (pss_one (ps_expr (pe_bm PySem.F.plainAttrs_list PySem.F.slot_list_append PySem.F.type_list_append mt_append (pv 7) (pa_cons (pe_op op_add_str (pe_op op_add_str (pe_op op_add_str (pe_ix ix_str (pv 2) (pe_op op_mod (pe_callTy (r := rInt1) call_int1 (by rfl) mint (by decide +kernel) (pa_cons (pe_op op_add (pv 0) (pe_op op_mul pe_int (pv 4))) pa_nil)) pe_int) (fun _ _ => rfl)) (pe_slice sl_str (pv 8) po_none (po_some (pv 9)))) (pe_ix ix_str (pv 2) (pe_op op_mod (pe_callTy (r := rInt1) call_int1 (by rfl) mint (by decide +kernel) (pa_cons (pe_op op_add (pv 0) (pe_op op_mul pe_int (pv 4))) pa_nil)) pe_int) (fun _ _ => rfl))) (pe_slice sl_str (pv 8) (po_some (pv 9)) po_none)) pa_nil))))))))
      (pss_one (ps_ret (pv 7))))))))), ?_⟩
    have zz : ∀ n : Nat, n ≤ 2000 → n ≤ sizeLine := fun n h => Nat.le_trans h (by decide)
    obtain ⟨sz, hsz⟩ := Int.eq_ofNat_of_zero_le (Int.emod_nonneg c (show (11 : Int) ≠ 0 by decide))
    have hsz1 : sz ≤ 10 := by have := Int.emod_lt_of_pos c (show (0 : Int) < 11 by decide); omega
    refine ⟨_, rfl, .inl ⟨_, rfl, _, _, rfl, rfl, (by show (0 : Int) < 11; decide), ?_⟩⟩
    dsimp only
    rw [hsz]
    refine seq_asg ?_
    refine ⟨⟨_, rfl⟩, _, rfl, (sz : Int), rfl, by omega, by omega, fun L hL => lc_range (lo := 0) (n := sz) (fun i H1 => ∃ ys : List Str, H1 L = some (.lst (ys.map V.str)) ∧ Same H H1 ∧ ys.length = i ∧ ∀ y ∈ ys, ∃ ch, y.cps.toList = [ch] ∧ isSign ch = true)
      ⟨[], upd_same, same_new hL _, rfl, fun y hy => by cases hy⟩ ?_ ?_⟩
    · rintro i H1 hi ⟨ys, hys, s1, hyl, hya⟩
      obtain ⟨ch, hc, _, sc, _⟩ := ch_at ((c + 7 * (0 + (i : Int)) * (0 + (i : Int))) % 36) (Int.emod_nonneg _ (by decide)) (Int.emod_lt_of_pos _ (by decide))
      refine ⟨rfl, yes_go ?_⟩
      refine ⟨_, rfl, _, rfl, _, rfl, _, _, rfl, rfl, .inl ⟨by decide, by decide⟩, _, rfl, _, _, rfl, rfl, .inr ⟨by omega, by omega⟩, _, _, rfl, rfl, .inl ⟨_, rfl, _, _, rfl, rfl, (by show (0 : Int) < 36; decide), _, _, ch, rfl, rfl, by decide +kernel, hc, ?_⟩⟩
      refine ⟨_, hys, small1000 (by rw [List.length_map]; omega), ys ++ [⟨#[ch]⟩], by rw [upd_same, List.map_append]; rfl, same_set s1 hL, by rw [List.length_append, hyl]; rfl, fun y hy => ?_⟩
      rcases List.mem_append.mp hy with hy | hy
      · exact hya y hy
      · rw [List.mem_singleton.mp hy]; exact ⟨ch, rfl, sc⟩
    rintro H1 ⟨ys, hys, s1, hyl, hya⟩
    have one : ∀ (l : List Str), (∀ y ∈ l, ∃ ch, y.cps.toList = [ch] ∧ isSign ch = true) → ((l.map fun z => z.cps.toList).flatten).length = l.length ∧ ((l.map fun z => z.cps.toList).flatten).all isSign = true ∧ (l.map (·.length)).sum = l.length := fun l => by
      induction l with
      | nil => exact fun _ => ⟨rfl, rfl, rfl⟩
      | cons y r ih =>
        intro hl
        obtain ⟨h1, h2, h3⟩ := ih fun z hz => hl z (List.mem_cons_of_mem _ hz)
        obtain ⟨ch, e, sc⟩ := hl y (List.mem_cons_self ..)
        have ly : y.length = 1 := by rw [slen_tl, e]; rfl
        refine ⟨by simp only [List.map_cons, List.flatten_cons, List.length_append, e, h1, List.length_cons, List.length_nil]; omega, by simp only [List.map_cons, List.flatten_cons, List.all_append, e, h2, List.all_cons, sc, List.all_nil]; rfl, by simp only [List.map_cons, List.sum_cons, h3, List.length_cons, ly]; omega⟩
    obtain ⟨o1, o2, o3⟩ := one ys hya
    refine ⟨_, L, ys, rfl, rfl, .inl (SqL.of hys), ?_, ?_⟩
    · rw [o3, show ("" : Str).length = 0 from by decide +kernel]; omega
    rw [← join0_tl] at o1 o2
    generalize Txt.join "" ys = rest at o1 o2 ⊢
    have rl : rest.length = sz := by rw [slen_tl, o1, hyl]
    clear one hya hys o3 hL
    -- place
    refine ⟨_, rfl, _, _, rfl, rfl, ⟨by decide, by decide⟩, .inl ⟨_, rfl, _, rfl, _, _, rfl, rfl, _, _, rfl, rfl, (by show (0 : Int) < (sz : Int) + 1; omega), ?_⟩⟩
    obtain ⟨pl, hpl⟩ := Int.eq_ofNat_of_zero_le (Int.emod_nonneg (c / 11) (show (sz : Int) + 1 ≠ 0 by omega))
    dsimp only
    rw [hpl]
    refine seq_asg ?_
    refine ⟨(by show 0 ≤ sizeLine; decide), fun D hD => ?_⟩
    refine ⟨_, rfl, (m : Int), rfl, by omega, by omega, for_range (lo := 0) (n := m) (fun i σ H' => ∃ k4 own8 spot9, σ = [some (.int c), some (.int (m : Int)), some (.str chs), some (.int (sz : Int)), k4, some (.str rest), some (.int (pl : Int)), some (.ref D), own8, spot9] ∧ Same H1 H' ∧ ∃ zs : List Str, H' D = some (.lst (zs.map V.str)) ∧ zs.length = i ∧
      ∀ (j : Nat) (z : Str), zs[j]? = some z → IsNm c (ownOf rest.cps.toList c j) (min pl (ownOf rest.cps.toList c j).length) j z) ⟨none, none, none, rfl, same_new hD _, [], upd_same, rfl, fun j z hz => by simp at hz⟩ ?_ ?_⟩
    · rintro i σ H2 hi ⟨k4, own8, spot9, rfl, s2, zs, hzs, hzl, hza⟩
      refine ⟨_, rfl, g_nx ?_⟩
      dsimp only
      refine with_rest (fun σ Hx => ∃ own : Str, σ = [some (.int c), some (.int (m : Int)), some (.str chs), some (.int (sz : Int)), some (.int (0 + (i : Int))), some (.str rest), some (.int (pl : Int)), some (.ref D), some (.str own), spot9] ∧ Hx = H2 ∧ own.cps.toList = ownOf rest.cps.toList c i) ?_ fun go => ?_
      rotate_left
      · refine ⟨_, rfl, _, _, rfl, rfl, ⟨by decide, by decide⟩, _, rfl, _, _, rfl, rfl, .inl ⟨_, rfl, _, _, rfl, rfl, (by show (0 : Int) < 3; decide), rfl, _, rfl, ite2 (fun e => ?_) (fun e => ?_)⟩⟩
        · have e : (c / 121 + (0 + (i : Int))) % 3 = 0 := V.int.inj (of_decide_eq_true e)
          refine ⟨_, rfl, 1, rfl, rest, rfl, zz _ (by omega), ?_⟩
          refine go _ _ ⟨_, rfl, rfl, ?_⟩
          rw [show (1 : Int) = ((1 : Nat) : Int) from rfl, cutS_from, ownOf, if_pos (by omega)]
        · have e : ¬ (c / 121 + (0 + (i : Int))) % 3 = 0 := fun z => e (decide_eq_true (by show V.int ((c / 121 + (0 + (i : Int))) % 3) = _; rw [z]))
          exact go _ _ ⟨_, rfl, rfl, by rw [ownOf, if_neg (by omega)]⟩
      rintro σ Hx ⟨own, rfl, rfl, how⟩
      have ol : own.length ≤ 10 := by
        rw [slen_tl, how, ownOf]
        split
        · rw [List.length_drop, ← slen_tl]; omega
        · rw [← slen_tl]; omega
      refine ⟨_, rfl, _, rfl, own, rfl, zz _ (by omega), _, _, rfl, ?_⟩
      have esp : (if (own.length : Int) < (pl : Int) then (own.length : Int) else (pl : Int)) = ((min pl own.length : Nat) : Int) := by split <;> omega
      rw [esp]
      generalize hsp : min pl own.length = sp
      obtain ⟨a, ha, ha2, sa, la0⟩ := ch_at ((c + 3 * (0 + (i : Int))) % 26) (Int.emod_nonneg _ (by decide)) (by have := Int.emod_lt_of_pos (c + 3 * (0 + (i : Int))) (show (0 : Int) < 26 by decide); omega)
      have la := la0 (Int.emod_lt_of_pos _ (by decide))
      obtain ⟨b, hb, hb2, sb, _⟩ := ch_at ((c + 5 * (0 + (i : Int))) % 36) (Int.emod_nonneg _ (by decide)) (Int.emod_lt_of_pos _ (by decide))
      have lt := cutS_to own sp
      have lf := cutS_from own sp
      have l1 : (cutS own none (some (sp : Int))).length ≤ 10 := by rw [slen_tl, lt, List.length_take, ← slen_tl]; omega
      have l2 : (cutS own (some (sp : Int)) none).length ≤ 10 := by rw [slen_tl, lf, List.length_drop, ← slen_tl]; omega
      refine ⟨_, rfl, .inl ⟨rfl, _, SqL.of hzs⟩, _, rfl, _, rfl, _, rfl, _, _, rfl, rfl, .inl ⟨by decide, by decide⟩, _, _, rfl, rfl, .inl ⟨_, rfl, _, _, rfl, rfl, (by show (0 : Int) < 26; decide), _, _, a, rfl, rfl, by decide +kernel, ha, _, rfl, _, rfl, _, rfl, own, rfl, zz _ (by omega), _, _, rfl, rfl, zz _ (by show 1 + _ ≤ 2000; omega), ?_⟩⟩
      refine ⟨_, rfl, _, rfl, _, rfl, _, _, rfl, rfl, .inl ⟨by decide, by decide⟩, _, _, rfl, rfl, .inl ⟨_, rfl, _, _, rfl, rfl, (by show (0 : Int) < 36; decide), _, _, b, rfl, rfl, by decide +kernel, hb, _, _, rfl, rfl, zz _ (by rw [slen0]; show 1 + _ + 1 ≤ 2000; omega), ?_⟩⟩
      refine ⟨_, rfl, _, rfl, _, rfl, own, rfl, zz _ (by omega), _, _, rfl, rfl, zz _ (by rw [slen0, slen0]; show 1 + _ + 1 + _ ≤ 2000; omega), ?_⟩
      refine ⟨D, _, _, rfl, rfl, hzs, small1000 (by rw [List.length_map]; omega), ?_⟩
      refine ⟨_, _, _, rfl, same_set s2 hD, zs ++ [(⟨#[a]⟩ : Str) ++ cutS own none (some (sp : Int)) ++ (⟨#[b]⟩ : Str) ++ cutS own (some (sp : Int)) none], by rw [upd_same, List.map_append]; rfl, by rw [List.length_append, hzl]; rfl, fun j z hz => ?_⟩
      by_cases hj : j < zs.length
      · rw [List.getElem?_append_left hj] at hz
        exact hza j z hz
      · rw [List.getElem?_append_right (by omega)] at hz
        have hj0 : j - zs.length = 0 := by
          apply Decidable.byContradiction
          intro k
          rw [List.getElem?_eq_none (by rw [List.length_singleton]; omega)] at hz
          cases hz
        rw [hj0] at hz
        have hz := Option.some.inj hz
        have ej : j = i := by omega
        subst ej
        rw [Int.zero_add] at ha2 hb2
        refine ⟨a, b, ?_, ha2, hb2, la, sb⟩
        rw [← how, ← slen_tl, hsp, ← hz, str_app, str_app, str_app, lt, lf]
        simp
    rintro σ H2 ⟨k4, own8, spot9, rfl, s2, zs, hzs, hzl, hza⟩
    have rest10 : ∀ k, (ownOf rest.cps.toList c k).length ≤ 10 ∧ (ownOf rest.cps.toList c k).all isSign = true := fun k => by
      unfold ownOf
      split
      · refine ⟨by rw [List.length_drop, ← slen_tl]; omega, ?_⟩
        rw [List.all_eq_true] at o2 ⊢
        exact fun x hx => o2 x (List.mem_of_mem_drop hx)
      · exact ⟨by rw [← slen_tl]; omega, o2⟩
    refine ⟨_, rfl, q D zs H2 (s1.trans s2) (s1.free hD) hzs hzl ?_ ?_ ?_⟩
    · refine List.pairwise_iff_getElem.mpr fun i j hi hj hij => ?_
      exact nm_ne (hza i _ (List.getElem?_eq_getElem hi)) (hza j _ (List.getElem?_eq_getElem hj)) hij (by omega)
    · intro z hz
      obtain ⟨j, hj, e⟩ := List.mem_iff_getElem.mp hz
      have hz := hza j z (by rw [List.getElem?_eq_getElem hj, e])
      refine ⟨nm_ok hz (rest10 j).1 (rest10 j).2, ?_⟩
      obtain ⟨a, b, e, _⟩ := hz.e
      rw [slen_tl, e]
      simp only [List.length_cons, List.length_append]
      omega
    · intro i j z y hi hj hij h26 e
      obtain ⟨a, b, ea, ha, _⟩ := (hza i z hi).e
      obtain ⟨a', b', ea', ha', _⟩ := (hza j y hj).e
      rw [ea, ea'] at e
      simp only [List.head?_cons, Option.some.injEq] at e
      subst e
      have := ch_inj _ _ 26 a (by decide) (by decide) ha ha'
      omega
end
end Bm

set_option Elab.async false
set_option linter.all false
set_option maxRecDepth 100000
set_option maxHeartbeats 4000000
/-! items of the later laws: blocks hold plain items alone -/
namespace Bm
open PySem L2
inductive Sm where
  | num (n : Str) (size : Int) (order : Str) (low high : Int)
  | byt (n : Str) (amt : Key)
  | txt (n : Str) (stop most : Int)
  | chk (n : Str) (m : Int)
  | pad (n : Str) (m b : Int)
inductive I2 where
  | sm (x : Sm)
  | rep (n : Str) (amt : Key) (b : List Sm)
  | eit (n : Str) (bs : List (List Sm))
  | swi (n t : Str) (cs : List (Int × List Sm))
def Sm.name : Sm → Str
  | .num n .. => n | .byt n .. => n | .txt n .. => n | .chk n .. => n | .pad n .. => n
def Sm.kind : Sm → Str
  | .num .. => "number" | .byt .. => "bytes" | .txt .. => "text" | .chk .. => "check" | .pad .. => "pad"
def I2.name : I2 → Str
  | .sm x => x.name | .rep n .. => n | .eit n .. => n | .swi n .. => n
def I2.kind : I2 → Str
  | .sm x => x.kind | .rep .. => "repeat" | .eit .. => "either" | .swi .. => "switch"
def Sm.more : Sm → List V
  | .num _ s o lo hi => [.int s, .str o, .int lo, .int hi]
  | .byt _ a => [kV a]
  | .txt _ s m => [.int s, .int m]
  | .chk _ m => [.int m]
  | .pad _ m b => [.int m, .int b]
def Sm.row (x : Sm) : List V := .str x.kind :: .str x.name :: x.more
def SmAt (H : Hp) (v : V) (x : Sm) : Prop := ∃ p, v = .ref p ∧ H p = some (.tup x.row)
def BkAt (H : Hp) (v : V) (b : List Sm) : Prop := ∃ p xs, v = .ref p ∧ H p = some (.tup xs) ∧ Paired (SmAt H) xs b
def CsAt (H : Hp) (v : V) (c : Int × List Sm) : Prop := ∃ r u, v = .ref r ∧ H r = some (.tup [.int c.1, u]) ∧ BkAt H u c.2
def I2At (H : Hp) (v : V) : I2 → Prop
  | .sm x => SmAt H v x
  | .rep n a b => ∃ p u, v = .ref p ∧ H p = some (.tup [.str "repeat", .str n, kV a, u]) ∧ BkAt H u b
  | .eit n bs => ∃ p q xs, v = .ref p ∧ H p = some (.tup [.str "either", .str n, .ref q]) ∧ H q = some (.tup xs) ∧ Paired (BkAt H) xs bs
  | .swi n t cs => ∃ p q xs, v = .ref p ∧ H p = some (.tup [.str "switch", .str n, .str t, .ref q]) ∧ H q = some (.tup xs) ∧ Paired (CsAt H) xs cs
abbrev ItsAt (H : Hp) : List V → List I2 → Prop := Paired (I2At H)
/-- tuples are kept -/
def Tk (H H' : Hp) : Prop := ∀ b xs, H b = some (.tup xs) → H' b = some (.tup xs)
theorem sTk {H H' : Hp} (s : Same H H') : Tk H H' := fun _ _ h => s _ _ h
theorem Tk.refl (H : Hp) : Tk H H := fun _ _ h => h
theorem Tk.trans {H H1 H2 : Hp} (a : Tk H H1) (b : Tk H1 H2) : Tk H H2 := fun _ _ h => b _ _ (a _ _ h)
theorem Tk.wr {H : Hp} {D : Addr} {xs : List V} {o : HO} (h : H D = some (.lst xs)) : Tk H (upd H D o) := fun b ys e => by
  rw [upd_ne (ne_of e h (by intro z; cases z))]; exact e
theorem row_tk {K : PySem.W.Frag} {H0 H : Hp} {p : Addr} {xs : List V} {R : L2.It → Hp → Prop} (hp : H0 p = some (.tup xs)) (s0 : Tk H0 H) (h : ∀ J, Walk J xs.length (fun H' => Tk H0 H') (YAt xs) → R J H) : RowR K p R H :=
  .inr ⟨⟨xs, SqT.of (s0 _ _ hp)⟩, h _ (walk_tup.mono (fun H' s => SqT.of (s _ _ hp)) fun _ _ _ _ _ _ y => y)⟩
theorem SmAt.tk {H H' : Hp} (s : Tk H H') {v : V} {x : Sm} (h : SmAt H v x) : SmAt H' v x := by
  obtain ⟨p, e, h⟩ := h; exact ⟨p, e, s _ _ h⟩
theorem BkAt.tk {H H' : Hp} (s : Tk H H') {v : V} {b : List Sm} (h : BkAt H v b) : BkAt H' v b := by
  obtain ⟨p, xs, e, h, q⟩ := h; exact ⟨p, xs, e, s _ _ h, L2.Paired.mapP q fun _ _ k => k.tk s⟩
theorem CsAt.tk {H H' : Hp} (s : Tk H H') {v : V} {c : Int × List Sm} (h : CsAt H v c) : CsAt H' v c := by
  obtain ⟨r, u, e, h, q⟩ := h; exact ⟨r, u, e, s _ _ h, q.tk s⟩
theorem I2At.tk {H H' : Hp} (s : Tk H H') {v : V} : ∀ {x : I2}, I2At H v x → I2At H' v x
  | .sm x, h => by simp only [I2At] at h ⊢; exact h.tk s
  | .rep n a b, h => by simp only [I2At] at h ⊢; obtain ⟨p, u, e, h, q⟩ := h; exact ⟨p, u, e, s _ _ h, q.tk s⟩
  | .eit n bs, h => by simp only [I2At] at h ⊢; obtain ⟨p, q, xs, e, h, g, k⟩ := h; exact ⟨p, q, xs, e, s _ _ h, s _ _ g, L2.Paired.mapP k fun _ _ k => k.tk s⟩
  | .swi n t cs, h => by simp only [I2At] at h ⊢; obtain ⟨p, q, xs, e, h, g, k⟩ := h; exact ⟨p, q, xs, e, s _ _ h, s _ _ g, L2.Paired.mapP k fun _ _ k => k.tk s⟩
theorem ItsAt.tk {H H' : Hp} (s : Tk H H') {l : List V} {r : List I2} (h : ItsAt H l r) : ItsAt H' l r := L2.Paired.mapP h fun _ _ k => k.tk s
theorem pget {α β : Type} {F : α → β → Prop} : ∀ {xs : List α} {ys : List β}, Paired F xs ys → ∀ {i : Nat} {x : α}, xs[i]? = some x → ∃ y, ys[i]? = some y ∧ F x y
  | _, _, .nil, i, x, h => by simp at h
  | _, _, .cons r t, 0, x, h => by simp at h; subst h; exact ⟨_, rfl, r⟩
  | _, _, .cons r t, i + 1, x, h => by
    simp at h
    obtain ⟨y, e, f⟩ := pget t h
    exact ⟨y, by simpa using e, f⟩
theorem plen {α β : Type} {F : α → β → Prop} : ∀ {xs : List α} {ys : List β}, Paired F xs ys → xs.length = ys.length
  | _, _, .nil => rfl
  | _, _, .cons _ t => by simp [plen t]
theorem papp {α β : Type} {F : α → β → Prop} : ∀ {xs xs' : List α} {ys ys' : List β}, Paired F xs ys → Paired F xs' ys' → Paired F (xs ++ xs') (ys ++ ys')
  | _, _, _, _, .nil, h => h
  | _, _, _, _, .cons r t, h => .cons r (papp t h)
theorem I2At.head {H : Hp} {v : V} : ∀ {x : I2}, I2At H v x → ∃ p rest, v = .ref p ∧ H p = some (.tup (.str x.kind :: .str x.name :: rest))
  | .sm x, h => by simp only [I2At] at h; obtain ⟨p, e, h⟩ := h; exact ⟨p, _, e, h⟩
  | .rep n a b, h => by simp only [I2At] at h; obtain ⟨p, u, e, h, q⟩ := h; exact ⟨p, _, e, h⟩
  | .eit n bs, h => by simp only [I2At] at h; obtain ⟨p, q, xs, e, h, g, k⟩ := h; exact ⟨p, _, e, h⟩
  | .swi n t cs, h => by simp only [I2At] at h; obtain ⟨p, q, xs, e, h, g, k⟩ := h; exact ⟨p, _, e, h⟩
/-! ### what is drawn -/
def hd (z : Str) : Option Nat := z.cps.toList.head?
def Sm.plain : Sm → Prop
  | .num _ s o lo hi => s = 1 ∧ o = "big" ∧ 0 ≤ lo ∧ lo ≤ hi ∧ hi ≤ 255
  | .byt _ a => a = .inl 1 ∨ a = .inl 2
  | _ => False
def amOk (most : Int) (ahead : List Str) (a : Key) : Prop := (∃ i, a = .inl i ∧ 0 ≤ i ∧ i ≤ most) ∨ ∃ z, a = .inr z ∧ z ∈ ahead
def I2.ok (ahead : List Str) : I2 → Prop
  | .sm (.num _ s o lo hi) => (o = "big" ∨ o = "little") ∧ 0 ≤ lo ∧ lo ≤ hi ∧ ((s = 1 ∧ hi ≤ 7) ∨ (s = 2 ∧ hi ≤ 65535))
  | .sm (.byt _ a) => amOk 3 ahead a
  | .sm (.txt _ s m) => (0 ≤ s ∧ s ≤ 255) ∧ 0 ≤ m ∧ m ≤ 3
  | .sm (.chk _ m) => 1 ≤ m ∧ m ≤ 5
  | .sm (.pad _ m b) => (m = 1 ∨ m = 2 ∨ m = 4) ∧ 0 ≤ b ∧ b ≤ 255
  | .rep _ a b => amOk 2 ahead a ∧ (1 ≤ b.length ∧ b.length ≤ 2) ∧ ∀ x ∈ b, x.plain
  | .eit _ bs => (2 ≤ bs.length ∧ bs.length ≤ 3) ∧ (∀ b ∈ bs, b.length ≤ 2 ∧ ∀ x ∈ b, x.plain) ∧ ∀ b ∈ bs.drop 1, 1 ≤ b.length
  | .swi _ t cs => t ∈ ahead ∧ (1 ≤ cs.length ∧ cs.length ≤ 3) ∧ (∀ c ∈ cs, (0 ≤ c.1 ∧ c.1 ≤ 6) ∧ c.2.length ≤ 2 ∧ ∀ x ∈ c.2, x.plain) ∧ (cs.map (·.1)).Nodup
def I2.tells : I2 → List Str
  | .sm (.num n s _ _ _) => if s = 1 then [n] else []
  | _ => []
def I2.names : I2 → List Str
  | .sm x => [x.name]
  | .rep n _ b => n :: b.map Sm.name
  | .eit n bs => n :: bs.flatMap fun b => b.map Sm.name
  | .swi n _ cs => n :: cs.flatMap fun c => c.2.map Sm.name
def I2.isChk : I2 → Bool
  | .sm (.chk ..) => true
  | _ => false
def OkL (ahead : List Str) : List I2 → Prop
  | [] => True
  | x :: r => x.ok ahead ∧ OkL (ahead ++ x.tells) r
structure Drawn (l : List I2) : Prop where
  n1 : 1 ≤ l.length
  n4 : l.length ≤ 4
  ok : OkL [] l
  nd : (l.flatMap I2.names).Nodup
  nm : ∀ z ∈ l.flatMap I2.names, isName z = true ∧ 2 ≤ z.length
  hds : ∀ x ∈ l, (x.names.map hd).Nodup
  top : (l.map fun x => hd x.name).Nodup
  chk : (l.filter I2.isChk).length ≤ 1
theorem OkL.snoc {x : I2} : ∀ {l : List I2} {ahead : List Str}, OkL ahead l → x.ok (ahead ++ l.flatMap I2.tells) → OkL ahead (l ++ [x])
  | [], ahead, _, h => ⟨by simpa using h, trivial⟩
  | y :: r, ahead, h, g => ⟨h.1, OkL.snoc h.2 (by simpa [List.append_assoc] using g)⟩
theorem name_in (x : I2) : x.name ∈ x.names := by cases x <;> simp [I2.name, I2.names]
end Bm

set_option Elab.async false
set_option linter.all false
set_option maxRecDepth 100000
set_option maxHeartbeats 8000000
/-! items are drawn -/
namespace Bm
open PySem L2
abbrev sSimp : Stmt := top 9
abbrev sBlk : Stmt := top 10
theorem num_at {ns : List Int} (hb : Nb ns) {i : Int} (h0 : 0 ≤ i) (h1 : i < (ns.length : Int)) : ∃ c, atI (ns.map V.int) i = some (.int c) ∧ 0 ≤ c ∧ c < 1009 := by
  obtain ⟨c, m, e⟩ := at_ints (is := ns) h0 h1
  exact ⟨c, e, hb c m⟩
theorem str_at {zs : List Str} {i : Int} (h0 : 0 ≤ i) (h1 : i < (zs.length : Int)) : ∃ z, atI (zs.map V.str) i = some (.str z) ∧ z ∈ zs := by
  obtain ⟨v, m, e⟩ := at_mem (xs := zs.map V.str) h0 (by rw [List.length_map]; exact h1)
  obtain ⟨z, hz, rfl⟩ := List.mem_map.mp m
  exact ⟨z, e, hz⟩
theorem str_get {zs : List Str} {j : Nat} {z : Str} (h : zs[j]? = some z) : atI (zs.map V.str) (j : Int) = some (.str z) := atI_nat (by rw [List.getElem?_map, h]; rfl)
def spSimp : Sp := fun vs H Q _ => ∃ (pn : Addr) (ns : List Int) (at0 : Nat) (z : Str), vs = [.ref pn, .int (at0 : Int), .str z] ∧ H pn = some (.lst (ns.map V.int)) ∧ Nb ns ∧ at0 + 2 < ns.length ∧
  ∀ (x : Sm) v' H', Same H H' → SmAt H' v' x → x.plain → x.name = z → Q v' H'
def spBlk : Sp := fun vs H Q _ => ∃ (pn pz : Addr) (ns : List Int) (zs : List Str) (at0 m : Nat), vs = [.ref pn, .int (at0 : Int), .ref pz, .int (m : Int)] ∧ H pn = some (.lst (ns.map V.int)) ∧ Nb ns ∧ at0 + 6 ≤ ns.length ∧ m ≤ 2 ∧ H pz = some (.lst (zs.map V.str)) ∧ m ≤ zs.length ∧
  ∀ (b : List Sm) v' H', Same H H' → BkAt H' v' b → b.length = m → (∀ x ∈ b, x.plain) → b.map Sm.name = zs.take m → Q v' H'
section
variable {P : Program} {w : World} {K : PySem.W.Frag} {mg : Str → Option Value} {base : Heap} {f : Addr} {fd : FuncData}
abbrev nSimp : List Str := ["numbers", "at", "name", "low"]
theorem scSimp : FnScope nSimp ["numbers", "at", "name"] (defScope sSimp) := ⟨rfl, rfl, rfl, by decide +kernel, rfl, by decide +kernel, by decide +kernel⟩
theorem ok_simp (F : Fun K "_law_simple" "_law_simple" sSimp f fd) (mint : mg "int" = none) (mmin : mg "min" = none) : FnOk P w K mg base CX0 1 f fd ["numbers", "at", "name"] spSimp := by
  refine F.ok scSimp (fun vs H Q E h => ?_) (fun cdv A outer s H vs Q E hr h => ?_)
  · obtain ⟨pn, ns, at0, z, rfl, _⟩ := h
    rfl
  · obtain ⟨pn, ns, at0, z, rfl, hn, hb, hlen, q⟩ := h
    refine ⟨_, (pss_cons (ps_if (pt_cmpR op_eq (pe_op op_mod (pe_callTy (r := rInt1) call_int1 (by rfl) mint (by decide +kernel) (pa_cons (pe_ix ix_list (pv 0) (pv 1) (fun _ _ => rfl)) pa_nil)) pe_int) pe_int (nomark _)) (pss_one (ps_ret (pe_tup (pa_cons pe_str (pa_cons (pv 2) (pa_cons (pe_op op_add pe_int (pe_op op_mod (pe_callTy (r := rInt1) call_int1 (by rfl) mint (by decide +kernel) (pa_cons (pe_ix ix_list (pv 0) (pe_op op_add (pv 1) pe_int) (fun _ _ => rfl)) pa_nil)) pe_int)) pa_nil)))))) pss_nil)
      (pss_cons (ps_set (i := 3) scSimp.nd rfl (.inl rfl) (pe_op op_mod (pe_callTy (r := rInt1) call_int1 (by rfl) mint (by decide +kernel) (pa_cons (pe_ix ix_list (pv 0) (pe_op op_add (pv 1) pe_int) (fun _ _ => rfl)) pa_nil)) pe_int))
      (pss_one (ps_ret (pe_tup (pa_cons pe_str (pa_cons (pv 2) (pa_cons pe_int (pa_cons pe_str (pa_cons (pv 3) (pa_cons (pe_callB (call_min2 rfl) (by rfl) mmin (by decide +kernel) (pa_cons pe_int (pa_cons (pe_op op_add (pv 3) (pe_op op_mod (pe_callTy (r := rInt1) call_int1 (by rfl) mint (by decide +kernel) (pa_cons (pe_ix ix_list (pv 0) (pe_op op_add (pv 1) pe_int) (fun _ _ => rfl)) pa_nil)) pe_int)) pa_nil))) pa_nil))))))))))), ?_⟩
    obtain ⟨c0, h0, _⟩ := num_at hb (i := (at0 : Int)) (by omega) (by omega)
    obtain ⟨c1, h1, _⟩ := num_at hb (i := (at0 : Int) + 1) (by omega) (by omega)
    obtain ⟨c2, h2, _⟩ := num_at hb (i := (at0 : Int) + 2) (by omega) (by omega)
    refine ⟨_, rfl, _, rfl, pn, _, _, _, rfl, rfl, SqL.of hn, h0, .inl ⟨_, rfl, _, _, rfl, rfl, (by show (0 : Int) < 3; decide), rfl, _, rfl, ite2 (fun _ => ?_) (fun _ => ?_)⟩⟩
    · refine ⟨_, rfl, _, rfl, _, rfl, _, _, rfl, rfl, pn, _, _, _, rfl, rfl, SqL.of hn, h1, .inl ⟨_, rfl, _, _, rfl, rfl, (by show (0 : Int) < 2; decide), _, _, rfl, rfl, (by show 3 ≤ sizeLine; decide), fun t ht => ?_⟩⟩
      refine q (.byt z (.inl (1 + c1 % 2))) _ _ (same_new ht _) ⟨t, rfl, upd_same⟩ ?_ rfl
      have e : c1 % 2 = 0 ∨ c1 % 2 = 1 := by omega
      rcases e with e | e
      · exact .inl (by rw [e]; rfl)
      · exact .inr (by rw [e]; rfl)
    · refine ⟨_, rfl, _, rfl, _, _, rfl, rfl, pn, _, _, _, rfl, rfl, SqL.of hn, h1, .inl ⟨_, rfl, _, _, rfl, rfl, (by show (0 : Int) < 256; decide), ?_⟩⟩
      refine ⟨_, rfl, _, rfl, _, rfl, _, rfl, _, rfl, _, _, rfl, rfl, pn, _, _, _, rfl, rfl, SqL.of hn, h2, .inl ⟨_, rfl, _, _, rfl, rfl, (by show (0 : Int) < 6; decide), _, _, rfl, rfl, _, _, rfl, (by show 6 ≤ sizeLine; decide), fun t ht => ?_⟩⟩
      refine q (.num z 1 "big" (c1 % 256) (if c1 % 256 + c2 % 6 < 255 then c1 % 256 + c2 % 6 else 255)) _ _ (same_new ht _) ⟨t, rfl, upd_same⟩ ⟨rfl, rfl, by omega, ?_, ?_⟩ rfl
      · split <;> omega
      · split <;> omega
abbrev nBlk : List Str := ["numbers", "at", "names", "many", "k"]
theorem scBlk : FnScope nBlk ["numbers", "at", "names", "many"] (defScope sBlk) := ⟨rfl, rfl, rfl, by decide +kernel, rfl, by decide +kernel, by decide +kernel⟩
theorem ok_blk (F : Fun K "_law_block" "_law_block" sBlk f fd) (gS : Cal P w K mg base CX0 1 "_law_simple" ["numbers", "at", "name"] spSimp) (mr : mg "range" = none) (mt : mg "tuple" = none) : FnOk P w K mg base CX0 2 f fd ["numbers", "at", "names", "many"] spBlk := by
  refine F.ok scBlk (fun vs H Q E h => ?_) (fun cdv A outer s H vs Q E hr h => ?_)
  · obtain ⟨pn, pz, ns, zs, at0, m, rfl, _⟩ := h
    rfl
  · obtain ⟨pn, pz, ns, zs, at0, m, rfl, hn, hb, hlen, hm, hz, hmz, q⟩ := h
    refine ⟨_, (pss_one (ps_ret (pe_tupleOf (by rfl) mt (pe_lc (own := [("k", 4)]) (g := gName 4) (tt := tYes) rfl scBlk.nd (pi_range1 (by rfl) mr (pa_cons (pv 3) pa_nil)) (blkOk_by (own := [("k", 4)]) (N := nBlk) (sc := defScope sBlk) (by decide +kernel)) (fun _ _ _ _ _ => pg_name (i := 4) scBlk.nd rfl (Or.inl rfl)) (fun _ _ _ _ _ => pts_nil) (fun _ _ _ _ _ => (pe_cal gS hr pass0 (pa_cons (pv 0) (pa_cons (pe_op op_add (pv 1) (pe_op op_mul pe_int (pv 4))) (pa_cons (pe_ix (r := rIxL K) ix_list (pv 2) (pv 4) (fun _ _ => rfl)) pa_nil))))))))), ?_⟩
    refine ⟨_, rfl, (m : Int), rfl, by omega, by omega, fun D hD => lc_range (lo := 0) (n := m) (fun i H1 => Same H H1 ∧ ∃ acc b, H1 D = some (.lst acc) ∧ Paired (SmAt H1) acc b ∧ b.length = i ∧ (∀ x ∈ b, x.plain) ∧ b.map Sm.name = zs.take i)
      ⟨same_new hD _, [], [], upd_same, .nil, rfl, (fun x hx => by cases hx), by simp⟩ ?_ ?_⟩
    · rintro i H1 hi ⟨s1, acc, b, hacc, pa, bl, bp, bn⟩
      have hi2 : i < zs.length := by omega
      refine ⟨rfl, yes_go ?_⟩
      refine ⟨_, rfl, _, rfl, _, rfl, _, _, rfl, rfl, .inl ⟨by decide, by decide⟩, _, _, rfl, rfl, _, rfl, _, rfl, pz, _, _, _, rfl, rfl, SqL.of (s1 _ _ hz), by rw [Int.zero_add]; exact str_get (List.getElem?_eq_getElem hi2), ?_⟩
      refine ⟨pn, ns, at0 + 3 * i, zs[i], by simp, s1 _ _ hn, hb, by omega, fun x v' H2 s2 hx px nx => ?_⟩
      have hacc2 := s2 _ _ hacc
      refine ⟨acc, hacc2, small1000 (by rw [plen pa, bl]; omega), same_set (s1.trans s2) hD, acc ++ [v'], b ++ [x], upd_same, papp (L2.Paired.mapP pa fun _ _ k => k.tk ((sTk s2).trans (.wr hacc2))) (.cons (hx.tk (.wr hacc2)) .nil), by rw [List.length_append, bl]; rfl, fun y hy => ?_, ?_⟩
      · rcases List.mem_append.mp hy with hy | hy
        · exact bp y hy
        · rw [List.mem_singleton.mp hy]; exact px
      · rw [List.map_append, bn, List.take_add_one, List.getElem?_eq_getElem hi2]
        simp [nx]
    · rintro H1 ⟨s1, acc, b, hacc, pa, bl, bp, bn⟩
      refine .inl ⟨D, acc, rfl, SqL.of hacc, fun p hp => ?_⟩
      have s2 := same_new hp (.tup acc)
      exact q b _ _ (s1.trans s2) ⟨p, acc, rfl, upd_same, L2.Paired.mapP pa fun _ _ k => k.tk (sTk s2)⟩ bl bp bn
end
end Bm

set_option Elab.async false
set_option linter.all false
set_option maxRecDepth 100000
set_option maxHeartbeats 8000000
/-! an item with blocks -/
namespace Bm
open PySem L2
abbrev sNest : Stmt := top 11
def spNest : Sp := fun vs H Q _ => ∃ (pn pz pa : Addr) (ns : List Int) (zs ah : List Str) (at0 : Nat) (z : Str), vs = [.ref pn, .int (at0 : Int), .ref pz, .ref pa] ∧ H pn = some (.lst (ns.map V.int)) ∧ Nb ns ∧ at0 + 20 ≤ ns.length ∧ H pz = some (.lst (zs.map V.str)) ∧ zs.length = 7 ∧ zs[0]? = some z ∧ H pa = some (.lst (ah.map V.str)) ∧ ah.length ≤ 4 ∧
  ∀ (x : I2) v' H', Same H H' → I2At H' v' x → x.ok ah → x.name = z → x.names.Sublist zs → x.isChk = false → x.tells = [] → Q v' H'
theorem step_sub {zs l : List Str} {j m : Nat} (h : l.Sublist ((zs.drop 1).take (2 * j))) (hm : m ≤ 2) : (l ++ (zs.drop (1 + 2 * j)).take m).Sublist ((zs.drop 1).take (2 * (j + 1))) := by
  rw [show 2 * (j + 1) = 2 * j + 2 by omega, List.take_add, List.drop_drop]
  refine h.append ?_
  rw [show (1 + 2 * j) = 1 + 2 * j from rfl]
  exact List.take_sublist_take_left hm
theorem all_sub {zs l : List Str} {z : Str} {k : Nat} (h : l.Sublist ((zs.drop 1).take k)) (h0 : zs[0]? = some z) : (z :: l).Sublist zs := by
  cases zs with
  | nil => simp at h0
  | cons a r =>
    simp at h0
    subst h0
    exact (h.trans (List.take_sublist _ _)).cons_cons _
section
variable {P : Program} {w : World} {K : PySem.W.Frag} {mg : Str → Option Value} {base : Heap} {f : Addr} {fd : FuncData}
abbrev nNest : List Str := ["numbers", "at", "names", "ahead", "kind", "count", "cases", "k", "value", "choices"]
theorem scNest : FnScope nNest ["numbers", "at", "names", "ahead"] (defScope sNest) := ⟨rfl, rfl, rfl, by decide +kernel, rfl, by decide +kernel, by decide +kernel⟩
theorem ok_nest (F : Fun K "_law_nested" "_law_nested" sNest f fd) (gB : Cal P w K mg base CX0 2 "_law_block" ["numbers", "at", "names", "many"] spBlk) (mint : mg "int" = none) (ml : mg "len" = none) (mr : mg "range" = none) (mt : mg "tuple" = none) : FnOk P w K mg base CX0 3 f fd ["numbers", "at", "names", "ahead"] spNest := by
  refine F.ok scNest (fun vs H Q E h => ?_) (fun cdv A outer s H vs Q E hr h => ?_)
  · obtain ⟨pn, pz, pa, ns, zs, ah, at0, z, rfl, _⟩ := h
    rfl
  · obtain ⟨pn, pz, pa, ns, zs, ah, at0, z, rfl, hn, hb, hlen, hz, hzl, hz0, ha, hal, q⟩ := h
    refine ⟨_, (pss_cons (ps_set (i := 4) scNest.nd rfl (.inl rfl) (pe_op op_mod (pe_callTy (r := rInt1) call_int1 (by rfl) mint (by decide +kernel) (pa_cons (pe_ix ix_list (pv 0) (pv 1) (fun _ _ => rfl)) pa_nil)) pe_int))
      (pss_cons (ps_if (pt_cmpR op_eq (pv 4) pe_int (nomark _)) (pss_cons (ps_set (i := 5) scNest.nd rfl (.inl rfl) (pe_op op_mod (pe_callTy (r := rInt1) call_int1 (by rfl) mint (by decide +kernel) (pa_cons (pe_ix ix_list (pv 0) (pe_op op_add (pv 1) pe_int) (fun _ _ => rfl)) pa_nil)) pe_int))
      (pss_cons (ps_if (PW.pt (pw_and (pt_cmpR op_gt (pe_callB call_len (by rfl) ml boot_len (pa_cons (pv 3) pa_nil)) pe_int (nomark _)) (pw_and1 (pt_cmpR op_eq (pe_op op_mod (pe_callTy (r := rInt1) call_int1 (by rfl) mint (by decide +kernel) (pa_cons (pe_ix ix_list (pv 0) (pe_op op_add (pv 1) pe_int) (fun _ _ => rfl)) pa_nil)) pe_int) pe_int (nomark _))))) (pss_one (ps_set (i := 5) scNest.nd rfl (.inl rfl) (pe_ix ix_list (pv 3) (pe_op op_mod (pe_callTy (r := rInt1) call_int1 (by rfl) mint (by decide +kernel) (pa_cons (pe_ix ix_list (pv 0) (pe_op op_add (pv 1) pe_int) (fun _ _ => rfl)) pa_nil)) (pe_callB call_len (by rfl) ml boot_len (pa_cons (pv 3) pa_nil))) (fun _ _ => rfl)))) pss_nil)
      (pss_one (ps_ret (pe_tup (pa_cons pe_str (pa_cons (pe_ix ix_list (pv 2) pe_int (fun _ _ => rfl)) (pa_cons (pv 5) (pa_cons (pe_cal gB hr pass0 (pa_cons (pv 0) (pa_cons (pe_op op_add (pv 1) pe_int) (pa_cons (pe_slice sl_list (pv 2) (po_some pe_int) po_none) (pa_cons (pe_op op_add pe_int (pe_op op_mod (pe_callTy (r := rInt1) call_int1 (by rfl) mint (by decide +kernel) (pa_cons (pe_op op_fdiv (pe_ix ix_list (pv 0) (pe_op op_add (pv 1) pe_int) (fun _ _ => rfl)) pe_int) pa_nil)) pe_int)) pa_nil))))) pa_nil))))))))) pss_nil)
      (pss_cons (ps_if (PW.pt (pw_and (pt_cmpR op_eq (pv 4) pe_int (nomark _)) (pw_and1 (pt_cmpR op_gt (pe_callB call_len (by rfl) ml boot_len (pa_cons (pv 3) pa_nil)) pe_int (nomark _))))) (pss_cons (ps_set (i := 6) scNest.nd rfl (.inl rfl) (pe_lst pa_nil))
      (pss_cons (ps_for PassesOwn.never rfl (pi_range1 (by rfl) mr (pa_cons (pe_op op_add pe_int (pe_op op_mod (pe_callTy (r := rInt1) call_int1 (by rfl) mint (by decide +kernel) (pa_cons (pe_ix ix_list (pv 0) (pe_op op_add (pv 1) pe_int) (fun _ _ => rfl)) pa_nil)) pe_int)) pa_nil)) (pg_name (i := 7) scNest.nd rfl (.inl rfl))
        (pss_cons (ps_set (i := 8) scNest.nd rfl (.inl rfl) (pe_op op_add (pe_op op_mod (pe_callTy (r := rInt1) call_int1 (by rfl) mint (by decide +kernel) (pa_cons (pe_ix ix_list (pv 0) (pe_op op_add (pv 1) pe_int) (fun _ _ => rfl)) pa_nil)) pe_int) (pe_op op_mul pe_int (pv 7))))
      (pss_one (ps_expr (pe_bm PySem.F.plainAttrs_list PySem.F.slot_list_append PySem.F.type_list_append mt_append (pv 6) (pa_cons (pe_tup (pa_cons (pv 8) (pa_cons (pe_cal gB hr pass0 (pa_cons (pv 0) (pa_cons (pe_op op_add (pe_op op_add (pv 1) pe_int) (pe_op op_mul pe_int (pv 7))) (pa_cons (pe_slice sl_list (pv 2) (po_some (pe_op op_add pe_int (pe_op op_mul pe_int (pv 7)))) po_none) (pa_cons (pe_op op_mod (pe_callTy (r := rInt1) call_int1 (by rfl) mint (by decide +kernel) (pa_cons (pe_op op_fdiv (pe_ix ix_list (pv 0) (pe_op op_add (pv 1) pe_int) (fun _ _ => rfl)) (pe_op op_add pe_int (pv 7))) pa_nil)) pe_int) pa_nil))))) pa_nil))) pa_nil))))))
      (pss_one (ps_ret (pe_tup (pa_cons pe_str (pa_cons (pe_ix ix_list (pv 2) pe_int (fun _ _ => rfl)) (pa_cons (pe_ix ix_list (pv 3) (pe_op op_mod (pe_callTy (r := rInt1) call_int1 (by rfl) mint (by decide +kernel) (pa_cons (pe_ix ix_list (pv 0) (pe_op op_add (pv 1) pe_int) (fun _ _ => rfl)) pa_nil)) (pe_callB call_len (by rfl) ml boot_len (pa_cons (pv 3) pa_nil))) (fun _ _ => rfl)) (pa_cons (pe_tupleOf (by rfl) mt (pv 6)) pa_nil))))))))) pss_nil)
      (pss_cons (ps_set (i := 9) scNest.nd rfl (.inl rfl) (pe_lst (pa_cons (pe_cal gB hr pass0 (pa_cons (pv 0) (pa_cons (pe_op op_add (pv 1) pe_int) (pa_cons (pe_slice sl_list (pv 2) (po_some pe_int) po_none) (pa_cons (pe_op op_mod (pe_callTy (r := rInt1) call_int1 (by rfl) mint (by decide +kernel) (pa_cons (pe_ix ix_list (pv 0) (pe_op op_add (pv 1) pe_int) (fun _ _ => rfl)) pa_nil)) pe_int) pa_nil))))) pa_nil)))
      (pss_cons (ps_for PassesOwn.never rfl (pi_range1 (by rfl) mr (pa_cons (pe_op op_add pe_int (pe_op op_mod (pe_callTy (r := rInt1) call_int1 (by rfl) mint (by decide +kernel) (pa_cons (pe_op op_fdiv (pe_ix ix_list (pv 0) (pe_op op_add (pv 1) pe_int) (fun _ _ => rfl)) pe_int) pa_nil)) pe_int)) pa_nil)) (pg_name (i := 7) scNest.nd rfl (.inl rfl))
        (pss_one (ps_expr (pe_bm PySem.F.plainAttrs_list PySem.F.slot_list_append PySem.F.type_list_append mt_append (pv 9) (pa_cons (pe_cal gB hr pass0 (pa_cons (pv 0) (pa_cons (pe_op op_add (pe_op op_add (pv 1) pe_int) (pe_op op_mul pe_int (pv 7))) (pa_cons (pe_slice sl_list (pv 2) (po_some (pe_op op_add pe_int (pe_op op_mul pe_int (pv 7)))) po_none) (pa_cons (pe_op op_add pe_int (pe_op op_mod (pe_callTy (r := rInt1) call_int1 (by rfl) mint (by decide +kernel) (pa_cons (pe_op op_fdiv (pe_ix ix_list (pv 0) (pe_op op_add (pv 1) pe_int) (fun _ _ => rfl)) pe_int) pa_nil)) pe_int)) pa_nil))))) pa_nil)))))
      (pss_one (ps_ret (pe_tup (pa_cons pe_str (pa_cons (pe_ix ix_list (pv 2) pe_int (fun _ _ => rfl)) (pa_cons (pe_tupleOf (by rfl) mt (pv 9)) pa_nil))))))))))), ?_⟩
    have hz0a : atI (zs.map V.str) 0 = some (.str z) := str_get (j := 0) hz0
    obtain ⟨c0, h0, _⟩ := num_at hb (i := (at0 : Int)) (by omega) (by omega)
    obtain ⟨c1, h1, b1⟩ := num_at hb (i := (at0 : Int) + 1) (by omega) (by omega)
    obtain ⟨c2, h2, b2⟩ := num_at hb (i := (at0 : Int) + 2) (by omega) (by omega)
    obtain ⟨c3, h3, b3⟩ := num_at hb (i := (at0 : Int) + 3) (by omega) (by omega)
    obtain ⟨c19, h19, _⟩ := num_at hb (i := (at0 : Int) + 19) (by omega) (by omega)
    have pick : ∀ c : Int, 0 < ah.length → ∃ y, atI (ah.map V.str) (c % ((ah.map V.str).length : Int)) = some (.str y) ∧ y ∈ ah := fun c h => by
      rw [List.length_map]
      exact str_at (Int.emod_nonneg _ (by omega)) (Int.emod_lt_of_pos _ (by omega))
    refine ⟨_, rfl, _, rfl, pn, _, _, _, rfl, rfl, SqL.of hn, h0, .inl ⟨_, rfl, _, _, rfl, rfl, (by show (0 : Int) < 3; decide), ?_⟩⟩
    refine ⟨_, rfl, rfl, _, rfl, ite2 (fun _ => ?_) (fun _ => ?_)⟩
    · -- a repeat
      refine ⟨_, rfl, _, rfl, _, _, rfl, rfl, pn, _, _, _, rfl, rfl, SqL.of hn, h1, .inl ⟨_, rfl, _, _, rfl, rfl, (by show (0 : Int) < 3; decide), ?_⟩⟩
      refine g_nx ?_
      dsimp only
      refine with_rest (fun σ Hx => ∃ a : Key, σ = [some (.ref pn), some (.int (at0 : Int)), some (.ref pz), some (.ref pa), some (.int (c0 % 3)), some (kV a), none, none, none, none] ∧ Hx = H ∧ amOk 2 ah a) ?_ fun go => ?_
      rotate_left
      · have g0 := go _ _ ⟨.inl (c1 % 3), rfl, rfl, .inl ⟨_, rfl, by omega, by omega⟩⟩
        refine ⟨_, rfl, _, _, rfl, .inl ⟨_, SqL.of ha, rfl⟩, _, _, rfl, rfl, _, rfl, ?_⟩
        refine ite2 (fun e => ?_) (fun _ => iteF g0)
        have e : (0 : Int) < ((ah.map V.str).length : Int) := of_decide_eq_true e
        rw [List.length_map] at e
        refine ⟨_, rfl, _, rfl, _, _, rfl, rfl, pn, _, _, _, rfl, rfl, SqL.of hn, h2, .inl ⟨_, rfl, _, _, rfl, rfl, (by show (0 : Int) < 2; decide), rfl, _, rfl, ite2 (fun _ => ?_) (fun _ => g0)⟩⟩
        obtain ⟨y, hy, ym⟩ := pick c3 (by omega)
        refine ⟨_, rfl, _, rfl, _, rfl, _, _, rfl, rfl, pn, _, _, _, rfl, rfl, SqL.of hn, h3, .inl ⟨_, rfl, _, rfl, _, _, rfl, .inl ⟨_, SqL.of ha, rfl⟩, _, _, rfl, rfl, (by show (0 : Int) < ((ah.map V.str).length : Int); rw [List.length_map]; omega), pa, _, _, _, rfl, rfl, SqL.of ha, hy, ?_⟩⟩
        exact go _ _ ⟨.inr y, rfl, rfl, .inr ⟨y, rfl, ym⟩⟩
      rintro σ Hx ⟨a, rfl, rfl, am⟩
      refine ⟨_, rfl, pz, _, 0, _, rfl, rfl, SqL.of hz, hz0a, _, rfl, _, rfl, _, rfl, _, _, rfl, rfl, _, rfl, 1, rfl, pz, _, rfl, SqL.of hz, fun pz1 g1 => ?_⟩
      rw [show (1 : Int) = ((1 : Nat) : Int) from rfl, cutV_from, ← List.map_drop]
      have s1 := same_new g1 (.lst ((zs.drop 1).map V.str))
      have k1 := upd_same (H := Hx) (a := pz1) (o := .lst ((zs.drop 1).map V.str))
      generalize upd Hx pz1 (.lst ((zs.drop 1).map V.str)) = H1 at s1 k1 ⊢
      obtain ⟨m, hm, hm1, hm2⟩ : ∃ m : Nat, (1 : Int) + c2 / 2 % 2 = (m : Int) ∧ 1 ≤ m ∧ m ≤ 2 := by
        have : c2 / 2 % 2 = 0 ∨ c2 / 2 % 2 = 1 := by omega
        rcases this with e | e
        · exact ⟨1, by rw [e]; rfl, by decide, by decide⟩
        · exact ⟨2, by rw [e]; rfl, by decide, by decide⟩
      refine ⟨_, rfl, _, rfl, _, _, rfl, rfl, pn, _, _, _, rfl, rfl, SqL.of (s1 _ _ hn), h2, _, _, rfl, rfl, ⟨by decide, by decide⟩, .inl ⟨_, rfl, _, _, rfl, rfl, (by show (0 : Int) < 2; decide), _, _, rfl, rfl, ?_⟩⟩
      refine ⟨pn, pz1, ns, zs.drop 1, at0 + 4, m, by rw [← hm]; rfl, s1 _ _ hn, hb, by omega, hm2, k1, by rw [List.length_drop]; omega, fun b v' H2 s2 hbk bl bp bn => ⟨(by show 4 ≤ sizeLine; decide), fun t ht => ?_⟩⟩
      have s3 := same_new ht (.tup [.str "repeat", .str z, kV a, v'])
      refine q (.rep z a b) _ _ (s1.trans (s2.trans s3)) ⟨t, v', rfl, upd_same, hbk.tk (sTk s3)⟩ ⟨am, ⟨by omega, by omega⟩, bp⟩ rfl ?_ rfl rfl
      refine all_sub (k := 2) ?_ hz0
      rw [bn]
      exact List.take_sublist_take_left hm2
    refine nx_go ?_
    dsimp only
    refine with_rest (fun σ Hx => σ = [some (.ref pn), some (.int (at0 : Int)), some (.ref pz), some (.ref pa), some (.int (c0 % 3)), none, none, none, none, none] ∧ Hx = H) ?_ fun go => ?_
    rotate_left
    · -- a switch
      refine ⟨_, rfl, rfl, _, rfl, ite2 (fun _ => ?_) (fun _ => iteF (go _ _ ⟨rfl, rfl⟩))⟩
      refine ⟨_, rfl, _, _, rfl, .inl ⟨_, SqL.of ha, rfl⟩, _, _, rfl, rfl, _, rfl, ite2 (fun e => ?_) (fun _ => go _ _ ⟨rfl, rfl⟩)⟩
      have e : (0 : Int) < ((ah.map V.str).length : Int) := of_decide_eq_true e
      rw [List.length_map] at e
      refine ⟨(by show 0 ≤ sizeLine; decide), fun D hD => ?_⟩
      have hn0 := same_new hD (.lst []) _ _ hn
      refine ⟨_, rfl, _, rfl, _, _, rfl, rfl, pn, _, _, _, rfl, rfl, SqL.of hn0, h1, .inl ⟨_, rfl, _, _, rfl, rfl, (by show (0 : Int) < 3; decide), _, _, rfl, rfl, _, rfl, by omega, by omega, ?_⟩⟩
      refine for_range (lo := 0) (n := (1 + c1 % 3).toNat) (fun i σ H' => ∃ k7 v8, σ = [some (.ref pn), some (.int (at0 : Int)), some (.ref pz), some (.ref pa), some (.int (c0 % 3)), none, some (.ref D), k7, v8, none] ∧ Same H H' ∧ ∃ acc cs, H' D = some (.lst acc) ∧ Paired (CsAt H') acc cs ∧ cs.length = i ∧
        (∀ c ∈ cs, (0 ≤ c.1 ∧ c.1 ≤ 6) ∧ c.2.length ≤ 2 ∧ ∀ x ∈ c.2, x.plain) ∧ cs.map (·.1) = (List.range i).map (fun k : Nat => c2 % 3 + 2 * (k : Int)) ∧ (cs.flatMap fun c => c.2.map Sm.name).Sublist ((zs.drop 1).take (2 * i)))
        ⟨none, none, rfl, same_new hD _, [], [], upd_same, .nil, rfl, (fun c hc => by cases hc), rfl, List.nil_sublist _⟩ ?_ ?_
      · rintro i σ H2 hi ⟨k7, v8, rfl, s2, acc, cs, hacc, pc, cl, cp, cv, csub⟩
        have i3 : i < 3 := by omega
        refine ⟨_, rfl, _, rfl, _, _, rfl, rfl, pn, _, _, _, rfl, rfl, SqL.of (s2 _ _ hn), h2, .inl ⟨_, rfl, _, _, rfl, rfl, (by show (0 : Int) < 3; decide), _, rfl, _, _, rfl, rfl, .inl ⟨by decide, by decide⟩, _, _, rfl, rfl, ?_⟩⟩
        refine ⟨_, rfl, .inl ⟨rfl, _, SqL.of hacc⟩, _, rfl, _, rfl, _, rfl, _, _, rfl, rfl, _, rfl, _, _, rfl, rfl, .inl ⟨by decide, by decide⟩, _, _, rfl, rfl, _, rfl, _, rfl, _, _, rfl, rfl, .inl ⟨by decide, by decide⟩, _, _, rfl, rfl, _, rfl, pz, _, rfl, SqL.of (s2 _ _ hz), fun pz1 g1 => ?_⟩
        rw [show (1 : Int) + 2 * (0 + (i : Int)) = ((1 + 2 * i : Nat) : Int) by omega, cutV_from, ← List.map_drop]
        have s3 := same_new g1 (.lst ((zs.drop (1 + 2 * i)).map V.str))
        have k3 := upd_same (H := H2) (a := pz1) (o := .lst ((zs.drop (1 + 2 * i)).map V.str))
        generalize upd H2 pz1 (.lst ((zs.drop (1 + 2 * i)).map V.str)) = H3 at s3 k3 ⊢
        have s23 := s2.trans s3
        obtain ⟨m, hm⟩ := Int.eq_ofNat_of_zero_le (Int.emod_nonneg (c3 / (1 + (0 + (i : Int)))) (show (3 : Int) ≠ 0 by decide))
        have hm3 := Int.emod_lt_of_pos (c3 / (1 + (0 + (i : Int)))) (show (0 : Int) < 3 by decide)
        refine ⟨_, rfl, _, rfl, _, _, rfl, rfl, pn, _, _, _, rfl, rfl, SqL.of (s23 _ _ hn), h3, _, rfl, _, _, rfl, rfl, _, _, rfl, rfl, ⟨by omega, by omega⟩, .inl ⟨_, rfl, _, _, rfl, rfl, (by show (0 : Int) < 3; decide), ?_⟩⟩
        refine ⟨pn, pz1, ns, zs.drop (1 + 2 * i), at0 + 4 + 5 * i, m, by rw [← hm, show ((at0 + 4 + 5 * i : Nat) : Int) = (at0 : Int) + 4 + 5 * (0 + (i : Int)) by omega], s23 _ _ hn, hb, by omega, by omega, k3, by rw [List.length_drop]; omega, fun b v' H4 s4 hbk bl bp bn => ⟨(by show 2 ≤ sizeLine; decide), fun t ht => ?_⟩⟩
        have s5 := same_new ht (.tup [.int (c2 % 3 + 2 * (0 + (i : Int))), v'])
        have hacc5 := (s3.trans (s4.trans s5)) _ _ hacc
        have S5 := s23.trans (s4.trans s5)
        refine ⟨D, _, _, rfl, rfl, hacc5, small1000 (by rw [plen pc, cl]; omega), ?_⟩
        refine ⟨_, _, rfl, same_set S5 hD, acc ++ [.ref t], cs ++ [(c2 % 3 + 2 * (i : Int), b)], upd_same, papp (L2.Paired.mapP pc fun _ _ k => k.tk ((sTk (s3.trans (s4.trans s5))).trans (.wr hacc5))) (.cons ?_ .nil), by rw [List.length_append, cl]; rfl, fun c hc => ?_, ?_, ?_⟩
        · refine CsAt.tk (.wr hacc5) ⟨t, v', rfl, ?_, hbk.tk (sTk s5)⟩
          rw [Int.zero_add]
          exact upd_same
        · rcases List.mem_append.mp hc with hc | hc
          · exact cp c hc
          · rw [List.mem_singleton.mp hc]; exact ⟨⟨by show 0 ≤ c2 % 3 + 2 * (i : Int); omega, by show c2 % 3 + 2 * (i : Int) ≤ 6; omega⟩, by show b.length ≤ 2; omega, bp⟩
        · rw [List.map_append, cv, List.range_succ, List.map_append]; rfl
        · rw [List.flatMap_append, List.flatMap_cons, List.flatMap_nil, List.append_nil, bn]
          exact step_sub csub (by omega)
      rintro σ H2 ⟨k7, v8, rfl, s2, acc, cs, hacc, pc, cl, cp, cv, csub⟩
      obtain ⟨y, hy, ym⟩ := pick c19 (by omega)
      refine ⟨_, rfl, pz, _, 0, _, rfl, rfl, SqL.of (s2 _ _ hz), hz0a, _, rfl, _, rfl, _, rfl, _, _, rfl, rfl, pn, _, _, _, rfl, rfl, SqL.of (s2 _ _ hn), h19, .inl ⟨_, rfl, _, rfl, _, _, rfl, .inl ⟨_, SqL.of (s2 _ _ ha), rfl⟩, _, _, rfl, rfl, (by show (0 : Int) < ((ah.map V.str).length : Int); rw [List.length_map]; omega), pa, _, _, _, rfl, rfl, SqL.of (s2 _ _ ha), hy, _, rfl, .inl ⟨D, acc, rfl, SqL.of hacc, fun p hp => ⟨(by show 4 ≤ sizeLine; decide), fun t ht => ?_⟩⟩⟩⟩
      have s3 := same_new hp (.tup acc)
      have s4 := same_new ht (.tup [.str "switch", .str z, .str y, .ref p])
      refine q (.swi z y cs) _ _ (s2.trans (s3.trans s4)) ⟨t, p, acc, rfl, upd_same, s4 _ _ upd_same, L2.Paired.mapP pc fun _ _ k => k.tk (sTk (s3.trans s4))⟩ ⟨ym, ⟨by omega, by omega⟩, cp, ?_⟩ rfl (all_sub csub hz0) rfl rfl
      rw [cv]
      refine List.Pairwise.map _ (fun a b h e => ?_) List.nodup_range
      exact h (by omega)
    rintro σ Hx ⟨rfl, rfl⟩
    -- an either
    refine ⟨_, rfl, _, rfl, _, _, rfl, rfl, _, rfl, 1, rfl, pz, _, rfl, SqL.of hz, fun pz1 g1 => ?_⟩
    rw [show (1 : Int) = ((1 : Nat) : Int) from rfl, cutV_from, ← List.map_drop]
    have s1 := same_new g1 (.lst ((zs.drop 1).map V.str))
    have k1 := upd_same (H := Hx) (a := pz1) (o := .lst ((zs.drop 1).map V.str))
    generalize upd Hx pz1 (.lst ((zs.drop 1).map V.str)) = H1 at s1 k1 ⊢
    obtain ⟨m, hm⟩ := Int.eq_ofNat_of_zero_le (Int.emod_nonneg c1 (show (3 : Int) ≠ 0 by decide))
    have hm3 := Int.emod_lt_of_pos c1 (show (0 : Int) < 3 by decide)
    refine ⟨_, rfl, _, rfl, _, _, rfl, rfl, pn, _, _, _, rfl, rfl, SqL.of (s1 _ _ hn), h1, .inl ⟨_, rfl, _, _, rfl, rfl, (by show (0 : Int) < 3; decide), ?_⟩⟩
    refine ⟨pn, pz1, ns, zs.drop 1, at0 + 2, m, by rw [← hm]; rfl, s1 _ _ hn, hb, by omega, by omega, k1, by rw [List.length_drop]; omega, fun b0 v0 H2 s2 hbk0 bl0 bp0 bn0 => ⟨(by show 1 ≤ sizeLine; decide), fun D hD => ?_⟩⟩
    have s12 := s1.trans s2
    have hn0 := same_new hD (.lst [v0]) _ _ (s12 _ _ hn)
    refine ⟨_, rfl, _, rfl, _, _, rfl, rfl, pn, _, _, _, rfl, rfl, SqL.of hn0, h1, _, _, rfl, rfl, ⟨by decide, by decide⟩, .inl ⟨_, rfl, _, _, rfl, rfl, (by show (0 : Int) < 2; decide), _, _, rfl, rfl, _, rfl, by omega, by omega, ?_⟩⟩
    refine for_range (lo := 0) (n := (1 + c1 / 3 % 2).toNat) (fun i σ H' => ∃ k7, σ = [some (.ref pn), some (.int (at0 : Int)), some (.ref pz), some (.ref pa), some (.int (c0 % 3)), none, none, k7, none, some (.ref D)] ∧ Same H2 H' ∧ ∃ acc bs, H' D = some (.lst acc) ∧ Paired (BkAt H') acc bs ∧ bs.length = i + 1 ∧
        (∀ b ∈ bs, b.length ≤ 2 ∧ ∀ x ∈ b, x.plain) ∧ (∀ b ∈ bs.drop 1, 1 ≤ b.length) ∧ (bs.flatMap fun b => b.map Sm.name).Sublist ((zs.drop 1).take (2 * (i + 1))))
        ⟨none, rfl, same_new hD _, [v0], [b0], upd_same, .cons (hbk0.tk (sTk (same_new hD _))) .nil, rfl, (fun b hb => by rw [List.mem_singleton.mp hb]; exact ⟨by omega, bp0⟩), (fun b hb => by simp at hb), ?_⟩ ?_ ?_
    · rw [List.flatMap_cons, List.flatMap_nil, List.append_nil, bn0]
      exact List.take_sublist_take_left (by omega)
    · rintro i σ H3 hi ⟨k7, rfl, s3, acc, bs, hacc, pc, cl, cp, cd, csub⟩
      have i2 : i < 2 := by omega
      have S3 := s12.trans s3
      refine ⟨_, rfl, .inl ⟨rfl, _, SqL.of hacc⟩, _, rfl, _, rfl, _, _, rfl, rfl, _, rfl, _, _, rfl, rfl, .inl ⟨by decide, by decide⟩, _, _, rfl, rfl, _, rfl, _, rfl, _, _, rfl, rfl, .inl ⟨by decide, by decide⟩, _, _, rfl, rfl, _, rfl, pz, _, rfl, SqL.of (S3 _ _ hz), fun pz2 g2 => ?_⟩
      rw [show (3 : Int) + 2 * (0 + (i : Int)) = ((1 + 2 * (i + 1) : Nat) : Int) by omega, cutV_from, ← List.map_drop]
      have s4 := same_new g2 (.lst ((zs.drop (1 + 2 * (i + 1))).map V.str))
      have k4 := upd_same (H := H3) (a := pz2) (o := .lst ((zs.drop (1 + 2 * (i + 1))).map V.str))
      generalize upd H3 pz2 (.lst ((zs.drop (1 + 2 * (i + 1))).map V.str)) = H4 at s4 k4 ⊢
      have S4 := S3.trans s4
      obtain ⟨m2, hm2, m21, m22⟩ : ∃ m : Nat, (1 : Int) + c1 / 6 % 2 = (m : Int) ∧ 1 ≤ m ∧ m ≤ 2 := by
        have : c1 / 6 % 2 = 0 ∨ c1 / 6 % 2 = 1 := by omega
        rcases this with e | e
        · exact ⟨1, by rw [e]; rfl, by decide, by decide⟩
        · exact ⟨2, by rw [e]; rfl, by decide, by decide⟩
      refine ⟨_, rfl, _, rfl, _, _, rfl, rfl, pn, _, _, _, rfl, rfl, SqL.of (S4 _ _ hn), h1, _, _, rfl, rfl, ⟨by decide, by decide⟩, .inl ⟨_, rfl, _, _, rfl, rfl, (by show (0 : Int) < 2; decide), _, _, rfl, rfl, ?_⟩⟩
      refine ⟨pn, pz2, ns, zs.drop (1 + 2 * (i + 1)), at0 + 8 + 5 * i, m2, by rw [← hm2, show ((at0 + 8 + 5 * i : Nat) : Int) = (at0 : Int) + 8 + 5 * (0 + (i : Int)) by omega]; rfl, S4 _ _ hn, hb, by omega, by omega, k4, by rw [List.length_drop]; omega, fun b v' H5 s5 hbk bl bp bn => ?_⟩
      have hacc5 := (s4.trans s5) _ _ hacc
      refine ⟨D, _, _, rfl, rfl, hacc5, small1000 (by rw [plen pc, cl]; omega), ?_⟩
      refine ⟨_, rfl, same_set (s3.trans (s4.trans s5)) hD, acc ++ [v'], bs ++ [b], upd_same, papp (L2.Paired.mapP pc fun _ _ k => k.tk ((sTk (s4.trans s5)).trans (.wr hacc5))) (.cons (hbk.tk (.wr hacc5)) .nil), by rw [List.length_append, cl]; rfl, fun c hc => ?_, fun c hc => ?_, ?_⟩
      · rcases List.mem_append.mp hc with hc | hc
        · exact cp c hc
        · rw [List.mem_singleton.mp hc]; exact ⟨by omega, bp⟩
      · rw [List.drop_append_of_le_length (by omega)] at hc
        rcases List.mem_append.mp hc with hc | hc
        · exact cd c hc
        · rw [List.mem_singleton.mp hc]; omega
      · rw [List.flatMap_append, List.flatMap_cons, List.flatMap_nil, List.append_nil, bn]
        exact step_sub csub (by omega)
    rintro σ H3 ⟨k7, rfl, s3, acc, bs, hacc, pc, cl, cp, cd, csub⟩
    have S3 := s12.trans s3
    refine ⟨_, rfl, pz, _, 0, _, rfl, rfl, SqL.of (S3 _ _ hz), hz0a, _, rfl, .inl ⟨D, acc, rfl, SqL.of hacc, fun p hp => ⟨(by show 3 ≤ sizeLine; decide), fun t ht => ?_⟩⟩⟩
    have s4 := same_new hp (.tup acc)
    have s5 := same_new ht (.tup [.str "either", .str z, .ref p])
    exact q (.eit z bs) _ _ (S3.trans (s4.trans s5)) ⟨t, p, acc, rfl, upd_same, s5 _ _ upd_same, L2.Paired.mapP pc fun _ _ k => k.tk (sTk (s4.trans s5))⟩ ⟨⟨by omega, by omega⟩, cp, cd⟩ rfl (all_sub csub hz0) rfl rfl
end
end Bm

set_option Elab.async false
set_option linter.all false
set_option maxRecDepth 100000
set_option maxHeartbeats 8000000
/-! all items -/
namespace Bm
open PySem L2
abbrev sItem : Stmt := top 12
abbrev sItems : Stmt := top 13
def spItem : Sp := fun vs H Q _ => ∃ (pn pz pa : Addr) (ns : List Int) (zs ah : List Str) (at0 : Nat) (z : Str) (ck : Bool), vs = [.ref pn, .int (at0 : Int), .ref pz, .ref pa, .bl ck] ∧ H pn = some (.lst (ns.map V.int)) ∧ Nb ns ∧ at0 + 20 ≤ ns.length ∧ H pz = some (.lst (zs.map V.str)) ∧ zs.length = 7 ∧ zs[0]? = some z ∧ H pa = some (.lst (ah.map V.str)) ∧ ah.length ≤ 4 ∧
  ∀ (x : I2) v' H', Same H H' → I2At H' v' x → x.ok ah → x.name = z → x.names.Sublist zs → (x.isChk = true → ck = false) → Q v' H'
def spItems : Sp := fun vs H Q _ => ∃ (pn : Addr) (ns : List Int) (at0 : Nat), vs = [.ref pn, .int (at0 : Int)] ∧ H pn = some (.lst (ns.map V.int)) ∧ Nb ns ∧ at0 + 82 ≤ ns.length ∧
  ∀ (l : List I2) p xs H', Same H H' → H' p = some (.tup xs) → ItsAt H' xs l → Drawn l → Q (.ref p) H'
theorem one_sub {zs : List Str} {z : Str} (h : zs[0]? = some z) : [z].Sublist zs := by
  cases zs with
  | nil => simp at h
  | cons a r => simp at h; subst h; exact (List.nil_sublist r).cons_cons _
theorem hds_nodup {zs : List Str} (hh : ∀ (i j : Nat) (z y : Str), zs[i]? = some z → zs[j]? = some y → i < j → j < i + 26 → z.cps.toList.head? ≠ y.cps.toList.head?) (a : Nat) : (((zs.drop a).take 7).map hd).Nodup := by
  refine List.pairwise_iff_getElem.mpr fun i j hi hj hij => ?_
  rw [List.length_map, List.length_take, List.length_drop] at hi hj
  simp only [List.getElem_map, List.getElem_take, List.getElem_drop]
  exact hh (a + i) (a + j) _ _ (List.getElem?_eq_getElem (by omega)) (List.getElem?_eq_getElem (by omega)) (by omega) (by omega)
section
variable {P : Program} {w : World} {K : PySem.W.Frag} {mg : Str → Option Value} {base : Heap} {f : Addr} {fd : FuncData}
abbrev nItem : List Str := ["numbers", "at", "names", "ahead", "checked", "kind", "order", "low"]
theorem scItem : FnScope nItem ["numbers", "at", "names", "ahead", "checked"] (defScope sItem) := ⟨rfl, rfl, rfl, by decide +kernel, rfl, by decide +kernel, by decide +kernel⟩
theorem ok_item (F : Fun K "_law_item" "_law_item" sItem f fd) (gN : Cal P w K mg base CX0 3 "_law_nested" ["numbers", "at", "names", "ahead"] spNest) (mint : mg "int" = none) (ml : mg "len" = none) (mmin : mg "min" = none) : FnOk P w K mg base CX0 4 f fd ["numbers", "at", "names", "ahead", "checked"] spItem := by
  refine F.ok scItem (fun vs H Q E h => ?_) (fun cdv A outer s H vs Q E hr h => ?_)
  · obtain ⟨pn, pz, pa, ns, zs, ah, at0, z, ck, rfl, _⟩ := h
    rfl
  · obtain ⟨pn, pz, pa, ns, zs, ah, at0, z, ck, rfl, hn0, hb, hlen, hz0', hzl, hz0, ha0, hal, q0⟩ := h
    refine ⟨_, (pss_cons (ps_set (i := 5) scItem.nd rfl (.inl rfl) (pe_op op_mod (pe_callTy (r := rInt1) call_int1 (by rfl) mint (by decide +kernel) (pa_cons (pe_ix ix_list (pv 0) (pv 1) (fun _ _ => rfl)) pa_nil)) pe_int))
      (pss_cons (ps_set (i := 6) scItem.nd rfl (.inl rfl) (pe_ix ix_tup (pe_tup (pa_cons pe_str (pa_cons pe_str pa_nil))) (pe_op op_mod (pe_callTy (r := rInt1) call_int1 (by rfl) mint (by decide +kernel) (pa_cons (pe_ix ix_list (pv 0) (pe_op op_add (pv 1) pe_int) (fun _ _ => rfl)) pa_nil)) pe_int) (fun _ _ => rfl)))
      (pss_cons (ps_if (pt_cmpR op_lt (pv 5) pe_int (nomark _)) (pss_cons (ps_set (i := 7) scItem.nd rfl (.inl rfl) (pe_op op_mod (pe_callTy (r := rInt1) call_int1 (by rfl) mint (by decide +kernel) (pa_cons (pe_ix ix_list (pv 0) (pe_op op_add (pv 1) pe_int) (fun _ _ => rfl)) pa_nil)) pe_int))
      (pss_one (ps_ret (pe_tup (pa_cons pe_str (pa_cons (pe_ix ix_list (pv 2) pe_int (fun _ _ => rfl)) (pa_cons pe_int (pa_cons (pv 6) (pa_cons (pv 7) (pa_cons (pe_op op_add (pv 7) (pe_op op_mod (pe_callTy (r := rInt1) call_int1 (by rfl) mint (by decide +kernel) (pa_cons (pe_ix ix_list (pv 0) (pe_op op_add (pv 1) pe_int) (fun _ _ => rfl)) pa_nil)) pe_int)) pa_nil)))))))))) pss_nil)
      (pss_cons (ps_if (pt_cmpR op_eq (pv 5) pe_int (nomark _)) (pss_cons (ps_set (i := 7) scItem.nd rfl (.inl rfl) (pe_op op_mul (pe_ix ix_list (pv 0) (pe_op op_add (pv 1) pe_int) (fun _ _ => rfl)) pe_int))
      (pss_one (ps_ret (pe_tup (pa_cons pe_str (pa_cons (pe_ix ix_list (pv 2) pe_int (fun _ _ => rfl)) (pa_cons pe_int (pa_cons (pv 6) (pa_cons (pv 7) (pa_cons (pe_callB (call_min2 rfl) (by rfl) mmin (by decide +kernel) (pa_cons pe_int (pa_cons (pe_op op_add (pv 7) (pe_op op_mul (pe_ix ix_list (pv 0) (pe_op op_add (pv 1) pe_int) (fun _ _ => rfl)) (pe_op op_add pe_int (pe_op op_mod (pe_callTy (r := rInt1) call_int1 (by rfl) mint (by decide +kernel) (pa_cons (pe_ix ix_list (pv 0) (pe_op op_add (pv 1) pe_int) (fun _ _ => rfl)) pa_nil)) pe_int)))) pa_nil))) pa_nil)))))))))) pss_nil)
      (pss_cons (ps_if (PW.pt (pw_and (pt_cmpR op_eq (pv 5) pe_int (nomark _)) (pw_and1 (pt_cmpR op_gt (pe_callB call_len (by rfl) ml boot_len (pa_cons (pv 3) pa_nil)) pe_int (nomark _))))) (pss_one (ps_ret (pe_tup (pa_cons pe_str (pa_cons (pe_ix ix_list (pv 2) pe_int (fun _ _ => rfl)) (pa_cons (pe_ix ix_list (pv 3) (pe_op op_mod (pe_callTy (r := rInt1) call_int1 (by rfl) mint (by decide +kernel) (pa_cons (pe_ix ix_list (pv 0) (pe_op op_add (pv 1) pe_int) (fun _ _ => rfl)) pa_nil)) (pe_callB call_len (by rfl) ml boot_len (pa_cons (pv 3) pa_nil))) (fun _ _ => rfl)) pa_nil)))))) pss_nil)
      (pss_cons (ps_if (pt_cmpR op_eq (pv 5) pe_int (nomark _)) (pss_one (ps_ret (pe_tup (pa_cons pe_str (pa_cons (pe_ix ix_list (pv 2) pe_int (fun _ _ => rfl)) (pa_cons (pe_op op_mod (pe_callTy (r := rInt1) call_int1 (by rfl) mint (by decide +kernel) (pa_cons (pe_ix ix_list (pv 0) (pe_op op_add (pv 1) pe_int) (fun _ _ => rfl)) pa_nil)) pe_int) pa_nil)))))) pss_nil)
      (pss_cons (ps_if (pt_cmpR op_eq (pv 5) pe_int (nomark _)) (pss_one (ps_ret (pe_tup (pa_cons pe_str (pa_cons (pe_ix ix_list (pv 2) pe_int (fun _ _ => rfl)) (pa_cons (pe_op op_mod (pe_callTy (r := rInt1) call_int1 (by rfl) mint (by decide +kernel) (pa_cons (pe_ix ix_list (pv 0) (pe_op op_add (pv 1) pe_int) (fun _ _ => rfl)) pa_nil)) pe_int) (pa_cons (pe_op op_mod (pe_callTy (r := rInt1) call_int1 (by rfl) mint (by decide +kernel) (pa_cons (pe_ix ix_list (pv 0) (pe_op op_add (pv 1) pe_int) (fun _ _ => rfl)) pa_nil)) pe_int) pa_nil))))))) pss_nil)
      (pss_cons (ps_if (PW.pt (pw_and (pt_cmpR op_eq (pv 5) pe_int (nomark _)) (pw_and1 (pt_not (pt_val (pv 4)))))) (pss_one (ps_ret (pe_tup (pa_cons pe_str (pa_cons (pe_ix ix_list (pv 2) pe_int (fun _ _ => rfl)) (pa_cons (pe_op op_add pe_int (pe_op op_mod (pe_callTy (r := rInt1) call_int1 (by rfl) mint (by decide +kernel) (pa_cons (pe_ix ix_list (pv 0) (pe_op op_add (pv 1) pe_int) (fun _ _ => rfl)) pa_nil)) pe_int)) pa_nil)))))) pss_nil)
      (pss_cons (ps_if (pt_cmpR op_eq (pv 5) pe_int (nomark _)) (pss_one (ps_ret (pe_tup (pa_cons pe_str (pa_cons (pe_ix ix_list (pv 2) pe_int (fun _ _ => rfl)) (pa_cons (pe_ix ix_tup (pe_tup (pa_cons pe_int (pa_cons pe_int (pa_cons pe_int pa_nil)))) (pe_op op_mod (pe_callTy (r := rInt1) call_int1 (by rfl) mint (by decide +kernel) (pa_cons (pe_ix ix_list (pv 0) (pe_op op_add (pv 1) pe_int) (fun _ _ => rfl)) pa_nil)) pe_int) (fun _ _ => rfl)) (pa_cons (pe_op op_mod (pe_callTy (r := rInt1) call_int1 (by rfl) mint (by decide +kernel) (pa_cons (pe_ix ix_list (pv 0) (pe_op op_add (pv 1) pe_int) (fun _ _ => rfl)) pa_nil)) pe_int) pa_nil))))))) pss_nil)
      (pss_one (ps_ret (pe_cal gN hr pass0 (pa_cons (pv 0) (pa_cons (pv 1) (pa_cons (pv 2) (pa_cons (pv 3) pa_nil)))))))))))))))), ?_⟩
    have hz0a : atI (zs.map V.str) 0 = some (.str z) := str_get (j := 0) hz0
    obtain ⟨c0, h0, b0⟩ := num_at hb (i := (at0 : Int)) (by omega) (by omega)
    obtain ⟨c1, h1, b1⟩ := num_at hb (i := (at0 : Int) + 1) (by omega) (by omega)
    obtain ⟨c2, h2, b2⟩ := num_at hb (i := (at0 : Int) + 2) (by omega) (by omega)
    obtain ⟨c3, h3, b3⟩ := num_at hb (i := (at0 : Int) + 3) (by omega) (by omega)
    obtain ⟨c4, h4, b4⟩ := num_at hb (i := (at0 : Int) + 4) (by omega) (by omega)
    refine ⟨_, rfl, _, rfl, pn, _, _, _, rfl, rfl, SqL.of hn0, h0, .inl ⟨_, rfl, _, _, rfl, rfl, (by show (0 : Int) < 10; decide), ?_⟩⟩
    -- an order
    obtain ⟨ov, om, ho⟩ := at_mem (xs := [V.str "big", V.str "little"]) (r := c3 % 2) (Int.emod_nonneg _ (by decide)) (Int.emod_lt_of_pos _ (by decide))
    obtain ⟨o, rfl, oo⟩ : ∃ o : Str, ov = .str o ∧ (o = "big" ∨ o = "little") := by
      simp only [List.mem_cons, List.not_mem_nil, or_false] at om
      rcases om with rfl | rfl
      · exact ⟨_, rfl, .inl rfl⟩
      · exact ⟨_, rfl, .inr rfl⟩
    refine ⟨(by show 2 ≤ sizeLine; decide), fun t0 g0 => ?_⟩
    have s0 := same_new g0 (.tup [.str "big", .str "little"])
    have hn := s0 _ _ hn0
    have hz := s0 _ _ hz0'
    have ha := s0 _ _ ha0
    have kt := upd_same (H := H) (a := t0) (o := .tup [.str "big", .str "little"])
    have q : ∀ (x : I2) v' H', Same (upd H t0 (.tup [.str "big", .str "little"])) H' → I2At H' v' x → x.ok ah → x.name = z → x.names.Sublist zs → (x.isChk = true → ck = false) → Q v' H' := fun x v' H' s => q0 x v' H' (s0.trans s)
    generalize upd H t0 (.tup [.str "big", .str "little"]) = H1 at hn hz ha kt q ⊢
    clear s0 q0 hn0 hz0' ha0
    refine ⟨_, rfl, _, rfl, _, _, rfl, rfl, pn, _, _, _, rfl, rfl, SqL.of hn, h3, .inl ⟨_, rfl, _, _, rfl, rfl, (by show (0 : Int) < 2; decide), t0, _, _, _, rfl, rfl, SqT.of kt, ho, ?_⟩⟩
    have sub1 := one_sub hz0
    -- numbers
    refine ⟨_, rfl, _, _, rfl, rfl, _, rfl, ite2 (fun _ => ?_) (fun _ => ?_)⟩
    · refine ⟨_, rfl, _, rfl, _, _, rfl, rfl, pn, _, _, _, rfl, rfl, SqL.of hn, h1, .inl ⟨_, rfl, _, _, rfl, rfl, (by show (0 : Int) < 4; decide), ?_⟩⟩
      refine ⟨_, rfl, pz, _, 0, _, rfl, rfl, SqL.of hz, hz0a, _, rfl, _, rfl, _, rfl, _, rfl, _, rfl, _, _, rfl, rfl, pn, _, _, _, rfl, rfl, SqL.of hn, h2, .inl ⟨_, rfl, _, _, rfl, rfl, (by show (0 : Int) < 5; decide), _, _, rfl, rfl, (by show 6 ≤ sizeLine; decide), fun t ht => ?_⟩⟩
      exact q (.sm (.num z 1 o (c1 % 4) (c1 % 4 + c2 % 5))) _ _ (same_new ht _) ⟨t, rfl, upd_same⟩ ⟨oo, by omega, by omega, .inl ⟨rfl, by omega⟩⟩ rfl sub1 (fun z => by cases z)
    refine ⟨_, rfl, rfl, _, rfl, ite2 (fun _ => ?_) (fun _ => ?_)⟩
    · refine ⟨_, rfl, _, rfl, _, _, rfl, rfl, pn, _, _, _, rfl, rfl, SqL.of hn, h1, _, _, rfl, rfl, .inr ⟨by decide, by decide⟩, ?_⟩
      refine ⟨_, rfl, pz, _, 0, _, rfl, rfl, SqL.of hz, hz0a, _, rfl, _, rfl, _, rfl, _, rfl, _, rfl, _, _, rfl, rfl, pn, _, _, _, rfl, rfl, SqL.of hn, h2, _, rfl, _, rfl, _, _, rfl, rfl, pn, _, _, _, rfl, rfl, SqL.of hn, h4, .inl ⟨_, rfl, _, _, rfl, rfl, (by show (0 : Int) < 60; decide), _, _, rfl, rfl, _, _, rfl, rfl, .inl ⟨by omega, by omega⟩, _, _, rfl, rfl, _, _, rfl, (by show 6 ≤ sizeLine; decide), fun t ht => ?_⟩⟩
      have p0 : 0 ≤ c2 * (1 + c4 % 60) := Int.mul_nonneg (by omega) (by omega)
      refine q (.sm (.num z 2 o (c1 * 65) (if c1 * 65 + c2 * (1 + c4 % 60) < 65535 then c1 * 65 + c2 * (1 + c4 % 60) else 65535))) _ _ (same_new ht _) ⟨t, rfl, upd_same⟩ ⟨oo, by omega, ?_, .inr ⟨rfl, ?_⟩⟩ rfl sub1 (fun z => by cases z)
      · split <;> omega
      · split <;> omega
    -- bytes
    refine nx_go ?_
    dsimp only
    refine with_rest (fun σ Hx => σ = [some (.ref pn), some (.int (at0 : Int)), some (.ref pz), some (.ref pa), some (.bl ck), some (.int (c0 % 10)), some (.str o), none] ∧ Hx = H1) ?_ fun go => ?_
    rotate_left
    · refine ⟨_, rfl, rfl, _, rfl, ite2 (fun _ => ?_) (fun _ => iteF (go _ _ ⟨rfl, rfl⟩))⟩
      refine ⟨_, rfl, _, _, rfl, .inl ⟨_, SqL.of ha, rfl⟩, _, _, rfl, rfl, _, rfl, ite2 (fun e => ?_) (fun _ => go _ _ ⟨rfl, rfl⟩)⟩
      have e : (0 : Int) < ((ah.map V.str).length : Int) := of_decide_eq_true e
      obtain ⟨y, hy, ym⟩ : ∃ y, atI (ah.map V.str) (c1 % ((ah.map V.str).length : Int)) = some (.str y) ∧ y ∈ ah := by
        rw [List.length_map] at e ⊢
        exact str_at (Int.emod_nonneg _ (by omega)) (Int.emod_lt_of_pos _ (by omega))
      refine ⟨_, rfl, pz, _, 0, _, rfl, rfl, SqL.of hz, hz0a, _, rfl, _, rfl, _, rfl, _, _, rfl, rfl, pn, _, _, _, rfl, rfl, SqL.of hn, h1, .inl ⟨_, rfl, _, rfl, _, _, rfl, .inl ⟨_, SqL.of ha, rfl⟩, _, _, rfl, rfl, e, pa, _, _, _, rfl, rfl, SqL.of ha, hy, (by show 3 ≤ sizeLine; decide), fun t ht => ?_⟩⟩
      exact q (.sm (.byt z (.inr y))) _ _ (same_new ht _) ⟨t, rfl, upd_same⟩ (.inr ⟨y, rfl, ym⟩) rfl sub1 (fun z => by cases z)
    rintro σ Hx ⟨rfl, rfl⟩
    refine ⟨_, rfl, rfl, _, rfl, ite2 (fun _ => ?_) (fun _ => ?_)⟩
    · refine ⟨_, rfl, pz, _, 0, _, rfl, rfl, SqL.of hz, hz0a, _, rfl, _, rfl, _, _, rfl, rfl, pn, _, _, _, rfl, rfl, SqL.of hn, h1, .inl ⟨_, rfl, _, _, rfl, rfl, (by show (0 : Int) < 4; decide), (by show 3 ≤ sizeLine; decide), fun t ht => ?_⟩⟩
      exact q (.sm (.byt z (.inl (c1 % 4)))) _ _ (same_new ht _) ⟨t, rfl, upd_same⟩ (.inl ⟨_, rfl, by omega, by omega⟩) rfl sub1 (fun z => by cases z)
    -- text
    refine ⟨_, rfl, rfl, _, rfl, ite2 (fun _ => ?_) (fun _ => ?_)⟩
    · refine ⟨_, rfl, pz, _, 0, _, rfl, rfl, SqL.of hz, hz0a, _, rfl, _, rfl, _, _, rfl, rfl, pn, _, _, _, rfl, rfl, SqL.of hn, h1, .inl ⟨_, rfl, _, _, rfl, rfl, (by show (0 : Int) < 256; decide), ?_⟩⟩
      refine ⟨_, rfl, _, rfl, _, _, rfl, rfl, pn, _, _, _, rfl, rfl, SqL.of hn, h2, .inl ⟨_, rfl, _, _, rfl, rfl, (by show (0 : Int) < 4; decide), (by show 4 ≤ sizeLine; decide), fun t ht => ?_⟩⟩
      exact q (.sm (.txt z (c1 % 256) (c2 % 4))) _ _ (same_new ht _) ⟨t, rfl, upd_same⟩ ⟨⟨by omega, by omega⟩, by omega, by omega⟩ rfl sub1 (fun z => by cases z)
    -- a check
    refine nx_go ?_
    dsimp only
    refine with_rest (fun σ Hx' => σ = [some (.ref pn), some (.int (at0 : Int)), some (.ref pz), some (.ref pa), some (.bl ck), some (.int (c0 % 10)), some (.str o), none] ∧ Hx' = Hx) ?_ fun go => ?_
    rotate_left
    · refine ⟨_, rfl, rfl, _, rfl, ite2 (fun _ => ?_) (fun _ => iteF (go _ _ ⟨rfl, rfl⟩))⟩
      refine ⟨_, rfl, _, rfl, ?_⟩
      cases ck with
      | true => exact iteF (go _ _ ⟨rfl, rfl⟩)
      | false =>
        refine iteT ?_
        refine ⟨_, rfl, pz, _, 0, _, rfl, rfl, SqL.of hz, hz0a, _, rfl, _, rfl, _, _, rfl, rfl, pn, _, _, _, rfl, rfl, SqL.of hn, h1, .inl ⟨_, rfl, _, _, rfl, rfl, (by show (0 : Int) < 5; decide), _, _, rfl, rfl, (by show 3 ≤ sizeLine; decide), fun t ht => ?_⟩⟩
        exact q (.sm (.chk z (1 + c1 % 5))) _ _ (same_new ht _) ⟨t, rfl, upd_same⟩ ⟨by omega, by omega⟩ rfl sub1 (fun _ => rfl)
    rintro σ Hx' ⟨rfl, rfl⟩
    -- a pad
    refine ⟨_, rfl, rfl, _, rfl, ite2 (fun _ => ?_) (fun _ => ?_)⟩
    · obtain ⟨m, mm, hm⟩ := at_ints (is := [1, 2, 4]) (r := c1 % 3) (Int.emod_nonneg _ (by decide)) (Int.emod_lt_of_pos _ (by decide))
      have m3 : m = 1 ∨ m = 2 ∨ m = 4 := by simpa using mm
      refine ⟨_, rfl, pz, _, 0, _, rfl, rfl, SqL.of hz, hz0a, (by show 3 ≤ sizeLine; decide), fun t1 g1 => ?_⟩
      have s1 := same_new g1 (.tup [.int 1, .int 2, .int 4])
      refine ⟨_, rfl, _, rfl, _, _, rfl, rfl, pn, _, _, _, rfl, rfl, SqL.of (s1 _ _ hn), h1, .inl ⟨_, rfl, _, _, rfl, rfl, (by show (0 : Int) < 3; decide), t1, _, _, _, rfl, rfl, SqT.of upd_same, hm, ?_⟩⟩
      refine ⟨_, rfl, _, rfl, _, _, rfl, rfl, pn, _, _, _, rfl, rfl, SqL.of (s1 _ _ hn), h2, .inl ⟨_, rfl, _, _, rfl, rfl, (by show (0 : Int) < 256; decide), (by show 4 ≤ sizeLine; decide), fun t ht => ?_⟩⟩
      exact q (.sm (.pad z m (c2 % 256))) _ _ (s1.trans (same_new ht _)) ⟨t, rfl, upd_same⟩ ⟨m3, by omega, by omega⟩ rfl sub1 (fun z => by cases z)
    refine ⟨_, rfl, _, rfl, _, rfl, _, rfl, pn, pz, pa, ns, zs, ah, at0, z, rfl, hn, hb, hlen, hz, hzl, hz0, ha, hal, fun x v' H2 s2 a1 a2 a3 a4 a5 _ => q x v' H2 s2 a1 a2 a3 a4 (fun e => by rw [a5] at e; cases e)⟩
abbrev nItems : List Str := ["numbers", "at", "names", "items", "ahead", "checked", "k", "item"]
theorem scItems : FnScope nItems ["numbers", "at"] (defScope sItems) := ⟨rfl, rfl, rfl, by decide +kernel, rfl, by decide +kernel, by decide +kernel⟩
theorem kind_sm {x : I2} (h : x.kind = "number") : ∃ n s o lo hi, x = .sm (.num n s o lo hi) := by
  cases x with
  | sm y => cases y with
    | num n s o lo hi => exact ⟨n, s, o, lo, hi, rfl⟩
    | _ => exact absurd h (by simp only [I2.kind, Sm.kind]; decide +kernel)
  | _ => exact absurd h (by simp only [I2.kind]; decide +kernel)
theorem kind_chk (x : I2) : decide (V.str x.kind = V.str "check") = x.isChk := by
  cases x with
  | sm y => cases y with
    | chk n m => exact decide_eq_true rfl
    | _ => exact decide_eq_false (kne (by simp only [I2.kind, Sm.kind]; decide +kernel))
  | _ => exact decide_eq_false (kne (by simp only [I2.kind]; decide +kernel))
theorem tells_len (x : I2) : x.tells.length ≤ 1 := by
  cases x with
  | sm y => cases y with
    | num n s o lo hi => simp only [I2.tells]; split <;> simp
    | _ => simp [I2.tells]
  | _ => simp [I2.tells]
theorem tells_not {x : I2} (h : x.kind ≠ "number") : x.tells = [] := by
  cases x with
  | sm y => cases y with
    | num n s o lo hi => exact absurd rfl h
    | _ => rfl
  | _ => rfl
theorem ok_items (F : Fun K "_law_items" "_law_items" sItems f fd) (gM : Cal P w K mg base CX0 1 "_law_names" ["number", "many"] spNames) (gI : Cal P w K mg base CX0 4 "_law_item" ["numbers", "at", "names", "ahead", "checked"] spItem) (mint : mg "int" = none) (mr : mg "range" = none) (mt : mg "tuple" = none) : FnOk P w K mg base CX0 5 f fd ["numbers", "at"] spItems := by
  refine F.ok scItems (fun vs H Q E h => ?_) (fun cdv A outer s H vs Q E hr h => ?_)
  · obtain ⟨pn, ns, at0, rfl, _⟩ := h
    rfl
  · obtain ⟨pn, ns, at0, rfl, hn, hb, hlen, q⟩ := h
    have hr1 : Room 1 _ := hr.mono (by decide)
    refine ⟨_, (pss_cons (ps_set (i := 2) scItems.nd rfl (.inl rfl) (pe_cal gM hr1 pass0 (pa_cons (pe_ix ix_list (pv 0) (pv 1) (fun _ _ => rfl)) (pa_cons pe_int pa_nil))))
      (pss_cons (ps_set (i := 3) scItems.nd rfl (.inl rfl) (pe_lst pa_nil))
      (pss_cons (ps_set (i := 4) scItems.nd rfl (.inl rfl) (pe_lst pa_nil))
      (pss_cons (ps_set (i := 5) scItems.nd rfl (.inl rfl) pe_bl)
      (pss_cons (ps_for PassesOwn.never rfl (pi_range1 (by rfl) mr (pa_cons (pe_op op_add pe_int (pe_op op_mod (pe_callTy (r := rInt1) call_int1 (by rfl) mint (by decide +kernel) (pa_cons (pe_ix ix_list (pv 0) (pe_op op_add (pv 1) pe_int) (fun _ _ => rfl)) pa_nil)) pe_int)) pa_nil)) (pg_name (i := 6) scItems.nd rfl (.inl rfl))
        (pss_cons (ps_set (i := 7) scItems.nd rfl (.inl rfl) (pe_cal gI hr pass0 (pa_cons (pv 0) (pa_cons (pe_op op_add (pe_op op_add (pv 1) pe_int) (pe_op op_mul pe_int (pv 6))) (pa_cons (pe_slice sl_list (pv 2) (po_some (pe_op op_mul pe_int (pv 6))) (po_some (pe_op op_add (pe_op op_mul pe_int (pv 6)) pe_int))) (pa_cons (pv 4) (pa_cons (pv 5) pa_nil)))))))
      (pss_cons (ps_if (PW.pt (pw_and (pt_cmpR op_eq (pe_ix ix_tup (pv 7) pe_int (fun _ _ => rfl)) pe_str (nomark _)) (pw_and1 (pt_cmpR op_eq (pe_ix ix_tup (pv 7) pe_int (fun _ _ => rfl)) pe_int (nomark _))))) (pss_one (ps_expr (pe_bm PySem.F.plainAttrs_list PySem.F.slot_list_append PySem.F.type_list_append mt_append (pv 4) (pa_cons (pe_ix ix_tup (pv 7) pe_int (fun _ _ => rfl)) pa_nil)))) pss_nil)
      (pss_cons (ps_set (i := 5) scItems.nd rfl (.inl rfl) (pe_or (pv 5) (pe_one (pe_cmpR op_eq (pe_ix ix_tup (pv 7) pe_int (fun _ _ => rfl)) pe_str (nomark _)))))
      (pss_one (ps_expr (pe_bm PySem.F.plainAttrs_list PySem.F.slot_list_append PySem.F.type_list_append mt_append (pv 3) (pa_cons (pv 7) pa_nil))))))))
      (pss_one (ps_ret (pe_tupleOf (by rfl) mt (pv 3))))))))), ?_⟩
    obtain ⟨c0, h0, b0⟩ := num_at hb (i := (at0 : Int)) (by omega) (by omega)
    obtain ⟨c1, h1, b1⟩ := num_at hb (i := (at0 : Int) + 1) (by omega) (by omega)
    refine ⟨_, rfl, _, rfl, pn, _, _, _, rfl, rfl, SqL.of hn, h0, c0, 28, rfl, by decide, fun pz zs H1 s1 _ hz hzl hzd hzn hzh => ?_⟩
    refine ⟨(by show 0 ≤ sizeLine; decide), fun D1 g1 => ?_⟩
    have s2 := same_new g1 (.lst [])
    have k1 := upd_same (H := H1) (a := D1) (o := .lst [])
    refine ⟨(by show 0 ≤ sizeLine; decide), fun D2 g2 => ?_⟩
    have nD : D1 ≠ D2 := fun e => by rw [← e, upd_same] at g2; cases g2
    have s3 := same_new g2 (.lst [])
    have k2 := upd_same (H := upd H1 D1 (.lst [])) (a := D2) (o := .lst [])
    have k1' := s3 _ _ k1
    have g20 : H1 D2 = none := s2.free g2
    have S1 := s1.trans (s2.trans s3)
    generalize upd (upd H1 D1 (.lst [])) D2 (.lst []) = H2 at s3 k2 k1' S1 ⊢
    have S12 := s2.trans s3
    clear s2 s3
    refine ⟨_, rfl, _, rfl, _, _, rfl, rfl, pn, _, _, _, rfl, rfl, SqL.of (S1 _ _ hn), h1, .inl ⟨_, rfl, _, _, rfl, rfl, (by show (0 : Int) < 4; decide), _, _, rfl, rfl, _, rfl, by omega, by omega, ?_⟩⟩
    refine for_range (lo := 0) (n := (1 + c1 % 4).toNat) (fun i σ H' => ∃ (ck : Bool) (k6 i7 : Option V), σ = [some (.ref pn), some (.int (at0 : Int)), some (.ref pz), some (.ref D1), some (.ref D2), some (.bl ck), k6, i7] ∧ Same H1 H' ∧ ∃ acc l, H' D1 = some (.lst acc) ∧ ItsAt H' acc l ∧ l.length = i ∧ H' D2 = some (.lst ((l.flatMap I2.tells).map V.str)) ∧
      OkL [] l ∧ (l.flatMap I2.names).Sublist (zs.take (7 * i)) ∧ (∀ x ∈ l, (x.names.map hd).Nodup) ∧ (∀ (j : Nat) (x : I2), l[j]? = some x → zs[7 * j]? = some x.name) ∧ (l.filter I2.isChk).length ≤ (if ck = true then 1 else 0))
      ⟨false, none, none, rfl, S12, [], [], k1', .nil, rfl, k2, trivial, List.nil_sublist _, (fun x hx => by cases hx), (fun j x hx => by simp at hx), Nat.le_refl _⟩ ?_ ?_
    · rintro i σ H3 hi ⟨ck, k6, i7, rfl, s3, acc, l, hacc, pl, ll, hah, okl, sub, hds, top, chk⟩
      have i4 : i < 4 := by omega
      have S3 := s1.trans s3
      obtain ⟨z0, hz0⟩ : ∃ z0, zs[7 * i]? = some z0 := ⟨zs[7 * i]'(by omega), List.getElem?_eq_getElem _⟩
      have tl : (l.flatMap I2.tells).length ≤ l.length := by
        clear hah okl sub hds top chk pl ll
        induction l with
        | nil => simp
        | cons x r ih => rw [List.flatMap_cons, List.length_append, List.length_cons]; have := tells_len x; omega
      refine ⟨_, rfl, _, rfl, _, _, rfl, rfl, _, rfl, _, _, rfl, rfl, .inl ⟨by decide, by decide⟩, _, _, rfl, rfl, _, rfl, _, rfl, _, _, rfl, rfl, .inl ⟨by decide, by decide⟩, _, rfl, _, rfl, _, _, rfl, rfl, .inl ⟨by decide, by decide⟩, _, _, rfl, rfl, _, rfl, pz, _, rfl, SqL.of (s3 _ _ hz), fun pz1 g1' => ?_⟩
      rw [show (7 : Int) * (0 + (i : Int)) + 7 = ((7 * i + 7 : Nat) : Int) by omega, show (7 : Int) * (0 + (i : Int)) = ((7 * i : Nat) : Int) by omega, cutV_part, ← List.map_drop, ← List.map_take, show 7 * i + 7 - 7 * i = 7 by omega]
      have s4 := same_new g1' (.lst (((zs.drop (7 * i)).take 7).map V.str))
      have k4 := upd_same (H := H3) (a := pz1) (o := .lst (((zs.drop (7 * i)).take 7).map V.str))
      generalize upd H3 pz1 (.lst (((zs.drop (7 * i)).take 7).map V.str)) = H4 at s4 k4 ⊢
      have S4 := S3.trans s4
      refine ⟨_, rfl, _, rfl, pn, pz1, D2, ns, (zs.drop (7 * i)).take 7, l.flatMap I2.tells, at0 + 2 + 20 * i, z0, ck, by rw [show ((at0 + 2 + 20 * i : Nat) : Int) = (at0 : Int) + 2 + 20 * (0 + (i : Int)) by omega], S4 _ _ hn, hb, by omega, k4, by rw [List.length_take, List.length_drop]; omega, by rw [List.getElem?_take, if_pos (by decide), List.getElem?_drop]; exact hz0, s4 _ _ hah, by omega, fun x v' H5 s5 hx xok xn xsub xck => ?_⟩
      have hacc5 := (s4.trans s5) _ _ hacc
      have hah5 := (s4.trans s5) _ _ hah
      have S5 := s3.trans (s4.trans s5)
      obtain ⟨p, rest, rfl, hp⟩ := hx.head
      have pl5 : ItsAt H5 acc l := pl.tk (sTk (s4.trans s5))
      refine g_nx ?_
      dsimp only
      refine with_rest (fun σ Hx => σ = [some (.ref pn), some (.int (at0 : Int)), some (.ref pz), some (.ref D1), some (.ref D2), some (.bl ck), some (.int (0 + (i : Int))), some (.ref p)] ∧ Same H1 Hx ∧ Hx D1 = some (.lst acc) ∧ Hx D2 = some (.lst (((l ++ [x]).flatMap I2.tells).map V.str)) ∧ Tk H5 Hx) ?_ fun go => ?_
      rotate_left
      · have no : x.tells = [] → Same H1 H5 ∧ H5 D1 = some (.lst acc) ∧ H5 D2 = some (.lst (((l ++ [x]).flatMap I2.tells).map V.str)) ∧ Tk H5 H5 := fun e => ⟨S5, hacc5, by rw [List.flatMap_append, List.flatMap_cons, List.flatMap_nil, List.append_nil, e, List.append_nil]; exact hah5, Tk.refl _⟩
        refine ⟨_, rfl, p, _, 0, _, rfl, rfl, SqT.of hp, atI_nat (j := 0) rfl, rfl, _, rfl, ite2 (fun e => ?_) (fun e => ?_)⟩
        · have e : x.kind = "number" := V.str.inj (of_decide_eq_true e)
          obtain ⟨n, sz, o, lo, hi', rfl⟩ := kind_sm e
          obtain ⟨p', ep, hp'⟩ := hx
          cases ep
          refine ⟨_, rfl, p, _, 2, _, rfl, rfl, SqT.of hp', atI_nat (j := 2) rfl, rfl, _, rfl, ite2 (fun e => ?_) (fun e => ?_)⟩
          · have e : sz = 1 := V.int.inj (of_decide_eq_true e)
            subst e
            refine ⟨_, rfl, .inl ⟨rfl, _, SqL.of hah5⟩, _, rfl, p, _, 1, _, rfl, rfl, SqT.of hp', atI_nat (j := 1) rfl, D2, _, _, rfl, rfl, hah5, small1000 (by rw [List.length_map]; omega), ?_⟩
            refine go _ _ ⟨rfl, same_set S5 g20, by rw [upd_ne nD]; exact hacc5, ?_, .wr hah5⟩
            rw [upd_same, List.flatMap_append, List.map_append]
            rfl
          · have e : ¬ sz = 1 := fun z => e (decide_eq_true (by show V.int sz = V.int 1; rw [z]))
            exact go _ _ ⟨rfl, no (by simp only [I2.tells]; rw [if_neg e])⟩
        · have e : x.kind ≠ "number" := fun z => e (decide_eq_true (by rw [z]))
          exact iteF (go _ _ ⟨rfl, no (tells_not e)⟩)
      rintro σ Hx ⟨rfl, sx, hax, hahx, tkx⟩
      have hpx := tkx _ _ hp
      have fin : ∀ (ck2 : Bool), ck2 = (ck || x.isChk) → ∃ (ck' : Bool) (k6 i7 : Option V), ([some (.ref pn), some (.int (at0 : Int)), some (.ref pz), some (.ref D1), some (.ref D2), some (.bl ck2), some (.int (0 + (i : Int))), some (.ref p)] : L2.St) = [some (.ref pn), some (.int (at0 : Int)), some (.ref pz), some (.ref D1), some (.ref D2), some (.bl ck'), k6, i7] ∧ Same H1 (upd Hx D1 (.lst (acc ++ [.ref p]))) ∧ ∃ acc' l', (upd Hx D1 (.lst (acc ++ [.ref p]))) D1 = some (.lst acc') ∧ ItsAt (upd Hx D1 (.lst (acc ++ [.ref p]))) acc' l' ∧ l'.length = i + 1 ∧ (upd Hx D1 (.lst (acc ++ [.ref p]))) D2 = some (.lst ((l'.flatMap I2.tells).map V.str)) ∧
          OkL [] l' ∧ (l'.flatMap I2.names).Sublist (zs.take (7 * (i + 1))) ∧ (∀ x ∈ l', (x.names.map hd).Nodup) ∧ (∀ (j : Nat) (x : I2), l'[j]? = some x → zs[7 * j]? = some x.name) ∧ (l'.filter I2.isChk).length ≤ (if ck' = true then 1 else 0) := fun ck2 e2 => by
        refine ⟨ck2, _, _, rfl, same_set sx g1, acc ++ [.ref p], l ++ [x], upd_same, papp (pl5.tk (tkx.trans (.wr hax))) (.cons (hx.tk (tkx.trans (.wr hax))) .nil), by rw [List.length_append, ll]; rfl, by rw [upd_ne nD.symm]; exact hahx, okl.snoc (by simpa using xok), ?_, fun y hy => ?_, fun j y hy => ?_, ?_⟩
        · rw [List.flatMap_append, List.flatMap_cons, List.flatMap_nil, List.append_nil, show 7 * (i + 1) = 7 * i + 7 by omega, List.take_add]
          exact sub.append xsub
        · rcases List.mem_append.mp hy with hy | hy
          · exact hds y hy
          · rw [List.mem_singleton.mp hy]; exact (xsub.map hd).nodup (hds_nodup hzh (7 * i))
        · by_cases hj : j < l.length
          · rw [List.getElem?_append_left hj] at hy
            exact top j y hy
          · rw [List.getElem?_append_right (by omega)] at hy
            have hj0 : j - l.length = 0 := by
              apply Decidable.byContradiction
              intro k
              rw [List.getElem?_eq_none (by rw [List.length_singleton]; omega)] at hy
              cases hy
            rw [hj0] at hy
            have hy := Option.some.inj hy
            have ej : j = i := by omega
            rw [ej, ← hy, xn]
            exact hz0
        · rw [List.filter_append, List.length_append, e2]
          cases hc : x.isChk with
          | true =>
            have := xck hc
            subst this
            simp only [List.filter_cons, hc, List.filter_nil]
            simp at chk ⊢
            omega
          | false =>
            simp only [List.filter_cons, hc, List.filter_nil]
            cases ck <;> simp at chk ⊢ <;> omega
      refine ⟨_, rfl, ck, rfl, ?_⟩
      cases ck with
      | true =>
        refine iteT ?_
        refine ⟨_, rfl, .inl ⟨rfl, _, SqL.of hax⟩, _, rfl, D1, _, _, rfl, rfl, hax, small1000 (by rw [plen pl, ll]; omega), ?_⟩
        exact fin true rfl
      | false =>
        refine iteF ?_
        refine ⟨_, rfl, p, _, 0, _, rfl, rfl, SqT.of hpx, atI_nat (j := 0) rfl, rfl, ?_⟩
        refine g_nx ?_
        dsimp only
        rw [kind_chk]
        refine ⟨_, rfl, .inl ⟨rfl, _, SqL.of hax⟩, _, rfl, D1, _, _, rfl, rfl, hax, small1000 (by rw [plen pl, ll]; omega), ?_⟩
        exact fin x.isChk rfl
    rintro σ H3 ⟨ck, k6, i7, rfl, s3, acc, l, hacc, pl, ll, hah, okl, sub, hds, top, chk⟩
    refine ⟨_, rfl, .inl ⟨D1, acc, rfl, SqL.of hacc, fun p hp => ?_⟩⟩
    have s4 := same_new hp (.tup acc)
    have sub28 : (l.flatMap I2.names).Sublist zs := sub.trans (List.take_sublist _ _)
    refine q l p acc _ (s1.trans (s3.trans s4)) upd_same (pl.tk (sTk s4)) ⟨by omega, by omega, okl, sub28.nodup hzd, fun z hz' => hzn z (sub28.subset hz'), hds, ?_, ?_⟩
    · refine List.pairwise_iff_getElem.mpr fun i j hi hj hij => ?_
      rw [List.length_map] at hi hj
      simp only [List.getElem_map]
      exact hzh (7 * i) (7 * j) _ _ (top i _ (List.getElem?_eq_getElem hi)) (top j _ (List.getElem?_eq_getElem hj)) (by omega) (by omega)
    · exact Nat.le_trans chk (by split <;> decide)
end
end Bm

set_option Elab.async false
set_option linter.all false
set_option maxRecDepth 100000
set_option maxHeartbeats 8000000
/-! files are written: plain items -/
namespace Bm
open PySem L2
abbrev sFind : Stmt := top 14
abbrev sTake : Stmt := top 15
abbrev sPutS : Stmt := top 16
/-! ### what is known: the last of a name counts -/
def PrAt (H : Hp) (v : V) (p : Str × Int) : Prop := ∃ t, v = .ref t ∧ H t = some (.tup [.str p.1, .int p.2])
theorem PrAt.tk {H H' : Hp} (s : Tk H H') {v : V} {p : Str × Int} (h : PrAt H v p) : PrAt H' v p := by
  obtain ⟨t, e, h⟩ := h; exact ⟨t, e, s _ _ h⟩
def findK (kn : List (Str × Int)) : Key → Int
  | .inl i => i
  | .inr z => kn.foldl (fun f p => if p.1 = z then p.2 else f) 0
theorem findK_mem (kn : List (Str × Int)) (z : Str) (Pr : Int → Prop) (h0 : Pr 0) (h : ∀ p ∈ kn, p.1 = z → Pr p.2) : Pr (findK kn (.inr z)) := by
  have : ∀ (l : List (Str × Int)) (f : Int), Pr f → (∀ p ∈ l, p.1 = z → Pr p.2) → Pr (l.foldl (fun f p => if p.1 = z then p.2 else f) f) := fun l => by
    induction l with
    | nil => exact fun f hf _ => hf
    | cons a r ih =>
      intro f hf hl
      rw [List.foldl_cons]
      refine ih _ ?_ fun p hp => hl p (List.mem_cons_of_mem _ hp)
      split
      · next e => exact hl a (List.mem_cons_self ..) e
      · exact hf
  exact this kn 0 h0 h
def spFind : Sp := fun vs H Q _ => ∃ (pk : Addr) (ks : List V) (kn : List (Str × Int)) (a : Key), vs = [.ref pk, kV a] ∧ H pk = some (.lst ks) ∧ Paired (PrAt H) ks kn ∧ Q (.int (findK kn a)) H
/-! ### all but one list is kept -/
def But (p : Addr) (H H' : Hp) : Prop := ∀ b o, b ≠ p → H b = some o → H' b = some o
theorem But.refl (p : Addr) (H : Hp) : But p H H := fun _ _ _ h => h
theorem But.trans {p : Addr} {H H1 H2 : Hp} (a : But p H H1) (b : But p H1 H2) : But p H H2 := fun c o n h => b c o n (a c o n h)
theorem But.of {p : Addr} {H H' : Hp} (s : Same H H') : But p H H' := fun _ _ _ h => s _ _ h
theorem But.tk {p : Addr} {xs : List V} {H H' : Hp} (h : H p = some (.lst xs)) (b : But p H H') : Tk H H' := fun c ys e => b c _ (ne_of e h (by intro z; cases z)) e
theorem But.wr (p : Addr) (H : Hp) (o : HO) : But p H (upd H p o) := fun b u n e => by rw [upd_ne n]; exact e
theorem But.nil {p q : Addr} {H H' : Hp} (b : But p H H') (n : q ≠ p) (h : H' q = none) : H q = none := by
  cases e : H q with
  | none => rfl
  | some o => rw [b q o n e] at h; cases h
theorem But.new {p q : Addr} {H : Hp} {o : HO} (h : H q = none) : But p H (upd H q o) := .of (same_new h o)
/-- the state of the writer: bytes, a count, what is known -/
structure StAt (H : Hp) (st b : Addr) (c : Int) (k : Addr) (bs : List Int) (kn : List (Str × Int)) : Prop where
  hs : H st = some (.lst [.ref b, .int c, .ref k])
  hb : H b = some (.lst (bs.map V.int))
  hk : ∃ ks, H k = some (.lst ks) ∧ Paired (PrAt H) ks kn
  nb : b ≠ st
  nk : k ≠ st
theorem StAt.put {H H' : Hp} {st b k : Addr} {c : Int} {bs : List Int} {kn : List (Str × Int)} (h : StAt H st b c k bs kn) (u : But st H H') {b' k' : Addr} {c' : Int} (e : H' st = some (.lst [.ref b', .int c', .ref k'])) (eb : b' = b) (ek : k' = k) : StAt H' st b' c' k' bs kn := by
  subst eb ek
  obtain ⟨ks, hk, pk⟩ := h.hk
  exact ⟨e, u _ _ h.nb h.hb, ⟨ks, u _ _ h.nk hk, L2.Paired.mapP pk fun _ _ q => q.tk (But.tk h.hs u)⟩, h.nb, h.nk⟩
theorem StAt.same {H H' : Hp} {st b k : Addr} {c : Int} {bs : List Int} {kn : List (Str × Int)} (h : StAt H st b c k bs kn) (s : Same H H') : StAt H' st b c k bs kn := h.put (.of s) (s _ _ h.hs) rfl rfl
def spTake : Sp := fun vs H Q _ => ∃ (pn st b k : Addr) (ns : List Int) (at0 many : Nat) (c : Int), vs = [.ref pn, .int (at0 : Int), .int (many : Int), .ref st] ∧ H pn = some (.lst (ns.map V.int)) ∧ Nb ns ∧ 0 < many ∧ many < 1000000 ∧ at0 + many ≤ ns.length ∧ pn ≠ st ∧ H st = some (.lst [.ref b, .int c, .ref k]) ∧
  ∀ r, 0 ≤ r → r < 1009 → Q (.int r) (upd H st (.lst [.ref b, .int (c + 1), .ref k]))
def Sm.okW : Sm → Prop
  | .num _ s o lo hi => 0 ≤ lo ∧ lo ≤ hi ∧ hi ≤ 65535 ∧ (s ≠ 2 → hi ≤ 255) ∧ (s = 2 → o = "big" ∨ o = "little")
  | .byt _ a => ∀ i, a = .inl i → 0 ≤ i ∧ i ≤ 65535
  | .txt _ s m => (0 ≤ s ∧ s ≤ 255) ∧ 0 ≤ m ∧ m ≤ 1000
  | .chk _ m => 1 ≤ m ∧ m ≤ 256
  | .pad _ m b => (1 ≤ m ∧ m ≤ 1000) ∧ 0 ≤ b ∧ b ≤ 255
def KnOk (kn : List (Str × Int)) : Prop := ∀ p ∈ kn, 0 ≤ p.2 ∧ p.2 ≤ 65535
def By (bs : List Int) : Prop := ∀ b ∈ bs, 0 ≤ b ∧ b ≤ 255
theorem By.app {a b : List Int} (h : By a) (g : By b) : By (a ++ b) := fun x hx => (List.mem_append.mp hx).elim (h x) (g x)
def wtS : Sm → Nat
  | .num .. => 2
  | .byt _ (.inl i) => i.toNat
  | .byt _ (.inr _) => 65535
  | .txt _ _ m => (m + 1).toNat
  | .chk .. => 1
  | .pad _ m _ => m.toNat
def Sm.simp : Sm → Prop
  | .num .. => True | .byt .. => True | .txt .. => True | _ => False
def spPutS : Sp := fun vs H Q _ => ∃ (v : V) (x : Sm) (pn st b k : Addr) (ns : List Int) (at0 many : Nat) (c : Int) (bs : List Int) (kn : List (Str × Int)), vs = [v, .ref pn, .int (at0 : Int), .int (many : Int), .ref st] ∧ SmAt H v x ∧ x.okW ∧ x.simp ∧ H pn = some (.lst (ns.map V.int)) ∧ Nb ns ∧ 0 < many ∧ many < 1000000 ∧ at0 + many ≤ ns.length ∧ pn ≠ st ∧
  StAt H st b c k bs kn ∧ KnOk kn ∧ kn.length ≤ 2000000 ∧
  ∀ (r : Addr) (ws : List Int) (c' : Int) (k' : Addr) (kn' : List (Str × Int)) H', But st H H' → StAt H' st b c' k' bs kn' → KnOk kn' → r ≠ st → H' r = some (.lst (ws.map V.int)) → By ws → ws.length ≤ wtS x → kn'.length ≤ kn.length + ws.length → Q (.ref r) H'
section
variable {P : Program} {w : World} {K : PySem.W.Frag} {mg : Str → Option Value} {base : Heap} {f : Addr} {fd : FuncData}
abbrev nFind : List Str := ["known", "count", "found", "pair"]
theorem scFind : FnScope nFind ["known", "count"] (defScope sFind) := ⟨rfl, rfl, rfl, by decide +kernel, rfl, by decide +kernel, by decide +kernel⟩
theorem ok_find (F : Fun K "_law_find" "_law_find" sFind f fd) (mi : mg "isinstance" = none) (ms : mg "str" = none) : FnOk P w K mg base CX0 1 f fd ["known", "count"] spFind := by
  refine F.ok scFind (fun vs H Q E h => ?_) (fun cdv A outer s H vs Q E hr h => ?_)
  · obtain ⟨pk, ks, kn, a, rfl, _⟩ := h
    rfl
  · obtain ⟨pk, ks, kn, a, rfl, hk, pkn, q⟩ := h
    refine ⟨_, (pss_cons (ps_if (pt_not (pt_val (pe_callB call_isi (by rfl) mi (by decide +kernel) (pa_cons (pv 1) (pa_cons (pe_bltn (v := .ty "str") (by rfl) ms (by decide +kernel) rfl) pa_nil))))) (pss_one (ps_ret (pv 1))) pss_nil)
      (pss_cons (ps_set (i := 2) scFind.nd rfl (.inl rfl) pe_int)
      (pss_cons (ps_for PassesOwn.never rfl (pi_row (pv 0)) (pg_name (i := 3) scFind.nd rfl (.inl rfl))
        (pss_one (ps_if (pt_cmpR op_eq (pe_ix ix_tup (pv 3) pe_int (fun _ _ => rfl)) (pv 1) (nomark _)) (pss_one (ps_set (i := 2) scFind.nd rfl (.inl rfl) (pe_ix ix_tup (pv 3) pe_int (fun _ _ => rfl)))) pss_nil)))
      (pss_one (ps_ret (pv 2)))))), ?_⟩
    cases a with
    | inl i => exact ⟨_, rfl, _, _, _, _, false, rfl, .ty _, .base (.int _), kit_ty (by decide +kernel), _, rfl, iteT ⟨_, rfl, q⟩⟩
    | inr z =>
      refine ⟨_, rfl, _, _, _, _, true, rfl, .ty _, .base (.str _), kit_ty (by decide +kernel), _, rfl, iteF ?_⟩
      refine ⟨_, rfl, pk, rfl, row_l hk fun J wk => ?_⟩
      refine for_it wk (fun i σ H' => ∃ p3, σ = [some (.ref pk), some (.str z), some (.int ((kn.take i).foldl (fun f p => if p.1 = z then p.2 else f) 0)), p3] ∧ H' = H) ⟨none, rfl, rfl⟩ (fun _ _ _ _ h => by obtain ⟨_, _, z⟩ := h; rw [z]; exact Same.refl _) ?_ ?_
      · rintro i v σ H2' H2 hi ⟨p3, rfl, rfl⟩ ⟨e3, hv⟩
        subst e3
        obtain ⟨p, gp, t, rfl, ht⟩ := pget pkn hv
        have st : (kn.take (i + 1)).foldl (fun f p => if p.1 = z then p.2 else f) (0 : Int) = if p.1 = z then p.2 else (kn.take i).foldl (fun f p => if p.1 = z then p.2 else f) 0 := by
          rw [List.take_add_one, gp, List.foldl_append]
          rfl
        refine ⟨_, rfl, t, _, 0, _, rfl, rfl, SqT.of ht, atI_nat (j := 0) rfl, _, rfl, rfl, _, rfl, ite2 (fun e => ?_) (fun e => ?_)⟩
        · have e : p.1 = z := V.str.inj (of_decide_eq_true e)
          refine ⟨_, rfl, t, _, 1, _, rfl, rfl, SqT.of ht, atI_nat (j := 1) rfl, ?_⟩
          exact ⟨_, by rw [st, if_pos e]; rfl, rfl⟩
        · have e : ¬ p.1 = z := fun q => e (decide_eq_true (by rw [q]))
          exact ⟨_, by rw [st, if_neg e]; rfl, rfl⟩
      · rintro σ H2 ⟨p3, rfl, rfl⟩
        rw [plen pkn, List.take_length]
        exact ⟨_, rfl, q⟩
abbrev nTake : List Str := ["numbers", "at", "many", "state"]
theorem scTake : FnScope nTake ["numbers", "at", "many", "state"] (defScope sTake) := ⟨rfl, rfl, rfl, by decide +kernel, rfl, by decide +kernel, by decide +kernel⟩
theorem ok_take (F : Fun K "_law_take" "_law_take" sTake f fd) (mint : mg "int" = none) : FnOk P w K mg base CX0 1 f fd ["numbers", "at", "many", "state"] spTake := by
  refine F.ok scTake (fun vs H Q E h => ?_) (fun cdv A outer s H vs Q E hr h => ?_)
  · obtain ⟨pn, st, b, k, ns, at0, many, c, rfl, _⟩ := h
    rfl
  · obtain ⟨pn, st, b, k, ns, at0, many, c, rfl, hn, hb, h0, hbig, hlen, npn, hs, q⟩ := h
    refine ⟨_, (pss_cons (ps_asg (pe_op op_add (pe_ix ix_list (pv 3) pe_int (fun _ _ => rfl)) pe_int) (pg_sub (pv 3) pe_int set_list))
      (pss_one (ps_ret (pe_callTy (r := rInt1) call_int1 (by rfl) mint (by decide +kernel) (pa_cons (pe_ix ix_list (pv 0) (pe_op op_add (pv 1) (pe_op op_mod (pe_callTy (r := rInt1) call_int1 (by rfl) mint (by decide +kernel) (pa_cons (pe_op op_add (pe_op op_mul (pe_ix ix_list (pv 3) pe_int (fun _ _ => rfl)) pe_int) (pe_op op_fdiv (pe_ix ix_list (pv 3) pe_int (fun _ _ => rfl)) pe_int)) pa_nil)) (pv 2))) (fun _ _ => rfl)) pa_nil))))), ?_⟩
    refine ⟨_, rfl, st, _, 1, _, rfl, rfl, SqL.of hs, atI_nat (j := 1) rfl, _, _, rfl, rfl, ?_⟩
    refine ⟨_, rfl, st, _, 1, 1, rfl, rfl, hs, ixN_nat (n := 3) (j := 1) (by decide), ?_⟩
    have hs2 := upd_same (H := H) (a := st) (o := .lst [.ref b, .int (c + 1), .ref k])
    have hn2 : (upd H st (.lst [.ref b, .int (c + 1), .ref k])) pn = some (.lst (ns.map V.int)) := by rw [upd_ne npn]; exact hn
    obtain ⟨r, hr', hr0, hr1⟩ := num_at hb (i := (at0 : Int) + ((c + 1) * 7 + (c + 1) / 3) % (many : Int)) (by have := Int.emod_nonneg ((c + 1) * 7 + (c + 1) / 3) (show (many : Int) ≠ 0 by omega); omega) (by have := Int.emod_lt_of_pos ((c + 1) * 7 + (c + 1) / 3) (show (0 : Int) < (many : Int) by omega); omega)
    refine ⟨_, rfl, _, rfl, _, rfl, st, _, 1, _, rfl, rfl, SqL.of hs2, atI_nat (j := 1) rfl, _, _, rfl, rfl, .inr ⟨by decide, by decide⟩, _, rfl, st, _, 1, _, rfl, rfl, SqL.of hs2, atI_nat (j := 1) rfl, _, _, rfl, rfl, ⟨by decide, by decide⟩, _, _, rfl, rfl, .inl ⟨_, rfl, _, rfl, _, _, rfl, rfl, (by show (0 : Int) < (many : Int); omega), _, _, rfl, rfl, pn, _, _, _, rfl, rfl, SqL.of hn2, hr', .inl ⟨_, rfl, ?_⟩⟩⟩
    exact q r hr0 hr1
abbrev nPutS : List Str := ["item", "numbers", "at", "many", "state", "value", "told", "k", "size", "byte"]
theorem scPutS : FnScope nPutS ["item", "numbers", "at", "many", "state"] (defScope sPutS) := ⟨rfl, rfl, rfl, by decide +kernel, rfl, by decide +kernel, by decide +kernel⟩
theorem ok_puts (F : Fun K "_law_put_simple" "_law_put_simple" sPutS f fd) (gT : Cal P w K mg base CX0 1 "_law_take" ["numbers", "at", "many", "state"] spTake) (gF : Cal P w K mg base CX0 1 "_law_find" ["known", "count"] spFind) (mint : mg "int" = none) (mr : mg "range" = none) : FnOk P w K mg base CX0 2 f fd ["item", "numbers", "at", "many", "state"] spPutS := by
  refine F.ok scPutS (fun vs H Q E h => ?_) (fun cdv A outer s H vs Q E hr h => ?_)
  · obtain ⟨v, x, pn, st, b, k, ns, at0, many, c, bs, kn, rfl, _⟩ := h
    rfl
  · obtain ⟨v, x, pn, st, b, k, ns, at0, many, c, bs, kn, rfl, hx, xw, xs, hn, hb, h0, hbig, hlen, npn, sa, kok, kl, q⟩ := h
    have hr1 : Room 1 _ := hr
    refine ⟨_, (pss_cons (ps_if (pt_cmpR op_eq (pe_ix ix_tup (pv 0) pe_int (fun _ _ => rfl)) pe_str (nomark _)) (pss_cons (ps_set (i := 5) scPutS.nd rfl (.inl rfl) (pe_op op_add (pe_ix ix_tup (pv 0) pe_int (fun _ _ => rfl)) (pe_op op_mod (pe_callTy (r := rInt1) call_int1 (by rfl) mint (by decide +kernel) (pa_cons (pe_op op_add (pe_op op_mul (pe_cal gT hr1 pass0 (pa_cons (pv 1) (pa_cons (pv 2) (pa_cons (pv 3) (pa_cons (pv 4) pa_nil))))) pe_int) (pe_cal gT hr1 pass0 (pa_cons (pv 1) (pa_cons (pv 2) (pa_cons (pv 3) (pa_cons (pv 4) pa_nil)))))) pa_nil)) (pe_op op_add (pe_op op_sub (pe_ix ix_tup (pv 0) pe_int (fun _ _ => rfl)) (pe_ix ix_tup (pv 0) pe_int (fun _ _ => rfl))) pe_int))))
      (pss_cons (ps_set (i := 6) scPutS.nd rfl (.inl rfl) (pe_lst (pa_cons (pv 5) pa_nil)))
      (pss_cons (ps_if (PW.pt (pw_and (pt_cmpR op_eq (pe_ix ix_tup (pv 0) pe_int (fun _ _ => rfl)) pe_int (nomark _)) (pw_and1 (pt_cmpR op_eq (pe_ix ix_tup (pv 0) pe_int (fun _ _ => rfl)) pe_str (nomark _))))) (pss_one (ps_set (i := 6) scPutS.nd rfl (.inl rfl) (pe_lst (pa_cons (pe_op op_fdiv (pv 5) pe_int) (pa_cons (pe_op op_mod (pe_callTy (r := rInt1) call_int1 (by rfl) mint (by decide +kernel) (pa_cons (pv 5) pa_nil)) pe_int) pa_nil))))) pss_nil)
      (pss_cons (ps_if (PW.pt (pw_and (pt_cmpR op_eq (pe_ix ix_tup (pv 0) pe_int (fun _ _ => rfl)) pe_int (nomark _)) (pw_and1 (pt_cmpR op_eq (pe_ix ix_tup (pv 0) pe_int (fun _ _ => rfl)) pe_str (nomark _))))) (pss_one (ps_set (i := 6) scPutS.nd rfl (.inl rfl) (pe_lst (pa_cons (pe_op op_mod (pe_callTy (r := rInt1) call_int1 (by rfl) mint (by decide +kernel) (pa_cons (pv 5) pa_nil)) pe_int) (pa_cons (pe_op op_fdiv (pv 5) pe_int) pa_nil))))) pss_nil)
      (pss_cons (ps_asg (pe_op op_cat (pe_ix ix_list (pv 4) pe_int (fun _ _ => rfl)) (pe_lst (pa_cons (pe_tup (pa_cons (pe_ix ix_tup (pv 0) pe_int (fun _ _ => rfl)) (pa_cons (pv 5) pa_nil))) pa_nil))) (pg_sub (pv 4) pe_int set_list))
      (pss_one (ps_ret (pv 6)))))))) pss_nil)
      (pss_cons (ps_if (pt_cmpR op_eq (pe_ix ix_tup (pv 0) pe_int (fun _ _ => rfl)) pe_str (nomark _)) (pss_one (ps_ret (pe_lc (own := [("k", 7)]) (g := gName 7) (tt := tYes) rfl scPutS.nd (pi_range1 (by rfl) mr (pa_cons (pe_cal gF hr1 pass0 (pa_cons (pe_ix ix_list (pv 4) pe_int (fun _ _ => rfl)) (pa_cons (pe_ix ix_tup (pv 0) pe_int (fun _ _ => rfl)) pa_nil))) pa_nil)) (blkOk_by (own := [("k", 7)]) (N := nPutS) (sc := defScope sPutS) (by decide +kernel)) (fun _ _ _ _ _ => pg_name (i := 7) scPutS.nd rfl (Or.inl rfl)) (fun _ _ _ _ _ => pts_nil) (fun _ _ _ _ _ => (pe_op op_mod (pe_callTy (r := rInt1) call_int1 (by rfl) mint (by decide +kernel) (pa_cons (pe_cal gT hr1 pass0 (pa_cons (pv 1) (pa_cons (pv 2) (pa_cons (pv 3) (pa_cons (pv 4) pa_nil))))) pa_nil)) pe_int))))) pss_nil)
      (pss_cons (ps_set (i := 8) scPutS.nd rfl (.inl rfl) (pe_op op_mod (pe_callTy (r := rInt1) call_int1 (by rfl) mint (by decide +kernel) (pa_cons (pe_cal gT hr1 pass0 (pa_cons (pv 1) (pa_cons (pv 2) (pa_cons (pv 3) (pa_cons (pv 4) pa_nil))))) pa_nil)) (pe_op op_add (pe_ix ix_tup (pv 0) pe_int (fun _ _ => rfl)) pe_int)))
      (pss_cons (ps_set (i := 6) scPutS.nd rfl (.inl rfl) (pe_lst pa_nil))
      (pss_cons (ps_for PassesOwn.never rfl (pi_range1 (by rfl) mr (pa_cons (pv 8) pa_nil)) (pg_name (i := 7) scPutS.nd rfl (.inl rfl))
        (pss_cons (ps_set (i := 9) scPutS.nd rfl (.inl rfl) (pe_op op_mod (pe_callTy (r := rInt1) call_int1 (by rfl) mint (by decide +kernel) (pa_cons (pe_cal gT hr1 pass0 (pa_cons (pv 1) (pa_cons (pv 2) (pa_cons (pv 3) (pa_cons (pv 4) pa_nil))))) pa_nil)) pe_int))
      (pss_cons (ps_if (pt_cmpR op_eq (pv 9) (pe_ix ix_tup (pv 0) pe_int (fun _ _ => rfl)) (nomark _)) (pss_one (ps_set (i := 9) scPutS.nd rfl (.inl rfl) (pe_op op_mod (pe_callTy (r := rInt1) call_int1 (by rfl) mint (by decide +kernel) (pa_cons (pe_op op_add (pv 9) pe_int) pa_nil)) pe_int))) pss_nil)
      (pss_one (ps_expr (pe_bm PySem.F.plainAttrs_list PySem.F.slot_list_append PySem.F.type_list_append mt_append (pv 6) (pa_cons (pv 9) pa_nil)))))))
      (pss_one (ps_ret (pe_op op_cat (pv 6) (pe_lst (pa_cons (pe_ix ix_tup (pv 0) pe_int (fun _ _ => rfl)) pa_nil)))))))))), ?_⟩
    obtain ⟨p, rfl, hp⟩ := hx
    obtain ⟨ks, hk, pk⟩ := sa.hk
    have tk1 : ∀ H1, But st H H1 → H1 p = some (.tup x.row) := fun H1 u => But.tk sa.hs u _ _ hp
    have set1 : ∀ {H1 : Hp} {D : Addr} {o : HO}, But st H H1 → H D = none → But st H (upd H1 D o) := fun u hD b o n e => by rw [upd_ne (ne_of_none e hD)]; exact u b o n e
    have setS : ∀ {H1 : Hp} {o : HO}, But st H H1 → But st H (upd H1 st o) := fun u => u.trans (.wr _ _ _)
    -- one draw
    have tkg : ∀ {H1 : Hp} {c1 : Int} {σ : L2.St} {R : V → Hp → Prop}, σ[1]? = some (some (.ref pn)) → σ[2]? = some (some (.int (at0 : Int))) → σ[3]? = some (some (.int (many : Int))) → σ[4]? = some (some (.ref st)) → But st H H1 → H1 st = some (.lst [.ref b, .int c1, .ref k]) →
        (∀ r, 0 ≤ r → r < 1009 → R (.int r) (upd H1 st (.lst [.ref b, .int (c1 + 1), .ref k]))) → tCl spTake E0 (tCons (tVar 1) (tCons (tVar 2) (tCons (tVar 3) (tCons (tVar 4) tNil)))) σ H1 R := fun e1 e2 e3 e4 u hs1 g =>
      ⟨_, e1, _, e2, _, e3, _, e4, pn, st, b, k, ns, at0, many, _, rfl, u _ _ npn hn, hb, h0, hbig, hlen, npn, hs1, g⟩
    cases x with
    | chk n m => exact xs.elim
    | pad n m y => exact xs.elim
    | num n sz o lo hi =>
      obtain ⟨w1, w2, w3, w4, w5⟩ := xw
      refine ⟨_, rfl, p, _, 0, _, rfl, rfl, SqT.of hp, atI_nat (j := 0) rfl, rfl, _, rfl, ifT rfl ?_⟩
      refine ⟨_, rfl, p, _, 4, _, rfl, rfl, SqT.of hp, atI_nat (j := 4) rfl, tkg rfl rfl rfl rfl (.refl _ _) sa.hs fun r1 r10 r11 => ⟨_, _, rfl, rfl, .inr ⟨by decide, by decide⟩, tkg rfl rfl rfl rfl (.wr _ _ _) upd_same fun r2 r20 r21 => ?_⟩⟩
      have u2 : But st H (upd (upd H st (.lst [.ref b, .int (c + 1), .ref k])) st (.lst [.ref b, .int (c + 1 + 1), .ref k])) := setS (.wr _ _ _)
      have hs2 := upd_same (H := upd H st (.lst [.ref b, .int (c + 1), .ref k])) (a := st) (o := .lst [.ref b, .int (c + 1 + 1), .ref k])
      generalize upd (upd H st (.lst [.ref b, .int (c + 1), .ref k])) st (.lst [.ref b, .int (c + 1 + 1), .ref k]) = H2 at u2 hs2 ⊢
      have hT2 := SqT.of (K := K) (tk1 _ u2)
      refine ⟨_, _, rfl, rfl, .inl ⟨_, rfl, _, rfl, p, _, 5, _, rfl, rfl, hT2, atI_nat (j := 5) rfl, _, rfl, p, _, 4, _, rfl, rfl, hT2, atI_nat (j := 4) rfl, _, _, rfl, rfl, _, _, rfl, rfl, _, _, rfl, rfl, (by show (0 : Int) < hi - lo + 1; omega), _, _, rfl, rfl, ?_⟩⟩
      have e0 := Int.emod_nonneg (r1 * 257 + r2) (show hi - lo + 1 ≠ 0 by omega)
      have e1 := Int.emod_lt_of_pos (r1 * 257 + r2) (show (0 : Int) < hi - lo + 1 by omega)
      dsimp only
      generalize hval : lo + (r1 * 257 + r2) % (hi - lo + 1) = val
      have v0 : 0 ≤ val := by omega
      have v1 : val ≤ hi := by omega
      refine seq_asg ?_
      refine ⟨_, rfl, (by show 1 ≤ sizeLine; decide), fun l1 g1 => ?_⟩
      have n1 : l1 ≠ st := fun e => by rw [e, hs2] at g1; cases g1
      refine g_nx ?_
      refine with_rest (fun σ Hx => ∃ l ws, σ = [some (.ref p), some (.ref pn), some (.int (at0 : Int)), some (.int (many : Int)), some (.ref st), some (.int val), some (.ref l), none, none, none] ∧ Same H2 Hx ∧ H2 l = none ∧ l ≠ st ∧ Hx l = some (.lst (ws.map V.int)) ∧ 1 ≤ ws.length ∧ ws.length ≤ 2 ∧ (sz ≠ 2 ∨ o = "big" → By ws)) ?_ fun go => ?_
      rotate_left
      · have s1 := same_new g1 (.lst [.int val])
        have hp1 := s1 _ _ (tk1 _ u2)
        have plain : (sz ≠ 2 ∨ o = "big" → False) ∨ (sz ≠ 2) → ∃ l ws, ([some (.ref p), some (.ref pn), some (.int (at0 : Int)), some (.int (many : Int)), some (.ref st), some (.int val), some (.ref l1), none, none, none] : L2.St) = [some (.ref p), some (.ref pn), some (.int (at0 : Int)), some (.int (many : Int)), some (.ref st), some (.int val), some (.ref l), none, none, none] ∧ Same H2 (upd H2 l1 (.lst [.int val])) ∧ H2 l = none ∧ l ≠ st ∧ (upd H2 l1 (.lst [.int val])) l = some (.lst (ws.map V.int)) ∧ 1 ≤ ws.length ∧ ws.length ≤ 2 ∧ (sz ≠ 2 ∨ o = "big" → By ws) := fun h =>
          ⟨l1, [val], rfl, s1, g1, n1, upd_same, Nat.le_refl _, by simp, fun h2 => h.elim (fun h => (h h2).elim) fun h x hx => by rw [List.mem_singleton.mp hx]; exact ⟨v0, Int.le_trans v1 (w4 h)⟩⟩
        refine ⟨_, rfl, p, _, 2, _, rfl, rfl, SqT.of hp1, atI_nat (j := 2) rfl, rfl, _, rfl, ?_⟩
        by_cases c2 : sz = 2
        · refine ifP c2 ?_
          refine ⟨_, rfl, p, _, 3, _, rfl, rfl, SqT.of hp1, atI_nat (j := 3) rfl, rfl, _, rfl, ite2 (fun e => ?_) (fun e => go _ _ (plain (.inl fun h => h.elim (fun h => h c2) fun h => e (decide_eq_true (by rw [h])))))⟩
          refine ⟨_, rfl, _, _, rfl, rfl, ⟨by decide, by decide⟩, _, rfl, .inl ⟨_, rfl, _, _, rfl, rfl, (by show (0 : Int) < 256; decide), (by show 2 ≤ sizeLine; decide), fun l2 g2 => ?_⟩⟩
          have g2' : H2 l2 = none := s1.free g2
          refine go _ _ ⟨l2, [val / 256, val % 256], rfl, s1.trans (same_new g2 _), g2', (fun e => by rw [e, hs2] at g2'; cases g2'), upd_same, by simp, by simp, fun _ x hx => ?_⟩
          simp only [List.mem_cons, List.not_mem_nil, or_false] at hx
          rcases hx with rfl | rfl <;> omega
        · exact ifQ c2 (iteF (go _ _ (plain (.inr c2))))
      clear g1 n1 l1
      rintro σ Hx ⟨l1, ws1, rfl, sx, gl1, n1, hl1, wl1, wl2, wb⟩
      refine with_rest (fun σ Hx => ∃ l ws, σ = [some (.ref p), some (.ref pn), some (.int (at0 : Int)), some (.int (many : Int)), some (.ref st), some (.int val), some (.ref l), none, none, none] ∧ Same H2 Hx ∧ H2 l = none ∧ l ≠ st ∧ Hx l = some (.lst (ws.map V.int)) ∧ 1 ≤ ws.length ∧ ws.length ≤ 2 ∧ By ws) ?_ fun go => ?_
      rotate_left
      · have hp1 := sx _ _ (tk1 _ u2)
        refine ⟨_, rfl, p, _, 2, _, rfl, rfl, SqT.of hp1, atI_nat (j := 2) rfl, rfl, _, rfl, ?_⟩
        by_cases c2 : sz = 2
        · refine ifP c2 ?_
          refine ⟨_, rfl, p, _, 3, _, rfl, rfl, SqT.of hp1, atI_nat (j := 3) rfl, rfl, _, rfl, ite2 (fun e => ?_) (fun e => ?_)⟩
          · refine ⟨_, rfl, .inl ⟨_, rfl, _, _, rfl, rfl, (by show (0 : Int) < 256; decide), _, rfl, _, _, rfl, rfl, ⟨by decide, by decide⟩, (by show 2 ≤ sizeLine; decide), fun l2 g2 => ?_⟩⟩
            have g2' : H2 l2 = none := sx.free g2
            refine go _ _ ⟨l2, [val % 256, val / 256], rfl, sx.trans (same_new g2 _), g2', (fun e => by rw [e, hs2] at g2'; cases g2'), upd_same, by simp, by simp, fun x hx => ?_⟩
            simp only [List.mem_cons, List.not_mem_nil, or_false] at hx
            rcases hx with rfl | rfl <;> omega
          · refine go _ _ ⟨l1, ws1, rfl, sx, gl1, n1, hl1, wl1, wl2, wb ((w5 c2).elim .inr fun h => (e (decide_eq_true (by rw [h]))).elim)⟩
        · exact ifQ c2 (iteF (go _ _ ⟨l1, ws1, rfl, sx, gl1, n1, hl1, wl1, wl2, wb (.inl c2)⟩))
      clear sx gl1 n1 hl1 wl1 wl2 wb
      rintro σ Hx ⟨l, ws, rfl, sx, gl, n1, hl, wl1, wl2, wb⟩
      have ux : But st H Hx := u2.trans (.of sx)
      have hsx := sx _ _ hs2
      refine ⟨_, rfl, st, _, 2, _, rfl, rfl, SqL.of hsx, atI_nat (j := 2) rfl, _, rfl, p, _, 1, _, rfl, rfl, SqT.of (tk1 _ ux), atI_nat (j := 1) rfl, _, rfl, (by show 2 ≤ sizeLine; decide), fun t ht => ⟨(by show 1 ≤ sizeLine; decide), fun m hm => ?_⟩⟩
      have s3 := (same_new ht (.tup [.str (Sm.num n sz o lo hi).name, .int val])).trans (same_new hm (.lst [.ref t]))
      have kt := same_new hm (.lst [.ref t]) _ _ (upd_same (H := Hx) (a := t) (o := .tup [.str (Sm.num n sz o lo hi).name, .int val]))
      have km := upd_same (H := upd Hx t (.tup [.str (Sm.num n sz o lo hi).name, .int val])) (a := m) (o := .lst [.ref t])
      generalize upd (upd Hx t (.tup [.str (Sm.num n sz o lo hi).name, .int val])) m (.lst [.ref t]) = H3 at s3 kt km ⊢
      refine ⟨k, m, ks, [.ref t], rfl, rfl, s3 _ _ (ux _ _ sa.nk hk), km, le_line (by rw [plen pk]; simp only [List.length_cons, List.length_nil]; omega), fun k2 hk2 => ?_⟩
      have s4 := s3.trans (same_new hk2 (.lst (ks ++ [.ref t])))
      have kk2 := upd_same (H := H3) (a := k2) (o := .lst (ks ++ [.ref t]))
      have kt2 := same_new hk2 (.lst (ks ++ [.ref t])) _ _ kt
      generalize upd H3 k2 (.lst (ks ++ [.ref t])) = H4 at s4 kk2 kt2 ⊢
      have hs4 := s4 _ _ hsx
      have nk2 : k2 ≠ st := fun e => by have := s3 _ _ hsx; rw [← e, hk2] at this; cases this
      refine ⟨_, rfl, st, _, 2, 2, rfl, rfl, hs4, ixN_nat (n := 3) (j := 2) (by decide), ?_⟩
      have u5 : But st H (upd H4 st (.lst [.ref b, .int (c + 1 + 1), .ref k2])) := setS (ux.trans (.of s4))
      refine ⟨_, rfl, q l ws (c + 1 + 1) k2 (kn ++ [(n, val)]) _ u5 ⟨upd_same, u5 _ _ sa.nb sa.hb, ⟨ks ++ [.ref t], by rw [upd_ne nk2]; exact kk2, papp (L2.Paired.mapP pk fun _ _ z => z.tk (But.tk sa.hs u5)) (.cons ⟨t, rfl, But.tk hs4 (.wr _ _ _) _ _ kt2⟩ .nil)⟩, sa.nb, nk2⟩ (fun y hy => ?_) n1 (by rw [upd_ne n1]; exact s4 _ _ hl) wb (by simpa [wtS] using wl2) (by rw [List.length_append, List.length_singleton]; omega)⟩
      rcases List.mem_append.mp hy with hy | hy
      · exact kok y hy
      · rw [List.mem_singleton.mp hy]; exact ⟨v0, by show val ≤ 65535; omega⟩
    | byt n a =>
      refine ⟨_, rfl, p, _, 0, _, rfl, rfl, SqT.of hp, atI_nat (j := 0) rfl, rfl, _, rfl, ifN (by simp only [Sm.kind]; decide +kernel) ?_⟩
      refine ⟨_, rfl, p, _, 0, _, rfl, rfl, SqT.of hp, atI_nat (j := 0) rfl, rfl, _, rfl, ifT rfl ?_⟩
      have fb : 0 ≤ findK kn a ∧ findK kn a ≤ 65535 ∧ (findK kn a).toNat ≤ wtS (.byt n a) := by
        cases a with
        | inl i => have := xw i rfl; exact ⟨this.1, this.2, Nat.le_refl _⟩
        | inr z =>
          have := findK_mem kn z (fun i => 0 ≤ i ∧ i ≤ 65535) ⟨by decide, by decide⟩ fun p hp _ => kok p hp
          exact ⟨this.1, this.2, by simp only [wtS]; omega⟩
      refine ⟨_, rfl, st, _, 2, _, rfl, rfl, SqL.of sa.hs, atI_nat (j := 2) rfl, _, rfl, p, _, 2, _, rfl, rfl, SqT.of hp, atI_nat (j := 2) rfl, k, ks, kn, a, rfl, hk, pk, ?_⟩
      refine ⟨_, rfl, by omega, by omega, fun D hD => lc_range (lo := 0) (n := (findK kn a).toNat) (fun i H1 => But st H H1 ∧ ∃ c1 ws, H1 st = some (.lst [.ref b, .int c1, .ref k]) ∧ H1 D = some (.lst (ws.map V.int)) ∧ By ws ∧ ws.length = i)
        ⟨.new hD, c, [], same_new hD _ _ _ sa.hs, upd_same, (fun x hx => by cases hx), rfl⟩ ?_ ?_⟩
      · rintro i H1 hi ⟨u1, c1, ws, hs1, hD1, wb, wl⟩
        have nD : D ≠ st := fun e => by rw [e, sa.hs] at hD; cases hD
        refine ⟨rfl, yes_go ?_⟩
        refine tkg rfl rfl rfl rfl u1 hs1 fun r r0 r1 => .inl ⟨_, rfl, _, _, rfl, rfl, (by show (0 : Int) < 256; decide), ?_⟩
        refine ⟨ws.map V.int, by rw [upd_ne nD]; exact hD1, lt_line (by rw [List.length_map]; omega), set1 (setS u1) hD, c1 + 1, ws ++ [r % 256], by rw [upd_ne nD.symm]; exact upd_same, by rw [upd_same, map_snoc], wb.app fun x hx => ?_, by rw [List.length_append, wl]; rfl⟩
        rw [List.mem_singleton.mp hx]; omega
      · rintro H1 ⟨u1, c1, ws, hs1, hD1, wb, wl⟩
        have nD : D ≠ st := fun e => by rw [e, sa.hs] at hD; cases hD
        exact q D ws c1 k kn H1 u1 (sa.put u1 hs1 rfl rfl) kok nD hD1 wb (by rw [wl]; exact fb.2.2) (by omega)
    | txt n stop most =>
      obtain ⟨⟨w1, w2⟩, w3, w4⟩ := xw
      refine ⟨_, rfl, p, _, 0, _, rfl, rfl, SqT.of hp, atI_nat (j := 0) rfl, rfl, _, rfl, ifN (by simp only [Sm.kind]; decide +kernel) ?_⟩
      refine ⟨_, rfl, p, _, 0, _, rfl, rfl, SqT.of hp, atI_nat (j := 0) rfl, rfl, _, rfl, ifN (by simp only [Sm.kind]; decide +kernel) ?_⟩
      refine tkg rfl rfl rfl rfl (.refl _ _) sa.hs fun r r0 r1 => ?_
      have u1 : But st H (upd H st (.lst [.ref b, .int (c + 1), .ref k])) := .wr _ _ _
      have hs1 := upd_same (H := H) (a := st) (o := .lst [.ref b, .int (c + 1), .ref k])
      generalize upd H st (.lst [.ref b, .int (c + 1), .ref k]) = H1 at u1 hs1 ⊢
      refine .inl ⟨_, rfl, _, rfl, p, _, 3, _, rfl, rfl, SqT.of (tk1 _ u1), atI_nat (j := 3) rfl, _, _, rfl, rfl, _, _, rfl, rfl, (by show (0 : Int) < most + 1; omega), ?_⟩
      have e0 := Int.emod_nonneg r (show most + 1 ≠ 0 by omega)
      have e1 := Int.emod_lt_of_pos r (show (0 : Int) < most + 1 by omega)
      dsimp only
      generalize r % (most + 1) = sz at e0 e1
      refine seq_asg ?_
      refine ⟨(by show 0 ≤ sizeLine; decide), fun D hD => ?_⟩
      have nD : D ≠ st := fun e => by rw [e, hs1] at hD; cases hD
      have hD0 : H D = none := u1.nil nD hD
      refine ⟨_, rfl, sz, rfl, by omega, by omega, for_range (lo := 0) (n := sz.toNat) (fun i σ H' => ∃ k7 b9, σ = [some (.ref p), some (.ref pn), some (.int (at0 : Int)), some (.int (many : Int)), some (.ref st), none, some (.ref D), k7, some (.int sz), b9] ∧ But st H H' ∧ ∃ c1 ws, H' st = some (.lst [.ref b, .int c1, .ref k]) ∧ H' D = some (.lst (ws.map V.int)) ∧ By ws ∧ ws.length = i)
        ⟨none, none, rfl, u1.trans (.new hD), c + 1, [], same_new hD _ _ _ hs1, upd_same, (fun x hx => by cases hx), rfl⟩ ?_ ?_⟩
      · rintro i σ H2 hi ⟨k7, b9, rfl, u2, c1, ws, hs2, hD2, wb, wl⟩
        refine tkg rfl rfl rfl rfl u2 hs2 fun r2 r20 r21 => .inl ⟨_, rfl, _, _, rfl, rfl, (by show (0 : Int) < 256; decide), ?_⟩
        have u3 : But st H (upd H2 st (.lst [.ref b, .int (c1 + 1), .ref k])) := setS u2
        have hs3 := upd_same (H := H2) (a := st) (o := .lst [.ref b, .int (c1 + 1), .ref k])
        have hD3 : (upd H2 st (.lst [.ref b, .int (c1 + 1), .ref k])) D = some (.lst (ws.map V.int)) := by rw [upd_ne nD]; exact hD2
        generalize upd H2 st (.lst [.ref b, .int (c1 + 1), .ref k]) = H3 at u3 hs3 hD3 ⊢
        refine g_nx ?_
        dsimp only
        refine with_rest (fun σ Hx => ∃ y, σ = [some (.ref p), some (.ref pn), some (.int (at0 : Int)), some (.int (many : Int)), some (.ref st), none, some (.ref D), some (.int (0 + (i : Int))), some (.int sz), some (.int y)] ∧ Hx = H3 ∧ 0 ≤ y ∧ y ≤ 255) ?_ fun go => ?_
        rotate_left
        · refine ⟨_, rfl, _, rfl, p, _, 2, _, rfl, rfl, SqT.of (tk1 _ u3), atI_nat (j := 2) rfl, rfl, _, rfl, ite2 (fun e => ?_) (fun e => go _ _ ⟨_, rfl, rfl, by omega, by omega⟩)⟩
          refine ⟨_, rfl, _, _, rfl, rfl, .inl ⟨_, rfl, _, _, rfl, rfl, (by show (0 : Int) < 256; decide), ?_⟩⟩
          exact go _ _ ⟨_, rfl, rfl, by omega, by omega⟩
        rintro σ Hx ⟨y, rfl, rfl, y0, y1⟩
        refine ⟨_, rfl, .inl ⟨rfl, _, SqL.of hD3⟩, _, rfl, D, _, _, rfl, rfl, hD3, lt_line (by rw [List.length_map]; omega), ?_⟩
        refine ⟨_, _, rfl, set1 u3 hD0, c1 + 1, ws ++ [y], by rw [upd_ne nD.symm]; exact hs3, by rw [upd_same, map_snoc], wb.app fun x hx => ?_, by rw [List.length_append, wl]; rfl⟩
        rw [List.mem_singleton.mp hx]; exact ⟨y0, y1⟩
      rintro σ H2 ⟨k7, b9, rfl, u2, c1, ws, hs2, hD2, wb, wl⟩
      refine ⟨_, rfl, _, rfl, p, _, 2, _, rfl, rfl, SqT.of (tk1 _ u2), atI_nat (j := 2) rfl, (by show 1 ≤ sizeLine; decide), fun l1 g1 => ?_⟩
      have s3 := same_new g1 (.lst [.int stop])
      refine ⟨D, l1, _, _, rfl, rfl, s3 _ _ hD2, upd_same, le_line (by rw [List.length_map]; simp only [List.length_cons, List.length_nil]; omega), fun l2 g2 => ?_⟩
      have S := s3.trans (same_new g2 (.lst (ws.map V.int ++ [.int stop])))
      have u4 := u2.trans (.of S)
      refine q l2 (ws ++ [stop]) c1 k kn _ u4 (sa.put u4 (S _ _ hs2) rfl rfl) kok (fun e => ?_) (by rw [upd_same, map_snoc]) (wb.app fun x hx => ?_) ?_ (by omega)
      · have := s3 _ _ hs2; rw [← e, g2] at this; cases this
      · rw [List.mem_singleton.mp hx]; exact ⟨w1, w2⟩
      · rw [List.length_append, wl, List.length_singleton]; simp only [wtS]; omega
end
end Bm

set_option Elab.async false
set_option linter.all false
set_option maxRecDepth 100000
set_option maxHeartbeats 8000000
/-! files are written: blocks -/
namespace Bm
open PySem L2
abbrev sPutB : Stmt := top 17
abbrev sWri : Stmt := top 18
def wtB (b : List Sm) : Nat := (b.map wtS).sum
def I2.wt : I2 → Nat
  | .sm x => wtS x
  | .rep _ _ b => 65535 * wtB b
  | .eit _ bs => (bs.map wtB).sum
  | .swi _ _ cs => (cs.map fun c => wtB c.2).sum
def wtL (l : List I2) : Nat := (l.map I2.wt).sum
def I2.okW : I2 → Prop
  | .sm x => x.okW
  | .rep _ a b => (∀ i, a = .inl i → 0 ≤ i ∧ i ≤ 65535) ∧ ∀ x ∈ b, x.okW
  | .eit _ bs => 1 ≤ bs.length ∧ ∀ b ∈ bs, ∀ x ∈ b, x.okW
  | .swi _ _ cs => cs.length ≤ 1000 ∧ ∀ c ∈ cs, ∀ x ∈ c.2, x.okW
def I2.flat : I2 → Prop
  | .sm _ => True
  | _ => False
theorem wtL_sm (b : List Sm) : wtL (b.map .sm) = wtB b := by
  unfold wtL wtB
  rw [List.map_map]
  rfl
theorem bk_its {H : Hp} {u : V} {b : List Sm} (h : BkAt H u b) : ∃ p xs, u = .ref p ∧ H p = some (.tup xs) ∧ ItsAt H xs (b.map .sm) := by
  obtain ⟨p, xs, e, hp, q⟩ := h
  refine ⟨p, xs, e, hp, ?_⟩
  clear hp e
  induction q with
  | nil => exact .nil
  | cons r t ih => exact .cons r ih
theorem sum_mem {α : Type} (f : α → Nat) : ∀ {l : List α} {x : α}, x ∈ l → f x ≤ (l.map f).sum
  | a :: r, x, h => by
    rw [List.map_cons, List.sum_cons]
    rcases List.mem_cons.mp h with rfl | h
    · omega
    · have := sum_mem f h; omega
/-- what the writer leaves -/
def Left (H : Hp) (st : Addr) (H' : Hp) (m : Nat) : Prop := But st H H' ∧ ∃ b c k bs kn, StAt H' st b c k bs kn ∧ KnOk kn ∧ By bs ∧ bs.length ≤ m ∧ kn.length ≤ bs.length
theorem Left.more {H H4 : Hp} {st b k b2 : Addr} {c : Int} {bs ws : List Int} {kn : List (Str × Int)} {m : Nat} (u : But st H H4) (sa : StAt H4 st b c k bs kn) (kok : KnOk kn) (byb : By bs) (wb : By ws) (len : bs.length + ws.length ≤ m) (kl : kn.length ≤ bs.length + ws.length) (g : H4 b2 = none) :
    Left H st (upd (upd H4 b2 (.lst (bs.map V.int ++ ws.map V.int))) st (.lst [.ref b2, .int c, .ref k])) m := by
  have n2 : b2 ≠ st := fun e => by rw [e, sa.hs] at g; cases g
  obtain ⟨ks, hk, pk⟩ := sa.hk
  have nk2 : k ≠ b2 := ne_of_none hk g
  have u2 : But st H4 (upd (upd H4 b2 (.lst (bs.map V.int ++ ws.map V.int))) st (.lst [.ref b2, .int c, .ref k])) := (But.new g).trans (.wr _ _ _)
  refine ⟨u.trans u2, b2, c, k, bs ++ ws, kn, ⟨upd_same, by rw [upd_ne n2, upd_same, List.map_append], ⟨ks, u2 _ _ sa.nk hk, L2.Paired.mapP pk fun _ _ z => z.tk (But.tk sa.hs u2)⟩, n2, sa.nk⟩, kok, byb.app wb, by rw [List.length_append]; exact len, by rw [List.length_append]; exact kl⟩
def spPutB (n : Nat) : Sp := fun vs H Q _ => ∃ (p pn st : Addr) (xs : List V) (l : List I2) (ns : List Int) (at0 many m : Nat), vs = [.ref p, .ref pn, .int (at0 : Int), .int (many : Int), .ref st] ∧ H p = some (.tup xs) ∧ ItsAt H xs l ∧ (∀ x ∈ l, x.okW ∧ (n = 0 → x.flat)) ∧ H pn = some (.lst (ns.map V.int)) ∧ Nb ns ∧ 0 < many ∧ many < 1000000 ∧ at0 + many ≤ ns.length ∧ pn ≠ st ∧
  Left H st H m ∧ m + wtL l ≤ 2000000 ∧ ∀ r H', Left H st H' (m + wtL l) → Q (.bl r) H'
section
variable {P : Program} {w : World} {K : PySem.W.Frag} {mg : Str → Option Value} {base : Heap} {f : Addr} {fd : FuncData}
abbrev nPutB : List Str := ["block", "numbers", "at", "many", "state", "item", "k", "choice", "blocks", "case"]
theorem scPutB : FnScope nPutB ["block", "numbers", "at", "many", "state"] (defScope sPutB) := ⟨rfl, rfl, rfl, by decide +kernel, rfl, by decide +kernel, by decide +kernel⟩
theorem ok_putb {lv k : Nat} (hk : 2 ≤ k) (F : Fun K "_law_put_block" "_law_put_block" sPutB f fd) (gP : Cal P w K mg base CX0 2 "_law_put_simple" ["item", "numbers", "at", "many", "state"] spPutS) (gT : Cal P w K mg base CX0 1 "_law_take" ["numbers", "at", "many", "state"] spTake) (gF : Cal P w K mg base CX0 1 "_law_find" ["known", "count"] spFind)
    (gS : Cal P w K mg base CX0 k "_law_put_block" ["block", "numbers", "at", "many", "state"] (spSub spPutB lv)) (mint : mg "int" = none) (mr : mg "range" = none) (ml : mg "len" = none) (msum : mg "sum" = none) : FnOk P w K mg base CX0 (k + 1) f fd ["block", "numbers", "at", "many", "state"] (spPutB lv) := by
  refine F.ok scPutB (fun vs H Q E h => ?_) (fun cdv A outer s H vs Q E hr h => ?_)
  · obtain ⟨p, pn, st, xs, l, ns, at0, many, m, rfl, _⟩ := h
    rfl
  · obtain ⟨p, pn, st, xs, l, ns, at0, many, m, rfl, hp, hl, hok, hn, hb, h0, hbig, hlen, npn, lf, cap, q⟩ := h
    have hr1 : Room 1 _ := hr.mono (by omega)
    have hr2 : Room 2 _ := hr.mono hk
    refine ⟨_, (pss_cons (ps_for PassesOwn.never rfl (pi_row (pv 0)) (pg_name (i := 5) scPutB.nd rfl (.inr rfl))
        (pss_one (ps_if (pt_cmpR op_in_seq (pe_ix ix_tup (pv 5) pe_int (fun _ _ => rfl)) (pe_lst (pa_cons pe_str (pa_cons pe_str (pa_cons pe_str pa_nil)))) (by rfl)) (pss_one (ps_asg (pe_op op_cat (pe_ix ix_list (pv 4) pe_int (fun _ _ => rfl)) (pe_cal gP hr2 pass0 (pa_cons (pv 5) (pa_cons (pv 1) (pa_cons (pv 2) (pa_cons (pv 3) (pa_cons (pv 4) pa_nil))))))) (pg_sub (pv 4) pe_int set_list))) (pss_one (ps_if (pt_cmpR op_eq (pe_ix ix_tup (pv 5) pe_int (fun _ _ => rfl)) pe_str (nomark _)) (pss_one (ps_asg (pe_op op_cat (pe_ix ix_list (pv 4) pe_int (fun _ _ => rfl)) (pe_lst (pa_cons (pe_op op_mod (pe_callTy (r := rInt1) call_int1 (by rfl) mint (by decide +kernel) (pa_cons (pe_callB (cr_sum rfl) (by rfl) msum (by decide +kernel) (pa_cons (pe_ix ix_list (pv 4) pe_int (fun _ _ => rfl)) pa_nil)) pa_nil)) (pe_ix ix_tup (pv 5) pe_int (fun _ _ => rfl))) pa_nil))) (pg_sub (pv 4) pe_int set_list))) (pss_one (ps_if (pt_cmpR op_eq (pe_ix ix_tup (pv 5) pe_int (fun _ _ => rfl)) pe_str (nomark _)) (pss_one (ps_asg (pe_op op_cat (pe_ix ix_list (pv 4) pe_int (fun _ _ => rfl)) (pe_lc (own := [("k", 6)]) (g := gName 6) (tt := tYes) rfl scPutB.nd (pi_range1 (by rfl) mr (pa_cons (pe_op op_mod (pe_callTy (r := rInt1) call_int1 (by rfl) mint (by decide +kernel) (pa_cons (pe_un un_neg (pe_callB call_len (by rfl) ml boot_len (pa_cons (pe_ix ix_list (pv 4) pe_int (fun _ _ => rfl)) pa_nil))) pa_nil)) (pe_ix ix_tup (pv 5) pe_int (fun _ _ => rfl))) pa_nil)) (blkOk_by (own := [("k", 6)]) (N := nPutB) (sc := defScope sPutB) (by decide +kernel)) (fun _ _ _ _ _ => pg_name (i := 6) scPutB.nd rfl (Or.inl rfl)) (fun _ _ _ _ _ => pts_nil) (fun _ _ _ _ _ => (pe_ix (r := rIxT K) ix_tup (pv 5) pe_int (fun _ _ => rfl))))) (pg_sub (pv 4) pe_int set_list))) (pss_one (ps_if (pt_cmpR op_eq (pe_ix ix_tup (pv 5) pe_int (fun _ _ => rfl)) pe_str (nomark _)) (pss_one (ps_for PassesOwn.never rfl (pi_range1 (by rfl) mr (pa_cons (pe_cal gF hr1 pass0 (pa_cons (pe_ix ix_list (pv 4) pe_int (fun _ _ => rfl)) (pa_cons (pe_ix ix_tup (pv 5) pe_int (fun _ _ => rfl)) pa_nil))) pa_nil)) (pg_name (i := 6) scPutB.nd rfl (.inl rfl))
        (pss_one (ps_if (pt_not (pt_val (pe_cal gS hr pass0 (pa_cons (pe_ix ix_tup (pv 5) pe_int (fun _ _ => rfl)) (pa_cons (pv 1) (pa_cons (pv 2) (pa_cons (pv 3) (pa_cons (pv 4) pa_nil)))))))) (pss_one (ps_ret pe_bl)) pss_nil)))) (pss_one (ps_if (pt_cmpR op_eq (pe_ix ix_tup (pv 5) pe_int (fun _ _ => rfl)) pe_str (nomark _)) (pss_cons (ps_set (i := 7) scPutB.nd rfl (.inl rfl) (pe_op op_mod (pe_callTy (r := rInt1) call_int1 (by rfl) mint (by decide +kernel) (pa_cons (pe_cal gT hr1 pass0 (pa_cons (pv 1) (pa_cons (pv 2) (pa_cons (pv 3) (pa_cons (pv 4) pa_nil))))) pa_nil)) (pe_callB call_len (by rfl) ml boot_len (pa_cons (pe_ix ix_tup (pv 5) pe_int (fun _ _ => rfl)) pa_nil))))
      (pss_one (ps_if (pt_not (pt_val (pe_cal gS hr pass0 (pa_cons (pe_ix (r := rIxT K) ix_tup (pe_ix ix_tup (pv 5) pe_int (fun _ _ => rfl)) (pv 7) (fun _ _ => rfl)) (pa_cons (pv 1) (pa_cons (pv 2) (pa_cons (pv 3) (pa_cons (pv 4) pa_nil)))))))) (pss_one (ps_ret pe_bl)) pss_nil))) (pss_cons (ps_setLc (i := 8) (own := [("case", 9)]) (g := gName 9) rfl scPutB.nd rfl rfl (sw_true rfl rfl rfl (by decide +kernel)) (pi_row (pe_ix ix_tup (pv 5) pe_int (fun _ _ => rfl))) (blkOk_by (own := [("case", 9)]) (N := nPutB) (sc := defScope sPutB) (by decide +kernel)) (fun _ _ _ _ _ => pg_name (i := 9) scPutB.nd rfl (Or.inl rfl)) (fun _ _ _ _ _ => pts_one (pt_cmpR op_eq (pe_ix (r := rIxT K) ix_tup (pv 9) pe_int (fun _ _ => rfl)) (pe_cal gF hr1 pass0 (pa_cons (pe_ix (r := rIxL K) ix_list (pv 4) pe_int (fun _ _ => rfl)) (pa_cons (pe_ix (r := rIxT K) ix_tup (pv 5) pe_int (fun _ _ => rfl)) pa_nil))) (nomark _))) (fun _ _ _ _ _ => (pe_ix (r := rIxT K) ix_tup (pv 9) pe_int (fun _ _ => rfl))))
      (pss_one (ps_if (PW.pt (pw_or (pt_cmpR op_eq (pe_callB call_len (by rfl) ml boot_len (pa_cons (pv 8) pa_nil)) pe_int (nomark _)) (pw_or1 (pt_not (pt_val (pe_cal gS hr pass0 (pa_cons (pe_ix ix_list (pv 8) pe_int (fun _ _ => rfl)) (pa_cons (pv 1) (pa_cons (pv 2) (pa_cons (pv 3) (pa_cons (pv 4) pa_nil))))))))))) (pss_one (ps_ret pe_bl)) pss_nil))))))))))))))
      (pss_one (ps_ret pe_bl))), ?_⟩
    have tkst : ∀ {H1 : Hp}, But st H H1 → Tk H H1 := fun u => by
      obtain ⟨_, b, c, k, bs, kn, sa, _⟩ := lf
      exact But.tk sa.hs u
    have set1 : ∀ {H1 : Hp} {D : Addr} {o : HO}, But st H H1 → H D = none → But st H (upd H1 D o) := fun u hD b o n e => by rw [upd_ne (ne_of_none e hD)]; exact u b o n e
    have lsame : ∀ {H1 H2 : Hp} {m' : Nat}, Left H st H1 m' → Same H1 H2 → Left H st H2 m' := fun ⟨u, b, c, k, bs, kn, sa, r⟩ s => ⟨u.trans (.of s), b, c, k, bs, kn, sa.same s, r⟩
    have lmono : ∀ {H1 : Hp} {a b : Nat}, Left H st H1 a → a ≤ b → Left H st H1 b := fun ⟨u, b, c, k, bs, kn, sa, k1, k2, k3, k4⟩ h => ⟨u, b, c, k, bs, kn, sa, k1, k2, by omega, k4⟩
    have ltrans : ∀ {H1 H2 : Hp} {a b : Nat}, Left H st H1 a → Left H1 st H2 b → Left H st H2 b := fun l1 l2 => ⟨l1.1.trans l2.1, l2.2⟩
    -- one draw
    have tkg : ∀ {H1 : Hp} {m' : Nat} {σ : L2.St} {R : V → Hp → Prop}, σ[1]? = some (some (.ref pn)) → σ[2]? = some (some (.int (at0 : Int))) → σ[3]? = some (some (.int (many : Int))) → σ[4]? = some (some (.ref st)) → Left H st H1 m' →
        (∀ r H2, 0 ≤ r → r < 1009 → Left H st H2 m' → R (.int r) H2) → tCl spTake E0 (tCons (tVar 1) (tCons (tVar 2) (tCons (tVar 3) (tCons (tVar 4) tNil)))) σ H1 R := fun {H1 m' σ R} e1 e2 e3 e4 lf1 g => by
      obtain ⟨u, b, c, k, bs, kn, sa, r⟩ := lf1
      exact ⟨_, e1, _, e2, _, e3, _, e4, pn, st, b, k, ns, at0, many, c, rfl, u _ _ npn hn, hb, h0, hbig, hlen, npn, sa.hs, fun r r0 r1 => g r _ r0 r1 ⟨u.trans (.wr _ _ _), b, c + 1, k, bs, kn, sa.put (.wr _ _ _) upd_same rfl rfl, by assumption⟩⟩
    refine ⟨_, rfl, p, rfl, ?_⟩
    refine row_tk (H0 := H) hp (Tk.refl _) fun J wk => ?_
    refine for_it wk (fun i σ H' => ∃ i5 k6 c7 b8 c9 : Option V, σ = [some (.ref p), some (.ref pn), some (.int (at0 : Int)), some (.int (many : Int)), some (.ref st), i5, k6, c7, b8, c9] ∧ Left H st H' (m + wtL (l.take i))) ⟨none, none, none, none, none, rfl, lf⟩ (fun _ _ _ _ h => by obtain ⟨_, _, _, _, _, _, z⟩ := h; exact tkst z.1) ?_ ?_
    · rintro i v σ H2' H2 hi ⟨i5, k6, c7, b8, c9, rfl, lf2⟩ ⟨e3, hv⟩
      subst e3
      obtain ⟨x, gx, hx0⟩ := pget hl hv
      have hx := hx0.tk (tkst lf2.1)
      obtain ⟨xw, xf⟩ := hok x (List.mem_of_getElem? gx)
      have stp : wtL (l.take (i + 1)) = wtL (l.take i) + x.wt := by
        unfold wtL
        rw [List.take_add_one, gx, List.map_append, List.sum_append]
        simp
      have tot : m + wtL (l.take i) + x.wt ≤ m + wtL l := by
        have e : wtL l = wtL (l.take (i + 1)) + wtL (l.drop (i + 1)) := by
          unfold wtL
          rw [← List.sum_append, ← List.map_append, List.take_append_drop]
        omega
      have capi : m + wtL (l.take i) + x.wt ≤ 2000000 := by omega
      rw [stp, ← Nat.add_assoc]
      generalize m + wtL (l.take i) = m2 at lf2 capi tot ⊢
      clear stp
      obtain ⟨u2, b, c, k2, bs, kn, sa, kok, byb, bl, kl⟩ := lf2
      have lf2 : Left H st H2 m2 := ⟨u2, b, c, k2, bs, kn, sa, kok, byb, bl, kl⟩
      have hn2 := u2 _ _ npn hn
      cases x with
      | sm y =>
        obtain ⟨p', rfl, hp'⟩ := hx
        have hT := SqT.of (K := K) hp'
        -- is it written by itself
        refine ⟨_, rfl, p', _, 0, _, rfl, rfl, hT, atI_nat (j := 0) rfl, (by show 3 ≤ sizeLine; decide), fun l3 g3 => ⟨l3, _, rfl, .inl (SqL.of upd_same), rfl, rfl, _, rfl, ?_⟩⟩
        have s3 := same_new g3 (.lst [.str "number", .str "bytes", .str "text"])
        generalize upd H2 l3 (.lst [.str "number", .str "bytes", .str "text"]) = H3 at s3 ⊢
        have sa3 := sa.same s3
        have u3 := u2.trans (.of s3)
        have hp3 := s3 _ _ hp'
        have hn3 := s3 _ _ hn2
        cases hs : (match y with | .num .. => true | .byt .. => true | .txt .. => true | _ => false : Bool) with
        | true =>
          have ys : y.simp := by cases y <;> first | trivial | (cases hs)
          refine ifB (by cases y <;> first | (cases hs; done) | (simp only [Sm.kind]; decide +kernel)) ?_
          refine ⟨_, rfl, st, _, 0, _, rfl, rfl, SqL.of sa3.hs, atI_nat (j := 0) rfl, _, rfl, _, rfl, _, rfl, _, rfl, _, rfl, .ref p', y, pn, st, b, k2, ns, at0, many, c, bs, kn, rfl, ⟨p', rfl, hp3⟩, xw, ys, hn3, hb, h0, hbig, hlen, npn, sa3, kok, by omega, fun r ws c' k' kn' H4 u4 sa4 kok4 nr hr4 wb wl wk => ?_⟩
          refine ⟨b, r, _, _, rfl, rfl, sa4.hb, hr4, le_line (by rw [List.length_map, List.length_map]; simp only [I2.wt] at capi; omega), fun b2 g5 => ?_⟩
          refine ⟨_, rfl, st, _, _, 0, rfl, rfl, same_new g5 _ _ _ sa4.hs, ixN_nat (n := 3) (j := 0) (by decide), ?_⟩
          exact ⟨_, _, _, _, _, rfl, Left.more (u3.trans u4) sa4 kok4 byb wb (by simp only [I2.wt]; omega) (by omega) g5⟩
        | false =>
          refine ifF (by cases y <;> first | (cases hs; done) | (simp only [Sm.kind]; decide +kernel)) ?_
          have hT3 := SqT.of (K := K) hp3
          cases y with
          | chk n m =>
            refine ⟨_, rfl, p', _, 0, _, rfl, rfl, hT3, atI_nat (j := 0) rfl, rfl, _, rfl, ifT rfl ?_⟩
            have m1 := xw.1
            have m2 := xw.2
            refine ⟨_, rfl, st, _, 0, _, rfl, rfl, SqL.of sa3.hs, atI_nat (j := 0) rfl, _, rfl, st, _, 0, _, rfl, rfl, SqL.of sa3.hs, atI_nat (j := 0) rfl, b, bs, rfl, SqL.of sa3.hb, .inl ⟨_, rfl, _, rfl, p', _, 2, _, rfl, rfl, hT3, atI_nat (j := 2) rfl, _, _, rfl, rfl, (by show (0 : Int) < m; omega), (by show 1 ≤ sizeLine; decide), fun r g4 => ?_⟩⟩
            have s4 := same_new g4 (.lst [.int (bs.sum % m)])
            refine ⟨b, r, _, _, rfl, rfl, s4 _ _ sa3.hb, upd_same, le_line (by rw [List.length_map]; simp only [List.length_cons, List.length_nil]; omega), fun b2 g5 => ?_⟩
            refine ⟨_, rfl, st, _, _, 0, rfl, rfl, same_new g5 _ _ _ (s4 _ _ sa3.hs), ixN_nat (n := 3) (j := 0) (by decide), ?_⟩
            refine ⟨_, _, _, _, _, rfl, Left.more (ws := [bs.sum % m]) (u3.trans (.of s4)) (sa3.same s4) kok byb (fun z hz => ?_) (by simp only [I2.wt, wtS, List.length_cons, List.length_nil]; omega) (by omega) g5⟩
            have e0 := Int.emod_nonneg bs.sum (show m ≠ 0 by omega)
            have e1 := Int.emod_lt_of_pos bs.sum (show 0 < m by omega)
            rw [List.mem_singleton.mp hz]; omega
          | pad n m y =>
            obtain ⟨⟨m1, m1000⟩, y0, y1⟩ := xw
            refine ⟨_, rfl, p', _, 0, _, rfl, rfl, hT3, atI_nat (j := 0) rfl, rfl, _, rfl, ifN (by simp only [Sm.kind]; decide +kernel) ?_⟩
            refine ⟨_, rfl, p', _, 0, _, rfl, rfl, hT3, atI_nat (j := 0) rfl, rfl, _, rfl, ifT rfl ?_⟩
            refine ⟨_, rfl, st, _, 0, _, rfl, rfl, SqL.of sa3.hs, atI_nat (j := 0) rfl, _, rfl, st, _, 0, _, rfl, rfl, SqL.of sa3.hs, atI_nat (j := 0) rfl, _, _, rfl, .inl ⟨_, SqL.of sa3.hb, rfl⟩, _, rfl, .inl ⟨_, rfl, _, rfl, p', _, 2, _, rfl, rfl, hT3, atI_nat (j := 2) rfl, _, _, rfl, rfl, (by show (0 : Int) < m; omega), ?_⟩⟩
            have e0 := Int.emod_nonneg (-((bs.map V.int).length : Int)) (show m ≠ 0 by omega)
            have e1 := Int.emod_lt_of_pos (-((bs.map V.int).length : Int)) (show 0 < m by omega)
            refine ⟨_, rfl, by omega, by omega, fun D hD => lc_range (lo := 0) (n := (-((bs.map V.int).length : Int) % m).toNat) (fun i H1 => Same H3 H1 ∧ H1 D = some (.lst ((List.replicate i y).map V.int))) ⟨same_new hD _, upd_same⟩ ?_ ?_⟩
            · rintro i H4 hi ⟨s4, hD4⟩
              refine ⟨rfl, yes_go ?_⟩
              refine ⟨_, rfl, p', _, 3, _, rfl, rfl, SqT.of (s4 _ _ hp3), atI_nat (j := 3) rfl, _, hD4, lt_line (by rw [List.length_map, List.length_replicate]; omega), same_set s4 hD, ?_⟩
              rw [upd_same, List.replicate_succ', List.map_append]
              rfl
            · rintro H4 ⟨s4, hD4⟩
              have lr : ((List.replicate (-((bs.map V.int).length : Int) % m).toNat y).map V.int).length ≤ 1000 := by rw [List.length_map, List.length_replicate]; omega
              have lb : (bs.map V.int).length = bs.length := List.length_map ..
              refine ⟨b, D, _, _, rfl, rfl, s4 _ _ sa3.hb, hD4, le_line (by omega), fun b2 g5 => ?_⟩
              refine ⟨_, rfl, st, _, _, 0, rfl, rfl, same_new g5 _ _ _ (s4 _ _ sa3.hs), ixN_nat (n := 3) (j := 0) (by decide), ?_⟩
              refine ⟨_, _, _, _, _, rfl, Left.more (ws := List.replicate _ y) (u3.trans (.of s4)) (sa3.same s4) kok byb (fun z hz => ?_) (by rw [List.length_replicate]; simp only [I2.wt, wtS]; omega) (by omega) g5⟩
              rw [(List.mem_replicate.mp hz).2]; exact ⟨y0, y1⟩
          | num | byt | txt => cases hs
      | rep n a bk =>
        obtain ⟨p', u, rfl, hp0, hbk⟩ := hx0
        have hp' := tkst u2 _ _ hp0
        cases lv with
        | zero => exact (xf rfl).elim
        | succ lv =>
        refine ⟨_, rfl, p', _, 0, _, rfl, rfl, SqT.of hp', atI_nat (j := 0) rfl, (by show 3 ≤ sizeLine; decide), fun l3 g3 => ⟨l3, _, rfl, .inl (SqL.of upd_same), rfl, rfl, _, rfl, ifF (by decide +kernel) ?_⟩⟩
        have s3 := same_new g3 (.lst [.str "number", .str "bytes", .str "text"])
        generalize upd H2 l3 (.lst [.str "number", .str "bytes", .str "text"]) = H3 at s3 ⊢
        have lf3 := lsame lf2 s3
        have hT3 := SqT.of (K := K) (s3 _ _ hp')
        have sa3 := sa.same s3
        refine ⟨_, rfl, p', _, 0, _, rfl, rfl, hT3, atI_nat (j := 0) rfl, rfl, _, rfl, ifN (by decide +kernel) ?_⟩
        refine ⟨_, rfl, p', _, 0, _, rfl, rfl, hT3, atI_nat (j := 0) rfl, rfl, _, rfl, ifN (by decide +kernel) ?_⟩
        refine ⟨_, rfl, p', _, 0, _, rfl, rfl, hT3, atI_nat (j := 0) rfl, rfl, _, rfl, ifT rfl ?_⟩
        have fb : 0 ≤ findK kn a ∧ findK kn a ≤ 65535 := by
          cases a with
          | inl i => exact xw.1 i rfl
          | inr z => exact findK_mem kn z (fun i => 0 ≤ i ∧ i ≤ 65535) ⟨by decide, by decide⟩ fun p hp _ => kok p hp
        obtain ⟨ks, hk2, pk⟩ := sa3.hk
        refine ⟨_, rfl, st, _, 2, _, rfl, rfl, SqL.of sa3.hs, atI_nat (j := 2) rfl, _, rfl, p', _, 2, _, rfl, rfl, hT3, atI_nat (j := 2) rfl, k2, ks, kn, a, rfl, hk2, pk, ?_⟩
        have Wc : ∀ j : Nat, j ≤ 65535 → j * wtB bk ≤ 65535 * wtB bk := fun j hj => Nat.mul_le_mul_right _ hj
        have capr : m2 + 65535 * wtB bk ≤ 2000000 := capi
        have totr : m2 + 65535 * wtB bk ≤ m + wtL l := tot
        obtain ⟨pu, xu, rfl, hpu, itu⟩ := bk_its hbk
        refine ⟨_, rfl, by omega, by omega, for_range (lo := 0) (n := (findK kn a).toNat) (fun j σ H' => ∃ k6 : Option V, σ = [some (.ref p), some (.ref pn), some (.int (at0 : Int)), some (.int (many : Int)), some (.ref st), some (.ref p'), k6, c7, b8, c9] ∧ Left H st H' (m2 + j * wtB bk)) ⟨k6, rfl, by rw [Nat.zero_mul]; exact lf3⟩ ?_ ?_⟩
        · rintro j σ H4 hj ⟨k6', rfl, lf4⟩
          have c1 := Wc (j + 1) (by omega)
          rw [Nat.succ_mul] at c1
          refine ⟨_, rfl, p', _, 3, _, rfl, rfl, SqT.of (tkst lf4.1 _ _ hp0), atI_nat (j := 3) rfl, _, rfl, _, rfl, _, rfl, _, rfl, pu, pn, st, xu, bk.map .sm, ns, at0, many, m2 + j * wtB bk, rfl, tkst lf4.1 _ _ hpu, itu.tk (tkst lf4.1), (fun y hy => by obtain ⟨z, hz, rfl⟩ := List.mem_map.mp hy; exact ⟨xw.2 z hz, fun _ => trivial⟩), lf4.1 _ _ npn hn, hb, h0, hbig, hlen, npn, ⟨.refl _ _, lf4.2⟩, by rw [wtL_sm]; omega, fun r H5 l5 => ?_⟩
          rw [wtL_sm] at l5
          have l5 := ltrans lf4 l5
          refine ⟨_, rfl, ?_⟩
          cases r with
          | true => exact iteF ⟨_, rfl, by rw [Nat.succ_mul, ← Nat.add_assoc]; exact l5⟩
          | false => exact iteT (q false H5 (lmono l5 (by omega)))
        · rintro σ H4 ⟨k6', rfl, lf4⟩
          exact ⟨_, _, _, _, _, rfl, lmono lf4 (by have := Wc (findK kn a).toNat (by omega); simp only [I2.wt]; omega)⟩
      | eit n bss =>
        obtain ⟨p', pc, xc, rfl, hp0, hpc, pbs⟩ := hx0
        have hp' := tkst u2 _ _ hp0
        cases lv with
        | zero => exact (xf rfl).elim
        | succ lv =>
        refine ⟨_, rfl, p', _, 0, _, rfl, rfl, SqT.of hp', atI_nat (j := 0) rfl, (by show 3 ≤ sizeLine; decide), fun l3 g3 => ⟨l3, _, rfl, .inl (SqL.of upd_same), rfl, rfl, _, rfl, ifF (by decide +kernel) ?_⟩⟩
        have s3 := same_new g3 (.lst [.str "number", .str "bytes", .str "text"])
        generalize upd H2 l3 (.lst [.str "number", .str "bytes", .str "text"]) = H3 at s3 ⊢
        have lf3 := lsame lf2 s3
        have hT3 := SqT.of (K := K) (s3 _ _ hp')
        have sa3 := sa.same s3
        refine ⟨_, rfl, p', _, 0, _, rfl, rfl, hT3, atI_nat (j := 0) rfl, rfl, _, rfl, ifN (by decide +kernel) ?_⟩
        refine ⟨_, rfl, p', _, 0, _, rfl, rfl, hT3, atI_nat (j := 0) rfl, rfl, _, rfl, ifN (by decide +kernel) ?_⟩
        refine ⟨_, rfl, p', _, 0, _, rfl, rfl, hT3, atI_nat (j := 0) rfl, rfl, _, rfl, ifN (by decide +kernel) ?_⟩
        refine ⟨_, rfl, p', _, 0, _, rfl, rfl, hT3, atI_nat (j := 0) rfl, rfl, _, rfl, ifT rfl ?_⟩
        refine tkg rfl rfl rfl rfl lf3 fun r1 H4 r10 r11 lf4 => ?_
        have xl := plen pbs
        have b1 := xw.1
        have tk4 := tkst lf4.1
        refine .inl ⟨_, rfl, _, rfl, p', _, 2, _, rfl, rfl, SqT.of (tk4 _ _ hp0), atI_nat (j := 2) rfl, _, _, rfl, .inr ⟨_, SqT.of (tk4 _ _ hpc), rfl⟩, _, _, rfl, rfl, (by show (0 : Int) < (xc.length : Int); omega), ?_⟩
        obtain ⟨j, hj⟩ := Int.eq_ofNat_of_zero_le (Int.emod_nonneg r1 (show (xc.length : Int) ≠ 0 by omega))
        have hjl := Int.emod_lt_of_pos r1 (show (0 : Int) < (xc.length : Int) by omega)
        dsimp only
        rw [hj] at hjl ⊢
        have hjn : j < xc.length := by omega
        obtain ⟨bk, gb, hbk⟩ := pget pbs (List.getElem?_eq_getElem hjn)
        obtain ⟨pu, xu, ev, hpu, itu⟩ := bk_its hbk
        have wb := sum_mem wtB (List.mem_of_getElem? gb)
        have capr : m2 + (bss.map wtB).sum ≤ 2000000 := capi
        have totr : m2 + (bss.map wtB).sum ≤ m + wtL l := tot
        refine ⟨_, rfl, p', _, 2, _, rfl, rfl, SqT.of (tk4 _ _ hp0), atI_nat (j := 2) rfl, _, rfl, pc, _, _, _, rfl, rfl, SqT.of (tk4 _ _ hpc), atI_nat (List.getElem?_eq_getElem hjn), ?_⟩
        rw [ev]
        refine ⟨_, rfl, _, rfl, _, rfl, _, rfl, pu, pn, st, xu, bk.map .sm, ns, at0, many, m2, rfl, tkst lf4.1 _ _ hpu, itu.tk (tkst lf4.1), (fun y hy => by obtain ⟨z, hz, rfl⟩ := List.mem_map.mp hy; exact ⟨xw.2 bk (List.mem_of_getElem? gb) z hz, fun _ => trivial⟩), lf4.1 _ _ npn hn, hb, h0, hbig, hlen, npn, ⟨.refl _ _, lf4.2⟩, by rw [wtL_sm]; omega, fun r H5 l5 => ?_⟩
        rw [wtL_sm] at l5
        have l5 := ltrans lf4 l5
        refine ⟨_, rfl, ?_⟩
        cases r with
        | true => exact iteF ⟨_, _, _, _, _, rfl, lmono l5 (by simp only [I2.wt]; omega)⟩
        | false => exact iteT (q false H5 (lmono l5 (by omega)))
      | swi n t cs =>
        obtain ⟨p', pc, xc, rfl, hp0, hpc, pcs⟩ := hx0
        have hp' := tkst u2 _ _ hp0
        cases lv with
        | zero => exact (xf rfl).elim
        | succ lv =>
        refine ⟨_, rfl, p', _, 0, _, rfl, rfl, SqT.of hp', atI_nat (j := 0) rfl, (by show 3 ≤ sizeLine; decide), fun l3 g3 => ⟨l3, _, rfl, .inl (SqL.of upd_same), rfl, rfl, _, rfl, ifF (by decide +kernel) ?_⟩⟩
        have s3 := same_new g3 (.lst [.str "number", .str "bytes", .str "text"])
        generalize upd H2 l3 (.lst [.str "number", .str "bytes", .str "text"]) = H3 at s3 ⊢
        have lf3 := lsame lf2 s3
        have hT3 := SqT.of (K := K) (s3 _ _ hp')
        have sa3 := sa.same s3
        refine ⟨_, rfl, p', _, 0, _, rfl, rfl, hT3, atI_nat (j := 0) rfl, rfl, _, rfl, ifN (by decide +kernel) ?_⟩
        refine ⟨_, rfl, p', _, 0, _, rfl, rfl, hT3, atI_nat (j := 0) rfl, rfl, _, rfl, ifN (by decide +kernel) ?_⟩
        refine ⟨_, rfl, p', _, 0, _, rfl, rfl, hT3, atI_nat (j := 0) rfl, rfl, _, rfl, ifN (by decide +kernel) ?_⟩
        refine ⟨_, rfl, p', _, 0, _, rfl, rfl, hT3, atI_nat (j := 0) rfl, rfl, _, rfl, ifN (by decide +kernel) ?_⟩
        have tk3 := tkst lf3.1
        refine ⟨_, rfl, p', _, 3, _, rfl, rfl, hT3, atI_nat (j := 3) rfl, _, rfl, ?_⟩
        refine row_t (tk3 _ _ hpc) fun J2 wk2 => ?_
        intro D hD
        refine lc_it wk2 (fun i H' => Same H3 H' ∧ ∃ acc, H' D = some (.lst acc) ∧ acc.length ≤ i ∧ ∀ u ∈ acc, ∃ c ∈ cs, BkAt H u c.2) ⟨same_new hD _, [], upd_same, Nat.le_refl _, fun u hu => by cases hu⟩ (fun _ _ _ h => h.1) ?_ ?_
        · rintro i u H4' H4 hi ⟨s4, acc, hacc, al, ha⟩ ⟨e3, hu⟩
          subst e3
          obtain ⟨cc, gc, pr, uu, rfl, hpr, hbk⟩ := pget pcs hu
          have sa4 := sa3.same s4
          obtain ⟨ks, hk2, pk⟩ := sa4.hk
          have hpr4 := s4 _ _ (tk3 _ _ hpr)
          refine ⟨rfl, ?_⟩
          refine ⟨_, rfl, pr, _, 0, _, rfl, rfl, SqT.of hpr4, atI_nat (j := 0) rfl, _, rfl, st, _, 2, _, rfl, rfl, SqL.of sa4.hs, atI_nat (j := 2) rfl, _, rfl, p', _, 2, _, rfl, rfl, SqT.of (s4 _ _ (s3 _ _ hp')), atI_nat (j := 2) rfl, k2, ks, kn, .inr t, rfl, hk2, pk, rfl, _, rfl, ite2 (fun _ => ?_) (fun _ => ?_)⟩
          · refine ⟨_, rfl, pr, _, 1, _, rfl, rfl, SqT.of hpr4, atI_nat (j := 1) rfl, acc, hacc, small1000 (by have := plen pcs; have := xw.1; omega), same_set s4 hD, acc ++ [uu], upd_same, by rw [List.length_append, List.length_singleton]; omega, fun u hu => ?_⟩
            rcases List.mem_append.mp hu with hu | hu
            · exact ha u hu
            · rw [List.mem_singleton.mp hu]; exact ⟨cc, List.mem_of_getElem? gc, hbk⟩
          · exact ⟨s4, acc, hacc, by omega, ha⟩
        rintro H4 ⟨s4, acc, hacc, al, ha⟩
        have lf4 := lsame lf3 s4
        refine ⟨_, rfl, _, _, rfl, .inl ⟨_, SqL.of hacc, rfl⟩, rfl, _, rfl, ?_⟩
        cases acc with
        | nil => exact ifP rfl (iteT (q false H4 (lmono lf4 (by omega))))
        | cons uu rr =>
          obtain ⟨cc, mc, hbk⟩ := ha uu (List.mem_cons_self ..)
          obtain ⟨pu, xu, rfl, hpu, itu⟩ := bk_its hbk
          have wb := sum_mem (fun c : Int × List Sm => wtB c.2) mc
          have capr : m2 + (cs.map fun c => wtB c.2).sum ≤ 2000000 := capi
          have totr : m2 + (cs.map fun c => wtB c.2).sum ≤ m + wtL l := tot
          refine ifQ (by simp only [List.length_cons]; omega) ?_
          refine ⟨_, rfl, D, _, 0, _, rfl, rfl, SqL.of hacc, atI_nat (j := 0) rfl, _, rfl, _, rfl, _, rfl, _, rfl, pu, pn, st, xu, cc.2.map .sm, ns, at0, many, m2, rfl, tkst lf4.1 _ _ hpu, itu.tk (tkst lf4.1), (fun y hy => by obtain ⟨z, hz, rfl⟩ := List.mem_map.mp hy; exact ⟨xw.2 cc mc z hz, fun _ => trivial⟩), lf4.1 _ _ npn hn, hb, h0, hbig, hlen, npn, ⟨.refl _ _, lf4.2⟩, by rw [wtL_sm]; omega, fun r H5 l5 => ?_⟩
          rw [wtL_sm] at l5
          have l5 := ltrans lf4 l5
          refine ⟨_, rfl, ?_⟩
          cases r with
          | true => exact iteF ⟨_, _, _, _, _, rfl, lmono l5 (by simp only [I2.wt]; omega)⟩
          | false => exact iteT (q false H5 (lmono l5 (by omega)))
    · rintro σ H2 ⟨i5, k6, c7, b8, c9, rfl, lf2⟩
      rw [plen hl, List.take_length] at lf2
      exact q true H2 lf2
abbrev nWri : List Str := ["items", "numbers", "at", "many", "state"]
theorem scWri : FnScope nWri ["items", "numbers", "at", "many"] (defScope sWri) := ⟨rfl, rfl, rfl, by decide +kernel, rfl, by decide +kernel, by decide +kernel⟩
def spWri : Sp := fun vs H Q _ => ∃ (p pn : Addr) (xs : List V) (l : List I2) (ns : List Int) (at0 many : Nat), vs = [.ref p, .ref pn, .int (at0 : Int), .int (many : Int)] ∧ H p = some (.tup xs) ∧ ItsAt H xs l ∧ (∀ x ∈ l, x.okW) ∧ H pn = some (.lst (ns.map V.int)) ∧ Nb ns ∧ 0 < many ∧ many < 1000000 ∧ at0 + many ≤ ns.length ∧ wtL l ≤ 2000000 ∧
  (∀ r (bs : List Int) H', Same H H' → H' r = some (.lst (bs.map V.int)) → By bs → bs.length ≤ 2000000 → Q (.ref r) H') ∧ ∀ H', Same H H' → Q .non H'
theorem ok_wri {k : Nat} (F : Fun K "_law_written" "_law_written" sWri f fd) (gB : Cal P w K mg base CX0 k "_law_put_block" ["block", "numbers", "at", "many", "state"] (spPutB 1)) : FnOk P w K mg base CX0 (k + 1) f fd ["items", "numbers", "at", "many"] spWri := by
  refine F.ok scWri (fun vs H Q E h => ?_) (fun cdv A outer s H vs Q E hr h => ?_)
  · obtain ⟨p, pn, xs, l, ns, at0, many, rfl, _⟩ := h
    rfl
  · obtain ⟨p, pn, xs, l, ns, at0, many, rfl, hp, hl, hok, hn, hb, h0, hbig, hlen, cap, q1, q2⟩ := h
    refine ⟨_, (pss_cons (ps_set (i := 4) scWri.nd rfl (.inl rfl) (pe_lst (pa_cons (pe_lst pa_nil) (pa_cons pe_int (pa_cons (pe_lst pa_nil) pa_nil)))))
      (pss_cons (ps_if (pt_val (pe_cal gB hr pass0 (pa_cons (pv 0) (pa_cons (pv 1) (pa_cons (pv 2) (pa_cons (pv 3) (pa_cons (pv 4) pa_nil))))))) (pss_one (ps_ret (pe_ix ix_list (pv 4) pe_int (fun _ _ => rfl)))) pss_nil)
      (pss_one (ps_ret pe_non)))), ?_⟩
    refine ⟨(by show 0 ≤ sizeLine; decide), fun b gb => ⟨(by show 0 ≤ sizeLine; decide), fun k2 gk => ⟨(by show 3 ≤ sizeLine; decide), fun st gs => ?_⟩⟩⟩
    have nbk : k2 ≠ b := fun e => by rw [e, upd_same] at gk; cases gk
    have s1 := same_new gb (.lst [])
    have s2 := s1.trans (same_new gk (.lst []))
    have kb : (upd (upd H b (.lst [])) k2 (.lst [])) b = some (.lst []) := by rw [upd_ne nbk.symm]; exact upd_same
    have kk := upd_same (H := upd H b (.lst [])) (a := k2) (o := .lst [])
    generalize upd (upd H b (.lst [])) k2 (.lst []) = H2 at s2 kb kk gs ⊢
    have s3 := s2.trans (same_new gs (.lst [.ref b, .int 0, .ref k2]))
    have ks := upd_same (H := H2) (a := st) (o := .lst [.ref b, .int 0, .ref k2])
    have kb3 := same_new gs (.lst [.ref b, .int 0, .ref k2]) _ _ kb
    have kk3 := same_new gs (.lst [.ref b, .int 0, .ref k2]) _ _ kk
    have nb : b ≠ st := fun e => by rw [e, gs] at kb; cases kb
    have nk : k2 ≠ st := fun e => by rw [e, gs] at kk; cases kk
    have g0 : H st = none := s2.free gs
    generalize upd H2 st (.lst [.ref b, .int 0, .ref k2]) = H3 at s3 ks kb3 kk3 ⊢
    have npn : pn ≠ st := fun e => by rw [e, g0] at hn; cases hn
    have fin : ∀ {H' : Hp}, But st H3 H' → Same H H' := fun u c o e => u _ _ (ne_of_none e g0) (s3 _ _ e)
    refine ⟨_, rfl, _, rfl, _, rfl, _, rfl, _, rfl, p, pn, st, xs, l, ns, at0, many, 0, rfl, s3 _ _ hp, hl.tk (sTk s3), (fun x hx => ⟨hok x hx, fun z => by cases z⟩), s3 _ _ hn, hb, h0, hbig, hlen, npn, ⟨.refl _ _, b, 0, k2, [], [], ⟨ks, kb3, ⟨[], kk3, .nil⟩, nb, nk⟩, (fun p hp => by cases hp), (fun x hx => by cases hx), Nat.le_refl _, Nat.le_refl _⟩, by omega, fun r H' lf => ?_⟩
    obtain ⟨u, b', c', k', bs, kn, sa, _, byb, bl, _⟩ := lf
    refine ⟨_, rfl, ?_⟩
    cases r with
    | true => exact iteT ⟨_, rfl, st, _, 0, _, rfl, rfl, SqL.of sa.hs, atI_nat (j := 0) rfl, q1 b' bs H' (fin u) sa.hb byb (by omega)⟩
    | false => exact iteF (q2 H' (fin u))
end
/-! ### what is drawn can be written -/
theorem plain_okW {x : Sm} (h : x.plain) : x.okW ∧ wtS x ≤ 2 := by
  cases x with
  | num n s o lo hi =>
    obtain ⟨rfl, rfl, h1, h2, h3⟩ := h
    exact ⟨⟨h1, h2, by omega, fun _ => h3, fun z => by cases z⟩, Nat.le_refl _⟩
  | byt n a =>
    rcases h with rfl | rfl
    · exact ⟨fun i e => by cases e; decide, by simp [wtS]⟩
    · exact ⟨fun i e => by cases e; decide, by simp [wtS]⟩
  | _ => exact h.elim
theorem plain_wtB {b : List Sm} (h : ∀ x ∈ b, x.plain) : wtB b ≤ 2 * b.length := by
  unfold wtB
  induction b with
  | nil => simp
  | cons a r ih =>
    rw [List.map_cons, List.sum_cons, List.length_cons]
    have := (plain_okW (h a (List.mem_cons_self ..))).2
    have := ih fun x hx => h x (List.mem_cons_of_mem _ hx)
    omega
theorem ok_okW {x : I2} {ah : List Str} (h : x.ok ah) : x.okW ∧ x.wt ≤ 262140 := by
  cases x with
  | sm y => cases y with
    | num n s o lo hi =>
      obtain ⟨h1, h2, h3, h4⟩ := h
      exact ⟨⟨h2, h3, by omega, fun _ => by omega, fun _ => h1⟩, by simp [I2.wt, wtS]⟩
    | byt n a =>
      refine ⟨fun i e => ?_, ?_⟩
      · rcases h with ⟨j, e2, h1, h2⟩ | ⟨z, e2, _⟩
        · rw [e] at e2; cases e2; omega
        · rw [e] at e2; cases e2
      · rcases h with ⟨j, rfl, h1, h2⟩ | ⟨z, rfl, _⟩
        · simp only [I2.wt, wtS]; omega
        · simp only [I2.wt, wtS]; omega
    | txt n s m => obtain ⟨h1, h2⟩ := h; exact ⟨⟨h1, by omega, by omega⟩, by simp only [I2.wt, wtS]; omega⟩
    | chk n m => obtain ⟨h1, h2⟩ := h; exact ⟨⟨h1, by omega⟩, by simp [I2.wt, wtS]⟩
    | pad n m b => obtain ⟨h1, h2⟩ := h; exact ⟨⟨⟨by omega, by omega⟩, h2⟩, by simp only [I2.wt, wtS]; omega⟩
  | rep n a b =>
    obtain ⟨h1, h2, h3⟩ := h
    refine ⟨⟨fun i e => ?_, fun y hy => (plain_okW (h3 y hy)).1⟩, ?_⟩
    · rcases h1 with ⟨j, e2, q1, q2⟩ | ⟨z, e2, _⟩
      · rw [e] at e2; cases e2; omega
      · rw [e] at e2; cases e2
    · have := plain_wtB h3; simp only [I2.wt]; omega
  | eit n bs =>
    obtain ⟨h1, h2, h3⟩ := h
    refine ⟨⟨by omega, fun b hb y hy => (plain_okW ((h2 b hb).2 y hy)).1⟩, ?_⟩
    have : ∀ l : List (List Sm), (∀ b ∈ l, b.length ≤ 2 ∧ ∀ x ∈ b, x.plain) → (l.map wtB).sum ≤ 4 * l.length := fun l => by
      induction l with
      | nil => simp
      | cons a r ih =>
        intro hl
        rw [List.map_cons, List.sum_cons, List.length_cons]
        have := plain_wtB (hl a (List.mem_cons_self ..)).2
        have := (hl a (List.mem_cons_self ..)).1
        have := ih fun x hx => hl x (List.mem_cons_of_mem _ hx)
        omega
    have := this bs h2
    simp only [I2.wt]; omega
  | swi n t cs =>
    obtain ⟨h1, h2, h3, h4⟩ := h
    refine ⟨⟨by omega, fun c hc y hy => (plain_okW ((h3 c hc).2.2 y hy)).1⟩, ?_⟩
    have : ∀ l : List (Int × List Sm), (∀ c ∈ l, c.2.length ≤ 2 ∧ ∀ x ∈ c.2, x.plain) → (l.map fun c => wtB c.2).sum ≤ 4 * l.length := fun l => by
      induction l with
      | nil => simp
      | cons a r ih =>
        intro hl
        rw [List.map_cons, List.sum_cons, List.length_cons]
        have := plain_wtB (hl a (List.mem_cons_self ..)).2
        have := (hl a (List.mem_cons_self ..)).1
        have := ih fun x hx => hl x (List.mem_cons_of_mem _ hx)
        omega
    have := this cs fun c hc => (h3 c hc).2
    simp only [I2.wt]; omega
theorem okL_mem : ∀ {l : List I2} {ah : List Str} {x : I2}, OkL ah l → x ∈ l → ∃ ah', x.ok ah'
  | a :: r, ah, x, h, m => by
    rcases List.mem_cons.mp m with rfl | m
    · exact ⟨ah, h.1⟩
    · exact okL_mem h.2 m
theorem Drawn.okW {l : List I2} (h : Drawn l) : (∀ x ∈ l, x.okW) ∧ wtL l ≤ 2000000 := by
  refine ⟨fun x hx => by obtain ⟨ah, k⟩ := okL_mem h.ok hx; exact (ok_okW k).1, ?_⟩
  have : ∀ r : List I2, (∀ x ∈ r, x ∈ l) → wtL r ≤ 262140 * r.length := fun r => by
    induction r with
    | nil => intro _; exact Nat.le_refl _
    | cons a r ih =>
      intro hr
      obtain ⟨ah, k⟩ := okL_mem h.ok (hr a (List.mem_cons_self ..))
      have := (ok_okW k).2
      have := ih fun x hx => hr x (List.mem_cons_of_mem _ hx)
      unfold wtL at this ⊢
      rw [List.map_cons, List.sum_cons, List.length_cons]
      omega
  have := this l fun _ h => h
  have := h.n4
  omega
end Bm

set_option Elab.async false
set_option linter.all false
set_option maxRecDepth 100000
set_option maxHeartbeats 4000000
/-! how files are read: the reader of the laws, as a function -/
namespace Bm
open PySem L2
inductive SV where
  | num (i : Int)
  | byt (l : List Int)
abbrev C0 := List (Str × SV)
inductive Vl where
  | sm (s : SV)
  | rds (r : List C0)
  | tak (k : Nat) (c : C0)
  | con (c : C0)
abbrev C1 := List (Str × Vl)
structure Pt (α : Type) where
  at0 : Nat
  path : List Int
  vals : List (Str × α)
  known : List (Str × Int)
abbrev Stop := Int × Option Str
/-! ### one plain item -/
def num1 (lo hi : Int) (at0 : Nat) (value : Int) : Except Stop (Nat × Int) := if value < lo ∨ value > hi then .error ((at0 : Int), none) else .ok (at0 + 1, value)
def numRun (n : Str) (size : Int) (order : Str) (lo hi : Int) (f : List Int) (at0 : Nat) : Except Stop (Nat × Int) :=
  match f[at0]? with
  | none => .error ((at0 : Int), some n)
  | some b => if size = 2 then
      (if (if order = "little" then (hi - b) / 256 else hi - 256 * b) < 0 ∨ (if order = "little" then (lo - b + 255) / 256 else lo - 256 * b) > 255 ∨ (if order = "little" then (lo - b + 255) / 256 else lo - 256 * b) > (if order = "little" then (hi - b) / 256 else hi - 256 * b) then .error ((at0 : Int), none)
      else match f[at0 + 1]? with
        | none => .error (((at0 + 1 : Nat) : Int), some n)
        | some c => num1 lo hi (at0 + 1) (if order = "little" then b + 256 * c else 256 * b + c))
    else num1 lo hi at0 b
/-- a text: k bytes were looked at, m are left -/
def txtGo (n : Str) (stop : Int) (f : List Int) (at0 : Nat) (k : Nat) : Nat → Except Stop (Nat × List Int)
  | 0 => .error (((at0 + k : Nat) : Int) - 1, none)
  | m + 1 => match f[at0 + k]? with
    | none => .error ((f.length : Int), some n)
    | some b => if b = stop then .ok (at0 + k + 1, (f.drop at0).take k) else txtGo n stop f at0 (k + 1) m
/-- so many bytes that are told -/
def scanGo (n : Str) (byte : Int) (f : List Int) (at0 : Nat) (k : Nat) : Nat → Except Stop Unit
  | 0 => .ok ()
  | m + 1 => match f[at0 + k]? with
    | none => .error ((f.length : Int), some n)
    | some b => if b = byte then scanGo n byte f at0 (k + 1) m else .error (((at0 + k : Nat) : Int), none)
def padLen (at0 : Nat) (m : Int) : Nat := (-(at0 : Int) % m).toNat
def smRun (f : List Int) (at0 : Nat) (kn : List (Str × Int)) : Sm → Except Stop (Nat × Option SV)
  | .num n s o lo hi => (numRun n s o lo hi f at0).map fun r => (r.1, some (.num r.2))
  | .byt n a => if at0 + (findK kn a).toNat > f.length then .error ((f.length : Int), some n) else .ok (at0 + (findK kn a).toNat, some (.byt ((f.drop at0).take (findK kn a).toNat)))
  | .txt n s m => (txtGo n s f at0 0 (m + 1).toNat).map fun r => (r.1, some (.byt r.2))
  | .chk n m => (scanGo n ((f.take at0).sum % m) f at0 0 1).map fun _ => (at0 + 1, none)
  | .pad n m b => (scanGo n b f at0 0 (padLen at0 m)).map fun _ => (at0 + padLen at0 m, none)
def knOf : Sm → Option SV → List (Str × Int)
  | .num n .., some (.num v) => [(n, v)]
  | _, _ => []
def ptS {α : Type} (inj : SV → α) (f : List Int) (x : Sm) (p : Pt α) : List (Pt α) × List Stop :=
  match smRun f p.at0 p.known x with
  | .error s => ([], [s])
  | .ok (a, v) => ([⟨a, p.path, p.vals ++ (v.map fun v => (x.name, inj v)).toList, p.known ++ knOf x v⟩], [])
/-- item by item -/
def runL {α β : Type} (step : β → Pt α → List (Pt α) × List Stop) : List β → List (Pt α) → List (Pt α) × List Stop
  | [], ps => (ps, [])
  | x :: r, ps => ((runL step r (ps.flatMap fun p => (step x p).1)).1, (ps.flatMap fun p => (step x p).2) ++ (runL step r (ps.flatMap fun p => (step x p).1)).2)
def runS (f : List Int) (b : List Sm) (p : Pt SV) : List (Pt SV) × List Stop := runL (ptS id f) b [p]
/-! ### blocks -/
abbrev Rw := Nat × List Int × List C0
def rowStep (f : List Int) (b : List Sm) (kn : List (Str × Int)) (r : Rw) : List Rw × List Stop :=
  ((runS f b ⟨r.1, r.2.1, [], kn⟩).1.map fun t => (t.at0, t.path, r.2.2 ++ [t.vals]), (runS f b ⟨r.1, r.2.1, [], kn⟩).2)
def rounds (f : List Int) (b : List Sm) (kn : List (Str × Int)) : Nat → List Rw → List Rw × List Stop
  | 0, rs => (rs, [])
  | m + 1, rs => ((rounds f b kn m (rs.flatMap fun r => (rowStep f b kn r).1)).1, (rs.flatMap fun r => (rowStep f b kn r).2) ++ (rounds f b kn m (rs.flatMap fun r => (rowStep f b kn r).1)).2)
def eitGo (f : List Int) (n : Str) (p : Pt Vl) : Nat → List (List Sm) → List (Pt Vl) × List Stop
  | _, [] => ([], [])
  | k, b :: r => ((runS f b ⟨p.at0, p.path ++ [(k : Int)], [], p.known⟩).1.map (fun t => (⟨t.at0, t.path, p.vals ++ [(n, .tak k t.vals)], p.known⟩ : Pt Vl)) ++ (eitGo f n p (k + 1) r).1, (runS f b ⟨p.at0, p.path ++ [(k : Int)], [], p.known⟩).2 ++ (eitGo f n p (k + 1) r).2)
def stepI (f : List Int) (x : I2) (p : Pt Vl) : List (Pt Vl) × List Stop := match x with
  | .sm y => ptS Vl.sm f y p
  | .rep n a b => ((rounds f b p.known (findK p.known a).toNat [(p.at0, p.path, [])]).1.map fun r => ⟨r.1, r.2.1, p.vals ++ [(n, .rds r.2.2)], p.known⟩, (rounds f b p.known (findK p.known a).toNat [(p.at0, p.path, [])]).2)
  | .eit n bs => eitGo f n p 0 bs
  | .swi n t cs => match cs.find? fun c => c.1 = findK p.known (.inr t) with
    | none => ([], [((p.at0 : Int) - 1, none)])
    | some c => ((runS f c.2 ⟨p.at0, p.path, [], p.known⟩).1.map fun t => ⟨t.at0, t.path, p.vals ++ [(n, .con t.vals)], p.known⟩, (runS f c.2 ⟨p.at0, p.path, [], p.known⟩).2)
def runI (f : List Int) (l : List I2) (p : Pt Vl) : List (Pt Vl) × List Stop := runL (stepI f) l [p]
/-! ### in the heap -/
def SVAt (H : Hp) (v : V) : SV → Prop
  | .num i => v = .int i
  | .byt l => ∃ p, v = .ref p ∧ H p = some (.lst (l.map V.int))
def EnAt {α : Type} (R : Hp → V → α → Prop) (H : Hp) (v : V) (e : Str × α) : Prop := ∃ t u, v = .ref t ∧ H t = some (.tup [.str e.1, u]) ∧ R H u e.2
def CtAt {α : Type} (R : Hp → V → α → Prop) (H : Hp) (v : V) (c : List (Str × α)) : Prop := ∃ p xs, v = .ref p ∧ H p = some (.lst xs) ∧ Paired (EnAt R H) xs c
def VlAt (H : Hp) (v : V) : Vl → Prop
  | .sm s => SVAt H v s
  | .rds r => ∃ p xs, v = .ref p ∧ H p = some (.lst xs) ∧ Paired (CtAt SVAt H) xs r
  | .tak k c => ∃ t u, v = .ref t ∧ H t = some (.tup [.int (k : Int), u]) ∧ CtAt SVAt H u c
  | .con c => CtAt SVAt H v c
/-- kept where all is kept -/
def Mon {α : Type} (R : Hp → V → α → Prop) : Prop := ∀ (H H' : Hp) (v : V) (x : α), Same H H' → R H v x → R H' v x
theorem mon_sv : Mon SVAt := fun H H' v x s h => by
  cases x with
  | num i => exact h
  | byt l => obtain ⟨p, e, hp⟩ := h; exact ⟨p, e, s _ _ hp⟩
theorem mon_en {α : Type} {R : Hp → V → α → Prop} (m : Mon R) : Mon (EnAt R) := fun _ _ _ _ s h => by
  obtain ⟨t, u, e, ht, hu⟩ := h; exact ⟨t, u, e, s _ _ ht, m _ _ _ _ s hu⟩
theorem mon_ct {α : Type} {R : Hp → V → α → Prop} (m : Mon R) : Mon (CtAt R) := fun _ _ _ _ s h => by
  obtain ⟨p, xs, e, hp, q⟩ := h; exact ⟨p, xs, e, s _ _ hp, L2.Paired.mapP q fun _ _ k => mon_en m _ _ _ _ s k⟩
theorem mon_vl : Mon VlAt := fun H H' v x s h => by
  cases x with
  | sm y => exact mon_sv _ _ _ y s h
  | rds r => obtain ⟨p, xs, e, hp, q⟩ := h; exact ⟨p, xs, e, s _ _ hp, L2.Paired.mapP q fun _ _ k => mon_ct mon_sv _ _ _ _ s k⟩
  | tak k c => obtain ⟨t, u, e, ht, q⟩ := h; exact ⟨t, u, e, s _ _ ht, mon_ct mon_sv _ _ _ _ s q⟩
  | con c => exact mon_ct mon_sv _ _ _ _ s h
def PtAt {α : Type} (R : Hp → V → α → Prop) (H : Hp) (v : V) (p : Pt α) : Prop := ∃ t pp vv kk vs ks, v = .ref t ∧ H t = some (.tup [.int (p.at0 : Int), .ref pp, .ref vv, .ref kk]) ∧ H pp = some (.tup (p.path.map V.int)) ∧ H vv = some (.lst vs) ∧ Paired (EnAt R H) vs p.vals ∧ H kk = some (.lst ks) ∧ Paired (PrAt H) ks p.known
theorem mon_pt {α : Type} {R : Hp → V → α → Prop} (m : Mon R) : Mon (PtAt R) := fun _ _ _ _ s h => by
  obtain ⟨t, pp, vv, kk, vs, ks, e, h1, h2, h3, h4, h5, h6⟩ := h
  exact ⟨t, pp, vv, kk, vs, ks, e, s _ _ h1, s _ _ h2, s _ _ h3, L2.Paired.mapP h4 fun _ _ k => mon_en m _ _ _ _ s k, s _ _ h5, L2.Paired.mapP h6 fun _ _ k => k.tk (sTk s)⟩
def stV : Option Str → V
  | none => .non
  | some z => .str z
def SpAt (H : Hp) (v : V) (s : Stop) : Prop := ∃ t, v = .ref t ∧ H t = some (.tup [.int s.1, stV s.2])
theorem mon_sp : Mon SpAt := fun _ _ _ _ s h => by
  obtain ⟨t, e, h⟩ := h; exact ⟨t, e, s _ _ h⟩
/-- what was new stays so: own lists are not taken in -/
def Nu (G H G' : Hp) : Prop := ∀ b, G b = none → H b ≠ none → G' b = none
/-- what stood at the beginning, and what is new -/
def mix (G H H' : Hp) : Hp := fun b => match G b with
  | some o => some o
  | none => match H b with
    | none => H' b
    | some _ => none
theorem mix_old {G H H' : Hp} {b : Addr} {o : HO} (h : G b = some o) : mix G H H' b = some o := by unfold mix; rw [h]
theorem mix_new {G H H' : Hp} {b : Addr} {o : HO} (sG : Same G H) (h : H b = none) (h2 : H' b = some o) : mix G H H' b = some o := by
  unfold mix
  rw [sG.free h, h]
  exact h2
theorem mix_in {G H H' : Hp} {b : Addr} {o : HO} (e : mix G H H' b = some o) : G b = some o ∨ (G b = none ∧ H b = none ∧ H' b = some o) := by
  unfold mix at e
  cases c : G b with
  | some u => rw [c] at e; exact .inl e
  | none =>
    rw [c] at e
    cases d : H b with
    | none => rw [d] at e; exact .inr ⟨rfl, rfl, e⟩
    | some u => rw [d] at e; cases e
theorem mix_nu {G H H' : Hp} : Nu G H (mix G H H') := fun b h1 h2 => by
  unfold mix
  rw [h1]
  cases d : H b with
  | none => exact absurd d h2
  | some u => rfl
/-! ### how many -/
def PtOk {α : Type} (f : List Int) (p : Pt α) : Prop := p.at0 ≤ f.length ∧ KnOk p.known ∧ p.known.length ≤ 100000 ∧ p.vals.length ≤ 100000
end Bm

set_option Elab.async false
set_option linter.all false
set_option maxRecDepth 100000
set_option maxHeartbeats 8000000
/-! plain items are read -/
namespace Bm
open PySem L2
abbrev sRunN : Stmt := top 19
abbrev sRunP : Stmt := top 20
def spRunS (ok : Sm → Prop) : Sp := fun vs H Q _ => ∃ (v vp : V) (pf st : Addr) (G : Hp) (α : Type) (R : Hp → V → α → Prop) (inj : SV → α) (x : Sm) (f : List Int) (p : Pt α) (sts : List V), vs = [v, .ref pf, vp, .ref st] ∧ Mon R ∧ (∀ H v s, SVAt H v s → R H v (inj s)) ∧ SmAt G v x ∧ x.okW ∧ ok x ∧ G pf = some (.lst (f.map V.int)) ∧ By f ∧ f.length ≤ 2000000 ∧ PtAt R G vp p ∧ PtOk f p ∧ Same G H ∧ G st = none ∧ H st = some (.lst sts) ∧ sts.length ≤ 100000 ∧
  ∀ r ps nst G' H', Same G G' → Same G' H' → Nu G H G' → But st H H' → G' r = some (.lst ps) → Paired (PtAt R G') ps (ptS inj f x p).1 → H' st = some (.lst (sts ++ nst)) → Paired (SpAt G') nst (ptS inj f x p).2 → Q (.ref r) H'
/-- a part is refused -/
theorem stop_go {α : Type} {R : Hp → V → α → Prop} {inj : SV → α} {f : List Int} {x : Sm} {p : Pt α} {G H H1 : Hp} {st t r : Addr} {sts : List V} {Q : VK} {s : Stop} (sG : Same G H) (gs : G st = none) (s1 : Same H H1) (hs : H st = some (.lst sts)) (e : ptS inj f x p = ([], [s])) (ht : H1 t = none) (hr : (upd (upd H1 t (.tup [.int s.1, stV s.2])) st (.lst (sts ++ [.ref t]))) r = none)
    (q : ∀ r ps nst G' H', Same G G' → Same G' H' → Nu G H G' → But st H H' → G' r = some (.lst ps) → Paired (PtAt R G') ps (ptS inj f x p).1 → H' st = some (.lst (sts ++ nst)) → Paired (SpAt G') nst (ptS inj f x p).2 → Q (.ref r) H') :
    Q (.ref r) (upd (upd (upd H1 t (.tup [.int s.1, stV s.2])) st (.lst (sts ++ [.ref t]))) r (.lst [])) := by
  have nts : t ≠ st := fun z => by have := s1 _ _ hs; rw [← z, ht] at this; cases this
  have nrs : r ≠ st := fun z => by rw [z, upd_same] at hr; cases hr
  have nrt : r ≠ t := fun z => by rw [z, upd_ne nts, upd_same] at hr; cases hr
  have hr1 : H1 r = none := by rw [upd_ne nrs, upd_ne nrt] at hr; exact hr
  have hr0 : H r = none := s1.free hr1
  have ht0 : H t = none := s1.free ht
  refine q r [] [.ref t] (upd (upd G t (.tup [.int s.1, stV s.2])) r (.lst [])) _ ?_ ?_ ?_ ?_ upd_same ?_ ?_ ?_
  · intro b o e
    rw [upd_ne (fun z => by rw [z] at e; have := sG _ _ e; rw [hr0] at this; cases this), upd_ne (fun z => by rw [z] at e; have := sG _ _ e; rw [ht0] at this; cases this)]
    exact e
  · intro b o e
    by_cases h1 : b = r
    · rw [h1, upd_same] at e ⊢; exact e
    · rw [upd_ne h1] at e ⊢
      by_cases h2 : b = t
      · rw [h2, upd_same] at e; rw [h2, upd_ne nts, upd_same]; exact e
      · rw [upd_ne h2] at e
        have h3 : b ≠ st := fun z => by rw [z, gs] at e; cases e
        rw [upd_ne h3, upd_ne h2]
        exact s1 _ _ (sG _ _ e)
  · intro b h1 h2
    rw [upd_ne (fun z => h2 (by rw [z]; exact hr0)), upd_ne (fun z => h2 (by rw [z]; exact ht0))]
    exact h1
  · intro b o n e
    rw [upd_ne (ne_of_none e hr0), upd_ne n, upd_ne (ne_of_none e ht0)]
    exact s1 _ _ e
  · rw [e]; exact .nil
  · rw [upd_ne nrs.symm, upd_same]
  · rw [e]; exact .cons ⟨t, rfl, by rw [upd_ne nrt.symm]; exact upd_same⟩ .nil
/-- a part goes on -/
theorem goes_go {α : Type} {R : Hp → V → α → Prop} {inj : SV → α} {f : List Int} {x : Sm} {p p' : Pt α} {G H H' : Hp} {st r : Addr} {sts : List V} {v' : V} {Q : VK} (sG : Same G H) (s1 : Same H H') (hs : H st = some (.lst sts)) (e : ptS inj f x p = ([p'], [])) (hr : H r = none) (hr' : H' r = some (.lst [v'])) (hp : PtAt R (mix G H H') v' p')
    (q : ∀ r ps nst G' H', Same G G' → Same G' H' → Nu G H G' → But st H H' → G' r = some (.lst ps) → Paired (PtAt R G') ps (ptS inj f x p).1 → H' st = some (.lst (sts ++ nst)) → Paired (SpAt G') nst (ptS inj f x p).2 → Q (.ref r) H') : Q (.ref r) H' := by
  refine q r [v'] [] (mix G H H') H' (fun b o e => mix_old e) (fun b o e => (mix_in e).elim (fun h => s1 _ _ (sG _ _ h)) fun h => h.2.2) mix_nu (.of s1) (mix_new sG hr hr') ?_ (by rw [List.append_nil]; exact s1 _ _ hs) ?_
  · rw [e]; exact .cons hp .nil
  · rw [e]; exact .nil
theorem or_if {p q : Prop} [Decidable p] [Decidable q] {X Y Z : Prop} (k : (if decide q = true then X else Y) → Z) (h1 : p ∨ q → X) (h2 : ¬ (p ∨ q) → Y) : if decide p = true then (if true = true then X else Y) else Z := by
  by_cases hp : p
  · rw [if_pos (decide_eq_true hp)]; exact iteT (h1 (.inl hp))
  · rw [if_neg (by simpa using hp)]
    refine k ?_
    by_cases hq : q
    · rw [if_pos (decide_eq_true hq)]; exact h1 (.inr hq)
    · rw [if_neg (by simpa using hq)]; exact h2 (fun h => h.elim hp hq)
theorem in_at {f : List Int} {i : Nat} {b : Int} (h : f[i]? = some b) : atI (f.map V.int) (i : Int) = some (.int b) := atI_nat (by rw [List.getElem?_map, h]; rfl)
section
variable {P : Program} {w : World} {K : PySem.W.Frag} {mg : Str → Option Value} {base : Heap} {f : Addr} {fd : FuncData}
abbrev nRunN : List Str := ["item", "file", "part", "stops", "at", "path", "values", "known", "told", "low", "high", "value"]
theorem scRunN : FnScope nRunN ["item", "file", "part", "stops"] (defScope sRunN) := ⟨rfl, rfl, rfl, by decide +kernel, rfl, by decide +kernel, by decide +kernel⟩
theorem ok_runn (F : Fun K "_law_run_number" "_law_run_number" sRunN f fd) (mint : mg "int" = none) (ml : mg "len" = none) : FnOk P w K mg base CX0 1 f fd ["item", "file", "part", "stops"] (spRunS fun x => x.kind = "number") := by
  refine F.ok scRunN (fun vs H Q E h => ?_) (fun cdv A outer s H vs Q E hr h => ?_)
  · obtain ⟨v, vp, pf, st, G, α, R, inj, x, fl, p, sts, rfl, _⟩ := h
    rfl
  · obtain ⟨v, vp, pf, st, G, α, R, inj, x, fl, p, sts, rfl, mR, hinj, hx, xw, xk, hf, byf, fll, hpt, pok, sG, gs, hs, sl, q⟩ := h
    refine ⟨_, (pss_cons (ps_asg (pv 2) (pg_tup rfl (pgs_cons (pg_name (i := 4) scRunN.nd rfl (Or.inl rfl)) (pgs_cons (pg_name (i := 5) scRunN.nd rfl (Or.inl rfl)) (pgs_cons (pg_name (i := 6) scRunN.nd rfl (Or.inl rfl)) (pgs_cons (pg_name (i := 7) scRunN.nd rfl (Or.inl rfl)) pgs_nil))))))
      (pss_cons (ps_if (pt_cmpR op_ge (pv 4) (pe_callB call_len (by rfl) ml boot_len (pa_cons (pv 1) pa_nil)) (nomark _)) (pss_cons (ps_expr (pe_bm PySem.F.plainAttrs_list PySem.F.slot_list_append PySem.F.type_list_append mt_append (pv 3) (pa_cons (pe_tup (pa_cons (pv 4) (pa_cons (pe_ix ix_tup (pv 0) pe_int (fun _ _ => rfl)) pa_nil))) pa_nil)))
      (pss_one (ps_ret (pe_lst pa_nil)))) pss_nil)
      (pss_cons (ps_set (i := 8) scRunN.nd rfl (.inl rfl) (pe_lst (pa_cons (pe_ix ix_list (pv 1) (pv 4) (fun _ _ => rfl)) (pa_cons (pe_ix ix_list (pv 1) (pv 4) (fun _ _ => rfl)) pa_nil))))
      (pss_cons (ps_if (pt_cmpR op_eq (pe_ix ix_tup (pv 0) pe_int (fun _ _ => rfl)) pe_int (nomark _)) (pss_cons (ps_set (i := 9) scRunN.nd rfl (.inl rfl) (pe_op op_sub (pe_ix ix_tup (pv 0) pe_int (fun _ _ => rfl)) (pe_op op_mul pe_int (pe_ix ix_list (pv 1) (pv 4) (fun _ _ => rfl)))))
      (pss_cons (ps_set (i := 10) scRunN.nd rfl (.inl rfl) (pe_op op_sub (pe_ix ix_tup (pv 0) pe_int (fun _ _ => rfl)) (pe_op op_mul pe_int (pe_ix ix_list (pv 1) (pv 4) (fun _ _ => rfl)))))
      (pss_cons (ps_if (pt_cmpR op_eq (pe_ix ix_tup (pv 0) pe_int (fun _ _ => rfl)) pe_str (nomark _)) (pss_cons (ps_set (i := 9) scRunN.nd rfl (.inl rfl) (pe_op op_fdiv (pe_op op_add (pe_op op_sub (pe_ix ix_tup (pv 0) pe_int (fun _ _ => rfl)) (pe_ix ix_list (pv 1) (pv 4) (fun _ _ => rfl))) pe_int) pe_int))
      (pss_one (ps_set (i := 10) scRunN.nd rfl (.inl rfl) (pe_op op_fdiv (pe_op op_sub (pe_ix ix_tup (pv 0) pe_int (fun _ _ => rfl)) (pe_ix ix_list (pv 1) (pv 4) (fun _ _ => rfl))) pe_int)))) pss_nil)
      (pss_cons (ps_if (PW.pt (pw_or (pt_cmpR op_lt (pv 10) pe_int (nomark _)) (pw_or (pt_cmpR op_gt (pv 9) pe_int (nomark _)) (pw_or1 (pt_cmpR op_gt (pv 9) (pv 10) (nomark _)))))) (pss_cons (ps_expr (pe_bm PySem.F.plainAttrs_list PySem.F.slot_list_append PySem.F.type_list_append mt_append (pv 3) (pa_cons (pe_tup (pa_cons (pv 4) (pa_cons pe_non pa_nil))) pa_nil)))
      (pss_one (ps_ret (pe_lst pa_nil)))) pss_nil)
      (pss_cons (ps_set (i := 4) scRunN.nd rfl (.inl rfl) (pe_op op_add (pv 4) pe_int))
      (pss_cons (ps_if (pt_cmpR op_ge (pv 4) (pe_callB call_len (by rfl) ml boot_len (pa_cons (pv 1) pa_nil)) (nomark _)) (pss_cons (ps_expr (pe_bm PySem.F.plainAttrs_list PySem.F.slot_list_append PySem.F.type_list_append mt_append (pv 3) (pa_cons (pe_tup (pa_cons (pv 4) (pa_cons (pe_ix ix_tup (pv 0) pe_int (fun _ _ => rfl)) pa_nil))) pa_nil)))
      (pss_one (ps_ret (pe_lst pa_nil)))) pss_nil)
      (pss_one (ps_set (i := 8) scRunN.nd rfl (.inl rfl) (pe_lst (pa_cons (pe_op op_add (pe_op op_mul pe_int (pe_ix ix_list (pv 1) (pe_op op_sub (pv 4) pe_int) (fun _ _ => rfl))) (pe_ix ix_list (pv 1) (pv 4) (fun _ _ => rfl))) (pa_cons (pe_op op_add (pe_ix ix_list (pv 1) (pe_op op_sub (pv 4) pe_int) (fun _ _ => rfl)) (pe_op op_mul pe_int (pe_ix ix_list (pv 1) (pv 4) (fun _ _ => rfl)))) pa_nil))))))))))) pss_nil)
      (pss_cons (ps_set (i := 11) scRunN.nd rfl (.inl rfl) (pe_ix ix_list (pv 8) (pe_callTy (r := rInt1) call_int1 (by rfl) mint (by decide +kernel) (pa_cons (pe_cmpR op_eq (pe_ix ix_tup (pv 0) pe_int (fun _ _ => rfl)) pe_str (nomark _)) pa_nil)) (fun _ _ => rfl)))
      (pss_cons (ps_if (PW.pt (pw_or (pt_cmpR op_lt (pv 11) (pe_ix ix_tup (pv 0) pe_int (fun _ _ => rfl)) (nomark _)) (pw_or1 (pt_cmpR op_gt (pv 11) (pe_ix ix_tup (pv 0) pe_int (fun _ _ => rfl)) (nomark _))))) (pss_cons (ps_expr (pe_bm PySem.F.plainAttrs_list PySem.F.slot_list_append PySem.F.type_list_append mt_append (pv 3) (pa_cons (pe_tup (pa_cons (pv 4) (pa_cons pe_non pa_nil))) pa_nil)))
      (pss_one (ps_ret (pe_lst pa_nil)))) pss_nil)
      (pss_one (ps_ret (pe_lst (pa_cons (pe_tup (pa_cons (pe_op op_add (pv 4) pe_int) (pa_cons (pv 5) (pa_cons (pe_op op_cat (pv 6) (pe_lst (pa_cons (pe_tup (pa_cons (pe_ix ix_tup (pv 0) pe_int (fun _ _ => rfl)) (pa_cons (pv 11) pa_nil))) pa_nil))) (pa_cons (pe_op op_cat (pv 7) (pe_lst (pa_cons (pe_tup (pa_cons (pe_ix ix_tup (pv 0) pe_int (fun _ _ => rfl)) (pa_cons (pv 11) pa_nil))) pa_nil))) pa_nil))))) pa_nil)))))))))), ?_⟩
    obtain ⟨t, pp, vv, kk, vs, ks, rfl, ht, hpp, hvv, pvs, hkk, pks⟩ := hpt
    obtain ⟨pi, rfl, hpi⟩ := hx
    cases x with
    | byt => exact absurd xk (by simp only [Sm.kind]; decide +kernel)
    | txt => exact absurd xk (by simp only [Sm.kind]; decide +kernel)
    | chk => exact absurd xk (by simp only [Sm.kind]; decide +kernel)
    | pad => exact absurd xk (by simp only [Sm.kind]; decide +kernel)
    | num n sz o lo hi =>
    obtain ⟨w1, w2, w3, w4, w5⟩ := xw
    obtain ⟨k1, k2, k3, k4⟩ := pok
    have hpi1 : ∀ {H1 : Hp}, Same H H1 → SqT K H1 pi _ := fun s => SqT.of (s _ _ (sG _ _ hpi))
    have hf1 : ∀ {H1 : Hp}, Same H H1 → SqL K H1 pf _ := fun s => SqL.of (s _ _ (sG _ _ hf))
    have z1000 : ∀ m, m ≤ 200000 → m < sizeLine := fun m h => lt_line (by omega)
    have el : ∀ s : Stop, numRun n sz o lo hi fl p.at0 = .error s → ptS inj fl (.num n sz o lo hi) p = ([], [s]) := fun s e => by unfold ptS; simp only [smRun]; rw [e]; rfl
    refine ⟨_, rfl, t, _, rfl, SqT.of (sG _ _ ht), rfl, _, _, rfl, _, _, rfl, _, _, rfl, _, _, rfl, rfl, ?_⟩
    refine ⟨_, rfl, _, rfl, _, _, rfl, .inl ⟨_, hf1 (Same.refl _), rfl⟩, _, _, rfl, rfl, _, rfl, ?_⟩
    rw [List.length_map]
    cases hb : fl[p.at0]? with
    | none =>
      have hlt : fl.length ≤ p.at0 := by rw [List.getElem?_eq_none_iff] at hb; exact hb
      refine ifB (decide_eq_true (by omega)) ?_
      refine ⟨_, rfl, .inl ⟨rfl, _, SqL.of hs⟩, _, rfl, _, rfl, pi, _, 1, _, rfl, rfl, hpi1 (Same.refl _), atI_nat (j := 1) rfl, (by show 2 ≤ sizeLine; decide), fun t1 h1 => ⟨st, sts, _, rfl, rfl, same_new h1 _ _ _ hs, z1000 _ (by omega), ⟨(by show 0 ≤ sizeLine; decide), fun r hr => ?_⟩⟩⟩
      exact stop_go (s := ((p.at0 : Int), some n)) sG gs (Same.refl _) hs (el _ (by unfold numRun; rw [hb])) h1 hr q
    | some b =>
    have hlt : p.at0 < fl.length := by
      apply Decidable.byContradiction
      intro c
      rw [List.getElem?_eq_none (by omega)] at hb; cases hb
    have bb := byf b (List.mem_of_getElem? hb)
    refine ifF (decide_eq_false (by omega)) ?_
    refine ⟨_, rfl, _, rfl, pf, _, _, _, rfl, rfl, hf1 (Same.refl _), in_at hb, _, rfl, _, rfl, pf, _, _, _, rfl, rfl, hf1 (Same.refl _), in_at hb, (by show 2 ≤ sizeLine; decide), fun l0 g0 => ?_⟩
    have s0 := same_new g0 (.lst [.int b, .int b])
    have k0 := upd_same (H := H) (a := l0) (o := .lst [.int b, .int b])
    generalize upd H l0 (.lst [.int b, .int b]) = H0 at s0 k0 ⊢
    refine g_nx ?_
    try dsimp only
    refine with_rest (fun σ Hx => ∃ (a : Nat) (l : Addr) (w0 w1 : Int) (x9 x10 : Option V), σ = [some (.ref pi), some (.ref pf), some (.ref t), some (.ref st), some (.int (a : Int)), some (.ref pp), some (.ref vv), some (.ref kk), some (.ref l), x9, x10, none] ∧ Same H Hx ∧ Hx l = some (.lst [.int w0, .int w1]) ∧ numRun n sz o lo hi fl p.at0 = num1 lo hi a (if o = "little" then w1 else w0)) ?_ fun go => ?_
    rotate_left
    · refine ⟨_, rfl, pi, _, 2, _, rfl, rfl, hpi1 s0, atI_nat (j := 2) rfl, rfl, _, rfl, ?_⟩
      by_cases c2 : sz = 2
      · refine ifP c2 ?_
        refine ⟨_, rfl, pi, _, 4, _, rfl, rfl, hpi1 s0, atI_nat (j := 4) rfl, _, rfl, _, rfl, pf, _, _, _, rfl, rfl, hf1 s0, in_at hb, _, _, rfl, rfl, .inl ⟨by decide, by decide⟩, _, _, rfl, rfl, ?_⟩
        refine ⟨_, rfl, pi, _, 5, _, rfl, rfl, hpi1 s0, atI_nat (j := 5) rfl, _, rfl, _, rfl, pf, _, _, _, rfl, rfl, hf1 s0, in_at hb, _, _, rfl, rfl, .inl ⟨by decide, by decide⟩, _, _, rfl, rfl, ?_⟩
        refine g_nx ?_
        try dsimp only
        refine with_rest (fun σ Hx => σ = [some (.ref pi), some (.ref pf), some (.ref t), some (.ref st), some (.int (p.at0 : Int)), some (.ref pp), some (.ref vv), some (.ref kk), some (.ref l0), some (.int (if o = "little" then (lo - b + 255) / 256 else lo - 256 * b)), some (.int (if o = "little" then (hi - b) / 256 else hi - 256 * b)), none] ∧ Hx = H0) ?_ fun go2 => ?_
        rotate_left
        · refine ⟨_, rfl, pi, _, 3, _, rfl, rfl, hpi1 s0, atI_nat (j := 3) rfl, rfl, _, rfl, ?_⟩
          by_cases c3 : o = "little"
          · refine ifT c3 ?_
            refine ⟨_, rfl, pi, _, 4, _, rfl, rfl, hpi1 s0, atI_nat (j := 4) rfl, _, rfl, _, rfl, pf, _, _, _, rfl, rfl, hf1 s0, in_at hb, _, _, rfl, rfl, _, _, rfl, rfl, _, _, rfl, rfl, ⟨by decide, by decide⟩, ?_⟩
            refine ⟨_, rfl, pi, _, 5, _, rfl, rfl, hpi1 s0, atI_nat (j := 5) rfl, _, rfl, _, rfl, pf, _, _, _, rfl, rfl, hf1 s0, in_at hb, _, _, rfl, rfl, _, _, rfl, rfl, ⟨by decide, by decide⟩, ?_⟩
            exact go2 _ _ ⟨by rw [if_pos c3, if_pos c3]; rfl, rfl⟩
          · refine ifN c3 ?_
            exact go2 _ _ ⟨by rw [if_neg c3, if_neg c3]; rfl, rfl⟩
        rintro σ Hx ⟨rfl, rfl⟩
        generalize hlow : (if o = "little" then (lo - b + 255) / 256 else lo - 256 * b) = low at go
        generalize hhigh : (if o = "little" then (hi - b) / 256 else hi - 256 * b) = high at go
        have hs0 := s0 _ _ hs
        refine ⟨_, rfl, _, _, rfl, rfl, _, rfl, or_if (q := 255 < low ∨ high < low) (fun z => ⟨_, rfl, _, _, rfl, rfl, _, rfl, or_if (q := high < low) (fun z2 => ⟨_, rfl, _, rfl, _, _, rfl, rfl, _, rfl, z2⟩) (fun h => by rw [if_pos (decide_eq_true h)] at z; exact z) (fun h => by rw [if_neg (by simpa using h)] at z; exact z)⟩) (fun h => ?_) (fun h => ?_)⟩
        · refine ⟨_, rfl, .inl ⟨rfl, _, SqL.of hs0⟩, _, rfl, (by show 2 ≤ sizeLine; decide), fun t1 h1 => ⟨st, sts, _, rfl, rfl, same_new h1 _ _ _ hs0, z1000 _ (by omega), ⟨(by show 0 ≤ sizeLine; decide), fun r hr => ?_⟩⟩⟩
          refine stop_go (s := ((p.at0 : Int), none)) sG gs s0 hs (el _ ?_) h1 hr q
          unfold numRun
          rw [hb]
          simp only
          rw [if_pos c2, hlow, hhigh, if_pos h]
        refine ⟨_, rfl, _, _, rfl, rfl, ?_⟩
        refine ⟨_, rfl, _, rfl, _, _, rfl, .inl ⟨_, hf1 s0, rfl⟩, _, _, rfl, rfl, _, rfl, ?_⟩
        rw [List.length_map]
        cases hc : fl[p.at0 + 1]? with
        | none =>
          have hlt1 : fl.length ≤ p.at0 + 1 := by rw [List.getElem?_eq_none_iff] at hc; exact hc
          refine ifB (decide_eq_true (by omega)) ?_
          refine ⟨_, rfl, .inl ⟨rfl, _, SqL.of hs0⟩, _, rfl, _, rfl, pi, _, 1, _, rfl, rfl, hpi1 s0, atI_nat (j := 1) rfl, (by show 2 ≤ sizeLine; decide), fun t1 h1 => ⟨st, sts, _, rfl, rfl, same_new h1 _ _ _ hs0, z1000 _ (by omega), ⟨(by show 0 ≤ sizeLine; decide), fun r hr => ?_⟩⟩⟩
          refine stop_go (s := (((p.at0 + 1 : Nat) : Int), some n)) sG gs s0 hs (el _ ?_) h1 hr q
          unfold numRun
          rw [hb]
          simp only
          rw [if_pos c2, hlow, hhigh, if_neg h, hc]
        | some c =>
          have hlt1 : p.at0 + 1 < fl.length := by
            apply Decidable.byContradiction
            intro k
            rw [List.getElem?_eq_none (by omega)] at hc; cases hc
          refine ifF (decide_eq_false (by omega)) ?_
          have hb2 : atI (fl.map V.int) ((p.at0 : Int) + 1 - 1) = some (.int b) := by rw [show (p.at0 : Int) + 1 - 1 = (p.at0 : Int) by omega]; exact in_at hb
          have hc2 : atI (fl.map V.int) ((p.at0 : Int) + 1) = some (.int c) := in_at hc
          refine ⟨_, rfl, _, rfl, _, _, rfl, rfl, pf, _, _, _, rfl, rfl, hf1 s0, hb2, _, _, rfl, rfl, .inl ⟨by decide, by decide⟩, _, rfl, _, rfl, pf, _, _, _, rfl, rfl, hf1 s0, hc2, _, _, rfl, rfl, ?_⟩
          refine ⟨_, rfl, _, rfl, _, _, rfl, rfl, pf, _, _, _, rfl, rfl, hf1 s0, hb2, _, rfl, _, rfl, pf, _, _, _, rfl, rfl, hf1 s0, hc2, _, _, rfl, rfl, .inl ⟨by decide, by decide⟩, _, _, rfl, rfl, (by show 2 ≤ sizeLine; decide), fun l2 g2 => ?_⟩
          refine go _ _ ⟨p.at0 + 1, l2, 256 * b + c, b + 256 * c, some (.int low), some (.int high), rfl, s0.trans (same_new g2 _), upd_same, ?_⟩
          unfold numRun
          rw [hb]
          simp only
          rw [if_pos c2, hlow, hhigh, if_neg h, hc]
      · refine ifQ c2 ?_
        exact go _ _ ⟨p.at0, l0, b, b, none, none, rfl, s0, k0, by unfold numRun; rw [hb]; simp only; rw [if_neg c2]; split <;> rfl⟩
    rintro σ Hx ⟨a, l, w0, w1, x9, x10, rfl, sx, hl, en⟩
    have hat : atI [V.int w0, V.int w1] (if decide (V.str o = V.str "little") = true then 1 else 0) = some (.int (if o = "little" then w1 else w0)) := by
      by_cases c3 : o = "little"
      · rw [if_pos c3, if_pos (decide_eq_true (by rw [c3]))]; exact atI_nat (j := 1) rfl
      · rw [if_neg c3, if_neg (fun z => c3 (V.str.inj (of_decide_eq_true z)))]; exact atI_nat (j := 0) rfl
    generalize (if o = "little" then w1 else w0) = val at hat en
    refine ⟨_, rfl, _, rfl, pi, _, 3, _, rfl, rfl, hpi1 sx, atI_nat (j := 3) rfl, rfl, .inr ⟨_, rfl, l, _, _, _, rfl, rfl, SqL.of hl, hat, ?_⟩⟩
    have hsx := sx _ _ hs
    refine ⟨_, rfl, _, rfl, pi, _, 4, _, rfl, rfl, hpi1 sx, atI_nat (j := 4) rfl, _, _, rfl, rfl, _, rfl, or_if (q := hi < val) (fun z => ⟨_, rfl, _, rfl, pi, _, 5, _, rfl, rfl, hpi1 sx, atI_nat (j := 5) rfl, _, _, rfl, rfl, _, rfl, z⟩) (fun h => ?_) (fun h => ?_)⟩
    · refine ⟨_, rfl, .inl ⟨rfl, _, SqL.of hsx⟩, _, rfl, (by show 2 ≤ sizeLine; decide), fun t1 h1 => ⟨st, sts, _, rfl, rfl, same_new h1 _ _ _ hsx, z1000 _ (by omega), ⟨(by show 0 ≤ sizeLine; decide), fun r hr => ?_⟩⟩⟩
      exact stop_go (s := ((a : Int), none)) sG gs sx hs (el _ (by rw [en]; unfold num1; rw [if_pos h])) h1 hr q
    have eok : ptS inj fl (.num n sz o lo hi) p = ([⟨a + 1, p.path, p.vals ++ [(n, inj (.num val))], p.known ++ [(n, val)]⟩], []) := by
      unfold ptS
      simp only [smRun]
      rw [en]
      unfold num1
      rw [if_neg h]
      rfl
    refine ⟨_, rfl, _, _, rfl, rfl, _, rfl, _, rfl, _, rfl, pi, _, 1, _, rfl, rfl, hpi1 sx, atI_nat (j := 1) rfl, _, rfl, (by show 2 ≤ sizeLine; decide), fun t1 h1 => ?_⟩
    have s1 := same_new h1 (.tup [.str (Sm.num n sz o lo hi).name, .int val])
    have q1 : (upd Hx t1 (.tup [.str (Sm.num n sz o lo hi).name, .int val])) t1 = some (.tup [.str (Sm.num n sz o lo hi).name, .int val]) := upd_same
    have f1 := sx.free h1
    refine ⟨(by show 1 ≤ sizeLine; decide), fun l1 h2 => ?_⟩
    have s2 := s1.trans (same_new h2 (.lst [.ref t1]))
    have q2 := same_new h2 (.lst [.ref t1]) _ _ q1
    have r2 : (upd (upd Hx t1 (.tup [.str (Sm.num n sz o lo hi).name, .int val])) l1 (.lst [.ref t1])) l1 = some (.lst [.ref t1]) := upd_same
    generalize upd (upd Hx t1 (.tup [.str (Sm.num n sz o lo hi).name, .int val])) l1 (.lst [.ref t1]) = H2 at s2 q2 r2 ⊢
    clear s1 q1
    have S2 := sx.trans s2
    refine ⟨vv, l1, _, _, rfl, rfl, S2 _ _ (sG _ _ hvv), r2, le_line (by rw [plen pvs]; simp only [List.length_cons, List.length_nil]; omega), fun v2 h3 => ?_⟩
    have s3 := same_new h3 (.lst (vs ++ [.ref t1]))
    have q3 := s3 _ _ q2
    have r3 : (upd H2 v2 (.lst (vs ++ [.ref t1]))) v2 = some (.lst (vs ++ [.ref t1])) := upd_same
    have f3 := S2.free h3
    generalize upd H2 v2 (.lst (vs ++ [.ref t1])) = H3 at s3 q3 r3 ⊢
    have S3 := S2.trans s3
    refine ⟨_, rfl, _, rfl, pi, _, 1, _, rfl, rfl, hpi1 S3, atI_nat (j := 1) rfl, _, rfl, (by show 2 ≤ sizeLine; decide), fun t2 h4 => ?_⟩
    have s4 := same_new h4 (.tup [.str (Sm.num n sz o lo hi).name, .int val])
    have r4 : (upd H3 t2 (.tup [.str (Sm.num n sz o lo hi).name, .int val])) t2 = some (.tup [.str (Sm.num n sz o lo hi).name, .int val]) := upd_same
    have f4 := S3.free h4
    generalize upd H3 t2 (.tup [.str (Sm.num n sz o lo hi).name, .int val]) = H4 at s4 r4 ⊢
    refine ⟨(by show 1 ≤ sizeLine; decide), fun l2 h5 => ?_⟩
    have s5 := s4.trans (same_new h5 (.lst [.ref t2]))
    have r5 := same_new h5 (.lst [.ref t2]) _ _ r4
    have u5 : (upd H4 l2 (.lst [.ref t2])) l2 = some (.lst [.ref t2]) := upd_same
    generalize upd H4 l2 (.lst [.ref t2]) = H5 at s5 r5 u5 ⊢
    have S5 := S3.trans s5
    refine ⟨kk, l2, _, _, rfl, rfl, S5 _ _ (sG _ _ hkk), u5, le_line (by rw [plen pks]; simp only [List.length_cons, List.length_nil]; omega), fun k6 h6 => ?_⟩
    have s6 := same_new h6 (.lst (ks ++ [.ref t2]))
    have r6 : (upd H5 k6 (.lst (ks ++ [.ref t2]))) k6 = some (.lst (ks ++ [.ref t2])) := upd_same
    have f6 := S5.free h6
    generalize upd H5 k6 (.lst (ks ++ [.ref t2])) = H6 at s6 r6 ⊢
    have S6 := S5.trans s6
    refine ⟨(by show 4 ≤ sizeLine; decide), fun tp h7 => ?_⟩
    have s7 := same_new h7 (.tup [.int ((a : Int) + 1), .ref pp, .ref v2, .ref k6])
    have r7 : (upd H6 tp (.tup [.int ((a : Int) + 1), .ref pp, .ref v2, .ref k6])) tp = some (.tup [.int ((a : Int) + 1), .ref pp, .ref v2, .ref k6]) := upd_same
    have f7 := S6.free h7
    generalize upd H6 tp (.tup [.int ((a : Int) + 1), .ref pp, .ref v2, .ref k6]) = H7 at s7 r7 ⊢
    have S7 := S6.trans s7
    refine ⟨(by show 1 ≤ sizeLine; decide), fun r h8 => ?_⟩
    have s8 := same_new h8 (.lst [.ref tp])
    have S8 := S7.trans s8
    refine goes_go (v' := .ref tp) sG S8 hs eok (S7.free h8) upd_same ?_ q
    have mx : Same G (mix G H (upd H7 r (.lst [.ref tp]))) := fun b o e => mix_old e
    refine ⟨tp, pp, v2, k6, vs ++ [.ref t1], ks ++ [.ref t2], rfl, mix_new sG f7 (s8 _ _ r7), mix_old hpp, mix_new sG f3 ((s5.trans (s6.trans (s7.trans s8))) _ _ r3), ?_, mix_new sG f6 ((s7.trans s8) _ _ r6), ?_⟩
    · refine papp (L2.Paired.mapP pvs fun _ _ k => mon_en mR _ _ _ _ mx k) (.cons ⟨t1, .int val, rfl, mix_new sG f1 ((s5.trans (s6.trans (s7.trans s8))) _ _ q3), hinj _ _ _ rfl⟩ .nil)
    · refine papp (L2.Paired.mapP pks fun _ _ k => k.tk (sTk mx)) (.cons ⟨t2, rfl, mix_new sG f4 ((s6.trans (s7.trans s8)) _ _ r5)⟩ .nil)
abbrev nRunP : List Str := ["item", "file", "part", "stops", "at", "path", "values", "known", "size", "byte", "k"]
theorem scRunP : FnScope nRunP ["item", "file", "part", "stops"] (defScope sRunP) := ⟨rfl, rfl, rfl, by decide +kernel, rfl, by decide +kernel, by decide +kernel⟩
theorem ok_runp (F : Fun K "_law_run_plain" "_law_run_plain" sRunP f fd) (gF : Cal P w K mg base CX0 1 "_law_find" ["known", "count"] spFind) (mint : mg "int" = none) (ml : mg "len" = none) (mr : mg "range" = none) (msum : mg "sum" = none) : FnOk P w K mg base CX0 2 f fd ["item", "file", "part", "stops"] (spRunS fun x => x.kind ≠ "number") := by
  refine F.ok scRunP (fun vs H Q E h => ?_) (fun cdv A outer s H vs Q E hr h => ?_)
  · obtain ⟨v, vp, pf, st, G, α, R, inj, x, fl, p, sts, rfl, _⟩ := h
    rfl
  · obtain ⟨v, vp, pf, st, G, α, R, inj, x, fl, p, sts, rfl, mR, hinj, hx, xw, xk, hf, byf, fll, hpt, pok, sG, gs, hs, sl, q⟩ := h
    have hr1 : Room 1 _ := hr.mono (by decide)
    refine ⟨_, (pss_cons (ps_asg (pv 2) (pg_tup rfl (pgs_cons (pg_name (i := 4) scRunP.nd rfl (Or.inl rfl)) (pgs_cons (pg_name (i := 5) scRunP.nd rfl (Or.inl rfl)) (pgs_cons (pg_name (i := 6) scRunP.nd rfl (Or.inl rfl)) (pgs_cons (pg_name (i := 7) scRunP.nd rfl (Or.inl rfl)) pgs_nil))))))
      (pss_cons (ps_if (pt_cmpR op_eq (pe_ix ix_tup (pv 0) pe_int (fun _ _ => rfl)) pe_str (nomark _)) (pss_cons (ps_set (i := 8) scRunP.nd rfl (.inl rfl) (pe_cal gF hr1 pass0 (pa_cons (pv 7) (pa_cons (pe_ix ix_tup (pv 0) pe_int (fun _ _ => rfl)) pa_nil))))
      (pss_cons (ps_if (pt_cmpR op_gt (pe_op op_add (pv 4) (pv 8)) (pe_callB call_len (by rfl) ml boot_len (pa_cons (pv 1) pa_nil)) (nomark _)) (pss_cons (ps_expr (pe_bm PySem.F.plainAttrs_list PySem.F.slot_list_append PySem.F.type_list_append mt_append (pv 3) (pa_cons (pe_tup (pa_cons (pe_callB call_len (by rfl) ml boot_len (pa_cons (pv 1) pa_nil)) (pa_cons (pe_ix ix_tup (pv 0) pe_int (fun _ _ => rfl)) pa_nil))) pa_nil)))
      (pss_one (ps_ret (pe_lst pa_nil)))) pss_nil)
      (pss_one (ps_ret (pe_lst (pa_cons (pe_tup (pa_cons (pe_op op_add (pv 4) (pv 8)) (pa_cons (pv 5) (pa_cons (pe_op op_cat (pv 6) (pe_lst (pa_cons (pe_tup (pa_cons (pe_ix ix_tup (pv 0) pe_int (fun _ _ => rfl)) (pa_cons (pe_slice sl_list (pv 1) (po_some (pv 4)) (po_some (pe_op op_add (pv 4) (pv 8)))) pa_nil))) pa_nil))) (pa_cons (pv 7) pa_nil))))) pa_nil)))))) pss_nil)
      (pss_cons (ps_if (pt_cmpR op_eq (pe_ix ix_tup (pv 0) pe_int (fun _ _ => rfl)) pe_str (nomark _)) (pss_cons (ps_for PassesOwn.never rfl (pi_range1 (by rfl) mr (pa_cons (pe_op op_add (pe_ix ix_tup (pv 0) pe_int (fun _ _ => rfl)) pe_int) pa_nil)) (pg_name (i := 8) scRunP.nd rfl (.inl rfl))
        (pss_cons (ps_if (pt_cmpR op_ge (pe_op op_add (pv 4) (pv 8)) (pe_callB call_len (by rfl) ml boot_len (pa_cons (pv 1) pa_nil)) (nomark _)) (pss_cons (ps_expr (pe_bm PySem.F.plainAttrs_list PySem.F.slot_list_append PySem.F.type_list_append mt_append (pv 3) (pa_cons (pe_tup (pa_cons (pe_callB call_len (by rfl) ml boot_len (pa_cons (pv 1) pa_nil)) (pa_cons (pe_ix ix_tup (pv 0) pe_int (fun _ _ => rfl)) pa_nil))) pa_nil)))
      (pss_one (ps_ret (pe_lst pa_nil)))) pss_nil)
      (pss_one (ps_if (pt_cmpR op_eq (pe_ix ix_list (pv 1) (pe_op op_add (pv 4) (pv 8)) (fun _ _ => rfl)) (pe_ix ix_tup (pv 0) pe_int (fun _ _ => rfl)) (nomark _)) (pss_one (ps_ret (pe_lst (pa_cons (pe_tup (pa_cons (pe_op op_add (pe_op op_add (pv 4) (pv 8)) pe_int) (pa_cons (pv 5) (pa_cons (pe_op op_cat (pv 6) (pe_lst (pa_cons (pe_tup (pa_cons (pe_ix ix_tup (pv 0) pe_int (fun _ _ => rfl)) (pa_cons (pe_slice sl_list (pv 1) (po_some (pv 4)) (po_some (pe_op op_add (pv 4) (pv 8)))) pa_nil))) pa_nil))) (pa_cons (pv 7) pa_nil))))) pa_nil)))) pss_nil))))
      (pss_cons (ps_expr (pe_bm PySem.F.plainAttrs_list PySem.F.slot_list_append PySem.F.type_list_append mt_append (pv 3) (pa_cons (pe_tup (pa_cons (pe_op op_add (pv 4) (pe_ix ix_tup (pv 0) pe_int (fun _ _ => rfl))) (pa_cons pe_non pa_nil))) pa_nil)))
      (pss_one (ps_ret (pe_lst pa_nil))))) pss_nil)
      (pss_cons (ps_set (i := 8) scRunP.nd rfl (.inl rfl) pe_int)
      (pss_cons (ps_set (i := 9) scRunP.nd rfl (.inl rfl) (pe_op op_mod (pe_callTy (r := rInt1) call_int1 (by rfl) mint (by decide +kernel) (pa_cons (pe_callB (cr_sum rfl) (by rfl) msum (by decide +kernel) (pa_cons (pe_slice sl_list (pv 1) po_none (po_some (pv 4))) pa_nil)) pa_nil)) (pe_ix ix_tup (pv 0) pe_int (fun _ _ => rfl))))
      (pss_cons (ps_if (pt_cmpR op_eq (pe_ix ix_tup (pv 0) pe_int (fun _ _ => rfl)) pe_str (nomark _)) (pss_cons (ps_set (i := 8) scRunP.nd rfl (.inl rfl) (pe_op op_mod (pe_callTy (r := rInt1) call_int1 (by rfl) mint (by decide +kernel) (pa_cons (pe_un un_neg (pv 4)) pa_nil)) (pe_ix ix_tup (pv 0) pe_int (fun _ _ => rfl))))
      (pss_one (ps_set (i := 9) scRunP.nd rfl (.inl rfl) (pe_ix ix_tup (pv 0) pe_int (fun _ _ => rfl))))) pss_nil)
      (pss_cons (ps_for PassesOwn.never rfl (pi_range1 (by rfl) mr (pa_cons (pv 8) pa_nil)) (pg_name (i := 10) scRunP.nd rfl (.inl rfl))
        (pss_cons (ps_if (pt_cmpR op_ge (pe_op op_add (pv 4) (pv 10)) (pe_callB call_len (by rfl) ml boot_len (pa_cons (pv 1) pa_nil)) (nomark _)) (pss_cons (ps_expr (pe_bm PySem.F.plainAttrs_list PySem.F.slot_list_append PySem.F.type_list_append mt_append (pv 3) (pa_cons (pe_tup (pa_cons (pe_callB call_len (by rfl) ml boot_len (pa_cons (pv 1) pa_nil)) (pa_cons (pe_ix ix_tup (pv 0) pe_int (fun _ _ => rfl)) pa_nil))) pa_nil)))
      (pss_one (ps_ret (pe_lst pa_nil)))) pss_nil)
      (pss_one (ps_if (pt_cmpR op_ne (pe_ix ix_list (pv 1) (pe_op op_add (pv 4) (pv 10)) (fun _ _ => rfl)) (pv 9) (nomark _)) (pss_cons (ps_expr (pe_bm PySem.F.plainAttrs_list PySem.F.slot_list_append PySem.F.type_list_append mt_append (pv 3) (pa_cons (pe_tup (pa_cons (pe_op op_add (pv 4) (pv 10)) (pa_cons pe_non pa_nil))) pa_nil)))
      (pss_one (ps_ret (pe_lst pa_nil)))) pss_nil))))
      (pss_one (ps_ret (pe_lst (pa_cons (pe_tup (pa_cons (pe_op op_add (pv 4) (pv 8)) (pa_cons (pv 5) (pa_cons (pv 6) (pa_cons (pv 7) pa_nil))))) pa_nil))))))))))), ?_⟩
    obtain ⟨t, pp, vv, kk, vs, ks, rfl, ht, hpp, hvv, pvs, hkk, pks⟩ := hpt
    obtain ⟨pi, rfl, hpi⟩ := hx
    obtain ⟨k1, k2, k3, k4⟩ := pok
    have hpi1 : ∀ {H1 : Hp}, Same H H1 → SqT K H1 pi _ := fun s => SqT.of (s _ _ (sG _ _ hpi))
    have hf1 : ∀ {H1 : Hp}, Same H H1 → SqL K H1 pf _ := fun s => SqL.of (s _ _ (sG _ _ hf))
    have z1000 : ∀ m, m ≤ 200000 → m < sizeLine := fun m h => lt_line (by omega)
    have el : ∀ s : Stop, smRun fl p.at0 p.known x = .error s → ptS inj fl x p = ([], [s]) := fun s e => by unfold ptS; rw [e]
    have eo : ∀ (a : Nat) (v : Option SV), smRun fl p.at0 p.known x = .ok (a, v) → ptS inj fl x p = ([⟨a, p.path, p.vals ++ (v.map fun v => (x.name, inj v)).toList, p.known ++ knOf x v⟩], []) := fun a v e => by unfold ptS; rw [e]
    refine ⟨_, rfl, t, _, rfl, SqT.of (sG _ _ ht), rfl, _, _, rfl, _, _, rfl, _, _, rfl, _, _, rfl, rfl, ?_⟩
    -- values with bytes more
    have more : ∀ (a1 sz : Nat) (i9 i10 : Option V) (R' : Hp → V → Prop), True := fun _ _ _ _ _ => trivial
    clear more
    cases x with
    | num => exact absurd rfl xk
    | byt n a =>
      refine ⟨_, rfl, pi, _, 0, _, rfl, rfl, hpi1 (Same.refl _), atI_nat (j := 0) rfl, rfl, _, rfl, ifT rfl ?_⟩
      have fb : 0 ≤ findK p.known a ∧ findK p.known a ≤ 65535 := by
        cases a with
        | inl i => exact xw i rfl
        | inr z => exact findK_mem p.known z (fun i => 0 ≤ i ∧ i ≤ 65535) ⟨by decide, by decide⟩ fun p hp _ => k2 p hp
      obtain ⟨sz, hsz⟩ := Int.eq_ofNat_of_zero_le fb.1
      refine ⟨_, rfl, _, rfl, pi, _, 2, _, rfl, rfl, hpi1 (Same.refl _), atI_nat (j := 2) rfl, kk, ks, p.known, a, rfl, sG _ _ hkk, L2.Paired.mapP pks fun _ _ k => k.tk (sTk sG), ?_⟩
      rw [hsz]
      refine g_nx ?_
      refine ⟨_, rfl, _, rfl, _, _, rfl, rfl, _, rfl, _, _, rfl, .inl ⟨_, hf1 (Same.refl _), rfl⟩, _, _, rfl, rfl, _, rfl, ?_⟩
      rw [List.length_map]
      by_cases c : p.at0 + sz > fl.length
      · refine ifB (decide_eq_true (by omega)) ?_
        refine ⟨_, rfl, .inl ⟨rfl, _, SqL.of hs⟩, _, rfl, _, _, rfl, .inl ⟨_, hf1 (Same.refl _), rfl⟩, _, rfl, pi, _, 1, _, rfl, rfl, hpi1 (Same.refl _), atI_nat (j := 1) rfl, (by show 2 ≤ sizeLine; decide), fun t1 h1 => ⟨st, sts, _, rfl, rfl, same_new h1 _ _ _ hs, z1000 _ (by omega), ⟨(by show 0 ≤ sizeLine; decide), fun r hr => ?_⟩⟩⟩
        have ll : (((fl.map V.int).length : Nat) : Int) = ((fl.length : Nat) : Int) := by rw [List.length_map]
        rw [ll] at hr ⊢
        refine stop_go (s := ((fl.length : Int), some n)) sG gs (Same.refl _) hs (el _ ?_) h1 hr q
        simp only [smRun]
        rw [hsz, if_pos (by simpa using c)]
      · refine ifF (decide_eq_false (by omega)) ?_
        have esz : smRun fl p.at0 p.known (.byt n a) = .ok (p.at0 + sz, some (.byt ((fl.drop p.at0).take sz))) := by
          simp only [smRun]
          rw [hsz, if_neg (by simpa using c)]
          rfl
        refine ⟨_, rfl, _, rfl, _, _, rfl, rfl, _, rfl, _, rfl, _, rfl, pi, _, 1, _, rfl, rfl, hpi1 (Same.refl H), atI_nat (j := 1) rfl, _, rfl, _, rfl, _, rfl, _, rfl, _, rfl, _, _, rfl, rfl, _, rfl, pf, _, rfl, hf1 (Same.refl H), fun l0 g0 => ?_⟩
        rw [show (p.at0 : Int) + (sz : Int) = ((p.at0 + sz : Nat) : Int) by omega, cutV_part, ← List.map_drop, ← List.map_take, Nat.add_sub_cancel_left] at *
        have s0 := same_new g0 (.lst (((fl.drop p.at0).take (sz)).map V.int))
        have r0 := upd_same (H := H) (a := l0) (o := .lst (((fl.drop p.at0).take (sz)).map V.int))
        have f0 := Same.free (Same.refl H) g0
        generalize upd H l0 (.lst (((fl.drop p.at0).take (sz)).map V.int)) = H1 at s0 r0 ⊢
        have S1 := Same.trans (Same.refl H) s0
        refine ⟨(by show 2 ≤ sizeLine; decide), fun t1 h1 => ?_⟩
        have s1 := same_new h1 (.tup [.str (Sm.byt n a).name, .ref l0])
        have q1 := upd_same (H := H1) (a := t1) (o := .tup [.str (Sm.byt n a).name, .ref l0])
        have f1 := S1.free h1
        generalize upd H1 t1 (.tup [.str (Sm.byt n a).name, .ref l0]) = H2 at s1 q1 ⊢
        have S2 := S1.trans s1
        refine ⟨(by show 1 ≤ sizeLine; decide), fun l1 h2 => ?_⟩
        have s2 := same_new h2 (.lst [.ref t1])
        have q2 := upd_same (H := H2) (a := l1) (o := .lst [.ref t1])
        generalize upd H2 l1 (.lst [.ref t1]) = H3 at s2 q2 ⊢
        have S3 := S2.trans s2
        refine ⟨vv, l1, _, _, rfl, rfl, S3 _ _ (sG _ _ hvv), q2, le_line (by rw [plen pvs]; simp only [List.length_cons, List.length_nil]; omega), fun v2 h3 => ?_⟩
        have s3 := same_new h3 (.lst (vs ++ [.ref t1]))
        have q3 := upd_same (H := H3) (a := v2) (o := .lst (vs ++ [.ref t1]))
        have f3 := S3.free h3
        generalize upd H3 v2 (.lst (vs ++ [.ref t1])) = H4 at s3 q3 ⊢
        have S4 := S3.trans s3
        refine ⟨_, rfl, (by show 4 ≤ sizeLine; decide), fun tp h7 => ?_⟩
        have s7 := same_new h7 (.tup [.int ((p.at0 : Int) + (sz : Int)), .ref pp, .ref v2, .ref kk])
        have r7 := upd_same (H := H4) (a := tp) (o := .tup [.int ((p.at0 : Int) + (sz : Int)), .ref pp, .ref v2, .ref kk])
        have f7 := S4.free h7
        generalize upd H4 tp (.tup [.int ((p.at0 : Int) + (sz : Int)), .ref pp, .ref v2, .ref kk]) = H7 at s7 r7 ⊢
        have S7 := S4.trans s7
        refine ⟨(by show 1 ≤ sizeLine; decide), fun r h8 => ?_⟩
        have s8 := same_new h8 (.lst [.ref tp])
        have S8 := S7.trans s8
        refine goes_go (v' := .ref tp) sG S8 hs (eo _ _ esz) (S7.free h8) upd_same ?_ q
        have mx : Same G (mix G H (upd H7 r (.lst [.ref tp]))) := fun b o e => mix_old e
        refine ⟨tp, pp, v2, kk, vs ++ [.ref t1], ks, rfl, mix_new sG f7 (s8 _ _ r7), mix_old hpp, mix_new sG f3 ((s7.trans s8) _ _ q3), ?_, mix_old hkk, ?_⟩
        · refine papp (L2.Paired.mapP pvs fun _ _ k => mon_en mR _ _ _ _ mx k) (.cons ⟨t1, .ref l0, rfl, mix_new sG f1 ((s2.trans (s3.trans (s7.trans s8))) _ _ q1), hinj _ _ _ ⟨l0, rfl, mix_new sG f0 ((s1.trans (s2.trans (s3.trans (s7.trans s8)))) _ _ r0)⟩⟩ .nil)
        · show Paired _ ks (p.known ++ [])
          rw [List.append_nil]
          exact L2.Paired.mapP pks fun _ _ k => k.tk (sTk mx)
    | txt n stop most =>
      obtain ⟨w1, w3, w4⟩ := xw
      refine ⟨_, rfl, pi, _, 0, _, rfl, rfl, hpi1 (Same.refl _), atI_nat (j := 0) rfl, rfl, _, rfl, ifN (by simp only [Sm.kind]; decide +kernel) ?_⟩
      refine ⟨_, rfl, pi, _, 0, _, rfl, rfl, hpi1 (Same.refl _), atI_nat (j := 0) rfl, rfl, _, rfl, ifT rfl ?_⟩
      refine ⟨_, rfl, pi, _, 3, _, rfl, rfl, hpi1 (Same.refl _), atI_nat (j := 3) rfl, _, _, rfl, rfl, _, rfl, by omega, by omega, ?_⟩
      refine for_range (lo := 0) (n := (most + 1).toNat) (fun i σ H' => (∃ i8 : Option V, σ = [some (.ref pi), some (.ref pf), some (.ref t), some (.ref st), some (.int (p.at0 : Int)), some (.ref pp), some (.ref vv), some (.ref kk), i8, none, none]) ∧ H' = H ∧ txtGo n stop fl p.at0 0 (most + 1).toNat = txtGo n stop fl p.at0 i ((most + 1).toNat - i)) ⟨⟨none, rfl⟩, rfl, by rw [Nat.sub_zero]⟩ ?_ ?_
      · rintro i σ H' hi ⟨⟨i8, rfl⟩, rfl, eg⟩
        have hgo : txtGo n stop fl p.at0 i ((most + 1).toNat - i) = txtGo n stop fl p.at0 i (((most + 1).toNat - (i + 1)) + 1) := by rw [show (most + 1).toNat - i = ((most + 1).toNat - (i + 1)) + 1 by omega]
        rw [hgo] at eg
        refine ⟨_, rfl, _, rfl, _, _, rfl, rfl, _, rfl, _, _, rfl, .inl ⟨_, hf1 (Same.refl _), rfl⟩, _, _, rfl, rfl, _, rfl, ?_⟩
        rw [List.length_map]
        cases hb : fl[p.at0 + i]? with
        | none =>
          have hlt : fl.length ≤ p.at0 + i := by rw [List.getElem?_eq_none_iff] at hb; exact hb
          refine ifB (decide_eq_true (by omega)) ?_
          refine ⟨_, rfl, .inl ⟨rfl, _, SqL.of hs⟩, _, rfl, _, _, rfl, .inl ⟨_, hf1 (Same.refl _), rfl⟩, _, rfl, pi, _, 1, _, rfl, rfl, hpi1 (Same.refl _), atI_nat (j := 1) rfl, (by show 2 ≤ sizeLine; decide), fun t1 h1 => ⟨st, sts, _, rfl, rfl, same_new h1 _ _ _ hs, z1000 _ (by omega), ⟨(by show 0 ≤ sizeLine; decide), fun r hr => ?_⟩⟩⟩
          have ll : (((fl.map V.int).length : Nat) : Int) = ((fl.length : Nat) : Int) := by rw [List.length_map]
          rw [ll] at hr ⊢
          refine stop_go (s := ((fl.length : Int), some n)) sG gs (Same.refl _) hs (el _ ?_) h1 hr q
          simp only [smRun]
          rw [eg, txtGo, hb]
          rfl
        | some b =>
          have hlt : p.at0 + i < fl.length := by
            apply Decidable.byContradiction
            intro k
            rw [List.getElem?_eq_none (by omega)] at hb; cases hb
          refine ifF (decide_eq_false (by omega)) ?_
          have hb2 : atI (fl.map V.int) ((p.at0 : Int) + (0 + (i : Int))) = some (.int b) := by rw [show (p.at0 : Int) + (0 + (i : Int)) = ((p.at0 + i : Nat) : Int) by omega]; exact in_at hb
          refine ⟨_, rfl, _, rfl, _, rfl, _, _, rfl, rfl, pf, _, _, _, rfl, rfl, hf1 (Same.refl _), hb2, _, rfl, pi, _, 2, _, rfl, rfl, hpi1 (Same.refl _), atI_nat (j := 2) rfl, rfl, _, rfl, ?_⟩
          by_cases c : b = stop
          · refine ifP c ?_
            have ebi : smRun fl p.at0 p.known (.txt n stop most) = .ok (p.at0 + i + 1, some (.byt ((fl.drop p.at0).take i))) := by
              simp only [smRun]
              rw [eg, txtGo, hb]
              simp only
              rw [if_pos c]
              rfl
            refine ⟨_, rfl, _, rfl, _, _, rfl, rfl, _, _, rfl, rfl, _, rfl, _, rfl, _, rfl, pi, _, 1, _, rfl, rfl, hpi1 (Same.refl H'), atI_nat (j := 1) rfl, _, rfl, _, rfl, _, rfl, _, rfl, _, rfl, _, _, rfl, rfl, _, rfl, pf, _, rfl, hf1 (Same.refl H'), fun l0 g0 => ?_⟩
            rw [show (p.at0 : Int) + (0 + (i : Int)) = ((p.at0 + i : Nat) : Int) by omega, cutV_part, ← List.map_drop, ← List.map_take, Nat.add_sub_cancel_left] at *
            have s0 := same_new g0 (.lst (((fl.drop p.at0).take (i)).map V.int))
            have r0 := upd_same (H := H') (a := l0) (o := .lst (((fl.drop p.at0).take (i)).map V.int))
            have f0 := Same.free (Same.refl H') g0
            generalize upd H' l0 (.lst (((fl.drop p.at0).take (i)).map V.int)) = H1 at s0 r0 ⊢
            have S1 := Same.trans (Same.refl H') s0
            refine ⟨(by show 2 ≤ sizeLine; decide), fun t1 h1 => ?_⟩
            have s1 := same_new h1 (.tup [.str (Sm.txt n stop most).name, .ref l0])
            have q1 := upd_same (H := H1) (a := t1) (o := .tup [.str (Sm.txt n stop most).name, .ref l0])
            have f1 := S1.free h1
            generalize upd H1 t1 (.tup [.str (Sm.txt n stop most).name, .ref l0]) = H2 at s1 q1 ⊢
            have S2 := S1.trans s1
            refine ⟨(by show 1 ≤ sizeLine; decide), fun l1 h2 => ?_⟩
            have s2 := same_new h2 (.lst [.ref t1])
            have q2 := upd_same (H := H2) (a := l1) (o := .lst [.ref t1])
            generalize upd H2 l1 (.lst [.ref t1]) = H3 at s2 q2 ⊢
            have S3 := S2.trans s2
            refine ⟨vv, l1, _, _, rfl, rfl, S3 _ _ (sG _ _ hvv), q2, le_line (by rw [plen pvs]; simp only [List.length_cons, List.length_nil]; omega), fun v2 h3 => ?_⟩
            have s3 := same_new h3 (.lst (vs ++ [.ref t1]))
            have q3 := upd_same (H := H3) (a := v2) (o := .lst (vs ++ [.ref t1]))
            have f3 := S3.free h3
            generalize upd H3 v2 (.lst (vs ++ [.ref t1])) = H4 at s3 q3 ⊢
            have S4 := S3.trans s3
            refine ⟨_, rfl, (by show 4 ≤ sizeLine; decide), fun tp h7 => ?_⟩
            have s7 := same_new h7 (.tup [.int (((p.at0 + i : Nat) : Int) + 1), .ref pp, .ref v2, .ref kk])
            have r7 := upd_same (H := H4) (a := tp) (o := .tup [.int (((p.at0 + i : Nat) : Int) + 1), .ref pp, .ref v2, .ref kk])
            have f7 := S4.free h7
            generalize upd H4 tp (.tup [.int (((p.at0 + i : Nat) : Int) + 1), .ref pp, .ref v2, .ref kk]) = H7 at s7 r7 ⊢
            have S7 := S4.trans s7
            refine ⟨(by show 1 ≤ sizeLine; decide), fun r h8 => ?_⟩
            have s8 := same_new h8 (.lst [.ref tp])
            have S8 := S7.trans s8
            refine goes_go (v' := .ref tp) sG S8 hs (eo _ _ ebi) (S7.free h8) upd_same ?_ q
            have mx : Same G (mix G H' (upd H7 r (.lst [.ref tp]))) := fun b o e => mix_old e
            refine ⟨tp, pp, v2, kk, vs ++ [.ref t1], ks, rfl, mix_new sG f7 (s8 _ _ r7), mix_old hpp, mix_new sG f3 ((s7.trans s8) _ _ q3), ?_, mix_old hkk, ?_⟩
            · refine papp (L2.Paired.mapP pvs fun _ _ k => mon_en mR _ _ _ _ mx k) (.cons ⟨t1, .ref l0, rfl, mix_new sG f1 ((s2.trans (s3.trans (s7.trans s8))) _ _ q1), hinj _ _ _ ⟨l0, rfl, mix_new sG f0 ((s1.trans (s2.trans (s3.trans (s7.trans s8)))) _ _ r0)⟩⟩ .nil)
            · show Paired _ ks (p.known ++ [])
              rw [List.append_nil]
              exact L2.Paired.mapP pks fun _ _ k => k.tk (sTk mx)
          · refine ifQ c ⟨⟨_, rfl⟩, rfl, ?_⟩
            rw [eg, txtGo, hb]
            simp only
            rw [if_neg c]
      rintro σ H' ⟨⟨i8, rfl⟩, rfl, eg⟩
      rw [Nat.sub_self, txtGo] at eg
      refine ⟨_, rfl, .inl ⟨rfl, _, SqL.of hs⟩, _, rfl, _, rfl, pi, _, 3, _, rfl, rfl, hpi1 (Same.refl _), atI_nat (j := 3) rfl, _, _, rfl, rfl, (by show 2 ≤ sizeLine; decide), fun t1 h1 => ⟨st, sts, _, rfl, rfl, same_new h1 _ _ _ hs, z1000 _ (by omega), ?_⟩⟩
      refine ⟨(by show 0 ≤ sizeLine; decide), fun r hr => ?_⟩
      refine stop_go (s := ((p.at0 : Int) + most, none)) sG gs (Same.refl _) hs (el _ ?_) h1 hr q
      simp only [smRun]
      rw [eg, show ((p.at0 + (most + 1).toNat : Nat) : Int) - 1 = (p.at0 : Int) + most by omega]
      rfl
    | chk n m =>
      obtain ⟨m1, m256⟩ := xw
      refine ⟨_, rfl, pi, _, 0, _, rfl, rfl, hpi1 (Same.refl _), atI_nat (j := 0) rfl, rfl, _, rfl, ifN (by simp only [Sm.kind]; decide +kernel) ?_⟩
      refine ⟨_, rfl, pi, _, 0, _, rfl, rfl, hpi1 (Same.refl _), atI_nat (j := 0) rfl, rfl, _, rfl, ifN (by simp only [Sm.kind]; decide +kernel) ?_⟩
      refine g_nx ?_
      refine ⟨_, rfl, _, rfl, _, rfl, pf, _, rfl, hf1 (Same.refl _), fun l0 g0 => ?_⟩
      rw [cutV_to, ← List.map_take]
      have s0 := same_new g0 (.lst ((fl.take p.at0).map V.int))
      have r0 := upd_same (H := H) (a := l0) (o := .lst ((fl.take p.at0).map V.int))
      generalize upd H l0 (.lst ((fl.take p.at0).map V.int)) = H0 at s0 r0 ⊢
      refine ⟨l0, _, rfl, SqL.of r0, .inl ⟨_, rfl, _, rfl, pi, _, 2, _, rfl, rfl, hpi1 s0, atI_nat (j := 2) rfl, _, _, rfl, rfl, (by show (0 : Int) < m; omega), ?_⟩⟩
      refine g_nx ?_
      have hs0 := s0 _ _ hs
      obtain ⟨sz, hszn⟩ : ∃ sz : Nat, 1 = sz := ⟨_, rfl⟩
      obtain ⟨byte, hbyte⟩ : ∃ byte : Int, (fl.take p.at0).sum % m = byte := ⟨_, rfl⟩
      have e1 : scanGo n ((fl.take p.at0).sum % m) fl p.at0 0 1 = scanGo n byte fl p.at0 0 sz := by rw [hbyte, ← hszn]
      -- the bytes that are told
      try dsimp only
      refine with_rest (fun σ Hx => σ = [some (.ref pi), some (.ref pf), some (.ref t), some (.ref st), some (.int (p.at0 : Int)), some (.ref pp), some (.ref vv), some (.ref kk), some (.int (sz : Int)), some (.int byte), none] ∧ Hx = H0) ?_ fun go => ?_
      rotate_left
      · refine ⟨_, rfl, pi, _, 0, _, rfl, rfl, hpi1 s0, atI_nat (j := 0) rfl, rfl, _, rfl, ifN (by simp only [Sm.kind]; decide +kernel) ?_⟩
        exact go _ _ ⟨by rw [← hszn, ← hbyte]; rfl, rfl⟩
      rintro σ Hx ⟨rfl, rfl⟩
      have szb : sz ≤ 1000 := by omega
      refine ⟨_, rfl, _, rfl, by omega, by omega, ?_⟩
      refine for_range (lo := 0) (n := sz) (fun i σ H' => (∃ i10 : Option V, σ = [some (.ref pi), some (.ref pf), some (.ref t), some (.ref st), some (.int (p.at0 : Int)), some (.ref pp), some (.ref vv), some (.ref kk), some (.int (sz : Int)), some (.int byte), i10]) ∧ H' = Hx ∧ scanGo n byte fl p.at0 0 sz = scanGo n byte fl p.at0 i (sz - i)) ⟨⟨none, rfl⟩, rfl, by rw [Nat.sub_zero]⟩ ?_ ?_
      · rintro i σ H' hi ⟨⟨i10, rfl⟩, rfl, eg⟩
        rw [show sz - i = (sz - (i + 1)) + 1 by omega] at eg
        refine ⟨_, rfl, _, rfl, _, _, rfl, rfl, _, rfl, _, _, rfl, .inl ⟨_, hf1 s0, rfl⟩, _, _, rfl, rfl, _, rfl, ?_⟩
        rw [List.length_map]
        cases hb : fl[p.at0 + i]? with
        | none =>
          have hlt : fl.length ≤ p.at0 + i := by rw [List.getElem?_eq_none_iff] at hb; exact hb
          refine ifB (decide_eq_true (by omega)) ?_
          refine ⟨_, rfl, .inl ⟨rfl, _, SqL.of hs0⟩, _, rfl, _, _, rfl, .inl ⟨_, hf1 s0, rfl⟩, _, rfl, pi, _, 1, _, rfl, rfl, hpi1 s0, atI_nat (j := 1) rfl, (by show 2 ≤ sizeLine; decide), fun t1 h1 => ⟨st, sts, _, rfl, rfl, same_new h1 _ _ _ hs0, z1000 _ (by omega), ⟨(by show 0 ≤ sizeLine; decide), fun r hr => ?_⟩⟩⟩
          have ll : (((fl.map V.int).length : Nat) : Int) = ((fl.length : Nat) : Int) := by rw [List.length_map]
          rw [ll] at hr ⊢
          refine stop_go (s := ((fl.length : Int), some n)) sG gs s0 hs (el _ ?_) h1 hr q
          simp only [smRun]
          rw [e1, eg, scanGo, hb]
          rfl
        | some b1 =>
          have hlt : p.at0 + i < fl.length := by
            apply Decidable.byContradiction
            intro k
            rw [List.getElem?_eq_none (by omega)] at hb; cases hb
          refine ifF (decide_eq_false (by omega)) ?_
          have hb2 : atI (fl.map V.int) ((p.at0 : Int) + (0 + (i : Int))) = some (.int b1) := by rw [show (p.at0 : Int) + (0 + (i : Int)) = ((p.at0 + i : Nat) : Int) by omega]; exact in_at hb
          refine ⟨_, rfl, _, rfl, _, rfl, _, _, rfl, rfl, pf, _, _, _, rfl, rfl, hf1 s0, hb2, _, rfl, rfl, _, rfl, ?_⟩
          by_cases c : b1 = byte
          · refine ifF (by rw [c]; simp) ⟨⟨_, rfl⟩, rfl, ?_⟩
            rw [eg, scanGo, hb]
            simp only
            rw [if_pos c]
          · refine ifB (by rw [decide_eq_false (fun z => c (V.int.inj z))]; rfl) ?_
            refine ⟨_, rfl, .inl ⟨rfl, _, SqL.of hs0⟩, _, rfl, _, rfl, _, _, rfl, rfl, (by show 2 ≤ sizeLine; decide), fun t1 h1 => ⟨st, sts, _, rfl, rfl, same_new h1 _ _ _ hs0, z1000 _ (by omega), ⟨(by show 0 ≤ sizeLine; decide), fun r hr => ?_⟩⟩⟩
            have ll : (p.at0 : Int) + (0 + (i : Int)) = ((p.at0 + i : Nat) : Int) := by omega
            dsimp only at hr ⊢
            rw [ll] at hr ⊢
            refine stop_go (s := (((p.at0 + i : Nat) : Int), none)) sG gs s0 hs (el _ ?_) h1 hr q
            simp only [smRun]
            rw [e1, eg, scanGo, hb]
            simp only
            rw [if_neg c]
            rfl
      rintro σ H' ⟨⟨i10, rfl⟩, rfl, eg⟩
      rw [Nat.sub_self, scanGo] at eg
      refine ⟨_, rfl, _, rfl, _, _, rfl, rfl, _, rfl, _, rfl, _, rfl, (by show 4 ≤ sizeLine; decide), fun tp h7 => ?_⟩
      have s7 := same_new h7 (.tup [.int ((p.at0 : Int) + (sz : Int)), .ref pp, .ref vv, .ref kk])
      have r7 := upd_same (H := H') (a := tp) (o := .tup [.int ((p.at0 : Int) + (sz : Int)), .ref pp, .ref vv, .ref kk])
      have f7 := s0.free h7
      generalize upd H' tp (.tup [.int ((p.at0 : Int) + (sz : Int)), .ref pp, .ref vv, .ref kk]) = H7 at s7 r7 ⊢
      refine ⟨(by show 1 ≤ sizeLine; decide), fun r h8 => ?_⟩
      have s8 := same_new h8 (.lst [.ref tp])
      have S8 := s0.trans (s7.trans s8)
      have eok : smRun fl p.at0 p.known (.chk n m) = .ok (p.at0 + sz, none) := by
        simp only [smRun]
        rw [e1, eg]
        rw [← hszn]; rfl
      refine goes_go (v' := .ref tp) sG S8 hs (eo _ _ eok) ((s0.trans s7).free h8) upd_same ?_ q
      have mx : Same G (mix G H (upd H7 r (.lst [.ref tp]))) := fun b o e => mix_old e
      refine ⟨tp, pp, vv, kk, vs, ks, rfl, mix_new sG f7 (s8 _ _ r7), mix_old hpp, mix_old hvv, ?_, mix_old hkk, ?_⟩
      · show Paired _ vs (p.vals ++ [])
        rw [List.append_nil]
        exact L2.Paired.mapP pvs fun _ _ k => mon_en mR _ _ _ _ mx k
      · show Paired _ ks (p.known ++ [])
        rw [List.append_nil]
        exact L2.Paired.mapP pks fun _ _ k => k.tk (sTk mx)
    | pad n m b =>
      obtain ⟨⟨m1, m1000⟩, b0, b1⟩ := xw
      refine ⟨_, rfl, pi, _, 0, _, rfl, rfl, hpi1 (Same.refl _), atI_nat (j := 0) rfl, rfl, _, rfl, ifN (by simp only [Sm.kind]; decide +kernel) ?_⟩
      refine ⟨_, rfl, pi, _, 0, _, rfl, rfl, hpi1 (Same.refl _), atI_nat (j := 0) rfl, rfl, _, rfl, ifN (by simp only [Sm.kind]; decide +kernel) ?_⟩
      refine g_nx ?_
      refine ⟨_, rfl, _, rfl, _, rfl, pf, _, rfl, hf1 (Same.refl _), fun l0 g0 => ?_⟩
      rw [cutV_to, ← List.map_take]
      have s0 := same_new g0 (.lst ((fl.take p.at0).map V.int))
      have r0 := upd_same (H := H) (a := l0) (o := .lst ((fl.take p.at0).map V.int))
      generalize upd H l0 (.lst ((fl.take p.at0).map V.int)) = H0 at s0 r0 ⊢
      refine ⟨l0, _, rfl, SqL.of r0, .inl ⟨_, rfl, _, rfl, pi, _, 2, _, rfl, rfl, hpi1 s0, atI_nat (j := 2) rfl, _, _, rfl, rfl, (by show (0 : Int) < m; omega), ?_⟩⟩
      refine g_nx ?_
      have hs0 := s0 _ _ hs
      obtain ⟨sz, hszn⟩ : ∃ sz : Nat, padLen p.at0 m = sz := ⟨_, rfl⟩
      obtain ⟨byte, hbyte⟩ : ∃ byte : Int, b = byte := ⟨_, rfl⟩
      have e1 : scanGo n b fl p.at0 0 (padLen p.at0 m) = scanGo n byte fl p.at0 0 sz := by rw [hbyte, hszn]
      -- the bytes that are told
      try dsimp only
      refine with_rest (fun σ Hx => σ = [some (.ref pi), some (.ref pf), some (.ref t), some (.ref st), some (.int (p.at0 : Int)), some (.ref pp), some (.ref vv), some (.ref kk), some (.int (sz : Int)), some (.int byte), none] ∧ Hx = H0) ?_ fun go => ?_
      rotate_left
      · refine ⟨_, rfl, pi, _, 0, _, rfl, rfl, hpi1 s0, atI_nat (j := 0) rfl, rfl, _, rfl, ifT rfl ?_⟩
        have e0 := Int.emod_nonneg (-(p.at0 : Int)) (show m ≠ 0 by omega)
        have ep : ((padLen p.at0 m : Nat) : Int) = -(p.at0 : Int) % m := by unfold padLen; omega
        refine ⟨_, rfl, _, rfl, .inl ⟨_, rfl, _, rfl, pi, _, 2, _, rfl, rfl, hpi1 s0, atI_nat (j := 2) rfl, _, _, rfl, rfl, (by show (0 : Int) < m; omega), ?_⟩⟩
        refine g_nx ?_
        refine ⟨_, rfl, pi, _, 3, _, rfl, rfl, hpi1 s0, atI_nat (j := 3) rfl, ?_⟩
        exact go _ _ ⟨by rw [← hszn, ← hbyte, ep]; rfl, rfl⟩
      rintro σ Hx ⟨rfl, rfl⟩
      have szb : sz ≤ 1000 := by rw [← hszn]; unfold padLen; have := Int.emod_lt_of_pos (-(p.at0 : Int)) (show 0 < m by omega); omega
      refine ⟨_, rfl, _, rfl, by omega, by omega, ?_⟩
      refine for_range (lo := 0) (n := sz) (fun i σ H' => (∃ i10 : Option V, σ = [some (.ref pi), some (.ref pf), some (.ref t), some (.ref st), some (.int (p.at0 : Int)), some (.ref pp), some (.ref vv), some (.ref kk), some (.int (sz : Int)), some (.int byte), i10]) ∧ H' = Hx ∧ scanGo n byte fl p.at0 0 sz = scanGo n byte fl p.at0 i (sz - i)) ⟨⟨none, rfl⟩, rfl, by rw [Nat.sub_zero]⟩ ?_ ?_
      · rintro i σ H' hi ⟨⟨i10, rfl⟩, rfl, eg⟩
        rw [show sz - i = (sz - (i + 1)) + 1 by omega] at eg
        refine ⟨_, rfl, _, rfl, _, _, rfl, rfl, _, rfl, _, _, rfl, .inl ⟨_, hf1 s0, rfl⟩, _, _, rfl, rfl, _, rfl, ?_⟩
        rw [List.length_map]
        cases hb : fl[p.at0 + i]? with
        | none =>
          have hlt : fl.length ≤ p.at0 + i := by rw [List.getElem?_eq_none_iff] at hb; exact hb
          refine ifB (decide_eq_true (by omega)) ?_
          refine ⟨_, rfl, .inl ⟨rfl, _, SqL.of hs0⟩, _, rfl, _, _, rfl, .inl ⟨_, hf1 s0, rfl⟩, _, rfl, pi, _, 1, _, rfl, rfl, hpi1 s0, atI_nat (j := 1) rfl, (by show 2 ≤ sizeLine; decide), fun t1 h1 => ⟨st, sts, _, rfl, rfl, same_new h1 _ _ _ hs0, z1000 _ (by omega), ⟨(by show 0 ≤ sizeLine; decide), fun r hr => ?_⟩⟩⟩
          have ll : (((fl.map V.int).length : Nat) : Int) = ((fl.length : Nat) : Int) := by rw [List.length_map]
          rw [ll] at hr ⊢
          refine stop_go (s := ((fl.length : Int), some n)) sG gs s0 hs (el _ ?_) h1 hr q
          simp only [smRun]
          rw [e1, eg, scanGo, hb]
          rfl
        | some b1 =>
          have hlt : p.at0 + i < fl.length := by
            apply Decidable.byContradiction
            intro k
            rw [List.getElem?_eq_none (by omega)] at hb; cases hb
          refine ifF (decide_eq_false (by omega)) ?_
          have hb2 : atI (fl.map V.int) ((p.at0 : Int) + (0 + (i : Int))) = some (.int b1) := by rw [show (p.at0 : Int) + (0 + (i : Int)) = ((p.at0 + i : Nat) : Int) by omega]; exact in_at hb
          refine ⟨_, rfl, _, rfl, _, rfl, _, _, rfl, rfl, pf, _, _, _, rfl, rfl, hf1 s0, hb2, _, rfl, rfl, _, rfl, ?_⟩
          by_cases c : b1 = byte
          · refine ifF (by rw [c]; simp) ⟨⟨_, rfl⟩, rfl, ?_⟩
            rw [eg, scanGo, hb]
            simp only
            rw [if_pos c]
          · refine ifB (by rw [decide_eq_false (fun z => c (V.int.inj z))]; rfl) ?_
            refine ⟨_, rfl, .inl ⟨rfl, _, SqL.of hs0⟩, _, rfl, _, rfl, _, _, rfl, rfl, (by show 2 ≤ sizeLine; decide), fun t1 h1 => ⟨st, sts, _, rfl, rfl, same_new h1 _ _ _ hs0, z1000 _ (by omega), ⟨(by show 0 ≤ sizeLine; decide), fun r hr => ?_⟩⟩⟩
            have ll : (p.at0 : Int) + (0 + (i : Int)) = ((p.at0 + i : Nat) : Int) := by omega
            dsimp only at hr ⊢
            rw [ll] at hr ⊢
            refine stop_go (s := (((p.at0 + i : Nat) : Int), none)) sG gs s0 hs (el _ ?_) h1 hr q
            simp only [smRun]
            rw [e1, eg, scanGo, hb]
            simp only
            rw [if_neg c]
            rfl
      rintro σ H' ⟨⟨i10, rfl⟩, rfl, eg⟩
      rw [Nat.sub_self, scanGo] at eg
      refine ⟨_, rfl, _, rfl, _, _, rfl, rfl, _, rfl, _, rfl, _, rfl, (by show 4 ≤ sizeLine; decide), fun tp h7 => ?_⟩
      have s7 := same_new h7 (.tup [.int ((p.at0 : Int) + (sz : Int)), .ref pp, .ref vv, .ref kk])
      have r7 := upd_same (H := H') (a := tp) (o := .tup [.int ((p.at0 : Int) + (sz : Int)), .ref pp, .ref vv, .ref kk])
      have f7 := s0.free h7
      generalize upd H' tp (.tup [.int ((p.at0 : Int) + (sz : Int)), .ref pp, .ref vv, .ref kk]) = H7 at s7 r7 ⊢
      refine ⟨(by show 1 ≤ sizeLine; decide), fun r h8 => ?_⟩
      have s8 := same_new h8 (.lst [.ref tp])
      have S8 := s0.trans (s7.trans s8)
      have eok : smRun fl p.at0 p.known (.pad n m b) = .ok (p.at0 + sz, none) := by
        simp only [smRun]
        rw [e1, eg, ← hszn]
        rfl
      refine goes_go (v' := .ref tp) sG S8 hs (eo _ _ eok) ((s0.trans s7).free h8) upd_same ?_ q
      have mx : Same G (mix G H (upd H7 r (.lst [.ref tp]))) := fun b o e => mix_old e
      refine ⟨tp, pp, vv, kk, vs, ks, rfl, mix_new sG f7 (s8 _ _ r7), mix_old hpp, mix_old hvv, ?_, mix_old hkk, ?_⟩
      · show Paired _ vs (p.vals ++ [])
        rw [List.append_nil]
        exact L2.Paired.mapP pvs fun _ _ k => mon_en mR _ _ _ _ mx k
      · show Paired _ ks (p.known ++ [])
        rw [List.append_nil]
        exact L2.Paired.mapP pks fun _ _ k => k.tk (sTk mx)
end
end Bm

set_option Elab.async false
set_option linter.all false
set_option maxRecDepth 100000
set_option maxHeartbeats 4000000
/-! the reader as a function: lengths, and plain blocks among the others -/
namespace Bm
open PySem L2
def liftE (e : Str × SV) : Str × Vl := (e.1, .sm e.2)
def liftP (p : Pt SV) : Pt Vl := ⟨p.at0, p.path, p.vals.map liftE, p.known⟩
theorem ptS_lift (f : List Int) (y : Sm) (p : Pt SV) : ptS Vl.sm f y (liftP p) = ((ptS id f y p).1.map liftP, (ptS id f y p).2) := by
  unfold ptS
  show (match smRun f p.at0 p.known y with | .error s => _ | .ok (a, v) => _) = _
  cases smRun f p.at0 p.known y with
  | error s => rfl
  | ok r =>
    obtain ⟨a, v⟩ := r
    cases v with
    | none => simp [liftP]
    | some v => simp [liftP, liftE]
theorem flatMap_map_eq {α β γ : Type} (g : α → β) (h : β → List γ) (l : List α) : (l.map g).flatMap h = l.flatMap fun a => h (g a) := by
  rw [List.flatMap_map]
theorem run_lift (f : List Int) : ∀ (b : List Sm) (ps : List (Pt SV)), runL (stepI f) (b.map .sm) (ps.map liftP) = ((runL (ptS id f) b ps).1.map liftP, (runL (ptS id f) b ps).2)
  | [], ps => rfl
  | y :: r, ps => by
    have e1 : (ps.map liftP).flatMap (fun p => (stepI f (.sm y) p).1) = (ps.flatMap fun p => (ptS id f y p).1).map liftP := by
      rw [List.flatMap_map, List.map_flatMap]
      refine congrArg (fun g => List.flatMap g ps) (funext fun p => ?_)
      show (ptS Vl.sm f y (liftP p)).1 = _
      rw [ptS_lift]
    have e2 : (ps.map liftP).flatMap (fun p => (stepI f (.sm y) p).2) = ps.flatMap fun p => (ptS id f y p).2 := by
      rw [List.flatMap_map]
      refine congrArg (fun g => List.flatMap g ps) (funext fun p => ?_)
      show (ptS Vl.sm f y (liftP p)).2 = _
      rw [ptS_lift]
    rw [List.map_cons, runL, e1, e2, run_lift f r, runL]
theorem runI_block (f : List Int) (b : List Sm) (p : Pt SV) : runI f (b.map .sm) (liftP p) = ((runS f b p).1.map liftP, (runS f b p).2) := run_lift f b [p]
/-! ### how many -/
theorem ptS_len {α : Type} (inj : SV → α) (f : List Int) (y : Sm) (p : Pt α) : (ptS inj f y p).1.length + (ptS inj f y p).2.length = 1 := by
  unfold ptS
  cases smRun f p.at0 p.known y with
  | error s => rfl
  | ok r => rfl
theorem flatMap_len {α β : Type} (h : α → List β) (k : Nat) (l : List α) (hk : ∀ a ∈ l, (h a).length ≤ k) : (l.flatMap h).length ≤ k * l.length := by
  induction l with
  | nil => simp
  | cons a r ih =>
    rw [List.flatMap_cons, List.length_append, List.length_cons, Nat.mul_succ]
    have := hk a (List.mem_cons_self ..)
    have := ih fun b hb => hk b (List.mem_cons_of_mem _ hb)
    omega
theorem flat2_len {α β γ : Type} (g : α → List β) (h : α → List γ) (l : List α) (hk : ∀ a ∈ l, (g a).length + (h a).length ≤ 1) : (l.flatMap g).length + (l.flatMap h).length ≤ l.length := by
  induction l with
  | nil => simp
  | cons a r ih =>
    rw [List.flatMap_cons, List.flatMap_cons, List.length_append, List.length_append, List.length_cons]
    have := hk a (List.mem_cons_self ..)
    have := ih fun b hb => hk b (List.mem_cons_of_mem _ hb)
    omega
theorem runL1_len (f : List Int) : ∀ (b : List Sm) (ps : List (Pt SV)), (runL (ptS id f) b ps).1.length + (runL (ptS id f) b ps).2.length ≤ ps.length
  | [], ps => by simp [runL]
  | y :: r, ps => by
    have a := runL1_len f r (ps.flatMap fun p => (ptS id f y p).1)
    have c := flat2_len (fun p => (ptS id f y p).1) (fun p => (ptS id f y p).2) ps fun p _ => Nat.le_of_eq (ptS_len id f y p)
    rw [runL]
    simp only [List.length_append]
    omega
theorem runS_len (f : List Int) (b : List Sm) (p : Pt SV) : (runS f b p).1.length + (runS f b p).2.length ≤ 1 := runL1_len f b [p]
theorem rowStep_len (f : List Int) (b : List Sm) (kn : List (Str × Int)) (r : Rw) : (rowStep f b kn r).1.length + (rowStep f b kn r).2.length ≤ 1 := by
  unfold rowStep
  rw [List.length_map]
  exact runS_len ..
theorem rounds_len (f : List Int) (b : List Sm) (kn : List (Str × Int)) : ∀ (m : Nat) (rs : List Rw), (rounds f b kn m rs).1.length + (rounds f b kn m rs).2.length ≤ rs.length
  | 0, rs => by simp [rounds]
  | m + 1, rs => by
    have a := rounds_len f b kn m (rs.flatMap fun r => (rowStep f b kn r).1)
    have c := flat2_len (fun r => (rowStep f b kn r).1) (fun r => (rowStep f b kn r).2) rs fun r _ => rowStep_len f b kn r
    rw [rounds]
    simp only [List.length_append]
    omega
theorem eitGo_len (f : List Int) (n : Str) (p : Pt Vl) : ∀ (bs : List (List Sm)) (k : Nat), (eitGo f n p k bs).1.length + (eitGo f n p k bs).2.length ≤ bs.length
  | [], k => by simp [eitGo]
  | b :: r, k => by
    have a := eitGo_len f n p r (k + 1)
    have c := runS_len f b ⟨p.at0, p.path ++ [(k : Int)], [], p.known⟩
    rw [eitGo, List.length_append, List.length_append, List.length_map, List.length_cons]
    omega
def I2.okR : I2 → Prop
  | .sm _ => True
  | .rep _ _ b => b.length ≤ 4
  | .eit _ bs => bs.length ≤ 3 ∧ ∀ b ∈ bs, b.length ≤ 4
  | .swi _ _ cs => ∀ c ∈ cs, c.2.length ≤ 4
theorem step_len (f : List Int) (x : I2) (p : Pt Vl) (h : x.okR) : (stepI f x p).1.length + (stepI f x p).2.length ≤ 3 := by
  cases x with
  | sm y => have := ptS_len Vl.sm f y p; simp only [stepI]; omega
  | rep n a b =>
    have := rounds_len f b p.known (findK p.known a).toNat [(p.at0, p.path, [])]
    simp only [stepI, List.length_map, List.length_cons, List.length_nil] at this ⊢
    omega
  | eit n bs => have := eitGo_len f n p bs 0; have h := h.1; simp only [stepI]; omega
  | swi n t cs =>
    simp only [stepI]
    split
    · simp
    · next c _ =>
      have := runS_len f c.2 ⟨p.at0, p.path, [], p.known⟩
      simp only [List.length_map]
      omega
/-! ### parts stay in bounds -/
def PtC {α : Type} (f : List Int) (c : Nat) (p : Pt α) : Prop := p.at0 ≤ f.length ∧ KnOk p.known ∧ p.known.length ≤ c ∧ p.vals.length ≤ c ∧ p.path.length ≤ c
theorem PtC.mono {α : Type} {f : List Int} {c d : Nat} {p : Pt α} (h : PtC f c p) (k : c ≤ d) : PtC f d p := ⟨h.1, h.2.1, by have := h.2.2.1; omega, by have := h.2.2.2.1; omega, by have := h.2.2.2.2; omega⟩
theorem num1_ok {lo hi v : Int} {a : Nat} {r : Nat × Int} (h : num1 lo hi a v = .ok r) : r.1 = a + 1 ∧ lo ≤ r.2 ∧ r.2 ≤ hi := by
  unfold num1 at h
  split at h
  · cases h
  · next c => cases h; simp only [not_or] at c; exact ⟨rfl, by omega, by omega⟩
theorem get_lt {f : List Int} {i : Nat} {b : Int} (h : f[i]? = some b) : i < f.length := by
  apply Decidable.byContradiction
  intro k
  rw [List.getElem?_eq_none (by omega)] at h; cases h
theorem numRun_ok {n o : Str} {s lo hi : Int} {f : List Int} {a : Nat} {r : Nat × Int} (h : numRun n s o lo hi f a = .ok r) : r.1 ≤ f.length ∧ lo ≤ r.2 ∧ r.2 ≤ hi := by
  unfold numRun at h
  cases hb : f[a]? with
  | none => rw [hb] at h; cases h
  | some b =>
    rw [hb] at h
    have h0 := get_lt hb
    simp only at h
    by_cases c2 : s = 2
    · rw [if_pos c2] at h
      generalize (if o = "little" then (hi - b) / 256 else hi - 256 * b) = high at h
      generalize (if o = "little" then (lo - b + 255) / 256 else lo - 256 * b) = low at h
      by_cases c3 : high < 0 ∨ low > 255 ∨ low > high
      · rw [if_pos c3] at h; cases h
      · rw [if_neg c3] at h
        cases hc : f[a + 1]? with
        | none => rw [hc] at h; cases h
        | some c =>
          rw [hc] at h
          have h1 := get_lt hc
          obtain ⟨e, k⟩ := num1_ok h
          exact ⟨by omega, k⟩
    · rw [if_neg c2] at h
      obtain ⟨e, k⟩ := num1_ok h
      exact ⟨by omega, k⟩
theorem txtGo_ok {n : Str} {stop : Int} {f : List Int} {a : Nat} : ∀ {m k : Nat} {r : Nat × List Int}, txtGo n stop f a k m = .ok r → r.1 ≤ f.length
  | 0, k, r, h => by rw [txtGo] at h; cases h
  | m + 1, k, r, h => by
    rw [txtGo] at h
    cases hb : f[a + k]? with
    | none => rw [hb] at h; cases h
    | some b =>
      rw [hb] at h
      simp only at h
      have := get_lt hb
      split at h
      · cases h; show a + k + 1 ≤ _; omega
      · exact txtGo_ok h
theorem scanGo_ok {n : Str} {byte : Int} {f : List Int} {a : Nat} : ∀ {m k : Nat}, scanGo n byte f a k m = .ok () → a + k ≤ f.length → a + k + m ≤ f.length
  | 0, k, _, g => by omega
  | m + 1, k, h, g => by
    rw [scanGo] at h
    cases hb : f[a + k]? with
    | none => rw [hb] at h; cases h
    | some b =>
      rw [hb] at h
      simp only at h
      have := get_lt hb
      split at h
      · have := scanGo_ok h (by omega); omega
      · cases h
theorem map_ok {ε α β : Type} {g : α → β} {e : Except ε α} {r : β} (h : e.map g = .ok r) : ∃ a, e = .ok a ∧ r = g a := by
  cases e with
  | error s => cases h
  | ok a => cases h; exact ⟨a, rfl, rfl⟩
theorem smRun_ok {f : List Int} {a : Nat} {kn : List (Str × Int)} {y : Sm} {r : Nat × Option SV} (h : smRun f a kn y = .ok r) (g : a ≤ f.length) : r.1 ≤ f.length := by
  cases y with
  | num n s o lo hi => obtain ⟨q, e, rfl⟩ := map_ok h; exact (numRun_ok e).1
  | byt n am =>
    simp only [smRun] at h
    split at h
    · cases h
    · cases h; simp only; omega
  | txt n s m => obtain ⟨q, e, rfl⟩ := map_ok h; exact txtGo_ok e
  | chk n m => obtain ⟨q, e, rfl⟩ := map_ok h; have := scanGo_ok (k := 0) e (by omega); simp only; omega
  | pad n m b => obtain ⟨q, e, rfl⟩ := map_ok h; have := scanGo_ok (k := 0) e (by omega); simp only; omega
theorem ptS_c {α : Type} {inj : SV → α} {f : List Int} {y : Sm} {p p' : Pt α} {c : Nat} (w : y.okW) (h : PtC f c p) (m : p' ∈ (ptS inj f y p).1) : PtC f (c + 1) p' := by
  unfold ptS at m
  cases e : smRun f p.at0 p.known y with
  | error s => rw [e] at m; cases m
  | ok r =>
    obtain ⟨a, v⟩ := r
    rw [e] at m
    simp only [List.mem_singleton] at m
    subst m
    obtain ⟨h1, h2, h3, h4, h5⟩ := h
    refine ⟨smRun_ok e h1, ?_, ?_, ?_, by show p.path.length ≤ c + 1; omega⟩
    · intro q hq
      rcases List.mem_append.mp hq with hq1 | hq2
      · exact h2 q hq1
      · cases y with
        | num n s o lo hi =>
          obtain ⟨r, er, e2⟩ := map_ok e
          cases e2
          simp only [knOf, List.mem_singleton] at hq2
          subst hq2
          obtain ⟨w1, w2, w3, _⟩ := w
          obtain ⟨_, g1, g2⟩ := numRun_ok er
          exact ⟨by show 0 ≤ r.2; omega, by show r.2 ≤ 65535; omega⟩
        | _ => simp [knOf] at hq2
    · rw [List.length_append]
      have : (knOf y v).length ≤ 1 := by
        unfold knOf
        split <;> simp
      show p.known.length + _ ≤ c + 1
      omega
    · rw [List.length_append]
      have : ((v.map fun v => (y.name, inj v)).toList).length ≤ 1 := by cases v <;> simp
      show p.vals.length + _ ≤ c + 1
      omega
end Bm

set_option Elab.async false
set_option linter.all false
set_option maxRecDepth 100000
set_option maxHeartbeats 8000000
/-! blocks are read, item by item -/
namespace Bm
open PySem L2
abbrev sRunB : Stmt := top 22
/-- what stands for good (G), grown since G0, H0; st is written on -/
structure Wd (G0 H0 : Hp) (st : Addr) (G H : Hp) : Prop where
  gg : Same G0 G
  gh : Same G H
  nu : Nu G0 H0 G
  bt : But st H0 H
  gs : G st = none
theorem Wd.free {G0 H0 G H : Hp} {st a : Addr} (w : Wd G0 H0 st G H) (h : H a = none) (hs : H st ≠ none) : H0 a = none ∧ a ≠ st := by
  have n : a ≠ st := fun e => hs (by rw [← e]; exact h)
  exact ⟨w.bt.nil n h, n⟩
theorem Wd.new {G0 H0 G H : Hp} {st a : Addr} {o : HO} (w : Wd G0 H0 st G H) (h : H a = none) (hs : H st ≠ none) : Wd G0 H0 st (upd G a o) (upd H a o) := by
  obtain ⟨f1, f2⟩ := w.free h hs
  have ga : G a = none := w.gh.free h
  refine ⟨fun b u e => ?_, fun b u e => ?_, fun b h1 h2 => ?_, fun b u n e => ?_, ?_⟩
  · rw [upd_ne (ne_of_none (w.gg _ _ e) ga)]; exact w.gg _ _ e
  · by_cases c : b = a
    · rw [c, upd_same] at e ⊢; exact e
    · rw [upd_ne c] at e ⊢; exact w.gh _ _ e
  · rw [upd_ne (fun z => h2 (by rw [z]; exact f1))]; exact w.nu b h1 h2
  · rw [upd_ne (ne_of_none e f1)]; exact w.bt _ _ n e
  · rw [upd_ne f2.symm]; exact w.gs
theorem Wd.call {G0 H0 G H G' H' : Hp} {st : Addr} (w : Wd G0 H0 st G H) (hs : H st ≠ none) (s1 : Same G G') (s2 : Same G' H') (nu : Nu G H G') (b : But st H H') : Wd G0 H0 st G' H' := by
  refine ⟨w.gg.trans s1, s2, fun c h1 h2 => nu c (w.nu c h1 h2) ?_, w.bt.trans b, nu st w.gs hs⟩
  by_cases e : c = st
  · rw [e]; exact hs
  · cases k : H0 c with
    | none => exact absurd k h2
    | some o => rw [w.bt _ _ e k]; exact fun z => by cases z
theorem Wd.wr {G0 H0 G H : Hp} {st a : Addr} {o : HO} (w : Wd G0 H0 st G H) (ga : G a = none) (h : H0 a = none ∨ a = st) : Wd G0 H0 st G (upd H a o) := by
  refine ⟨w.gg, fun b u e => ?_, w.nu, fun b u n e => ?_, w.gs⟩
  · rw [upd_ne (ne_of_none e ga)]; exact w.gh _ _ e
  · rw [upd_ne (fun z => h.elim (fun h => by rw [z, h] at e; cases e) fun h => n (z.trans h))]; exact w.bt _ _ n e
theorem Wd.start {G H : Hp} {st : Addr} (sG : Same G H) (gs : G st = none) : Wd G H st G H := ⟨Same.refl _, sG, fun _ h _ => h, .refl _ _, gs⟩
theorem runL_snoc {α β : Type} (step : β → Pt α → List (Pt α) × List Stop) (x : β) : ∀ (l : List β) (ps : List (Pt α)), runL step (l ++ [x]) ps = (((runL step l ps).1.flatMap fun p => (step x p).1), (runL step l ps).2 ++ (runL step l ps).1.flatMap fun p => (step x p).2)
  | [], ps => by simp [runL]
  | y :: r, ps => by rw [List.cons_append, runL, runL_snoc step x r, runL]; simp [List.append_assoc]
theorem runI_len (f : List Int) (p : Pt Vl) : ∀ (l : List I2) (i : Nat), (∀ x ∈ l, x.okR) → (runL (stepI f) (l.take i) [p]).1.length ≤ 3 ^ i ∧ (runL (stepI f) (l.take i) [p]).2.length ≤ 2 * 3 ^ i := fun l i h => by
  induction i with
  | zero => simp [runL]
  | succ i ih =>
    cases e : l[i]? with
    | none => rw [List.take_add_one, e, Option.toList, List.append_nil]; have := Nat.pow_succ (n := 3) (m := i); omega
    | some x =>
      rw [List.take_add_one, e, Option.toList, runL_snoc]
      have hx := h x (List.mem_of_getElem? e)
      have a1 := flatMap_len (fun p => (stepI f x p).1) 3 (runL (stepI f) (l.take i) [p]).1 fun p _ => by have := step_len f x p hx; omega
      have a2 := flatMap_len (fun p => (stepI f x p).2) 3 (runL (stepI f) (l.take i) [p]).1 fun p _ => by have := step_len f x p hx; omega
      simp only [List.length_append]
      rw [Nat.pow_succ]
      omega
theorem runLc {f : List Int} : ∀ {b : List Sm} {ps : List (Pt SV)} {c : Nat} {p' : Pt SV}, (∀ y ∈ b, y.okW) → (∀ p ∈ ps, PtC f c p) → p' ∈ (runL (ptS id f) b ps).1 → PtC f (c + b.length) p'
  | [], ps, c, p', _, h, m => h p' m
  | y :: r, ps, c, p', w, h, m => by
    rw [runL] at m
    have := runLc (c := c + 1) (fun z hz => w z (List.mem_cons_of_mem _ hz)) (fun p hp => by
      obtain ⟨q, hq, hp⟩ := List.mem_flatMap.mp hp
      exact ptS_c (w y (List.mem_cons_self ..)) (h q hq) hp) m
    rw [List.length_cons]
    exact this.mono (by omega)
theorem runSc {f : List Int} {b : List Sm} {p p' : Pt SV} {c : Nat} (w : ∀ y ∈ b, y.okW) (h : PtC f c p) (m : p' ∈ (runS f b p).1) : PtC f (c + b.length) p' := runLc w (fun q hq => by rw [List.mem_singleton.mp hq]; exact h) m
theorem runL_path {f : List Int} : ∀ {b : List Sm} {ps : List (Pt SV)} {z : List Int} {p' : Pt SV}, (∀ p ∈ ps, p.path = z) → p' ∈ (runL (ptS id f) b ps).1 → p'.path = z
  | [], ps, z, p', h, m => h p' m
  | y :: r, ps, z, p', h, m => by
    rw [runL] at m
    refine runL_path (fun p hp => ?_) m
    obtain ⟨q, hq, hp⟩ := List.mem_flatMap.mp hp
    have e : p.path = q.path := by
      unfold ptS at hp
      cases c : smRun f q.at0 q.known y with
      | error s => rw [c] at hp; cases hp
      | ok r => rw [c] at hp; simp only [List.mem_singleton] at hp; rw [hp]
    rw [e]; exact h q hq
theorem runS_path {f : List Int} {b : List Sm} {p p' : Pt SV} (m : p' ∈ (runS f b p).1) : p'.path = p.path := runL_path (fun q hq => by rw [List.mem_singleton.mp hq]) m
theorem roundsc {f : List Int} {b : List Sm} {kn : List (Str × Int)} {z : List Int} (w : ∀ y ∈ b, y.okW) (k : KnOk kn) : ∀ {m : Nat} {rs : List Rw} {r : Rw}, (∀ r ∈ rs, r.1 ≤ f.length ∧ r.2.1 = z) → r ∈ (rounds f b kn m rs).1 → r.1 ≤ f.length ∧ r.2.1 = z
  | 0, rs, r, h, hm => h r hm
  | m + 1, rs, r, h, hm => by
    rw [rounds] at hm
    refine roundsc w k (m := m) (fun q hq => ?_) hm
    obtain ⟨r0, hr0, hq⟩ := List.mem_flatMap.mp hq
    unfold rowStep at hq
    obtain ⟨t, ht, rfl⟩ := List.mem_map.mp hq
    have h0 := h r0 hr0
    exact ⟨(runSc (c := kn.length + r0.2.1.length) w ⟨h0.1, k, by show kn.length ≤ _; omega, Nat.zero_le _, by show r0.2.1.length ≤ _; omega⟩ ht).1, (runS_path ht).trans h0.2⟩
theorem eitGoc {f : List Int} {n : Str} {p p' : Pt Vl} {c : Nat} (h : PtC f c p) : ∀ {bs : List (List Sm)} {k : Nat}, (∀ b ∈ bs, ∀ y ∈ b, y.okW) → p' ∈ (eitGo f n p k bs).1 → PtC f (c + 1) p'
  | [], k, _, m => by simp [eitGo] at m
  | b :: r, k, w, m => by
    rw [eitGo] at m
    rcases List.mem_append.mp m with m | m
    · obtain ⟨t, ht, rfl⟩ := List.mem_map.mp m
      have := (runSc (c := c + 1) (w b (List.mem_cons_self ..)) ⟨h.1, h.2.1, (by have := h.2.2.1; show p.known.length ≤ _; omega), Nat.zero_le _, (by have := h.2.2.2.2; simp only [List.length_append, List.length_singleton]; omega)⟩ ht).1
      exact ⟨this, h.2.1, by have := h.2.2.1; show p.known.length ≤ _; omega, by have := h.2.2.2.1; simp only [List.length_append, List.length_singleton]; omega, by have := h.2.2.2.2; show t.path.length ≤ _; rw [runS_path ht]; simp only [List.length_append, List.length_singleton]; omega⟩
    · exact eitGoc h (fun b hb => w b (List.mem_cons_of_mem _ hb)) m
theorem step_c {f : List Int} {x : I2} {p p' : Pt Vl} {c : Nat} (w : x.okW) (h : PtC f c p) (m : p' ∈ (stepI f x p).1) : PtC f (c + 1) p' := by
  cases x with
  | sm y => exact ptS_c w h m
  | rep n a b =>
    obtain ⟨r, hr, rfl⟩ := List.mem_map.mp m
    have := roundsc (f := f) (z := p.path) w.2 h.2.1 (fun q hq => by rw [List.mem_singleton.mp hq]; exact ⟨h.1, rfl⟩) hr
    exact ⟨this.1, h.2.1, by have := h.2.2.1; show p.known.length ≤ _; omega, by have := h.2.2.2.1; simp only [List.length_append, List.length_singleton]; omega, by have hp := h.2.2.2.2; show r.2.1.length ≤ _; rw [this.2]; omega⟩
  | eit n bs => exact eitGoc h w.2 m
  | swi n t cs =>
    simp only [stepI] at m
    split at m
    · simp at m
    · next cc e =>
      obtain ⟨q, hq, rfl⟩ := List.mem_map.mp m
      have := (runSc (c := c) (w.2 cc (List.mem_of_find?_eq_some e)) ⟨h.1, h.2.1, h.2.2.1, Nat.zero_le _, h.2.2.2.2⟩ hq).1
      exact ⟨this, h.2.1, by have := h.2.2.1; show p.known.length ≤ _; omega, by have := h.2.2.2.1; simp only [List.length_append, List.length_singleton]; omega, by have := h.2.2.2.2; show q.path.length ≤ _; rw [runS_path hq]; show p.path.length ≤ _; omega⟩
theorem runIc {f : List Int} : ∀ {l : List I2} {ps : List (Pt Vl)} {c : Nat} {p' : Pt Vl}, (∀ y ∈ l, y.okW) → (∀ p ∈ ps, PtC f c p) → p' ∈ (runL (stepI f) l ps).1 → PtC f (c + l.length) p'
  | [], ps, c, p', _, h, m => h p' m
  | y :: r, ps, c, p', w, h, m => by
    rw [runL] at m
    have := runIc (c := c + 1) (fun z hz => w z (List.mem_cons_of_mem _ hz)) (fun p hp => by
      obtain ⟨q, hq, hp⟩ := List.mem_flatMap.mp hp
      exact step_c (w y (List.mem_cons_self ..)) (h q hq) hp) m
    rw [List.length_cons]
    exact this.mono (by omega)
/-- an item with blocks -/
def spRunK (n : Nat) : Sp := fun vs H Q _ => ∃ (v vp : V) (pf st : Addr) (G : Hp) (x : I2) (f : List Int) (p : Pt Vl) (sts : List V) (c : Nat), vs = [v, .ref pf, vp, .ref st] ∧ I2At G v x ∧ x.okW ∧ x.okR ∧ ¬ x.flat ∧ G pf = some (.lst (f.map V.int)) ∧ By f ∧ f.length ≤ 2000000 ∧ PtAt VlAt G vp p ∧ PtC f c p ∧ c ≤ 55000 ∧ Same G H ∧ G st = none ∧ H st = some (.lst sts) ∧ sts.length ≤ 60000 ∧
  ∀ r ps nst G' H', Same G G' → Same G' H' → Nu G H G' → But st H H' → G' r = some (.lst ps) → Paired (PtAt VlAt G') ps (stepI f x p).1 → H' st = some (.lst (sts ++ nst)) → Paired (SpAt G') nst (stepI f x p).2 → Q (.ref r) H'
def spRunB (n : Nat) : Sp := fun vs H Q _ => ∃ (pb : Addr) (vp : V) (pf st : Addr) (G : Hp) (xs : List V) (l : List I2) (f : List Int) (p : Pt Vl) (sts : List V) (c : Nat), vs = [.ref pb, .ref pf, vp, .ref st] ∧ G pb = some (.tup xs) ∧ ItsAt G xs l ∧ (∀ x ∈ l, x.okW ∧ x.okR ∧ (n = 0 → x.flat)) ∧ l.length ≤ 4 ∧ G pf = some (.lst (f.map V.int)) ∧ By f ∧ f.length ≤ 2000000 ∧ PtAt VlAt G vp p ∧ PtC f c p ∧ c + 10000 * n ≤ 60000 ∧ Same G H ∧ G st = none ∧ H st = some (.lst sts) ∧ sts.length + 20000 * n ≤ 70000 ∧
  ∀ r ps nst G' H', Same G G' → Same G' H' → Nu G H G' → But st H H' → G' r = some (.lst ps) → Paired (PtAt VlAt G') ps (runI f l p).1 → H' st = some (.lst (sts ++ nst)) → Paired (SpAt G') nst (runI f l p).2 → Q (.ref r) H'
def RbIn (pb pf st pl2 : Addr) (vp v : V) (G0 H0 G3 : Hp) (sts nst : List V) (P : List (Pt Vl)) (S : List Stop) (σ : L2.St) (H' : Hp) : Prop := ∃ (fo : Addr) (i7 i8 : Option V) (G' : Hp) (fs ns2 : List V), σ = [some (.ref pb), some (.ref pf), some vp, some (.ref st), some (.ref pl2), some v, some (.ref fo), i7, i8] ∧ Same G3 G' ∧ Wd G0 H0 st G' H' ∧ H' st = some (.lst (sts ++ (nst ++ ns2))) ∧ G' fo = some (.lst fs) ∧ Paired (PtAt VlAt G') fs P ∧ Paired (SpAt G') ns2 S
theorem kind_in (y : Sm) (h : y.kind ≠ "number") : y.kind = "bytes" ∨ y.kind = "text" ∨ y.kind = "check" ∨ y.kind = "pad" := by
  cases y with
  | num => exact absurd rfl h
  | byt => exact .inl rfl
  | txt => exact .inr (.inl rfl)
  | chk => exact .inr (.inr (.inl rfl))
  | pad => exact .inr (.inr (.inr rfl))
section
variable {P : Program} {w : World} {K : PySem.W.Frag} {mg : Str → Option Value} {base : Heap} {f : Addr} {fd : FuncData}
abbrev nRunB : List Str := ["block", "file", "part", "stops", "parts", "item", "following", "one", "told"]
theorem scRunB : FnScope nRunB ["block", "file", "part", "stops"] (defScope sRunB) := ⟨rfl, rfl, rfl, by decide +kernel, rfl, by decide +kernel, by decide +kernel⟩
theorem ok_runb {lv k : Nat} (hk : 2 ≤ k) (F : Fun K "_law_run_block" "_law_run_block" sRunB f fd) (gN : Cal P w K mg base CX0 1 "_law_run_number" ["item", "file", "part", "stops"] (spRunS fun x => x.kind = "number")) (gP : Cal P w K mg base CX0 2 "_law_run_plain" ["item", "file", "part", "stops"] (spRunS fun x => x.kind ≠ "number"))
    (gK : Cal P w K mg base CX0 k "_law_run_blocks" ["item", "file", "part", "stops"] (spSub spRunK lv)) : FnOk P w K mg base CX0 (k + 1) f fd ["block", "file", "part", "stops"] (spRunB lv) := by
  refine F.ok scRunB (fun vs H Q E h => ?_) (fun cdv A outer s H vs Q E hr h => ?_)
  · obtain ⟨pb, vp, pf, st, G, xs, l, fl, p, sts, c, rfl, _⟩ := h
    rfl
  · obtain ⟨pb, vp, pf, st, G, xs, l, fl, p, sts, c, rfl, hpb, hl, hok, l4, hf, byf, fll, hpt, pc, cc, sG, gs, hs, sl, q⟩ := h
    have hr1 : Room 1 _ := hr.mono (by omega)
    have hr2 : Room 2 _ := hr.mono hk
    refine ⟨_, (pss_cons (ps_set (i := 4) scRunB.nd rfl (.inl rfl) (pe_lst (pa_cons (pv 2) pa_nil)))
      (pss_cons (ps_for PassesOwn.never rfl (pi_row (pv 0)) (pg_name (i := 5) scRunB.nd rfl (.inl rfl))
        (pss_cons (ps_set (i := 6) scRunB.nd rfl (.inl rfl) (pe_lst pa_nil))
      (pss_cons (ps_for PassesOwn.never rfl (pi_row (pv 4)) (pg_name (i := 7) scRunB.nd rfl (.inl rfl))
        (pss_cons (ps_if (pt_cmpR op_eq (pe_ix ix_tup (pv 5) pe_int (fun _ _ => rfl)) pe_str (nomark _)) (pss_one (ps_set (i := 8) scRunB.nd rfl (.inl rfl) (pe_cal gN hr1 pass0 (pa_cons (pv 5) (pa_cons (pv 1) (pa_cons (pv 7) (pa_cons (pv 3) pa_nil))))))) (pss_one (ps_if (pt_cmpR op_in_seq (pe_ix ix_tup (pv 5) pe_int (fun _ _ => rfl)) (pe_lst (pa_cons pe_str (pa_cons pe_str (pa_cons pe_str (pa_cons pe_str pa_nil))))) (by rfl)) (pss_one (ps_set (i := 8) scRunB.nd rfl (.inl rfl) (pe_cal gP hr2 pass0 (pa_cons (pv 5) (pa_cons (pv 1) (pa_cons (pv 7) (pa_cons (pv 3) pa_nil))))))) (pss_one (ps_set (i := 8) scRunB.nd rfl (.inl rfl) (pe_cal gK hr pass0 (pa_cons (pv 5) (pa_cons (pv 1) (pa_cons (pv 7) (pa_cons (pv 3) pa_nil))))))))))
      (pss_one (ps_set (i := 6) scRunB.nd rfl (.inl rfl) (pe_op op_cat (pv 6) (pv 8))))))
      (pss_one (ps_set (i := 4) scRunB.nd rfl (.inl rfl) (pv 6))))))
      (pss_one (ps_ret (pv 4))))), ?_⟩
    refine ⟨_, rfl, (by show 1 ≤ sizeLine; decide), fun pl hpl => ?_⟩
    have hs0 : H st ≠ none := by rw [hs]; exact fun z => by cases z
    have w0 := (Wd.start sG gs).new (o := .lst [vp]) hpl hs0
    have hst0 : (upd H pl (.lst [vp])) st = some (.lst sts) := same_new hpl _ _ _ hs
    have hpl0 : (upd G pl (.lst [vp])) pl = some (.lst [vp]) := upd_same
    generalize upd H pl (.lst [vp]) = H1 at w0 hst0 ⊢
    generalize upd G pl (.lst [vp]) = G1 at w0 hpl0
    refine ⟨_, rfl, pb, rfl, ?_⟩
    refine row_tk (H0 := H) (sG _ _ hpb) (But.tk hs w0.bt) fun J wk => ?_
    refine for_it wk (fun i σ H' => ∃ (pl : Addr) (i5 i6 i7 i8 : Option V) (G' : Hp) (ps nst : List V), σ = [some (.ref pb), some (.ref pf), some vp, some (.ref st), some (.ref pl), i5, i6, i7, i8] ∧ Wd G H st G' H' ∧ H' st = some (.lst (sts ++ nst)) ∧ G' pl = some (.lst ps) ∧ Paired (PtAt VlAt G') ps (runL (stepI fl) (l.take i) [p]).1 ∧ Paired (SpAt G') nst (runL (stepI fl) (l.take i) [p]).2)
      ⟨pl, none, none, none, none, G1, [vp], [], rfl, w0, by rw [List.append_nil]; exact hst0, hpl0, .cons (mon_pt mon_vl _ _ _ _ w0.gg hpt) .nil, .nil⟩ (fun _ _ _ _ h => by obtain ⟨_, _, _, _, _, _, _, _, _, z, _⟩ := h; exact But.tk hs z.bt) ?_ ?_
    · rintro i v σ H2' H2 hi ⟨pl2, i5, i6, i7, i8, G2, ps, nst, rfl, w2, hs2, hpl2, pps, psp⟩ ⟨e3, hv⟩
      subst e3
      obtain ⟨x, gx, hx0⟩ := pget hl hv
      obtain ⟨xw, xr, xf⟩ := hok x (List.mem_of_getElem? gx)
      have li : i < l.length := by rw [← plen hl]; exact hi
      obtain ⟨ln1, ln2⟩ := runI_len fl p l i fun x hx => (hok x hx).2.1
      have l81 : 3 ^ i ≤ 27 := by
        have : i = 0 ∨ i = 1 ∨ i = 2 ∨ i = 3 := by omega
        rcases this with e | e | e | e <;> rw [e] <;> decide
      have pcs : ∀ p' ∈ (runL (stepI fl) (l.take i) [p]).1, PtC fl (c + 4) p' := fun p' hp' => (runIc (fun y hy => (hok y (List.mem_of_mem_take hy)).1) (fun q hq => by rw [List.mem_singleton.mp hq]; exact pc) hp').mono (by rw [List.length_take]; omega)
      rw [List.take_add_one, gx, Option.toList, runL_snoc]
      generalize runL (stepI fl) (l.take i) [p] = run at pps psp ln1 ln2 pcs ⊢
      obtain ⟨P1, S1⟩ := run
      dsimp only at pps psp ln1 ln2 pcs ⊢
      refine ⟨(by show 0 ≤ sizeLine; decide), fun fo hfo => ?_⟩
      have hs2' : H2 st ≠ none := by rw [hs2]; exact fun z => by cases z
      have w3 := w2.new (o := .lst []) hfo hs2'
      have hs3 : (upd H2 fo (.lst [])) st = some (.lst (sts ++ nst)) := same_new hfo _ _ _ hs2
      have s23 := (w2.gg.trans (fun b o e => by rw [upd_ne (ne_of_none e (w2.gh.free hfo))]; exact e : Same G2 (upd G2 fo (.lst []))))
      have g23 : Same G2 (upd G2 fo (.lst [])) := fun b o e => by rw [upd_ne (ne_of_none e (w2.gh.free hfo))]; exact e
      have hfo3 : (upd G2 fo (.lst [])) fo = some (.lst []) := upd_same
      generalize upd H2 fo (.lst []) = H3 at w3 hs3 ⊢
      generalize upd G2 fo (.lst []) = G3 at w3 g23 hfo3 s23
      refine ⟨_, rfl, pl2, rfl, ?_⟩
      have hpl3 := g23 _ _ hpl2
      have lps := plen pps
      refine row_l2 (H0 := G3) hpl3 w3.gh fun J2 wk2 => ?_
      refine for_it wk2 (fun j σ H' => RbIn pb pf st pl2 vp v G H G3 sts nst ((P1.take j).flatMap fun p => (stepI fl x p).1) ((P1.take j).flatMap fun p => (stepI fl x p).2) σ H')
        ⟨fo, i7, i8, G3, [], [], rfl, Same.refl _, w3, by rw [List.append_nil]; exact hs3, hfo3, .nil, .nil⟩ (fun _ _ _ _ h => by obtain ⟨_, _, _, _, _, _, _, z1, z2, _⟩ := h; exact z1.trans z2.gh) ?_ ?_
      · rintro j vo σ H4' H4 hj ⟨fo4, i7, i8, G4, fs, ns2, rfl, g34, w4, hs4, hfo4, pfs, pns⟩ ⟨e3, hvo⟩
        subst e3
        obtain ⟨po, gpo, hpo⟩ := pget pps hvo
        have hpo4 := mon_pt mon_vl _ _ _ _ (g23.trans g34) hpo
        have poc := pcs po (List.mem_of_getElem? gpo)
        have hs4' : H4 st ≠ none := by rw [hs4]; exact fun z => by cases z
        have x4 := hx0.tk (sTk w4.gg)
        have f4 := w4.gg _ _ hf
        have tk1 : ∀ {γ : Type} (g : Pt Vl → List γ), (P1.take (j + 1)).flatMap g = (P1.take j).flatMap g ++ g po := fun g => by rw [List.take_add_one, gpo, List.flatMap_append]; simp
        have lj : j < P1.length := by rw [← lps]; exact hj
        have b1 := flatMap_len (fun p => (stepI fl x p).1) 3 (P1.take j) fun p _ => by have := step_len fl x p xr; omega
        have b2 := flatMap_len (fun p => (stepI fl x p).2) 3 (P1.take j) fun p _ => by have := step_len fl x p xr; omega
        rw [List.length_take] at b1 b2
        have b3 := step_len fl x po xr
        have e1 := plen psp
        have e2 := plen pns
        have e4 := plen pfs
        -- what is told
        rw [tk1 fun p => (stepI fl x p).1, tk1 fun p => (stepI fl x p).2]
        generalize (P1.take j).flatMap (fun p => (stepI fl x p).1) = F1 at pfs b1 e4 ⊢
        generalize (P1.take j).flatMap (fun p => (stepI fl x p).2) = F2 at pns b2 e2 ⊢
        have told : ∀ (r : Addr) (pr nr : List V) (G5 H5 : Hp), Same G4 G5 → Same G5 H5 → Nu G4 H4 G5 → But st H4 H5 → G5 r = some (.lst pr) → Paired (PtAt VlAt G5) pr (stepI fl x po).1 → H5 st = some (.lst ((sts ++ (nst ++ ns2)) ++ nr)) → Paired (SpAt G5) nr (stepI fl x po).2 →
            tOp rCat (tVar 6) (tVar 8) [some (.ref pb), some (.ref pf), some vp, some (.ref st), some (.ref pl2), some v, some (.ref fo4), some vo, some (.ref r)] H5 fun a Ha => RbIn pb pf st pl2 vp v G H G3 sts nst (F1 ++ (stepI fl x po).1) (F2 ++ (stepI fl x po).2) [some (.ref pb), some (.ref pf), some vp, some (.ref st), some (.ref pl2), some v, some a, some vo, some (.ref r)] Ha := fun r pr nr G5 H5 g45 s5 n5 u5 hr5 pp5 hs5 ps5 => by
          have w5 := w4.call hs4' g45 s5 n5 u5
          have hs5' : H5 st ≠ none := by rw [hs5]; exact fun z => by cases z
          have e5 := plen pp5
          refine ⟨_, rfl, _, rfl, fo4, r, fs, pr, rfl, rfl, s5 _ _ (g45 _ _ hfo4), s5 _ _ hr5, le_line (by omega), fun a ha => ?_⟩
          have w6 := w5.new (o := .lst (fs ++ pr)) ha hs5'
          have g56 : Same G5 (upd G5 a (.lst (fs ++ pr))) := fun b o e => by rw [upd_ne (ne_of_none e (w5.gh.free ha))]; exact e
          refine ⟨a, _, _, upd G5 a (.lst (fs ++ pr)), fs ++ pr, ns2 ++ nr, rfl, (g34.trans g45).trans g56, w6, ?_, upd_same, papp (L2.Paired.mapP pfs fun _ _ k => mon_pt mon_vl _ _ _ _ (g45.trans g56) k) (L2.Paired.mapP pp5 fun _ _ k => mon_pt mon_vl _ _ _ _ g56 k), papp (L2.Paired.mapP pns fun _ _ k => mon_sp _ _ _ _ (g45.trans g56) k) (L2.Paired.mapP ps5 fun _ _ k => mon_sp _ _ _ _ g56 k)⟩
          have := same_new ha (.lst (fs ++ pr)) _ _ hs5
          simpa [List.append_assoc] using this
        have szs : (sts ++ (nst ++ ns2)).length ≤ sts.length + 500 := by simp only [List.length_append]; omega
        have pok : PtOk fl po := ⟨poc.1, poc.2.1, by have := poc.2.2.1; omega, by have := poc.2.2.2.1; omega⟩
        cases x with
        | sm y =>
          obtain ⟨pi, rfl, hpi⟩ := x4
          have hT := SqT.of (K := K) (w4.gh _ _ hpi)
          by_cases ck : y.kind = "number"
          · refine ⟨_, rfl, pi, _, 0, _, rfl, rfl, hT, atI_nat (j := 0) rfl, rfl, _, rfl, ifT ck ?_⟩
            refine ⟨_, rfl, _, rfl, _, rfl, _, rfl, .ref pi, vo, pf, st, G4, Vl, VlAt, Vl.sm, y, fl, po, sts ++ (nst ++ ns2), rfl, mon_vl, fun _ _ _ h => h, ⟨pi, rfl, hpi⟩, xw, ck, f4, byf, fll, hpo4, pok, w4.gh, w4.gs, hs4, by omega, fun r pr nr G5 H5 g45 s5 n5 u5 hr5 pp5 hs5 ps5 => ?_⟩
            exact told r pr nr G5 H5 g45 s5 n5 u5 hr5 pp5 hs5 ps5
          · refine ⟨_, rfl, pi, _, 0, _, rfl, rfl, hT, atI_nat (j := 0) rfl, rfl, _, rfl, ifN ck ?_⟩
            refine ⟨_, rfl, pi, _, 0, _, rfl, rfl, hT, atI_nat (j := 0) rfl, (by show 4 ≤ sizeLine; decide), fun a4 ha4 => ⟨a4, _, rfl, .inl (SqL.of upd_same), rfl, rfl, _, rfl, ifB (by cases y <;> first | (exact absurd rfl ck) | (simp only [Sm.kind]; decide +kernel)) ?_⟩⟩
            have wa := w4.new (o := .lst [.str "bytes", .str "text", .str "check", .str "pad"]) ha4 hs4'
            have g4a : Same G4 (upd G4 a4 (.lst [.str "bytes", .str "text", .str "check", .str "pad"])) := fun b o e => by rw [upd_ne (ne_of_none e (w4.gh.free ha4))]; exact e
            have hsa := same_new ha4 (.lst [.str "bytes", .str "text", .str "check", .str "pad"]) _ _ hs4
            have bta : But st H4 (upd H4 a4 (.lst [.str "bytes", .str "text", .str "check", .str "pad"])) := .of (same_new ha4 _)
            have nua : ∀ G5, Nu (upd G4 a4 (.lst [.str "bytes", .str "text", .str "check", .str "pad"])) (upd H4 a4 (.lst [.str "bytes", .str "text", .str "check", .str "pad"])) G5 → Nu G4 H4 G5 := fun G5 nu b h1 h2 => nu b (by rw [upd_ne (fun z => h2 (by rw [z]; exact ha4))]; exact h1) (by rw [upd_ne (fun z => h2 (by rw [z]; exact ha4))]; exact h2)
            refine ⟨_, rfl, _, rfl, _, rfl, _, rfl, .ref pi, vo, pf, st, _, Vl, VlAt, Vl.sm, y, fl, po, sts ++ (nst ++ ns2), rfl, mon_vl, fun _ _ _ h => h, ⟨pi, rfl, g4a _ _ hpi⟩, xw, ck, g4a _ _ f4, byf, fll, mon_pt mon_vl _ _ _ _ g4a hpo4, pok, wa.gh, wa.gs, hsa, by omega, fun r pr nr G5 H5 g45 s5 n5 u5 hr5 pp5 hs5 ps5 => ?_⟩
            exact told r pr nr G5 H5 (g4a.trans g45) s5 (nua _ n5) (bta.trans u5) hr5 pp5 hs5 ps5
        | rep n a b =>
          cases n1 : lv with
          | zero => subst n1; exact (xf rfl).elim
          | succ lv =>
          subst n1
          obtain ⟨pi, rest, rfl, hpi⟩ := x4.head
          have hT := SqT.of (K := K) (w4.gh _ _ hpi)
          refine ⟨_, rfl, pi, _, 0, _, rfl, rfl, hT, atI_nat (j := 0) rfl, rfl, _, rfl, ifN (by simp only [I2.kind]; decide +kernel) ?_⟩
          refine ⟨_, rfl, pi, _, 0, _, rfl, rfl, hT, atI_nat (j := 0) rfl, (by show 4 ≤ sizeLine; decide), fun a4 ha4 => ⟨a4, _, rfl, .inl (SqL.of upd_same), rfl, rfl, _, rfl, ifF (by simp only [I2.kind]; decide +kernel) ?_⟩⟩
          have wa := w4.new (o := .lst [.str "bytes", .str "text", .str "check", .str "pad"]) ha4 hs4'
          have g4a : Same G4 (upd G4 a4 (.lst [.str "bytes", .str "text", .str "check", .str "pad"])) := fun b o e => by rw [upd_ne (ne_of_none e (w4.gh.free ha4))]; exact e
          have hsa := same_new ha4 (.lst [.str "bytes", .str "text", .str "check", .str "pad"]) _ _ hs4
          have bta : But st H4 (upd H4 a4 (.lst [.str "bytes", .str "text", .str "check", .str "pad"])) := .of (same_new ha4 _)
          have nua : ∀ G5, Nu (upd G4 a4 (.lst [.str "bytes", .str "text", .str "check", .str "pad"])) (upd H4 a4 (.lst [.str "bytes", .str "text", .str "check", .str "pad"])) G5 → Nu G4 H4 G5 := fun G5 nu b h1 h2 => nu b (by rw [upd_ne (fun z => h2 (by rw [z]; exact ha4))]; exact h1) (by rw [upd_ne (fun z => h2 (by rw [z]; exact ha4))]; exact h2)
          refine ⟨_, rfl, _, rfl, _, rfl, _, rfl, .ref pi, vo, pf, st, _, _, fl, po, sts ++ (nst ++ ns2), c + 4, rfl, x4.tk (sTk g4a), xw, xr, (fun z => z), g4a _ _ f4, byf, fll, mon_pt mon_vl _ _ _ _ g4a hpo4, poc, by omega, wa.gh, wa.gs, hsa, by omega, fun r pr nr G5 H5 g45 s5 n5 u5 hr5 pp5 hs5 ps5 => ?_⟩
          exact told r pr nr G5 H5 (g4a.trans g45) s5 (nua _ n5) (bta.trans u5) hr5 pp5 hs5 ps5
        | eit n b =>
          cases n1 : lv with
          | zero => subst n1; exact (xf rfl).elim
          | succ lv =>
          subst n1
          obtain ⟨pi, rest, rfl, hpi⟩ := x4.head
          have hT := SqT.of (K := K) (w4.gh _ _ hpi)
          refine ⟨_, rfl, pi, _, 0, _, rfl, rfl, hT, atI_nat (j := 0) rfl, rfl, _, rfl, ifN (by simp only [I2.kind]; decide +kernel) ?_⟩
          refine ⟨_, rfl, pi, _, 0, _, rfl, rfl, hT, atI_nat (j := 0) rfl, (by show 4 ≤ sizeLine; decide), fun a4 ha4 => ⟨a4, _, rfl, .inl (SqL.of upd_same), rfl, rfl, _, rfl, ifF (by simp only [I2.kind]; decide +kernel) ?_⟩⟩
          have wa := w4.new (o := .lst [.str "bytes", .str "text", .str "check", .str "pad"]) ha4 hs4'
          have g4a : Same G4 (upd G4 a4 (.lst [.str "bytes", .str "text", .str "check", .str "pad"])) := fun b o e => by rw [upd_ne (ne_of_none e (w4.gh.free ha4))]; exact e
          have hsa := same_new ha4 (.lst [.str "bytes", .str "text", .str "check", .str "pad"]) _ _ hs4
          have bta : But st H4 (upd H4 a4 (.lst [.str "bytes", .str "text", .str "check", .str "pad"])) := .of (same_new ha4 _)
          have nua : ∀ G5, Nu (upd G4 a4 (.lst [.str "bytes", .str "text", .str "check", .str "pad"])) (upd H4 a4 (.lst [.str "bytes", .str "text", .str "check", .str "pad"])) G5 → Nu G4 H4 G5 := fun G5 nu b h1 h2 => nu b (by rw [upd_ne (fun z => h2 (by rw [z]; exact ha4))]; exact h1) (by rw [upd_ne (fun z => h2 (by rw [z]; exact ha4))]; exact h2)
          refine ⟨_, rfl, _, rfl, _, rfl, _, rfl, .ref pi, vo, pf, st, _, _, fl, po, sts ++ (nst ++ ns2), c + 4, rfl, x4.tk (sTk g4a), xw, xr, (fun z => z), g4a _ _ f4, byf, fll, mon_pt mon_vl _ _ _ _ g4a hpo4, poc, by omega, wa.gh, wa.gs, hsa, by omega, fun r pr nr G5 H5 g45 s5 n5 u5 hr5 pp5 hs5 ps5 => ?_⟩
          exact told r pr nr G5 H5 (g4a.trans g45) s5 (nua _ n5) (bta.trans u5) hr5 pp5 hs5 ps5
        | swi n a b =>
          cases n1 : lv with
          | zero => subst n1; exact (xf rfl).elim
          | succ lv =>
          subst n1
          obtain ⟨pi, rest, rfl, hpi⟩ := x4.head
          have hT := SqT.of (K := K) (w4.gh _ _ hpi)
          refine ⟨_, rfl, pi, _, 0, _, rfl, rfl, hT, atI_nat (j := 0) rfl, rfl, _, rfl, ifN (by simp only [I2.kind]; decide +kernel) ?_⟩
          refine ⟨_, rfl, pi, _, 0, _, rfl, rfl, hT, atI_nat (j := 0) rfl, (by show 4 ≤ sizeLine; decide), fun a4 ha4 => ⟨a4, _, rfl, .inl (SqL.of upd_same), rfl, rfl, _, rfl, ifF (by simp only [I2.kind]; decide +kernel) ?_⟩⟩
          have wa := w4.new (o := .lst [.str "bytes", .str "text", .str "check", .str "pad"]) ha4 hs4'
          have g4a : Same G4 (upd G4 a4 (.lst [.str "bytes", .str "text", .str "check", .str "pad"])) := fun b o e => by rw [upd_ne (ne_of_none e (w4.gh.free ha4))]; exact e
          have hsa := same_new ha4 (.lst [.str "bytes", .str "text", .str "check", .str "pad"]) _ _ hs4
          have bta : But st H4 (upd H4 a4 (.lst [.str "bytes", .str "text", .str "check", .str "pad"])) := .of (same_new ha4 _)
          have nua : ∀ G5, Nu (upd G4 a4 (.lst [.str "bytes", .str "text", .str "check", .str "pad"])) (upd H4 a4 (.lst [.str "bytes", .str "text", .str "check", .str "pad"])) G5 → Nu G4 H4 G5 := fun G5 nu b h1 h2 => nu b (by rw [upd_ne (fun z => h2 (by rw [z]; exact ha4))]; exact h1) (by rw [upd_ne (fun z => h2 (by rw [z]; exact ha4))]; exact h2)
          refine ⟨_, rfl, _, rfl, _, rfl, _, rfl, .ref pi, vo, pf, st, _, _, fl, po, sts ++ (nst ++ ns2), c + 4, rfl, x4.tk (sTk g4a), xw, xr, (fun z => z), g4a _ _ f4, byf, fll, mon_pt mon_vl _ _ _ _ g4a hpo4, poc, by omega, wa.gh, wa.gs, hsa, by omega, fun r pr nr G5 H5 g45 s5 n5 u5 hr5 pp5 hs5 ps5 => ?_⟩
          exact told r pr nr G5 H5 (g4a.trans g45) s5 (nua _ n5) (bta.trans u5) hr5 pp5 hs5 ps5
      · rintro σ H4 ⟨fo4, i7, i8, G4, fs, ns2, rfl, g34, w4, hs4, hfo4, pfs, pns⟩
        rw [lps, List.take_length] at pfs pns
        refine ⟨_, rfl, ?_⟩
        exact ⟨fo4, _, _, _, _, G4, fs, nst ++ ns2, rfl, w4, hs4, hfo4, pfs, papp (L2.Paired.mapP psp fun _ _ k => mon_sp _ _ _ _ (g23.trans g34) k) pns⟩
    · rintro σ H2 ⟨pl2, i5, i6, i7, i8, G2, ps, nst, rfl, w2, hs2, hpl2, pps, psp⟩
      rw [plen hl, List.take_length] at pps psp
      exact ⟨_, rfl, q pl2 ps nst G2 H2 w2.gg w2.gh w2.nu w2.bt hpl2 pps hs2 psp⟩
end
end Bm

set_option Elab.async false
set_option linter.all false
set_option maxRecDepth 100000
set_option maxHeartbeats 8000000
/-! items with blocks are read -/
namespace Bm
open PySem L2
abbrev sRunK : Stmt := top 21
theorem rounds_snoc (f : List Int) (b : List Sm) (kn : List (Str × Int)) : ∀ (m : Nat) (rs : List Rw), rounds f b kn (m + 1) rs = (((rounds f b kn m rs).1.flatMap fun r => (rowStep f b kn r).1), (rounds f b kn m rs).2 ++ (rounds f b kn m rs).1.flatMap fun r => (rowStep f b kn r).2)
  | 0, rs => by simp [rounds]
  | m + 1, rs => by rw [rounds, rounds_snoc f b kn m, rounds]; simp [List.append_assoc]
def eitOne (f : List Int) (n : Str) (p : Pt Vl) (k : Nat) (b : List Sm) : List (Pt Vl) × List Stop := ((runS f b ⟨p.at0, p.path ++ [(k : Int)], [], p.known⟩).1.map (fun t => (⟨t.at0, t.path, p.vals ++ [(n, .tak k t.vals)], p.known⟩ : Pt Vl)), (runS f b ⟨p.at0, p.path ++ [(k : Int)], [], p.known⟩).2)
theorem eitGo_snoc (f : List Int) (n : Str) (p : Pt Vl) (b : List Sm) : ∀ (bs : List (List Sm)) (k : Nat), eitGo f n p k (bs ++ [b]) = ((eitGo f n p k bs).1 ++ (eitOne f n p (k + bs.length) b).1, (eitGo f n p k bs).2 ++ (eitOne f n p (k + bs.length) b).2)
  | [], k => by simp [eitGo, eitOne]
  | a :: r, k => by
    rw [List.cons_append, eitGo, eitGo_snoc f n p b r, eitGo, List.length_cons, show k + 1 + r.length = k + (r.length + 1) by omega]
    simp [List.append_assoc]
/-- an own list is taken in -/
theorem Wd.take {G0 H0 G H : Hp} {st a : Addr} {o : HO} (w : Wd G0 H0 st G H) (ga : G a = none) (h0 : H0 a = none) (n : a ≠ st) (h : H a = some o) : Wd G0 H0 st (upd G a o) H := by
  refine ⟨fun b u e => ?_, fun b u e => ?_, fun b h1 h2 => ?_, w.bt, ?_⟩
  · rw [upd_ne (ne_of_none (w.gg _ _ e) ga)]; exact w.gg _ _ e
  · by_cases c : b = a
    · rw [c, upd_same] at e; rw [c, h, e]
    · rw [upd_ne c] at e; exact w.gh _ _ e
  · rw [upd_ne (fun z => h2 (by rw [z]; exact h0))]; exact w.nu b h1 h2
  · rw [upd_ne n.symm]; exact w.gs
theorem Wd.alloc {G0 H0 G H : Hp} {st a : Addr} {o : HO} (w : Wd G0 H0 st G H) (h : H a = none) (hs : H st ≠ none) : ∃ G', Wd G0 H0 st G' (upd H a o) ∧ Same G G' ∧ G' a = some o ∧ ∀ D, G D = none → H D ≠ none → G' D = none :=
  ⟨upd G a o, w.new h hs, fun b u e => by rw [upd_ne (ne_of_none e (w.gh.free h))]; exact e, upd_same, fun D h1 h2 => by rw [upd_ne (fun z => h2 (by rw [z]; exact h))]; exact h1⟩
theorem Wd.same {G0 H0 G H H' : Hp} {st : Addr} (w : Wd G0 H0 st G H) (s : Same H H') : Wd G0 H0 st G H' := ⟨w.gg, w.gh.trans s, w.nu, w.bt.trans (.of s), w.gs⟩
theorem unlift {G : Hp} : ∀ {xs : List V} {c : C0}, Paired (EnAt VlAt G) xs (c.map liftE) → Paired (EnAt SVAt G) xs c
  | [], [], .nil => .nil
  | _ :: _, e :: r, .cons h t => .cons (by obtain ⟨t, u, e1, e2, e3⟩ := h; exact ⟨t, u, e1, e2, e3⟩) (unlift t)
/-- a part of a plain block -/
theorem lift_at {G : Hp} {v : V} {t : Pt SV} (h : PtAt VlAt G v (liftP t)) : ∃ a pp vv kk vs, v = .ref a ∧ G a = some (.tup [.int (t.at0 : Int), .ref pp, .ref vv, .ref kk]) ∧ G pp = some (.tup (t.path.map V.int)) ∧ G vv = some (.lst vs) ∧ Paired (EnAt SVAt G) vs t.vals := by
  obtain ⟨a, pp, vv, kk, vs, ks, e, h1, h2, h3, h4, _, _⟩ := h
  exact ⟨a, pp, vv, kk, vs, e, h1, h2, h3, unlift h4⟩
theorem map_pget {α β : Type} {F : V → β → Prop} {g : α → β} : ∀ {xs : List V} {ys : List α}, Paired F xs (ys.map g) → ∀ {i : Nat} {x : V}, xs[i]? = some x → ∃ y, ys[i]? = some y ∧ F x (g y)
  | [], [], .nil, i, x, h => by simp at h
  | _ :: _, _ :: _, .cons r t, 0, x, h => by simp at h; subst h; exact ⟨_, rfl, r⟩
  | _ :: _, _ :: _, .cons r t, i + 1, x, h => by
    simp at h
    obtain ⟨y, e, f⟩ := map_pget t h
    exact ⟨y, by simpa using e, f⟩
def RwAt (G : Hp) (v : V) (r : Rw) : Prop := ∃ t pp cc cs, v = .ref t ∧ G t = some (.tup [.int (r.1 : Int), .ref pp, .ref cc]) ∧ G pp = some (.tup (r.2.1.map V.int)) ∧ G cc = some (.lst cs) ∧ Paired (CtAt SVAt G) cs r.2.2
theorem mon_rw : Mon RwAt := fun _ _ _ _ s h => by
  obtain ⟨t, pp, cc, cs, e, h1, h2, h3, h4⟩ := h
  exact ⟨t, pp, cc, cs, e, s _ _ h1, s _ _ h2, s _ _ h3, L2.Paired.mapP h4 fun _ _ k => mon_ct mon_sv _ _ _ _ s k⟩
theorem catGo {K : PySem.W.Frag} {a b : Addr} {xs ys : List V} {H : Hp} {Q : VK} (ha : SqT K H a xs) (hb : SqT K H b ys) (hz : xs.length + ys.length ≤ sizeLine) (hy : ys ≠ []) (h : ∀ q H', (q = b ∧ H' = H ∧ xs = []) ∨ (H q = none ∧ H' = upd H q (.tup (xs ++ ys))) → Q (.ref q) H') : rCatA K (.ref a) (.ref b) H Q :=
  ⟨a, b, xs, ys, rfl, rfl, ha, hb, hz, fun e => h b H (.inl ⟨rfl, rfl, e⟩), fun _ e => absurd e hy, fun _ _ p hp => h p _ (.inr ⟨hp, rfl⟩)⟩
theorem rounds_rds {f : List Int} {b : List Sm} {kn : List (Str × Int)} {z : Nat} : ∀ {m : Nat} {rs : List Rw} {r : Rw}, (∀ r ∈ rs, r.2.2.length = z) → r ∈ (rounds f b kn m rs).1 → r.2.2.length = z + m
  | 0, rs, r, h, hm => h r hm
  | m + 1, rs, r, h, hm => by
    rw [rounds] at hm
    rw [rounds_rds (z := z + 1) (m := m) (fun q hq => ?_) hm]
    · omega
    · obtain ⟨r0, hr0, hq⟩ := List.mem_flatMap.mp hq
      unfold rowStep at hq
      obtain ⟨t, ht, rfl⟩ := List.mem_map.mp hq
      show (r0.2.2 ++ [t.vals]).length = _
      rw [List.length_append, h r0 hr0]; rfl
theorem nilGo {σ : L2.St} {H : Hp} {k : List V → Hp → Prop} (h : k [] H) : tNil σ H k := h
section
variable {P : Program} {w : World} {K : PySem.W.Frag} {mg : Str → Option Value} {base : Heap} {f : Addr} {fd : FuncData}
abbrev nRunK : List Str := ["item", "file", "part", "stops", "at", "path", "values", "known", "found", "rows", "k", "longer", "row", "told", "blocks", "case"]
theorem scRunK : FnScope nRunK ["item", "file", "part", "stops"] (defScope sRunK) := ⟨rfl, rfl, rfl, by decide +kernel, rfl, by decide +kernel, by decide +kernel⟩
theorem ok_runk {k : Nat} (hk : 1 ≤ k) (F : Fun K "_law_run_blocks" "_law_run_blocks" sRunK f fd) (gF : Cal P w K mg base CX0 1 "_law_find" ["known", "count"] spFind) (gB : Cal P w K mg base CX0 k "_law_run_block" ["block", "file", "part", "stops"] (spRunB 0)) (ml : mg "len" = none) (mr : mg "range" = none) : FnOk P w K mg base CX0 (k + 1) f fd ["item", "file", "part", "stops"] (spRunK 0) := by
  refine F.ok scRunK (fun vs H Q E h => ?_) (fun cdv A outer s H vs Q E hr h => ?_)
  · obtain ⟨v, vp, pf, st, G, x, fl, p, sts, c, rfl, _⟩ := h
    rfl
  · obtain ⟨v, vp, pf, st, G, x, fl, p, sts, c, rfl, hx, xw, xr, xf, hf, byf, fll, hpt, pc, cc, sG, gs, hs, sl, q⟩ := h
    have hr1 : Room 1 _ := hr.mono hk
    refine ⟨_, (pss_cons (ps_asg (pv 2) (pg_tup rfl (pgs_cons (pg_name (i := 4) scRunK.nd rfl (Or.inl rfl)) (pgs_cons (pg_name (i := 5) scRunK.nd rfl (Or.inl rfl)) (pgs_cons (pg_name (i := 6) scRunK.nd rfl (Or.inr rfl)) (pgs_cons (pg_name (i := 7) scRunK.nd rfl (Or.inr rfl)) pgs_nil))))))
      (pss_cons (ps_set (i := 8) scRunK.nd rfl (.inl rfl) (pe_lst pa_nil))
      (pss_cons (ps_if (pt_cmpR op_eq (pe_ix ix_tup (pv 0) pe_int (fun _ _ => rfl)) pe_str (nomark _)) (pss_cons (ps_set (i := 9) scRunK.nd rfl (.inl rfl) (pe_lst (pa_cons (pe_tup (pa_cons (pv 4) (pa_cons (pv 5) (pa_cons (pe_lst pa_nil) pa_nil)))) pa_nil)))
      (pss_cons (ps_for PassesOwn.never rfl (pi_range1 (by rfl) mr (pa_cons (pe_cal gF hr1 pass0 (pa_cons (pv 7) (pa_cons (pe_ix ix_tup (pv 0) pe_int (fun _ _ => rfl)) pa_nil))) pa_nil)) (pg_name (i := 10) scRunK.nd rfl (.inl rfl))
        (pss_cons (ps_set (i := 11) scRunK.nd rfl (.inl rfl) (pe_lst pa_nil))
      (pss_cons (ps_for PassesOwn.never rfl (pi_row (pv 9)) (pg_name (i := 12) scRunK.nd rfl (.inl rfl))
        (pss_one (ps_for PassesOwn.never rfl (pi_row (pe_cal gB hr pass0 (pa_cons (pe_ix ix_tup (pv 0) pe_int (fun _ _ => rfl)) (pa_cons (pv 1) (pa_cons (pe_tup (pa_cons (pe_ix ix_tup (pv 12) pe_int (fun _ _ => rfl)) (pa_cons (pe_ix ix_tup (pv 12) pe_int (fun _ _ => rfl)) (pa_cons (pe_lst pa_nil) (pa_cons (pv 7) pa_nil))))) (pa_cons (pv 3) pa_nil)))))) (pg_name (i := 13) scRunK.nd rfl (.inl rfl))
        (pss_one (ps_expr (pe_bm PySem.F.plainAttrs_list PySem.F.slot_list_append PySem.F.type_list_append mt_append (pv 11) (pa_cons (pe_tup (pa_cons (pe_ix ix_tup (pv 13) pe_int (fun _ _ => rfl)) (pa_cons (pe_ix ix_tup (pv 13) pe_int (fun _ _ => rfl)) (pa_cons (pe_op op_cat (pe_ix ix_tup (pv 12) pe_int (fun _ _ => rfl)) (pe_lst (pa_cons (pe_ix ix_tup (pv 13) pe_int (fun _ _ => rfl)) pa_nil))) pa_nil)))) pa_nil)))))))
      (pss_one (ps_set (i := 9) scRunK.nd rfl (.inl rfl) (pv 11))))))
      (pss_one (ps_ret (pe_lc (own := [("row", 12)]) (g := gName 12) (tt := tYes) rfl scRunK.nd (pi_row (pv 9)) (blkOk_by (own := [("row", 12)]) (N := nRunK) (sc := defScope sRunK) (by decide +kernel)) (fun _ _ _ _ _ => pg_name (i := 12) scRunK.nd rfl (Or.inl rfl)) (fun _ _ _ _ _ => pts_nil) (fun _ _ _ _ _ => (pe_tup (pa_cons (pe_ix (r := rIxT K) ix_tup (pv 12) pe_int (fun _ _ => rfl)) (pa_cons (pe_ix (r := rIxT K) ix_tup (pv 12) pe_int (fun _ _ => rfl)) (pa_cons (pe_op op_cat (pv 6) (pe_lst (pa_cons (pe_tup (pa_cons (pe_ix (r := rIxT K) ix_tup (pv 0) pe_int (fun _ _ => rfl)) (pa_cons (pe_ix (r := rIxT K) ix_tup (pv 12) pe_int (fun _ _ => rfl)) pa_nil))) pa_nil))) (pa_cons (pv 7) pa_nil))))))))))) pss_nil)
      (pss_cons (ps_if (pt_cmpR op_eq (pe_ix ix_tup (pv 0) pe_int (fun _ _ => rfl)) pe_str (nomark _)) (pss_cons (ps_for PassesOwn.never rfl (pi_range1 (by rfl) mr (pa_cons (pe_callB call_len (by rfl) ml boot_len (pa_cons (pe_ix ix_tup (pv 0) pe_int (fun _ _ => rfl)) pa_nil)) pa_nil)) (pg_name (i := 10) scRunK.nd rfl (.inl rfl))
        (pss_one (ps_for PassesOwn.never rfl (pi_row (pe_cal gB hr pass0 (pa_cons (pe_ix (r := rIxT K) ix_tup (pe_ix ix_tup (pv 0) pe_int (fun _ _ => rfl)) (pv 10) (fun _ _ => rfl)) (pa_cons (pv 1) (pa_cons (pe_tup (pa_cons (pv 4) (pa_cons (pe_op op_catA (pv 5) (pe_tup (pa_cons (pv 10) pa_nil))) (pa_cons (pe_lst pa_nil) (pa_cons (pv 7) pa_nil))))) (pa_cons (pv 3) pa_nil)))))) (pg_name (i := 13) scRunK.nd rfl (.inl rfl))
        (pss_one (ps_expr (pe_bm PySem.F.plainAttrs_list PySem.F.slot_list_append PySem.F.type_list_append mt_append (pv 8) (pa_cons (pe_tup (pa_cons (pe_ix ix_tup (pv 13) pe_int (fun _ _ => rfl)) (pa_cons (pe_ix ix_tup (pv 13) pe_int (fun _ _ => rfl)) (pa_cons (pe_op op_cat (pv 6) (pe_lst (pa_cons (pe_tup (pa_cons (pe_ix ix_tup (pv 0) pe_int (fun _ _ => rfl)) (pa_cons (pe_tup (pa_cons (pv 10) (pa_cons (pe_ix ix_tup (pv 13) pe_int (fun _ _ => rfl)) pa_nil))) pa_nil))) pa_nil))) (pa_cons (pv 7) pa_nil))))) pa_nil)))))))
      (pss_one (ps_ret (pv 8)))) pss_nil)
      (pss_cons (ps_setLc (i := 14) (own := [("case", 15)]) (g := gName 15) rfl scRunK.nd rfl rfl (sw_true rfl rfl rfl (by decide +kernel)) (pi_row (pe_ix ix_tup (pv 0) pe_int (fun _ _ => rfl))) (blkOk_by (own := [("case", 15)]) (N := nRunK) (sc := defScope sRunK) (by decide +kernel)) (fun _ _ _ _ _ => pg_name (i := 15) scRunK.nd rfl (Or.inl rfl)) (fun _ _ _ _ _ => pts_one (pt_cmpR op_eq (pe_ix (r := rIxT K) ix_tup (pv 15) pe_int (fun _ _ => rfl)) (pe_cal gF hr1 pass0 (pa_cons (pv 7) (pa_cons (pe_ix (r := rIxT K) ix_tup (pv 0) pe_int (fun _ _ => rfl)) pa_nil))) (nomark _))) (fun _ _ _ _ _ => (pe_ix (r := rIxT K) ix_tup (pv 15) pe_int (fun _ _ => rfl))))
      (pss_cons (ps_if (pt_cmpR op_eq (pe_callB call_len (by rfl) ml boot_len (pa_cons (pv 14) pa_nil)) pe_int (nomark _)) (pss_cons (ps_expr (pe_bm PySem.F.plainAttrs_list PySem.F.slot_list_append PySem.F.type_list_append mt_append (pv 3) (pa_cons (pe_tup (pa_cons (pe_op op_sub (pv 4) pe_int) (pa_cons pe_non pa_nil))) pa_nil)))
      (pss_one (ps_ret (pe_lst pa_nil)))) pss_nil)
      (pss_cons (ps_for PassesOwn.never rfl (pi_row (pe_cal gB hr pass0 (pa_cons (pe_ix ix_list (pv 14) pe_int (fun _ _ => rfl)) (pa_cons (pv 1) (pa_cons (pe_tup (pa_cons (pv 4) (pa_cons (pv 5) (pa_cons (pe_lst pa_nil) (pa_cons (pv 7) pa_nil))))) (pa_cons (pv 3) pa_nil)))))) (pg_name (i := 13) scRunK.nd rfl (.inl rfl))
        (pss_one (ps_expr (pe_bm PySem.F.plainAttrs_list PySem.F.slot_list_append PySem.F.type_list_append mt_append (pv 8) (pa_cons (pe_tup (pa_cons (pe_ix ix_tup (pv 13) pe_int (fun _ _ => rfl)) (pa_cons (pe_ix ix_tup (pv 13) pe_int (fun _ _ => rfl)) (pa_cons (pe_op op_cat (pv 6) (pe_lst (pa_cons (pe_tup (pa_cons (pe_ix ix_tup (pv 0) pe_int (fun _ _ => rfl)) (pa_cons (pe_ix ix_tup (pv 13) pe_int (fun _ _ => rfl)) pa_nil))) pa_nil))) (pa_cons (pv 7) pa_nil))))) pa_nil)))))
      (pss_one (ps_ret (pv 8)))))))))), ?_⟩
    obtain ⟨t, pp, vv, kk, vs, ks, rfl, ht, hpp, hvv, pvs, hkk, pks⟩ := hpt
    refine ⟨_, rfl, t, _, rfl, SqT.of (sG _ _ ht), rfl, _, _, rfl, _, _, rfl, _, _, rfl, _, _, rfl, rfl, ?_⟩
    refine ⟨(by show 0 ≤ sizeLine; decide), fun fo hfo => ?_⟩
    have hs0 : H st ≠ none := by rw [hs]; exact fun z => by cases z
    have nfo : fo ≠ st := fun e => hs0 (by rw [← e]; exact hfo)
    have gfo : G fo = none := sG.free hfo
    have w0 : Wd G H st G (upd H fo (.lst [])) := (Wd.start sG gs).wr gfo (.inl hfo)
    have hs1 : (upd H fo (.lst [])) st = some (.lst sts) := same_new hfo _ _ _ hs
    have hf1 : (upd H fo (.lst [])) fo = some (.lst []) := upd_same
    generalize upd H fo (.lst []) = H1 at w0 hs1 hf1 ⊢
    refine g_nx ?_
    have ptc : PtC fl c ⟨p.at0, p.path, ([] : List (Str × SV)), p.known⟩ := ⟨pc.1, pc.2.1, pc.2.2.1, Nat.zero_le _, pc.2.2.2.2⟩
    have fin : ∀ r ps nst G' H', Wd G H st G' H' → G' r = some (.lst ps) → Paired (PtAt VlAt G') ps (stepI fl x p).1 → H' st = some (.lst (sts ++ nst)) → Paired (SpAt G') nst (stepI fl x p).2 → Q (.ref r) H' := fun r ps nst G' H' w a b c d => q r ps nst G' H' w.gg w.gh w.nu w.bt a b c d
    -- a block within
    have rb : ∀ (G2 H2 : Hp) (sts2 : List V) (bk : List Sm) (u : V) (tp : Addr) (p0 : Pt SV) (R : VK), Wd G H st G2 H2 → H2 st = some (.lst sts2) → sts2.length ≤ 65000 → BkAt G u bk → (∀ y ∈ bk, y.okW) → bk.length ≤ 4 → PtAt VlAt G2 (.ref tp) (liftP p0) → PtC fl (c + 1) p0 →
        (∀ r ps nst G' H', Same G2 G' → Wd G H st G' H' → (∀ D, G2 D = none → H2 D ≠ none → D ≠ st → G' D = none ∧ ∀ o, H2 D = some o → H' D = some o) → G' r = some (.lst ps) → Paired (PtAt VlAt G') ps ((runS fl bk p0).1.map liftP) → H' st = some (.lst (sts2 ++ nst)) → Paired (SpAt G') nst (runS fl bk p0).2 → R (.ref r) H') → spRunB 0 [u, .ref pf, .ref tp, .ref st] H2 R E0 := fun G2 H2 sts2 bk u tp p0 R w hs2 sl2 hbk bw b4 hp0 pc0 g => by
      obtain ⟨pu, xu, rfl, hpu, itu⟩ := bk_its hbk
      have hs2' : H2 st ≠ none := by rw [hs2]; exact fun z => by cases z
      refine ⟨pu, .ref tp, pf, st, G2, xu, bk.map .sm, fl, liftP p0, sts2, c + 1, rfl, w.gg _ _ hpu, itu.tk (sTk w.gg), (fun y hy => by obtain ⟨z, hz, rfl⟩ := List.mem_map.mp hy; exact ⟨bw z hz, trivial, fun _ => trivial⟩), by rw [List.length_map]; exact b4, w.gg _ _ hf, byf, fll, hp0, ⟨pc0.1, pc0.2.1, pc0.2.2.1, (by show (p0.vals.map liftE).length ≤ c + 1; rw [List.length_map]; exact pc0.2.2.2.1), pc0.2.2.2.2⟩, by omega, w.gh, w.gs, hs2, by omega, fun r ps nst G' H' g1 g2 nu bt hr pp hs3 psp => ?_⟩
      rw [runI_block] at pp psp
      exact g r ps nst G' H' g1 (w.call hs2' g1 g2 nu bt) (fun D h1 h2 h3 => ⟨nu D h1 h2, fun o e => bt D o h3 e⟩) hr pp hs3 psp
    cases x with
    | sm y => exact (xf trivial).elim
    | rep n a b =>
      obtain ⟨pi, u, rfl, hpi, hbk⟩ := hx
      have hT : ∀ {Hx : Hp}, Same H1 Hx → SqT K Hx pi _ := fun s => SqT.of (s _ _ (w0.gh _ _ hpi))
      refine ⟨_, rfl, pi, _, 0, _, rfl, rfl, hT (Same.refl _), atI_nat (j := 0) rfl, rfl, _, rfl, ifT rfl ?_⟩
      have w1 := w0
      have hst1 := hs1
      have hfo1 := hf1
      have gfo1 := gfo
      refine ⟨_, rfl, _, rfl, (by show 0 ≤ sizeLine; decide), fun l0 h0 => ?_⟩
      obtain ⟨G2, w2, g2, k2, n2⟩ := w1.alloc (o := .lst []) h0 (by rw [hst1]; exact fun z => by cases z)
      have hst2 := same_new h0 (.lst []) _ _ hst1
      have hfo2 := same_new h0 (.lst []) _ _ hfo1
      have gfo2 := n2 _ gfo1 (by rw [hfo1]; exact fun z => by cases z)
      generalize upd H1 l0 (.lst []) = H2 at w2 hst2 hfo2 ⊢
      refine ⟨(by show 3 ≤ sizeLine; decide), fun q1 h1 => ?_⟩
      obtain ⟨G3, w3, g3, k3, n3⟩ := w2.alloc (o := .tup [.int (p.at0 : Int), .ref pp, .ref l0]) h1 (by rw [hst2]; exact fun z => by cases z)
      have hst3 := same_new h1 (.tup [.int (p.at0 : Int), .ref pp, .ref l0]) _ _ hst2
      have hfo3 := same_new h1 (.tup [.int (p.at0 : Int), .ref pp, .ref l0]) _ _ hfo2
      have gfo3 := n3 _ gfo2 (by rw [hfo2]; exact fun z => by cases z)
      generalize upd H2 q1 (.tup [.int (p.at0 : Int), .ref pp, .ref l0]) = H3 at w3 hst3 hfo3 ⊢
      refine ⟨(by show 1 ≤ sizeLine; decide), fun rw0 h2 => ?_⟩
      obtain ⟨G4, w4, g4, k4, n4⟩ := w3.alloc (o := .lst [.ref q1]) h2 (by rw [hst3]; exact fun z => by cases z)
      have hst4 := same_new h2 (.lst [.ref q1]) _ _ hst3
      have hfo4 := same_new h2 (.lst [.ref q1]) _ _ hfo3
      have gfo4 := n4 _ gfo3 (by rw [hfo3]; exact fun z => by cases z)
      generalize upd H3 rw0 (.lst [.ref q1]) = H4 at w4 hst4 hfo4 ⊢
      have fb : 0 ≤ findK p.known a ∧ findK p.known a ≤ 65535 := by
        cases a with
        | inl i => exact xw.1 i rfl
        | inr z => exact findK_mem p.known z (fun i => 0 ≤ i ∧ i ≤ 65535) ⟨by decide, by decide⟩ fun q hq _ => pc.2.1 q hq
      refine ⟨_, rfl, _, rfl, pi, _, 2, _, rfl, rfl, SqT.of (w4.gh _ _ (w4.gg _ _ hpi)), atI_nat (j := 2) rfl, kk, ks, p.known, a, rfl, w4.gh _ _ (w4.gg _ _ hkk), L2.Paired.mapP pks fun _ _ z => z.tk (sTk (w4.gg.trans w4.gh)), ?_⟩
      refine ⟨_, rfl, by omega, by omega, for_range (lo := 0) (n := (findK p.known a).toNat) (fun k σ H' => ∃ (rwa : Addr) (k10 k11 k12 k13 : Option V), σ = [some (.ref pi), some (.ref pf), some (.ref t), some (.ref st), some (.int (p.at0 : Int)), some (.ref pp), some (.ref vv), some (.ref kk), some (.ref fo), some (.ref rwa), k10, k11, k12, k13, none, none] ∧ ∃ G' rs ns, Wd G H st G' H' ∧ G' rwa = some (.lst rs) ∧ Paired (RwAt G') rs (rounds fl b p.known k [(p.at0, p.path, [])]).1 ∧ H' st = some (.lst (sts ++ ns)) ∧ Paired (SpAt G') ns (rounds fl b p.known k [(p.at0, p.path, [])]).2)
        ⟨rw0, _, _, _, _, rfl, G4, [.ref q1], [], w4, k4, .cons ⟨q1, pp, l0, [], rfl, g4 _ _ k3, w4.gg _ _ hpp, (g3.trans g4) _ _ k2, .nil⟩ .nil, by rw [List.append_nil]; exact hst4, .nil⟩ ?_ ?_⟩
      · rintro k σ H2 hk ⟨rwa, k10, k11, k12, k13, rfl, G2, rs, ns, w2, hrwa, prs, hst2, pns⟩
        rw [Int.zero_add]
        have rlen := rounds_len fl b p.known k [(p.at0, p.path, [])]
        have e1 := plen prs
        have e2 := plen pns
        have rc : ∀ r ∈ (rounds fl b p.known k [(p.at0, p.path, [])]).1, (r.1 ≤ fl.length ∧ r.2.1 = p.path) ∧ r.2.2.length = 0 + k := fun r hr => ⟨roundsc xw.2 pc.2.1 (fun q hq => by rw [List.mem_singleton.mp hq]; exact ⟨pc.1, rfl⟩) hr, rounds_rds (fun q hq => by rw [List.mem_singleton.mp hq]; rfl) hr⟩
        rw [rounds_snoc]
        generalize rounds fl b p.known k [(p.at0, p.path, [])] = RR at prs pns rlen e1 e2 rc ⊢
        obtain ⟨R1, S1⟩ := RR
        dsimp only [List.length_cons, List.length_nil] at prs pns rlen e1 e2 rc ⊢
        refine ⟨(by show 0 ≤ sizeLine; decide), fun lo hlo' => ?_⟩
        have hst2' : H2 st ≠ none := by rw [hst2]; exact fun z => by cases z
        obtain ⟨hlo, nlo⟩ := w2.free hlo' hst2'
        have glo := w2.gh.free hlo'
        have w3 := w2.wr (o := .lst []) glo (.inl hlo)
        have hst3 := same_new hlo' (.lst []) _ _ hst2
        have hlo3 := upd_same (H := H2) (a := lo) (o := .lst [])
        generalize upd H2 lo (.lst []) = H3 at w3 hst3 hlo3 ⊢
        refine ⟨_, rfl, rwa, rfl, ?_⟩
        refine row_l2 (H0 := G2) hrwa w3.gh fun J wk => ?_
        refine for_it wk (fun j σ H' => ∃ k12 k13 : Option V, σ = [some (.ref pi), some (.ref pf), some (.ref t), some (.ref st), some (.int (p.at0 : Int)), some (.ref pp), some (.ref vv), some (.ref kk), some (.ref fo), some (.ref rwa), some (.int (k : Int)), some (.ref lo), k12, k13, none, none] ∧ ∃ G' acc ns2, Same G2 G' ∧ Wd G H st G' H' ∧ G' lo = none ∧ H' lo = some (.lst acc) ∧ Paired (RwAt G') acc ((R1.take j).flatMap fun r => (rowStep fl b p.known r).1) ∧ H' st = some (.lst (sts ++ (ns ++ ns2))) ∧ Paired (SpAt G') ns2 ((R1.take j).flatMap fun r => (rowStep fl b p.known r).2))
          ⟨k12, k13, rfl, G2, [], [], Same.refl _, w3, glo, hlo3, .nil, by rw [List.append_nil]; exact hst3, .nil⟩ (fun _ _ _ _ h => by obtain ⟨_, _, _, _, _, _, z1, z2, _⟩ := h; exact z1.trans z2.gh) ?_ ?_
        · rintro j v σ H4' H4 hj ⟨k12, k13, rfl, G4, acc4, ns2, g24, w4, gfo4, hfo4, pacc4, hst4, pns2⟩ ⟨e3, hv⟩
          subst e3
          obtain ⟨r0, gr0, hr0⟩ := pget prs hv
          obtain ⟨ra, rpp, rcc, rcs, rfl, hra, hrpp, hrcc, prc⟩ := mon_rw _ _ _ _ g24 hr0
          have r0c := rc r0 (List.mem_of_getElem? gr0)
          have tk1 : ∀ {γ : Type} (g : Rw → List γ), (R1.take (j + 1)).flatMap g = (R1.take j).flatMap g ++ g r0 := fun g => by rw [List.take_add_one, gr0, List.flatMap_append]; simp
          rw [tk1 fun r => (rowStep fl b p.known r).1, tk1 fun r => (rowStep fl b p.known r).2]
          have b1 := flatMap_len (fun r => (rowStep fl b p.known r).1) 1 (R1.take j) fun r _ => by have := rowStep_len fl b p.known r; omega
          have b2 := flatMap_len (fun r => (rowStep fl b p.known r).2) 1 (R1.take j) fun r _ => by have := rowStep_len fl b p.known r; omega
          rw [List.length_take] at b1 b2
          have e4 := plen pacc4
          have e5 := plen pns2
          generalize (R1.take j).flatMap (fun r => (rowStep fl b p.known r).1) = A0 at pacc4 b1 e4 ⊢
          generalize (R1.take j).flatMap (fun r => (rowStep fl b p.known r).2) = B0 at pns2 b2 e5 ⊢
          refine ⟨_, rfl, pi, _, 3, _, rfl, rfl, SqT.of (w4.gh _ _ (w4.gg _ _ hpi)), atI_nat (j := 3) rfl, _, rfl, _, rfl, ra, _, 0, _, rfl, rfl, SqT.of (w4.gh _ _ hra), atI_nat (j := 0) rfl, _, rfl, ra, _, 1, _, rfl, rfl, SqT.of (w4.gh _ _ hra), atI_nat (j := 1) rfl, (by show 0 ≤ sizeLine; decide), fun l0 h0 => ?_⟩
          obtain ⟨G4b, w4b, g4b, k4b, n4b⟩ := w4.alloc (o := .lst []) h0 (by rw [hst4]; exact fun z => by cases z)
          have hst4b := same_new h0 (.lst []) _ _ hst4
          have hfo4b := same_new h0 (.lst []) _ _ hfo4
          have gfo4b := n4b _ gfo4 (by rw [hfo4]; exact fun z => by cases z)
          generalize upd H4 l0 (.lst []) = H4b at w4b hst4b hfo4b ⊢
          refine ⟨_, rfl, (by show 4 ≤ sizeLine; decide), fun tp h1 => ?_⟩
          obtain ⟨G4c, w4c, g4c, k4c, n4c⟩ := w4b.alloc (o := .tup [.int (r0.1 : Int), .ref rpp, .ref l0, .ref kk]) h1 (by rw [hst4b]; exact fun z => by cases z)
          have hst4c := same_new h1 (.tup [.int (r0.1 : Int), .ref rpp, .ref l0, .ref kk]) _ _ hst4b
          have hfo4c := same_new h1 (.tup [.int (r0.1 : Int), .ref rpp, .ref l0, .ref kk]) _ _ hfo4b
          have gfo4c := n4c _ gfo4b (by rw [hfo4b]; exact fun z => by cases z)
          generalize upd H4b tp (.tup [.int (r0.1 : Int), .ref rpp, .ref l0, .ref kk]) = H4c at w4c hst4c hfo4c ⊢
          refine ⟨_, rfl, ?_⟩
          refine nilGo ?_
          refine rb G4c H4c (sts ++ (ns ++ ns2)) b u tp ⟨r0.1, r0.2.1, [], p.known⟩ _ w4c hst4c (by simp only [List.length_append]; omega) hbk xw.2 xr ⟨tp, rpp, l0, kk, [], ks, rfl, k4c, (g4b.trans g4c) _ _ hrpp, g4c _ _ k4b, .nil, w4c.gg _ _ hkk, L2.Paired.mapP pks fun _ _ z => z.tk (sTk w4c.gg)⟩ (PtC.mono (c := c) ⟨r0c.1.1, pc.2.1, pc.2.2.1, Nat.zero_le _, (by show r0.2.1.length ≤ _; rw [r0c.1.2]; exact pc.2.2.2.2)⟩ (Nat.le_succ c)) fun r ps nst G5 H5 g45 w5 own5 hr5 pp5 hst5 psp5 => ?_
          obtain ⟨gfo5, ho5⟩ := own5 lo gfo4c (by rw [hfo4c]; exact fun z => by cases z) nlo
          have hfo5 := ho5 _ hfo4c
          rw [List.append_assoc, List.append_assoc] at hst5
          have g25 := g4b.trans (g4c.trans g45)
          have pacc5 : Paired (RwAt G5) acc4 A0 := L2.Paired.mapP pacc4 fun _ _ z => mon_rw _ _ _ _ g25 z
          have hra := g25 _ _ hra
          have hrcc := g25 _ _ hrcc
          have prc := L2.Paired.mapP prc fun _ _ z => mon_ct mon_sv _ _ _ _ g25 z
          refine ⟨_, rfl, row_l2 (H0 := G5) hr5 w5.gh fun J5 wk5 => ?_⟩
          refine for_it wk5 (fun j σ H' => ∃ i13 : Option V, σ = [some (.ref pi), some (.ref pf), some (.ref t), some (.ref st), some (.int (p.at0 : Int)), some (.ref pp), some (.ref vv), some (.ref kk), some (.ref fo), some (.ref rwa), some (.int (k : Int)), some (.ref lo), some (.ref ra), i13, none, none] ∧ ∃ G6 acc6, Same G5 G6 ∧ Wd G H st G6 H' ∧ G6 lo = none ∧ H' lo = some (.lst acc6) ∧ Paired (RwAt G6) acc6 (A0 ++ (((runS fl b ⟨r0.1, r0.2.1, [], p.known⟩).1.take j).map fun t => ((t.at0, t.path, r0.2.2 ++ [t.vals]) : Rw))) ∧ H' st = some (.lst (sts ++ (ns ++ (ns2 ++ nst)))))
            ⟨_, rfl, G5, _, Same.refl _, w5, gfo5, hfo5, by rw [List.take_zero, List.map_nil, List.append_nil]; exact pacc5, hst5⟩ (fun _ _ _ _ h => by obtain ⟨_, _, _, _, z1, z2, _⟩ := h; exact z1.trans z2.gh) ?_ ?_
          · rintro j vt σ H6' H6 hj ⟨i13, rfl, G6, acc6, g56, w6, gfo6, hfo6, pacc6, hst6⟩ ⟨e3, hvt⟩
            subst e3
            obtain ⟨t5, gt5, ht5⟩ := map_pget pp5 hvt
            obtain ⟨ta, tpp, tvv, tkk, tvs, rfl, h51, h52, h53, h54⟩ := lift_at (mon_pt mon_vl _ _ _ _ g56 ht5)
            have hTt : ∀ {Hx}, Same G6 Hx → SqT K Hx ta _ := fun s => SqT.of (s _ _ h51)
            have acl := plen pacc6
            have tl5 := runS_len fl b ⟨r0.1, r0.2.1, [], p.known⟩
            have accl : acc6.length ≤ 100 := by rw [acl, List.length_append, List.length_map, List.length_take]; omega
            have hra6 := g56 _ _ hra
            have hrcc6 := g56 _ _ hrcc
            refine ⟨_, rfl, .inl ⟨rfl, _, SqL.of hfo6⟩, _, rfl, ta, _, 0, _, rfl, rfl, hTt w6.gh, atI_nat (j := 0) rfl, _, rfl, ta, _, 1, _, rfl, rfl, hTt w6.gh, atI_nat (j := 1) rfl, _, rfl, ra, _, 2, _, rfl, rfl, SqT.of (w6.gh _ _ hra6), atI_nat (j := 2) rfl, _, rfl, ta, _, 2, _, rfl, rfl, hTt w6.gh, atI_nat (j := 2) rfl, ?_⟩
            refine ⟨(by show 1 ≤ sizeLine; decide), fun l1 h8 => ?_⟩
            obtain ⟨G8, w8, g8, k8, n8⟩ := w6.alloc (o := .lst [.ref tvv]) h8 (by rw [hst6]; exact fun z => by cases z)
            have hst8 := same_new h8 (.lst [.ref tvv]) _ _ hst6
            have hfo8 := same_new h8 (.lst [.ref tvv]) _ _ hfo6
            have gfo8 := n8 _ gfo6 (by rw [hfo6]; exact fun z => by cases z)
            generalize upd H6 l1 (.lst [.ref tvv]) = H8 at w8 hst8 hfo8 ⊢
            refine ⟨rcc, l1, rcs, [.ref tvv], rfl, rfl, w8.gh _ _ (g8 _ _ hrcc6), w8.gh _ _ k8, le_line (by rw [plen prc]; simp only [List.length_cons, List.length_nil]; omega), fun v2 h9 => ?_⟩
            obtain ⟨G9, w9, g9, k9, n9⟩ := w8.alloc (o := .lst (rcs ++ [.ref tvv])) h9 (by rw [hst8]; exact fun z => by cases z)
            have hst9 := same_new h9 (.lst (rcs ++ [.ref tvv])) _ _ hst8
            have hfo9 := same_new h9 (.lst (rcs ++ [.ref tvv])) _ _ hfo8
            have gfo9 := n9 _ gfo8 (by rw [hfo8]; exact fun z => by cases z)
            generalize upd H8 v2 (.lst (rcs ++ [.ref tvv])) = H9 at w9 hst9 hfo9 ⊢
            refine ⟨(by show 3 ≤ sizeLine; decide), fun tp h10 => ?_⟩
            obtain ⟨G10, w10, g10, k10, n10⟩ := w9.alloc (o := .tup [.int (t5.at0 : Int), .ref tpp, .ref v2]) h10 (by rw [hst9]; exact fun z => by cases z)
            have hst10 := same_new h10 (.tup [.int (t5.at0 : Int), .ref tpp, .ref v2]) _ _ hst9
            have hfo10 := same_new h10 (.tup [.int (t5.at0 : Int), .ref tpp, .ref v2]) _ _ hfo9
            have gfo10 := n10 _ gfo9 (by rw [hfo9]; exact fun z => by cases z)
            generalize upd H9 tp (.tup [.int (t5.at0 : Int), .ref tpp, .ref v2]) = H10 at w10 hst10 hfo10 ⊢
            refine ⟨lo, acc6, _, rfl, rfl, hfo10, lt_line (by omega), ?_⟩
            have gT := (g8.trans (g9.trans g10))
            refine ⟨_, rfl, G10, acc6 ++ [.ref tp], g56.trans gT, w10.wr gfo10 (.inl hlo), gfo10, upd_same, ?_, by rw [upd_ne nlo.symm]; exact hst10⟩
            rw [List.take_add_one, gt5]
            simp only [Option.toList, List.map_append, List.map_cons, List.map_nil]
            rw [← List.append_assoc]
            refine papp (L2.Paired.mapP pacc6 fun _ _ z => mon_rw _ _ _ _ gT z) (.cons ⟨tp, tpp, v2, rcs ++ [.ref tvv], rfl, k10, gT _ _ h52, g10 _ _ k9, ?_⟩ .nil)
            refine papp (L2.Paired.mapP prc fun _ _ z => mon_ct mon_sv _ _ _ _ (g56.trans gT) z) (.cons ⟨tvv, tvs, rfl, gT _ _ h53, L2.Paired.mapP h54 fun _ _ z => mon_en mon_sv _ _ _ _ gT z⟩ .nil)
          · rintro σ H6 ⟨i13, rfl, G6, acc6, g56, w6, gfo6, hfo6, pacc6, hst6⟩
            rw [plen pp5, List.length_map, List.take_length] at pacc6
            refine ⟨_, _, rfl, G6, acc6, ns2 ++ nst, g24.trans (g25.trans g56), w6, gfo6, hfo6, pacc6, hst6, ?_⟩
            exact papp (L2.Paired.mapP pns2 fun _ _ z => mon_sp _ _ _ _ (g25.trans g56) z) (L2.Paired.mapP psp5 fun _ _ z => mon_sp _ _ _ _ g56 z)
        · rintro σ H4 ⟨k12, k13, rfl, G4, acc4, ns2, g24, w4, gfo4, hfo4, pacc4, hst4, pns2⟩
          rw [e1, List.take_length] at pacc4 pns2
          have gT : Same G4 (upd G4 lo (.lst acc4)) := fun b o e => by rw [upd_ne (ne_of_none e gfo4)]; exact e
          refine ⟨_, rfl, ?_⟩
          exact ⟨lo, _, _, _, _, rfl, _, acc4, ns ++ ns2, w4.take gfo4 hlo nlo hfo4, upd_same, L2.Paired.mapP pacc4 fun _ _ z => mon_rw _ _ _ _ gT z, hst4, papp (L2.Paired.mapP pns fun _ _ z => mon_sp _ _ _ _ (g24.trans gT) z) (L2.Paired.mapP pns2 fun _ _ z => mon_sp _ _ _ _ gT z)⟩
      · rintro σ H2 ⟨rwa, k10, k11, k12, k13, rfl, G2, rs, ns, w2, hrwa, prs, hst2, pns⟩
        have rlen := rounds_len fl b p.known (findK p.known a).toNat [(p.at0, p.path, [])]
        have e1 := plen prs
        have es : stepI fl (.rep n a b) p = ((rounds fl b p.known (findK p.known a).toNat [(p.at0, p.path, [])]).1.map (fun r => (⟨r.1, r.2.1, p.vals ++ [(n, .rds r.2.2)], p.known⟩ : Pt Vl)), (rounds fl b p.known (findK p.known a).toNat [(p.at0, p.path, [])]).2) := rfl
        rw [es] at fin
        generalize rounds fl b p.known (findK p.known a).toNat [(p.at0, p.path, [])] = RR at prs pns rlen e1 fin
        obtain ⟨R1, S1⟩ := RR
        dsimp only [List.length_cons, List.length_nil] at prs pns rlen e1 fin
        refine ⟨_, rfl, rwa, rfl, ?_⟩
        refine row_l2 (H0 := G2) hrwa w2.gh fun J wk => ?_
        intro D hD'
        obtain ⟨hD, nD⟩ := w2.free hD' (by rw [hst2]; exact fun z => by cases z)
        have gD := w2.gh.free hD'
        refine lc_it wk (fun j H' => ∃ G' acc, Same G2 G' ∧ Wd G H st G' H' ∧ G' D = none ∧ H' D = some (.lst acc) ∧ Paired (PtAt VlAt G') acc ((R1.take j).map fun r => (⟨r.1, r.2.1, p.vals ++ [(n, .rds r.2.2)], p.known⟩ : Pt Vl)) ∧ H' st = some (.lst (sts ++ ns)))
          ⟨G2, [], Same.refl _, w2.wr gD (.inl hD), gD, upd_same, .nil, by rw [upd_ne nD.symm]; exact hst2⟩ (fun _ _ _ h => by obtain ⟨_, _, z1, z2, _⟩ := h; exact z1.trans z2.gh) ?_ ?_
        · rintro j v H6' H6 hj ⟨G6, acc6, g26, w6, gfo6, hfo6, pacc6, hst6⟩ ⟨e3, hv⟩
          subst e3
          obtain ⟨r0, gr0, hr0⟩ := pget prs hv
          obtain ⟨ra, rpp, rcc, rcs, rfl, hra, hrpp, hrcc, prc⟩ := mon_rw _ _ _ _ g26 hr0
          have acl := plen pacc6
          rw [List.length_map, List.length_take] at acl
          have hA := SqT.of (K := K) (w6.gh _ _ hra)
          refine ⟨rfl, ?_⟩
          refine ⟨_, rfl, ra, _, 0, _, rfl, rfl, hA, atI_nat (j := 0) rfl, _, rfl, ra, _, 1, _, rfl, rfl, hA, atI_nat (j := 1) rfl, _, rfl, _, rfl, pi, _, 1, _, rfl, rfl, SqT.of (w6.gh _ _ (w6.gg _ _ hpi)), atI_nat (j := 1) rfl, _, rfl, ra, _, 2, _, rfl, rfl, hA, atI_nat (j := 2) rfl, ?_⟩
          refine ⟨(by show 2 ≤ sizeLine; decide), fun t1 h7 => ?_⟩
          obtain ⟨G7, w7, g7, k7, n7⟩ := w6.alloc (o := .tup [.str n, .ref rcc]) h7 (by rw [hst6]; exact fun z => by cases z)
          have hst7 := same_new h7 (.tup [.str n, .ref rcc]) _ _ hst6
          have hfo7 := same_new h7 (.tup [.str n, .ref rcc]) _ _ hfo6
          have gfo7 := n7 _ gfo6 (by rw [hfo6]; exact fun z => by cases z)
          generalize upd H6 t1 (.tup [.str n, .ref rcc]) = H7 at w7 hst7 hfo7 ⊢
          refine ⟨(by show 1 ≤ sizeLine; decide), fun l1 h8 => ?_⟩
          obtain ⟨G8, w8, g8, k8, n8⟩ := w7.alloc (o := .lst [.ref t1]) h8 (by rw [hst7]; exact fun z => by cases z)
          have hst8 := same_new h8 (.lst [.ref t1]) _ _ hst7
          have hfo8 := same_new h8 (.lst [.ref t1]) _ _ hfo7
          have gfo8 := n8 _ gfo7 (by rw [hfo7]; exact fun z => by cases z)
          generalize upd H7 l1 (.lst [.ref t1]) = H8 at w8 hst8 hfo8 ⊢
          refine ⟨vv, l1, vs, [.ref t1], rfl, rfl, w8.gh _ _ (w8.gg _ _ hvv), w8.gh _ _ k8, le_line (by rw [plen pvs]; have := pc.2.2.2.1; simp only [List.length_cons, List.length_nil]; omega), fun v2 h9 => ?_⟩
          obtain ⟨G9, w9, g9, k9, n9⟩ := w8.alloc (o := .lst (vs ++ [.ref t1])) h9 (by rw [hst8]; exact fun z => by cases z)
          have hst9 := same_new h9 (.lst (vs ++ [.ref t1])) _ _ hst8
          have hfo9 := same_new h9 (.lst (vs ++ [.ref t1])) _ _ hfo8
          have gfo9 := n9 _ gfo8 (by rw [hfo8]; exact fun z => by cases z)
          generalize upd H8 v2 (.lst (vs ++ [.ref t1])) = H9 at w9 hst9 hfo9 ⊢
          refine ⟨_, rfl, (by show 4 ≤ sizeLine; decide), fun tp h10 => ?_⟩
          obtain ⟨G10, w10, g10, k10, n10⟩ := w9.alloc (o := .tup [.int (r0.1 : Int), .ref rpp, .ref v2, .ref kk]) h10 (by rw [hst9]; exact fun z => by cases z)
          have hst10 := same_new h10 (.tup [.int (r0.1 : Int), .ref rpp, .ref v2, .ref kk]) _ _ hst9
          have hfo10 := same_new h10 (.tup [.int (r0.1 : Int), .ref rpp, .ref v2, .ref kk]) _ _ hfo9
          have gfo10 := n10 _ gfo9 (by rw [hfo9]; exact fun z => by cases z)
          generalize upd H9 tp (.tup [.int (r0.1 : Int), .ref rpp, .ref v2, .ref kk]) = H10 at w10 hst10 hfo10 ⊢
          have gT := (g7.trans (g8.trans (g9.trans g10)))
          refine ⟨acc6, hfo10, lt_line (by omega), G10, acc6 ++ [.ref tp], g26.trans gT, w10.wr gfo10 (.inl hD), gfo10, upd_same, ?_, by rw [upd_ne nD.symm]; exact hst10⟩
          rw [List.take_add_one, gr0]
          simp only [Option.toList, List.map_append, List.map_cons, List.map_nil]
          refine papp (L2.Paired.mapP pacc6 fun _ _ z => mon_pt mon_vl _ _ _ _ gT z) (.cons ⟨tp, rpp, v2, kk, vs ++ [.ref t1], ks, rfl, k10, gT _ _ hrpp, g10 _ _ k9, ?_, w10.gg _ _ hkk, L2.Paired.mapP pks fun _ _ z => z.tk (sTk w10.gg)⟩ .nil)
          refine papp (L2.Paired.mapP pvs fun _ _ z => mon_en mon_vl _ _ _ _ w10.gg z) (.cons ⟨t1, _, rfl, (g8.trans (g9.trans g10)) _ _ k7, rcc, rcs, rfl, gT _ _ hrcc, L2.Paired.mapP prc fun _ _ z => mon_ct mon_sv _ _ _ _ gT z⟩ .nil)
        · rintro H6 ⟨G6, acc6, g26, w6, gfo6, hfo6, pacc6, hst6⟩
          rw [e1, List.take_length] at pacc6
          have gT : Same G6 (upd G6 D (.lst acc6)) := fun b o e => by rw [upd_ne (ne_of_none e gfo6)]; exact e
          exact fin D acc6 ns _ H6 (w6.take gfo6 hD nD hfo6) upd_same (L2.Paired.mapP pacc6 fun _ _ z => mon_pt mon_vl _ _ _ _ gT z) hst6 (L2.Paired.mapP pns fun _ _ z => mon_sp _ _ _ _ (g26.trans gT) z)
    | eit n bs =>
      obtain ⟨pi, pq, xb, rfl, hpi, hpq, pbs⟩ := hx
      have hT : ∀ {Hx : Hp}, Same H1 Hx → SqT K Hx pi _ := fun s => SqT.of (s _ _ (w0.gh _ _ hpi))
      refine ⟨_, rfl, pi, _, 0, _, rfl, rfl, hT (Same.refl _), atI_nat (j := 0) rfl, rfl, _, rfl, ifN (by decide +kernel) ?_⟩
      refine ⟨_, rfl, pi, _, 0, _, rfl, rfl, hT (Same.refl _), atI_nat (j := 0) rfl, rfl, _, rfl, ifT rfl ?_⟩
      have lb := plen pbs
      have b3 := xr.1
      refine ⟨_, rfl, pi, _, 2, _, rfl, rfl, hT (Same.refl _), atI_nat (j := 2) rfl, _, _, rfl, .inr ⟨_, SqT.of (w0.gh _ _ hpq), rfl⟩, (bs.length : Int), by rw [lb], by omega, by omega, for_range (lo := 0) (n := bs.length) (fun k σ H' => ∃ k10 k13 : Option V, σ = [some (.ref pi), some (.ref pf), some (.ref t), some (.ref st), some (.int (p.at0 : Int)), some (.ref pp), some (.ref vv), some (.ref kk), some (.ref fo), none, k10, none, none, k13, none, none] ∧ ∃ G' acc ns, Wd G H st G' H' ∧ G' fo = none ∧ H' fo = some (.lst acc) ∧ Paired (PtAt VlAt G') acc (eitGo fl n p 0 (bs.take k)).1 ∧ H' st = some (.lst (sts ++ ns)) ∧ Paired (SpAt G') ns (eitGo fl n p 0 (bs.take k)).2)
        ⟨_, _, rfl, G, [], [], w0, gfo, hf1, .nil, by rw [List.append_nil]; exact hs1, .nil⟩ ?_ ?_⟩
      · rintro k σ H2 hk ⟨k10, k13, rfl, G2, acc2, ns, w2, gfo2, hfo2, pacc2, hst2, pns⟩
        rw [Int.zero_add]
        have lk : (bs.take k).length = k := by rw [List.length_take]; omega
        have elen := eitGo_len fl n p (bs.take k) 0
        rw [lk] at elen
        have e1 := plen pacc2
        have e2 := plen pns
        obtain ⟨b, gb⟩ : ∃ b, bs[k]? = some b := ⟨bs[k], List.getElem?_eq_getElem hk⟩
        have mb := List.mem_of_getElem? gb
        obtain ⟨u, gu⟩ : ∃ u, xb[k]? = some u := ⟨xb[k]'(by omega), List.getElem?_eq_getElem (by omega)⟩
        obtain ⟨b', gb', hbk⟩ := pget pbs gu
        rw [gb] at gb'; cases gb'
        have accb : (eitGo fl n p 0 (bs.take k)).1.length ≤ 10 := by omega
        rw [List.take_add_one, gb, Option.toList, eitGo_snoc, lk, Nat.zero_add]
        generalize (eitGo fl n p 0 (bs.take k)).1 = A0 at pacc2 e1 accb elen ⊢
        generalize (eitGo fl n p 0 (bs.take k)).2 = B0 at pns e2 elen ⊢
        refine ⟨_, rfl, pi, _, 2, _, rfl, rfl, SqT.of (w2.gh _ _ (w2.gg _ _ hpi)), atI_nat (j := 2) rfl, _, rfl, pq, _, (k : Int), u, rfl, rfl, SqT.of (w2.gh _ _ (w2.gg _ _ hpq)), atI_nat (j := k) gu, _, rfl, _, rfl, _, rfl, _, rfl, (by show 1 ≤ sizeLine; decide), fun q1 h0 => ?_⟩
        obtain ⟨G3, w3, g3, k3, n3⟩ := w2.alloc (o := .tup [.int (k : Int)]) h0 (by rw [hst2]; exact fun z => by cases z)
        have hst3 := same_new h0 (.tup [.int (k : Int)]) _ _ hst2
        have hfo3 := same_new h0 (.tup [.int (k : Int)]) _ _ hfo2
        have gfo3 := n3 _ gfo2 (by rw [hfo2]; exact fun z => by cases z)
        generalize upd H2 q1 (.tup [.int (k : Int)]) = H3 at w3 hst3 hfo3 ⊢
        refine catGo (SqT.of (w3.gh _ _ (w3.gg _ _ hpp))) (SqT.of (w3.gh _ _ k3)) (by have := pc.2.2.2.2; simp only [List.length_map, List.length_cons, List.length_nil, sizeLine]; omega) (by simp) fun q2 H3b hq => ?_
        obtain ⟨G3b, w3b, g3b, k3b, hst3b, hfo3b, gfo3b⟩ : ∃ G3b, Wd G H st G3b H3b ∧ Same G3 G3b ∧ G3b q2 = some (.tup ((p.path ++ [(k : Int)]).map V.int)) ∧ H3b st = some (.lst (sts ++ ns)) ∧ H3b fo = some (.lst acc2) ∧ G3b fo = none := by
          rw [List.map_append]
          rcases hq with ⟨rfl, rfl, e⟩ | ⟨hn, rfl⟩
          · exact ⟨G3, w3, Same.refl _, by rw [e]; exact k3, hst3, hfo3, gfo3⟩
          · obtain ⟨G4, w4, g4, k4, n4⟩ := w3.alloc (o := .tup (p.path.map V.int ++ [.int (k : Int)])) hn (by rw [hst3]; exact fun z => by cases z)
            exact ⟨G4, w4, g4, k4, same_new hn _ _ _ hst3, same_new hn _ _ _ hfo3, n4 _ gfo3 (by rw [hfo3]; exact fun z => by cases z)⟩
        refine ⟨(by show 0 ≤ sizeLine; decide), fun l0 h03 => ?_⟩
        obtain ⟨G3c, w3c, g3c, k3c, n3c⟩ := w3b.alloc (o := .lst []) h03 (by rw [hst3b]; exact fun z => by cases z)
        have hst3c := same_new h03 (.lst []) _ _ hst3b
        have hfo3c := same_new h03 (.lst []) _ _ hfo3b
        have gfo3c := n3c _ gfo3b (by rw [hfo3b]; exact fun z => by cases z)
        generalize upd H3b l0 (.lst []) = H3c at w3c hst3c hfo3c ⊢
        refine ⟨_, rfl, (by show 4 ≤ sizeLine; decide), fun tp h1 => ?_⟩
        obtain ⟨G4, w4, g4, k4, n4⟩ := w3c.alloc (o := .tup [.int (p.at0 : Int), .ref q2, .ref l0, .ref kk]) h1 (by rw [hst3c]; exact fun z => by cases z)
        have hst4 := same_new h1 (.tup [.int (p.at0 : Int), .ref q2, .ref l0, .ref kk]) _ _ hst3c
        have hfo4 := same_new h1 (.tup [.int (p.at0 : Int), .ref q2, .ref l0, .ref kk]) _ _ hfo3c
        have gfo4 := n4 _ gfo3c (by rw [hfo3c]; exact fun z => by cases z)
        generalize upd H3c tp (.tup [.int (p.at0 : Int), .ref q2, .ref l0, .ref kk]) = H4 at w4 hst4 hfo4 ⊢
        refine ⟨_, rfl, ?_⟩
        refine nilGo ?_
        refine rb G4 H4 (sts ++ ns) b u tp ⟨p.at0, p.path ++ [(k : Int)], [], p.known⟩ _ w4 hst4 (by rw [List.length_append]; omega) hbk (xw.2 b mb) (xr.2 b mb) ⟨tp, q2, l0, kk, [], ks, rfl, k4, (g3c.trans g4) _ _ k3b, g4 _ _ k3c, .nil, w4.gg _ _ hkk, L2.Paired.mapP pks fun _ _ z => z.tk (sTk w4.gg)⟩ ⟨pc.1, pc.2.1, (by have := pc.2.2.1; show p.known.length ≤ _; omega), Nat.zero_le _, (by have := pc.2.2.2.2; simp only [List.length_append, List.length_singleton]; omega)⟩ fun r ps nst G5 H5 g45 w5 own5 hr5 pp5 hst5 psp5 => ?_
        obtain ⟨gfo5, ho5⟩ := own5 fo gfo4 (by rw [hfo4]; exact fun z => by cases z) nfo
        have hfo5 := ho5 _ hfo4
        rw [List.append_assoc] at hst5
        have g25 := g3.trans (g3b.trans (g3c.trans (g4.trans g45)))
        have pacc5 : Paired (PtAt VlAt G5) acc2 A0 := L2.Paired.mapP pacc2 fun _ _ z => mon_pt mon_vl _ _ _ _ g25 z
        refine ⟨_, rfl, row_l2 (H0 := G5) hr5 w5.gh fun J5 wk5 => ?_⟩
        refine for_it wk5 (fun j σ H' => ∃ i13 : Option V, σ = [some (.ref pi), some (.ref pf), some (.ref t), some (.ref st), some (.int (p.at0 : Int)), some (.ref pp), some (.ref vv), some (.ref kk), some (.ref fo), none, some (.int (k : Int)), none, none, i13, none, none] ∧ ∃ G6 acc6, Same G5 G6 ∧ Wd G H st G6 H' ∧ G6 fo = none ∧ H' fo = some (.lst acc6) ∧ Paired (PtAt VlAt G6) acc6 (A0 ++ (((runS fl b ⟨p.at0, p.path ++ [(k : Int)], [], p.known⟩).1.take j).map fun t => (⟨t.at0, t.path, p.vals ++ [(n, .tak k t.vals)], p.known⟩ : Pt Vl))) ∧ H' st = some (.lst (sts ++ (ns ++ nst))))
          ⟨_, rfl, G5, _, Same.refl _, w5, gfo5, hfo5, by rw [List.take_zero, List.map_nil, List.append_nil]; exact pacc5, hst5⟩ (fun _ _ _ _ h => by obtain ⟨_, _, _, _, z1, z2, _⟩ := h; exact z1.trans z2.gh) ?_ ?_
        · rintro j vt σ H6' H6 hj ⟨i13, rfl, G6, acc6, g56, w6, gfo6, hfo6, pacc6, hst6⟩ ⟨e3, hvt⟩
          subst e3
          obtain ⟨t5, gt5, ht5⟩ := map_pget pp5 hvt
          obtain ⟨ta, tpp, tvv, tkk, tvs, rfl, h51, h52, h53, h54⟩ := lift_at (mon_pt mon_vl _ _ _ _ g56 ht5)
          have hTt : ∀ {Hx}, Same G6 Hx → SqT K Hx ta _ := fun s => SqT.of (s _ _ h51)
          have acl := plen pacc6
          have tl5 := runS_len fl b ⟨p.at0, p.path ++ [(k : Int)], [], p.known⟩
          have accl : acc6.length ≤ 100 := by rw [acl, List.length_append, List.length_map, List.length_take]; omega
          refine ⟨_, rfl, .inl ⟨rfl, _, SqL.of hfo6⟩, _, rfl, ta, _, 0, _, rfl, rfl, hTt w6.gh, atI_nat (j := 0) rfl, _, rfl, ta, _, 1, _, rfl, rfl, hTt w6.gh, atI_nat (j := 1) rfl, _, rfl, _, rfl, pi, _, 1, _, rfl, rfl, SqT.of (w6.gh _ _ (w6.gg _ _ hpi)), atI_nat (j := 1) rfl, _, rfl, _, rfl, ta, _, 2, _, rfl, rfl, hTt w6.gh, atI_nat (j := 2) rfl, ?_⟩
          refine ⟨(by show 2 ≤ sizeLine; decide), fun t0 h6 => ?_⟩
          obtain ⟨G6b, w6b, g6b, k6b, n6b⟩ := w6.alloc (o := .tup [.int (k : Int), .ref tvv]) h6 (by rw [hst6]; exact fun z => by cases z)
          have hst6b := same_new h6 (.tup [.int (k : Int), .ref tvv]) _ _ hst6
          have hfo6b := same_new h6 (.tup [.int (k : Int), .ref tvv]) _ _ hfo6
          have gfo6b := n6b _ gfo6 (by rw [hfo6]; exact fun z => by cases z)
          generalize upd H6 t0 (.tup [.int (k : Int), .ref tvv]) = H6b at w6b hst6b hfo6b ⊢
          refine ⟨(by show 2 ≤ sizeLine; decide), fun t1 h7 => ?_⟩
          obtain ⟨G7, w7, g7, k7, n7⟩ := w6b.alloc (o := .tup [.str n, .ref t0]) h7 (by rw [hst6b]; exact fun z => by cases z)
          have hst7 := same_new h7 (.tup [.str n, .ref t0]) _ _ hst6b
          have hfo7 := same_new h7 (.tup [.str n, .ref t0]) _ _ hfo6b
          have gfo7 := n7 _ gfo6b (by rw [hfo6b]; exact fun z => by cases z)
          generalize upd H6b t1 (.tup [.str n, .ref t0]) = H7 at w7 hst7 hfo7 ⊢
          refine ⟨(by show 1 ≤ sizeLine; decide), fun l1 h8 => ?_⟩
          obtain ⟨G8, w8, g8, k8, n8⟩ := w7.alloc (o := .lst [.ref t1]) h8 (by rw [hst7]; exact fun z => by cases z)
          have hst8 := same_new h8 (.lst [.ref t1]) _ _ hst7
          have hfo8 := same_new h8 (.lst [.ref t1]) _ _ hfo7
          have gfo8 := n8 _ gfo7 (by rw [hfo7]; exact fun z => by cases z)
          generalize upd H7 l1 (.lst [.ref t1]) = H8 at w8 hst8 hfo8 ⊢
          refine ⟨vv, l1, vs, [.ref t1], rfl, rfl, w8.gh _ _ (w8.gg _ _ hvv), w8.gh _ _ k8, le_line (by rw [plen pvs]; have := pc.2.2.2.1; simp only [List.length_cons, List.length_nil]; omega), fun v2 h9 => ?_⟩
          obtain ⟨G9, w9, g9, k9, n9⟩ := w8.alloc (o := .lst (vs ++ [.ref t1])) h9 (by rw [hst8]; exact fun z => by cases z)
          have hst9 := same_new h9 (.lst (vs ++ [.ref t1])) _ _ hst8
          have hfo9 := same_new h9 (.lst (vs ++ [.ref t1])) _ _ hfo8
          have gfo9 := n9 _ gfo8 (by rw [hfo8]; exact fun z => by cases z)
          generalize upd H8 v2 (.lst (vs ++ [.ref t1])) = H9 at w9 hst9 hfo9 ⊢
          refine ⟨_, rfl, (by show 4 ≤ sizeLine; decide), fun tp h10 => ?_⟩
          obtain ⟨G10, w10, g10, k10, n10⟩ := w9.alloc (o := .tup [.int (t5.at0 : Int), .ref tpp, .ref v2, .ref kk]) h10 (by rw [hst9]; exact fun z => by cases z)
          have hst10 := same_new h10 (.tup [.int (t5.at0 : Int), .ref tpp, .ref v2, .ref kk]) _ _ hst9
          have hfo10 := same_new h10 (.tup [.int (t5.at0 : Int), .ref tpp, .ref v2, .ref kk]) _ _ hfo9
          have gfo10 := n10 _ gfo9 (by rw [hfo9]; exact fun z => by cases z)
          generalize upd H9 tp (.tup [.int (t5.at0 : Int), .ref tpp, .ref v2, .ref kk]) = H10 at w10 hst10 hfo10 ⊢
          refine ⟨fo, acc6, _, rfl, rfl, hfo10, lt_line (by omega), ?_⟩
          have gT := (g6b.trans (g7.trans (g8.trans (g9.trans g10))))
          refine ⟨_, rfl, G10, acc6 ++ [.ref tp], g56.trans gT, w10.wr gfo10 (.inl hfo), gfo10, upd_same, ?_, by rw [upd_ne nfo.symm]; exact hst10⟩
          rw [List.take_add_one, gt5]
          simp only [Option.toList, List.map_append, List.map_cons, List.map_nil]
          rw [← List.append_assoc]
          refine papp (L2.Paired.mapP pacc6 fun _ _ z => mon_pt mon_vl _ _ _ _ gT z) (.cons ⟨tp, tpp, v2, kk, vs ++ [.ref t1], ks, rfl, k10, gT _ _ h52, g10 _ _ k9, ?_, w10.gg _ _ hkk, L2.Paired.mapP pks fun _ _ z => z.tk (sTk w10.gg)⟩ .nil)
          refine papp (L2.Paired.mapP pvs fun _ _ z => mon_en mon_vl _ _ _ _ w10.gg z) (.cons ⟨t1, _, rfl, (g8.trans (g9.trans g10)) _ _ k7, ⟨t0, _, rfl, (g7.trans (g8.trans (g9.trans g10))) _ _ k6b, ⟨tvv, tvs, rfl, gT _ _ h53, L2.Paired.mapP h54 fun _ _ z => mon_en mon_sv _ _ _ _ gT z⟩⟩⟩ .nil)
        · rintro σ H6 ⟨i13, rfl, G6, acc6, g56, w6, gfo6, hfo6, pacc6, hst6⟩
          rw [plen pp5, List.length_map, List.take_length] at pacc6
          refine ⟨_, _, rfl, G6, acc6, ns ++ nst, w6, gfo6, hfo6, pacc6, hst6, ?_⟩
          exact papp (L2.Paired.mapP pns fun _ _ z => mon_sp _ _ _ _ (g25.trans g56) z) (L2.Paired.mapP psp5 fun _ _ z => mon_sp _ _ _ _ g56 z)
      · rintro σ H2 ⟨k10, k13, rfl, G2, acc2, ns, w2, gfo2, hfo2, pacc2, hst2, pns⟩
        rw [List.take_length] at pacc2 pns
        have gT : Same G2 (upd G2 fo (.lst acc2)) := fun b o e => by rw [upd_ne (ne_of_none e gfo2)]; exact e
        refine ⟨_, rfl, fin fo acc2 ns _ H2 (w2.take gfo2 hfo nfo hfo2) upd_same ?_ hst2 ?_⟩
        · exact L2.Paired.mapP pacc2 fun _ _ z => mon_pt mon_vl _ _ _ _ gT z
        · exact L2.Paired.mapP pns fun _ _ z => mon_sp _ _ _ _ gT z
    | swi n tg cs =>
      obtain ⟨pi, pcs, xc, rfl, hpi, hpc, pcases⟩ := hx
      have hT : ∀ {Hx : Hp}, Same H1 Hx → SqT K Hx pi _ := fun s => SqT.of (s _ _ (w0.gh _ _ hpi))
      refine ⟨_, rfl, pi, _, 0, _, rfl, rfl, hT (Same.refl _), atI_nat (j := 0) rfl, rfl, _, rfl, ifN (by decide +kernel) ?_⟩
      refine ⟨_, rfl, pi, _, 0, _, rfl, rfl, hT (Same.refl _), atI_nat (j := 0) rfl, rfl, _, rfl, ifN (by decide +kernel) ?_⟩
      refine ⟨_, rfl, pi, _, 3, _, rfl, rfl, hT (Same.refl _), atI_nat (j := 3) rfl, _, rfl, ?_⟩
      refine row_t (w0.gh _ _ hpc) fun J wk => ?_
      intro D hD
      refine lc_it wk (fun i H' => Same H1 H' ∧ ∃ acc, H' D = some (.lst acc) ∧ Paired (BkAt G) acc (((cs.take i).filter fun c => decide (c.1 = findK p.known (.inr tg))).map (·.2))) ⟨same_new hD _, [], upd_same, .nil⟩ (fun _ _ _ h => h.1) ?_ ?_
      · rintro i u H4' H4 hi ⟨s4, acc, hacc, pa⟩ ⟨e3, hu⟩
        subst e3
        obtain ⟨cc, gc, pr, uu, rfl, hpr, hbk⟩ := pget pcases hu
        have hpr4 := s4 _ _ (w0.gh _ _ hpr)
        have tk1 : ((cs.take (i + 1)).filter fun c => decide (c.1 = findK p.known (.inr tg))).map (·.2) = ((cs.take i).filter fun c => decide (c.1 = findK p.known (.inr tg))).map (·.2) ++ (if cc.1 = findK p.known (.inr tg) then [cc.2] else []) := by
          rw [List.take_add_one, gc, Option.toList, List.filter_append, List.map_append, List.filter_cons, List.filter_nil]
          split
          · next e => rw [if_pos (of_decide_eq_true e)]; rfl
          · next e => rw [if_neg (fun z => e (decide_eq_true z))]; rfl
        have lw : (((cs.take i).filter fun c => decide (c.1 = findK p.known (.inr tg))).map (·.2)).length ≤ 1000 := by
          rw [List.length_map]
          refine Nat.le_trans (List.length_filter_le _ _) ?_
          rw [List.length_take]; have := xw.1; omega
        refine ⟨rfl, ?_⟩
        refine ⟨_, rfl, pr, _, 0, _, rfl, rfl, SqT.of hpr4, atI_nat (j := 0) rfl, _, rfl, _, rfl, pi, _, 2, _, rfl, rfl, hT s4, atI_nat (j := 2) rfl, kk, ks, p.known, .inr tg, rfl, s4 _ _ (w0.gh _ _ hkk), L2.Paired.mapP pks fun _ _ z => z.tk (sTk (w0.gh.trans s4)), rfl, _, rfl, ite2 (fun e => ?_) (fun e => ?_)⟩
        · have e : cc.1 = findK p.known (.inr tg) := V.int.inj (of_decide_eq_true e)
          refine ⟨_, rfl, pr, _, 1, _, rfl, rfl, SqT.of hpr4, atI_nat (j := 1) rfl, acc, hacc, small1000 (by rw [plen pa]; exact lw), same_set s4 hD, acc ++ [uu], upd_same, ?_⟩
          rw [tk1, if_pos e]
          exact papp pa (.cons hbk .nil)
        · have e : ¬ cc.1 = findK p.known (.inr tg) := fun z => e (decide_eq_true (by rw [z]))
          refine ⟨s4, acc, hacc, ?_⟩
          rw [tk1, if_neg e, List.append_nil]
          exact pa
      rintro H2 ⟨s2, acc, hacc, pa⟩
      rw [plen pcases, List.take_length] at pa
      have w2 := w0.same s2
      have hst2 := s2 _ _ hs1
      have hfo2 := s2 _ _ hf1
      have gfo2 := gfo
      refine ⟨_, rfl, _, _, rfl, .inl ⟨_, SqL.of hacc, rfl⟩, rfl, _, rfl, ?_⟩
      have hfind : cs.find? (fun c => decide (c.1 = findK p.known (.inr tg))) = (cs.filter fun c => decide (c.1 = findK p.known (.inr tg))).head? := (List.head?_filter ..).symm
      cases acc with
      | nil =>
        have ef : cs.find? (fun c => decide (c.1 = findK p.known (.inr tg))) = none := by
          rw [hfind]
          generalize (cs.filter fun c => decide (c.1 = findK p.known (.inr tg))) = fs at pa
          cases fs with
          | nil => rfl
          | cons a r => cases pa
        have es : stepI fl (.swi n tg cs) p = ([], [((p.at0 : Int) - 1, none)]) := by simp only [stepI]; rw [ef]
        refine ifP rfl ?_
        refine ⟨_, rfl, .inl ⟨rfl, _, SqL.of hst2⟩, _, rfl, _, _, rfl, rfl, (by show 2 ≤ sizeLine; decide), fun t1 h1 => ?_⟩
        obtain ⟨G3, w3, g3, k3, n3⟩ := w2.alloc (o := .tup [.int ((p.at0 : Int) - 1), .non]) h1 (by rw [hst2]; exact fun z => by cases z)
        have hst3 := same_new h1 (.tup [.int ((p.at0 : Int) - 1), .non]) _ _ hst2
        generalize upd H2 t1 (.tup [.int ((p.at0 : Int) - 1), .non]) = H3 at w3 hst3 ⊢
        refine ⟨st, sts, _, rfl, rfl, hst3, lt_line (by omega), ?_⟩
        have w4 := w3.wr (a := st) (o := .lst (sts ++ [.ref t1])) w3.gs (.inr rfl)
        have hst4 := upd_same (H := H3) (a := st) (o := .lst (sts ++ [.ref t1]))
        generalize upd H3 st (.lst (sts ++ [.ref t1])) = H4 at w4 hst4 ⊢
        refine ⟨(by show 0 ≤ sizeLine; decide), fun r h5 => ?_⟩
        obtain ⟨G5, w5, g5, k5, n5⟩ := w4.alloc (o := .lst []) h5 (by rw [hst4]; exact fun z => by cases z)
        refine fin r [] [.ref t1] G5 _ w5 k5 (by rw [es]; exact .nil) (same_new h5 _ _ _ hst4) (by rw [es]; exact .cons ⟨t1, rfl, g5 _ _ k3⟩ .nil)
      | cons u rest =>
        obtain ⟨cc, ef, hbk⟩ : ∃ cc, cs.find? (fun c => decide (c.1 = findK p.known (.inr tg))) = some cc ∧ BkAt G u cc.2 := by
          rw [hfind]
          generalize (cs.filter fun c => decide (c.1 = findK p.known (.inr tg))) = fs at pa
          cases fs with
          | nil => cases pa
          | cons a r => cases pa with
            | cons h1 h2 => exact ⟨a, rfl, h1⟩
        have mc := List.mem_of_find?_eq_some ef
        have es : stepI fl (.swi n tg cs) p = ((runS fl cc.2 ⟨p.at0, p.path, [], p.known⟩).1.map (fun t => (⟨t.at0, t.path, p.vals ++ [(n, .con t.vals)], p.known⟩ : Pt Vl)), (runS fl cc.2 ⟨p.at0, p.path, [], p.known⟩).2) := by simp only [stepI]; rw [ef]
        refine ifQ (by simp only [List.length_cons]; omega) ?_
        refine ⟨_, rfl, D, _, 0, _, rfl, rfl, SqL.of hacc, atI_nat (j := 0) rfl, _, rfl, _, rfl, _, rfl, (by show 0 ≤ sizeLine; decide), fun l0 h0 => ?_⟩
        obtain ⟨G3, w3, g3, k3, n3⟩ := w2.alloc (o := .lst []) h0 (by rw [hst2]; exact fun z => by cases z)
        have hst3 := same_new h0 (.lst []) _ _ hst2
        have hfo3 := same_new h0 (.lst []) _ _ hfo2
        have gfo3 := n3 _ gfo2 (by rw [hfo2]; exact fun z => by cases z)
        generalize upd H2 l0 (.lst []) = H3 at w3 hst3 hfo3 ⊢
        refine ⟨_, rfl, (by show 4 ≤ sizeLine; decide), fun tp h1 => ?_⟩
        obtain ⟨G4, w4, g4, k4, n4⟩ := w3.alloc (o := .tup [.int (p.at0 : Int), .ref pp, .ref l0, .ref kk]) h1 (by rw [hst3]; exact fun z => by cases z)
        have hst4 := same_new h1 (.tup [.int (p.at0 : Int), .ref pp, .ref l0, .ref kk]) _ _ hst3
        have hfo4 := same_new h1 (.tup [.int (p.at0 : Int), .ref pp, .ref l0, .ref kk]) _ _ hfo3
        have gfo4 := n4 _ gfo3 (by rw [hfo3]; exact fun z => by cases z)
        generalize upd H3 tp (.tup [.int (p.at0 : Int), .ref pp, .ref l0, .ref kk]) = H4 at w4 hst4 hfo4 ⊢
        refine ⟨_, rfl, ?_⟩
        refine nilGo ?_
        refine rb G4 H4 sts cc.2 u tp ⟨p.at0, p.path, [], p.known⟩ _ w4 hst4 (by omega) hbk (xw.2 cc mc) (xr cc mc) ⟨tp, pp, l0, kk, [], ks, rfl, k4, w4.gg _ _ hpp, g4 _ _ k3, .nil, w4.gg _ _ hkk, L2.Paired.mapP pks fun _ _ z => z.tk (sTk w4.gg)⟩ (ptc.mono (Nat.le_succ c)) fun r ps nst G5 H5 g45 w5 own5 hr5 pp5 hst5 psp5 => ?_
        obtain ⟨gfo5, ho5⟩ := own5 fo gfo4 (by rw [hfo4]; exact fun z => by cases z) nfo
        have hfo5 := ho5 _ hfo4
        have pacc5 : Paired (PtAt VlAt G5) ([] : List V) ([] : List (Pt Vl)) := .nil
        have accb : ([] : List (Pt Vl)).length ≤ 50 := by simp
        refine ⟨_, rfl, row_l2 (H0 := G5) hr5 w5.gh fun J5 wk5 => ?_⟩
        refine for_it wk5 (fun j σ H' => ∃ i13 : Option V, σ = [some (.ref pi), some (.ref pf), some (.ref t), some (.ref st), some (.int (p.at0 : Int)), some (.ref pp), some (.ref vv), some (.ref kk), some (.ref fo), none, none, none, none, i13, some (.ref D), none] ∧ ∃ G6 acc6, Same G5 G6 ∧ Wd G H st G6 H' ∧ G6 fo = none ∧ H' fo = some (.lst acc6) ∧ Paired (PtAt VlAt G6) acc6 (([] : List (Pt Vl)) ++ (((runS fl cc.2 ⟨p.at0, p.path, [], p.known⟩).1.take j).map fun t => (⟨t.at0, t.path, p.vals ++ [(n, .con t.vals)], p.known⟩ : Pt Vl))) ∧ H' st = some (.lst (sts ++ nst)))
          ⟨_, rfl, G5, _, Same.refl _, w5, gfo5, hfo5, by rw [List.take_zero, List.map_nil, List.append_nil]; exact pacc5, hst5⟩ (fun _ _ _ _ h => by obtain ⟨_, _, _, _, z1, z2, _⟩ := h; exact z1.trans z2.gh) ?_ ?_
        · rintro j vt σ H6' H6 hj ⟨i13, rfl, G6, acc6, g56, w6, gfo6, hfo6, pacc6, hst6⟩ ⟨e3, hvt⟩
          subst e3
          obtain ⟨t5, gt5, ht5⟩ := map_pget pp5 hvt
          obtain ⟨ta, tpp, tvv, tkk, tvs, rfl, h51, h52, h53, h54⟩ := lift_at (mon_pt mon_vl _ _ _ _ g56 ht5)
          have hTt : ∀ {Hx}, Same G6 Hx → SqT K Hx ta _ := fun s => SqT.of (s _ _ h51)
          have acl := plen pacc6
          have tl5 := runS_len fl cc.2 ⟨p.at0, p.path, [], p.known⟩
          have accl : acc6.length ≤ 100 := by rw [acl, List.length_append, List.length_map, List.length_take]; omega
          refine ⟨_, rfl, .inl ⟨rfl, _, SqL.of hfo6⟩, _, rfl, ta, _, 0, _, rfl, rfl, hTt w6.gh, atI_nat (j := 0) rfl, _, rfl, ta, _, 1, _, rfl, rfl, hTt w6.gh, atI_nat (j := 1) rfl, _, rfl, _, rfl, pi, _, 1, _, rfl, rfl, SqT.of (w6.gh _ _ (w6.gg _ _ hpi)), atI_nat (j := 1) rfl, _, rfl, ta, _, 2, _, rfl, rfl, hTt w6.gh, atI_nat (j := 2) rfl, ?_⟩
          refine ⟨(by show 2 ≤ sizeLine; decide), fun t1 h7 => ?_⟩
          obtain ⟨G7, w7, g7, k7, n7⟩ := w6.alloc (o := .tup [.str n, .ref tvv]) h7 (by rw [hst6]; exact fun z => by cases z)
          have hst7 := same_new h7 (.tup [.str n, .ref tvv]) _ _ hst6
          have hfo7 := same_new h7 (.tup [.str n, .ref tvv]) _ _ hfo6
          have gfo7 := n7 _ gfo6 (by rw [hfo6]; exact fun z => by cases z)
          generalize upd H6 t1 (.tup [.str n, .ref tvv]) = H7 at w7 hst7 hfo7 ⊢
          refine ⟨(by show 1 ≤ sizeLine; decide), fun l1 h8 => ?_⟩
          obtain ⟨G8, w8, g8, k8, n8⟩ := w7.alloc (o := .lst [.ref t1]) h8 (by rw [hst7]; exact fun z => by cases z)
          have hst8 := same_new h8 (.lst [.ref t1]) _ _ hst7
          have hfo8 := same_new h8 (.lst [.ref t1]) _ _ hfo7
          have gfo8 := n8 _ gfo7 (by rw [hfo7]; exact fun z => by cases z)
          generalize upd H7 l1 (.lst [.ref t1]) = H8 at w8 hst8 hfo8 ⊢
          refine ⟨vv, l1, vs, [.ref t1], rfl, rfl, w8.gh _ _ (w8.gg _ _ hvv), w8.gh _ _ k8, le_line (by rw [plen pvs]; have := pc.2.2.2.1; simp only [List.length_cons, List.length_nil]; omega), fun v2 h9 => ?_⟩
          obtain ⟨G9, w9, g9, k9, n9⟩ := w8.alloc (o := .lst (vs ++ [.ref t1])) h9 (by rw [hst8]; exact fun z => by cases z)
          have hst9 := same_new h9 (.lst (vs ++ [.ref t1])) _ _ hst8
          have hfo9 := same_new h9 (.lst (vs ++ [.ref t1])) _ _ hfo8
          have gfo9 := n9 _ gfo8 (by rw [hfo8]; exact fun z => by cases z)
          generalize upd H8 v2 (.lst (vs ++ [.ref t1])) = H9 at w9 hst9 hfo9 ⊢
          refine ⟨_, rfl, (by show 4 ≤ sizeLine; decide), fun tp h10 => ?_⟩
          obtain ⟨G10, w10, g10, k10, n10⟩ := w9.alloc (o := .tup [.int (t5.at0 : Int), .ref tpp, .ref v2, .ref kk]) h10 (by rw [hst9]; exact fun z => by cases z)
          have hst10 := same_new h10 (.tup [.int (t5.at0 : Int), .ref tpp, .ref v2, .ref kk]) _ _ hst9
          have hfo10 := same_new h10 (.tup [.int (t5.at0 : Int), .ref tpp, .ref v2, .ref kk]) _ _ hfo9
          have gfo10 := n10 _ gfo9 (by rw [hfo9]; exact fun z => by cases z)
          generalize upd H9 tp (.tup [.int (t5.at0 : Int), .ref tpp, .ref v2, .ref kk]) = H10 at w10 hst10 hfo10 ⊢
          refine ⟨fo, acc6, _, rfl, rfl, hfo10, lt_line (by omega), ?_⟩
          have gT := (g7.trans (g8.trans (g9.trans g10)))
          refine ⟨_, rfl, G10, acc6 ++ [.ref tp], g56.trans gT, w10.wr gfo10 (.inl hfo), gfo10, upd_same, ?_, by rw [upd_ne nfo.symm]; exact hst10⟩
          rw [List.take_add_one, gt5]
          simp only [Option.toList, List.map_append, List.map_cons, List.map_nil]
          rw [← List.append_assoc]
          refine papp (L2.Paired.mapP pacc6 fun _ _ z => mon_pt mon_vl _ _ _ _ gT z) (.cons ⟨tp, tpp, v2, kk, vs ++ [.ref t1], ks, rfl, k10, gT _ _ h52, g10 _ _ k9, ?_, w10.gg _ _ hkk, L2.Paired.mapP pks fun _ _ z => z.tk (sTk w10.gg)⟩ .nil)
          refine papp (L2.Paired.mapP pvs fun _ _ z => mon_en mon_vl _ _ _ _ w10.gg z) (.cons ⟨t1, _, rfl, (g8.trans (g9.trans g10)) _ _ k7, ⟨tvv, tvs, rfl, gT _ _ h53, L2.Paired.mapP h54 fun _ _ z => mon_en mon_sv _ _ _ _ gT z⟩⟩ .nil)
        · rintro σ H6 ⟨i13, rfl, G6, acc6, g56, w6, gfo6, hfo6, pacc6, hst6⟩
          rw [plen pp5, List.length_map, List.take_length, List.nil_append] at pacc6
          have gT : Same G6 (upd G6 fo (.lst acc6)) := fun b o e => by rw [upd_ne (ne_of_none e gfo6)]; exact e
          refine ⟨_, rfl, fin fo acc6 nst _ H6 (w6.take gfo6 hfo nfo hfo6) upd_same ?_ hst6 ?_⟩
          · rw [es]; exact L2.Paired.mapP pacc6 fun _ _ z => mon_pt mon_vl _ _ _ _ gT z
          · rw [es]; exact L2.Paired.mapP psp5 fun _ _ z => mon_sp _ _ _ _ (g56.trans gT) z
end
end Bm

set_option Elab.async false
set_option linter.all false
set_option maxRecDepth 100000
set_option maxHeartbeats 8000000
/-! a whole file is read -/
namespace Bm
open PySem L2
abbrev sRun : Stmt := top 23
/-- all that a file means, and the stops -/
def readF (f : List Int) (l : List I2) : List (Pt Vl) × List Stop := runI f l ⟨0, [], [], []⟩
def readE (f : List Int) (l : List I2) : List (Pt Vl) := (readF f l).1.filter fun p => decide (p.at0 = f.length)
def readZ (f : List Int) (l : List I2) : List Stop := (readF f l).2 ++ ((readF f l).1.filter fun p => decide (p.at0 < f.length)).map fun p => ((p.at0 : Int), none)
def MnAt (H : Hp) (v : V) (p : Pt Vl) : Prop := ∃ t pp vv vs, v = .ref t ∧ H t = some (.tup [.ref pp, .ref vv]) ∧ H pp = some (.tup (p.path.map V.int)) ∧ H vv = some (.lst vs) ∧ Paired (EnAt VlAt H) vs p.vals
theorem mon_mn : Mon MnAt := fun _ _ _ _ s h => by
  obtain ⟨t, pp, vv, vs, e, h1, h2, h3, h4⟩ := h
  exact ⟨t, pp, vv, vs, e, s _ _ h1, s _ _ h2, s _ _ h3, L2.Paired.mapP h4 fun _ _ k => mon_en mon_vl _ _ _ _ s k⟩
def rLn (K : PySem.W.Frag) : List V → Hp → VK → Prop := fun xs H Q => ∃ p ys, xs = [.ref p] ∧ (SqL K H p ys ∨ SqT K H p ys) ∧ Q (.int ys.length) H
def spRun : Sp := fun vs H Q _ => ∃ (G : Hp) (pb pf : Addr) (xs : List V) (l : List I2) (f : List Int), vs = [.ref pb, .ref pf] ∧ Same G H ∧ G pb = some (.tup xs) ∧ ItsAt G xs l ∧ (∀ x ∈ l, x.okW ∧ x.okR) ∧ l.length ≤ 4 ∧ G pf = some (.lst (f.map V.int)) ∧ By f ∧ f.length ≤ 2000000 ∧
  ∀ t r s rs ss G' H', Same G G' → Same G' H' → Same H H' → Nu G H G' → G' t = some (.tup [.ref r, .ref s]) → G' r = some (.lst rs) → Paired (MnAt G') rs (readE f l) → G' s = some (.lst ss) → Paired (SpAt G') ss (readZ f l) → Q (.ref t) H'
section
variable {P : Program} {w : World} {K : PySem.W.Frag} {mg : Str → Option Value} {base : Heap} {f : Addr} {fd : FuncData}
abbrev nRun : List Str := ["items", "file", "stops", "parts", "part"]
theorem scRun : FnScope nRun ["items", "file"] (defScope sRun) := ⟨rfl, rfl, rfl, by decide +kernel, rfl, by decide +kernel, by decide +kernel⟩
theorem ok_run {k : Nat} (F : Fun K "_law_run" "_law_run" sRun f fd) (gB : Cal P w K mg base CX0 k "_law_run_block" ["block", "file", "part", "stops"] (spRunB 1)) (ml : mg "len" = none) : FnOk P w K mg base CX0 (k + 1) f fd ["items", "file"] spRun := by
  refine F.ok scRun (fun vs H Q E h => ?_) (fun cdv A outer s H vs Q E hr h => ?_)
  · obtain ⟨G, pb, pf, xs, l, fl, rfl, _⟩ := h
    rfl
  · obtain ⟨G, pb, pf, xs, l, fl, rfl, sG, hpb, hl, hok, l4, hf, byf, fll, q⟩ := h
    refine ⟨_, (pss_cons (ps_set (i := 2) scRun.nd rfl (.inl rfl) (pe_lst pa_nil))
      (pss_cons (ps_set (i := 3) scRun.nd rfl (.inl rfl) (pe_cal gB hr pass0 (pa_cons (pv 0) (pa_cons (pv 1) (pa_cons (pe_tup (pa_cons pe_int (pa_cons (pe_tup pa_nil) (pa_cons (pe_lst pa_nil) (pa_cons (pe_lst pa_nil) pa_nil))))) (pa_cons (pv 2) pa_nil))))))
      (pss_cons (ps_for PassesOwn.never rfl (pi_row (pv 3)) (pg_name (i := 4) scRun.nd rfl (.inl rfl))
        (pss_one (ps_if (pt_cmpR op_lt (pe_ix ix_tup (pv 4) pe_int (fun _ _ => rfl)) (pe_callB call_len (by rfl) ml boot_len (pa_cons (pv 1) pa_nil)) (nomark _)) (pss_one (ps_expr (pe_bm PySem.F.plainAttrs_list PySem.F.slot_list_append PySem.F.type_list_append mt_append (pv 2) (pa_cons (pe_tup (pa_cons (pe_ix ix_tup (pv 4) pe_int (fun _ _ => rfl)) (pa_cons pe_non pa_nil))) pa_nil)))) pss_nil)))
      (pss_one (ps_ret (pe_tup (pa_cons (pe_lc (own := [("part", 4)]) (g := gName 4) rfl scRun.nd (pi_row (pv 3)) (blkOk_by (own := [("part", 4)]) (N := nRun) (sc := defScope sRun) (by decide +kernel)) (fun _ _ _ _ _ => pg_name (i := 4) scRun.nd rfl (Or.inl rfl)) (fun _ _ _ _ _ => pts_one (pt_cmpR op_eq (pe_ix (r := rIxT K) ix_tup (pv 4) pe_int (fun _ _ => rfl)) (pe_callB (r := rLn K) call_len_seq (by rfl) ml boot_len (pa_cons (pv 1) pa_nil)) (nomark _))) (fun _ _ _ _ _ => (pe_tup (pa_cons (pe_ix (r := rIxT K) ix_tup (pv 4) pe_int (fun _ _ => rfl)) (pa_cons (pe_ix (r := rIxT K) ix_tup (pv 4) pe_int (fun _ _ => rfl)) pa_nil))))) (pa_cons (pv 2) pa_nil)))))))), ?_⟩
    refine ⟨(by show 0 ≤ sizeLine; decide), fun st h5 => ?_⟩
    have w1 : Wd G (upd H st (.lst [])) st G (upd H st (.lst [])) := Wd.start (sG.trans (same_new h5 _)) (sG.free h5)
    have hst1 : (upd H st (.lst [])) st = some (.lst []) := upd_same
    have s01 := same_new h5 (.lst [])
    generalize upd H st (.lst []) = H1 at w1 hst1 s01 ⊢
    refine ⟨_, rfl, _, rfl, (by show 0 ≤ sizeLine; decide), fun e0 h0 => ?_⟩
    obtain ⟨G2, w2, g2, k2, n2⟩ := w1.alloc (o := .tup []) h0 (by rw [hst1]; exact fun z => by cases z)
    have hst2 := same_new h0 (.tup []) _ _ hst1
    generalize upd H1 e0 (.tup []) = H2 at w2 hst2 ⊢
    refine ⟨(by show 0 ≤ sizeLine; decide), fun l0 h1 => ?_⟩
    obtain ⟨G3, w3, g3, k3, n3⟩ := w2.alloc (o := .lst []) h1 (by rw [hst2]; exact fun z => by cases z)
    have hst3 := same_new h1 (.lst []) _ _ hst2
    generalize upd H2 l0 (.lst []) = H3 at w3 hst3 ⊢
    refine ⟨(by show 0 ≤ sizeLine; decide), fun l1 h2 => ?_⟩
    obtain ⟨G4, w4, g4, k4, n4⟩ := w3.alloc (o := .lst []) h2 (by rw [hst3]; exact fun z => by cases z)
    have hst4 := same_new h2 (.lst []) _ _ hst3
    generalize upd H3 l1 (.lst []) = H4 at w4 hst4 ⊢
    refine ⟨(by show 4 ≤ sizeLine; decide), fun tp h3 => ?_⟩
    obtain ⟨G5, w5, g5, k5, n5⟩ := w4.alloc (o := .tup [.int 0, .ref e0, .ref l0, .ref l1]) h3 (by rw [hst4]; exact fun z => by cases z)
    have hst5 := same_new h3 (.tup [.int 0, .ref e0, .ref l0, .ref l1]) _ _ hst4
    generalize upd H4 tp (.tup [.int 0, .ref e0, .ref l0, .ref l1]) = H5 at w5 hst5 ⊢
    refine ⟨_, rfl, ?_⟩
    have gA : ∀ v x, I2At G v x → I2At G5 v x := fun v x h => h.tk (sTk w5.gg)
    refine ⟨pb, .ref tp, pf, st, G5, xs, l, fl, ⟨0, [], [], []⟩, [], 0, rfl, w5.gg _ _ hpb, L2.Paired.mapP hl fun v x h => gA v x h, fun x hx => ⟨(hok x hx).1, (hok x hx).2, fun z => by cases z⟩, l4, w5.gg _ _ hf, byf, fll, ⟨tp, e0, l0, l1, [], [], rfl, k5, (g3.trans (g4.trans g5)) _ _ k2, (g4.trans g5) _ _ k3, .nil, g5 _ _ k4, .nil⟩, ⟨Nat.zero_le _, fun q hq => (by cases hq), Nat.zero_le _, Nat.zero_le _, Nat.zero_le _⟩, by omega, w5.gh, w5.gs, hst5, by simp, fun r ps nst G6 H6 g56 s6 n6 b6 hr6 pps hst6 psp => ?_⟩
    have w6 := w5.call (by rw [hst5]; exact fun z => by cases z) g56 s6 n6 b6
    rw [List.nil_append] at hst6
    have ln1 := runI_len fl ⟨0, [], [], []⟩ l l.length fun x hx => (hok x hx).2
    rw [List.take_length] at ln1
    have l81 : 3 ^ l.length ≤ 81 := by
      have : l.length = 0 ∨ l.length = 1 ∨ l.length = 2 ∨ l.length = 3 ∨ l.length = 4 := by omega
      rcases this with e | e | e | e | e <;> rw [e] <;> decide
    have rd : readF fl l = runL (stepI fl) l [⟨0, [], [], []⟩] := rfl
    unfold runI at pps psp
    rw [← rd] at pps psp ln1
    unfold readE readZ at q
    generalize readF fl l = RR at pps psp ln1 q
    obtain ⟨P1, S1⟩ := RR
    dsimp only at pps psp ln1 q
    have lps := plen pps
    have lns := plen psp
    refine ⟨_, rfl, r, rfl, ?_⟩
    refine row_l2 (H0 := G6) hr6 w6.gh fun J wk => ?_
    refine for_it wk (fun i σ H' => ∃ k4 : Option V, σ = [some (.ref pb), some (.ref pf), some (.ref st), some (.ref r), k4] ∧ ∃ G' ss, Same G6 G' ∧ Wd G H1 st G' H' ∧ H' st = some (.lst (nst ++ ss)) ∧ Paired (SpAt G') ss (((P1.take i).filter fun p => decide (p.at0 < fl.length)).map fun p => ((p.at0 : Int), none)))
      ⟨none, rfl, G6, [], Same.refl _, w6, by rw [List.append_nil]; exact hst6, .nil⟩ (fun _ _ _ _ h => by obtain ⟨_, _, _, _, z1, z2, _⟩ := h; exact z1.trans z2.gh) ?_ ?_
    · rintro i v σ H7' H7 hi ⟨k4', rfl, G7, ss, g67, w7, hst7, pss⟩ ⟨e3, hv⟩
      subst e3
      obtain ⟨p0, gp, hp0⟩ := pget pps hv
      obtain ⟨ta, tpp, tvv, tkk, tvs, tks, rfl, h51, h52, h53, h54, h55, h56⟩ := mon_pt mon_vl _ _ _ _ g67 hp0
      have hT := SqT.of (K := K) (w7.gh _ _ h51)
      have lss := plen pss
      rw [List.length_map] at lss
      have lf := List.length_filter_le (fun p => decide (p.at0 < fl.length)) (P1.take i)
      rw [List.length_take] at lf
      rw [List.take_add_one, gp, Option.toList, List.filter_append, List.map_append]
      refine ⟨_, rfl, ta, _, 0, _, rfl, rfl, hT, atI_nat (j := 0) rfl, _, rfl, _, _, rfl, .inl ⟨_, SqL.of (w7.gh _ _ (w7.gg _ _ hf)), rfl⟩, ?_⟩
      rw [List.length_map]
      refine ⟨_, _, rfl, rfl, _, rfl, ite2 (fun e => ?_) (fun e => ?_)⟩
      · have e : p0.at0 < fl.length := by have := of_decide_eq_true e; omega
        rw [List.filter_cons_of_pos (by simpa using e), List.filter_nil]
        refine ⟨_, rfl, .inl ⟨rfl, _, SqL.of hst7⟩, _, rfl, ta, _, 0, _, rfl, rfl, hT, atI_nat (j := 0) rfl, (by show 2 ≤ sizeLine; decide), fun t1 h1 => ?_⟩
        obtain ⟨G8, w8, g8, k8, n8⟩ := w7.alloc (o := .tup [.int (p0.at0 : Int), .non]) h1 (by rw [hst7]; exact fun z => by cases z)
        have hst8 := same_new h1 (.tup [.int (p0.at0 : Int), .non]) _ _ hst7
        generalize upd H7 t1 (.tup [.int (p0.at0 : Int), .non]) = H8 at w8 hst8 ⊢
        refine ⟨st, _, _, rfl, rfl, hst8, lt_line (by rw [List.length_append]; omega), ?_⟩
        refine ⟨_, rfl, G8, ss ++ [.ref t1], g67.trans g8, w8.wr w8.gs (.inr rfl), by rw [upd_same, List.append_assoc], ?_⟩
        exact papp (L2.Paired.mapP pss fun _ _ z => mon_sp _ _ _ _ g8 z) (.cons ⟨t1, rfl, k8⟩ .nil)
      · have e : ¬ p0.at0 < fl.length := fun z => e (decide_eq_true (by omega))
        rw [List.filter_cons_of_neg (by simpa using e), List.filter_nil, List.map_nil, List.append_nil]
        exact ⟨_, rfl, G7, ss, g67, w7, hst7, pss⟩
    · rintro σ H7 ⟨k4', rfl, G7, ss, g67, w7, hst7, pss⟩
      rw [lps, List.take_length] at pss
      refine ⟨_, rfl, r, rfl, ?_⟩
      refine row_l2 (H0 := G7) (g67 _ _ hr6) w7.gh fun J2 wk2 => ?_
      intro D hD'
      obtain ⟨hD, nD⟩ := w7.free hD' (by rw [hst7]; exact fun z => by cases z)
      have gD := w7.gh.free hD'
      refine lc_it wk2 (fun j H' => ∃ G' acc, Same G7 G' ∧ Wd G H1 st G' H' ∧ G' D = none ∧ H' D = some (.lst acc) ∧ Paired (MnAt G') acc ((P1.take j).filter fun p => decide (p.at0 = fl.length)) ∧ H' st = some (.lst (nst ++ ss)))
        ⟨G7, [], Same.refl _, w7.wr gD (.inl hD), gD, upd_same, .nil, by rw [upd_ne nD.symm]; exact hst7⟩ (fun _ _ _ h => by obtain ⟨_, _, z1, z2, _⟩ := h; exact z1.trans z2.gh) ?_ ?_
      · rintro i v H8' H8 hi ⟨G8, acc, g78, w8, gD8, hD8, pacc, hst8⟩ ⟨e3, hv⟩
        subst e3
        obtain ⟨p0, gp, hp0⟩ := pget pps hv
        obtain ⟨ta, tpp, tvv, tkk, tvs, tks, rfl, h51, h52, h53, h54, h55, h56⟩ := mon_pt mon_vl _ _ _ _ (g67.trans g78) hp0
        have hT := SqT.of (K := K) (w8.gh _ _ h51)
        have lac := plen pacc
        have lf := List.length_filter_le (fun p => decide (p.at0 = fl.length)) (P1.take i)
        rw [List.length_take] at lf
        rw [List.take_add_one, gp, Option.toList, List.filter_append]
        refine ⟨rfl, ?_⟩
        refine ⟨_, rfl, ta, _, 0, _, rfl, rfl, hT, atI_nat (j := 0) rfl, _, rfl, _, _, rfl, .inl (SqL.of (w8.gh _ _ (w8.gg _ _ hf))), ?_⟩
        rw [List.length_map]
        refine ⟨rfl, _, rfl, ite2 (fun e => ?_) (fun e => ?_)⟩
        · have e : p0.at0 = fl.length := by have := V.int.inj (of_decide_eq_true e); omega
          rw [List.filter_cons_of_pos (by simpa using e), List.filter_nil]
          refine ⟨_, rfl, ta, _, 1, _, rfl, rfl, hT, atI_nat (j := 1) rfl, _, rfl, ta, _, 2, _, rfl, rfl, hT, atI_nat (j := 2) rfl, (by show 2 ≤ sizeLine; decide), fun t1 h1 => ?_⟩
          obtain ⟨G9, w9, g9, k9, n9⟩ := w8.alloc (o := .tup [.ref tpp, .ref tvv]) h1 (by rw [hst8]; exact fun z => by cases z)
          refine ⟨acc, same_new h1 _ _ _ hD8, lt_line (by omega), G9, acc ++ [.ref t1], g78.trans g9, w9.wr (n9 _ gD8 (by rw [hD8]; exact fun z => by cases z)) (.inl hD), n9 _ gD8 (by rw [hD8]; exact fun z => by cases z), upd_same, ?_, by rw [upd_ne nD.symm]; exact same_new h1 _ _ _ hst8⟩
          exact papp (L2.Paired.mapP pacc fun _ _ z => mon_mn _ _ _ _ g9 z) (.cons ⟨t1, tpp, tvv, tvs, rfl, k9, g9 _ _ h52, g9 _ _ h53, L2.Paired.mapP h54 fun _ _ z => mon_en mon_vl _ _ _ _ g9 z⟩ .nil)
        · have e : ¬ p0.at0 = fl.length := fun z => e (decide_eq_true (by rw [z]))
          rw [List.filter_cons_of_neg (by simpa using e), List.filter_nil, List.append_nil]
          exact ⟨G8, acc, g78, w8, gD8, hD8, pacc, hst8⟩
      · rintro H8 ⟨G8, acc, g78, w8, gD8, hD8, pacc, hst8⟩
        rw [lps, List.take_length] at pacc
        refine ⟨_, rfl, (by show 2 ≤ sizeLine; decide), fun t h9 => ?_⟩
        have gt : G8 t = none := w8.gh.free h9
        have ntD : t ≠ D := fun e => by rw [e, hD8] at h9; cases h9
        have nts : t ≠ st := fun e => by rw [e, hst8] at h9; cases h9
        have s1 : Same G8 (upd G8 D (.lst acc)) := fun b o e => by rw [upd_ne (ne_of_none e gD8)]; exact e
        have s2 : Same (upd G8 D (.lst acc)) (upd (upd G8 D (.lst acc)) st (.lst (nst ++ ss))) := fun b o e => by rw [upd_ne (ne_of_none e (by rw [upd_ne nD.symm]; exact w8.gs))]; exact e
        have s3 : Same (upd (upd G8 D (.lst acc)) st (.lst (nst ++ ss))) (upd (upd (upd G8 D (.lst acc)) st (.lst (nst ++ ss))) t (.tup [.ref D, .ref st])) := fun b o e => by rw [upd_ne (ne_of_none e (by rw [upd_ne nts, upd_ne ntD]; exact gt))]; exact e
        have sF := s1.trans (s2.trans s3)
        refine q t D st acc (nst ++ ss) _ _ (w8.gg.trans sF) ?_ ?_ ?_ upd_same (s3 _ _ (s2 _ _ upd_same)) (L2.Paired.mapP pacc fun _ _ z => mon_mn _ _ _ _ sF z) (s3 _ _ upd_same) ?_
        · intro b o e
          by_cases c1 : b = t
          · rw [c1, upd_same] at e ⊢; exact e
          · rw [upd_ne c1] at e ⊢
            by_cases c2 : b = st
            · rw [c2, upd_same] at e; rw [c2, hst8, e]
            · rw [upd_ne c2] at e
              by_cases c3 : b = D
              · rw [c3, upd_same] at e; rw [c3, hD8, e]
              · rw [upd_ne c3] at e; exact w8.gh _ _ e
        · intro b o e
          have n1 : b ≠ st := ne_of_none e h5
          have := w8.bt b o n1 (s01 _ _ e)
          rw [upd_ne (ne_of_none this h9)]; exact this
        · intro b e1 e2
          have n1 : b ≠ st := fun z => e2 (by rw [z]; exact h5)
          have e3 : H1 b ≠ none := by
            cases c : H b with
            | none => exact absurd c e2
            | some o => rw [s01 _ _ c]; exact fun z => by cases z
          have n2 : b ≠ D := fun z => e3 (by rw [z]; exact hD)
          have n3 : b ≠ t := by
            cases c : H b with
            | none => exact absurd c e2
            | some o => exact ne_of_none (w8.bt b o n1 (s01 _ _ c)) h9
          rw [upd_ne n3, upd_ne n1, upd_ne n2]
          exact w8.nu b e1 e3
        · exact papp (L2.Paired.mapP psp fun _ _ z => mon_sp _ _ _ _ (g67.trans (g78.trans sF)) z) (L2.Paired.mapP pss fun _ _ z => mon_sp _ _ _ _ (g78.trans sF) z)
end
end Bm

set_option Elab.async false
set_option linter.all false
set_option maxRecDepth 100000
set_option maxHeartbeats 8000000
/-! contents: what written files mean -/
namespace Bm
open PySem L2
abbrev sCont : Stmt := top 24
theorem ok_okR {x : I2} {ah : List Str} (h : x.ok ah) : x.okR := by
  cases x with
  | sm y => trivial
  | rep n a b => show b.length ≤ 4; have := h.2.1.2; omega
  | eit n bs => exact ⟨h.1.2, fun b hb => by have := (h.2.1 b hb).1; omega⟩
  | swi n t cs => exact fun c hc => by have := (h.2.2.1 c hc).2.1; omega
theorem okL_in : ∀ {l : List I2} {ah : List Str}, OkL ah l → ∀ x ∈ l, ∃ ah, x.ok ah
  | [], _, _, x, hx => by cases hx
  | y :: r, ah, h, x, hx => by
    rcases List.mem_cons.mp hx with rfl | hx
    · exact ⟨_, h.1⟩
    · exact okL_in h.2 x hx
theorem Drawn.okR {l : List I2} (h : Drawn l) : ∀ x ∈ l, x.okR := fun x hx => by
  obtain ⟨_, h⟩ := okL_in h.ok x hx
  exact ok_okR h
/-- a meaning of a file -/
def Mean (l : List I2) (c : C1) : Prop := ∃ f p, By f ∧ f.length ≤ 40 ∧ p ∈ readE f l ∧ c = p.vals
def spCont : Sp := fun vs H Q _ => ∃ (pi pn : Addr) (xs : List V) (l : List I2) (ns : List Int) (at0 many : Nat), vs = [.ref pi, .ref pn, .int (at0 : Int), .int (many : Int)] ∧ H pi = some (.tup xs) ∧ ItsAt H xs l ∧ Drawn l ∧ H pn = some (.lst (ns.map V.int)) ∧ Nb ns ∧ many ≤ 100 ∧ at0 + 7 * many + 30 ≤ ns.length + 7 ∧
  ∀ r rs cs H', Same H H' → H' r = some (.lst rs) → Paired (CtAt VlAt H') rs cs → (∀ c ∈ cs, Mean l c) → cs.length ≤ 2 * many → Q (.ref r) H'
/-- all but one -/
def wo (H : Hp) (D : Addr) : Hp := fun b => if b = D then none else H b
theorem wo_none {H : Hp} {D : Addr} : wo H D D = none := if_pos rfl
theorem wo_ne {H : Hp} {D b : Addr} (h : b ≠ D) : wo H D b = H b := if_neg h
theorem wo_same {H : Hp} {D : Addr} : Same (wo H D) H := fun b o e => by
  by_cases c : b = D
  · rw [c, wo_none] at e; cases e
  · rw [wo_ne c] at e; exact e
theorem wo_up {G H : Hp} {D : Addr} (s : Same G H) (g : G D = none) : Same G (wo H D) := fun b o e => by
  rw [wo_ne (ne_of_none e g)]; exact s _ _ e
theorem ptake {α β : Type} {F : α → β → Prop} : ∀ {xs : List α} {ys : List β}, Paired F xs ys → ∀ n, Paired F (xs.take n) (ys.take n)
  | _, _, .nil, n => by rw [List.take_nil, List.take_nil]; exact .nil
  | _, _, .cons h t, 0 => .nil
  | _, _, .cons h t, n + 1 => .cons h (ptake t n)
section
variable {P : Program} {w : World} {K : PySem.W.Frag} {mg : Str → Option Value} {base : Heap} {f : Addr} {fd : FuncData}
abbrev nCont : List Str := ["items", "numbers", "at", "many", "found", "k", "file", "pair"]
theorem scCont : FnScope nCont ["items", "numbers", "at", "many"] (defScope sCont) := ⟨rfl, rfl, rfl, by decide +kernel, rfl, by decide +kernel, by decide +kernel⟩
theorem ok_cont {k : Nat} (F : Fun K "_law_contents" "_law_contents" sCont f fd) (gW : Cal P w K mg base CX0 k "_law_written" ["items", "numbers", "at", "many"] spWri) (gR : Cal P w K mg base CX0 k "_law_run" ["items", "file"] spRun) (mr : mg "range" = none) : FnOk P w K mg base CX0 (k + 1) f fd ["items", "numbers", "at", "many"] spCont := by
  refine F.ok scCont (fun vs H Q E h => ?_) (fun cdv A outer s H vs Q E hr h => ?_)
  · obtain ⟨pi, pn, xs, l, ns, at0, many, rfl, _⟩ := h
    rfl
  · obtain ⟨pi, pn, xs, l, ns, at0, many, rfl, hpi, hl, dr, hn, nb, hm, hlen, q⟩ := h
    refine ⟨_, (pss_cons (ps_set (i := 4) scCont.nd rfl (.inl rfl) (pe_lst pa_nil))
      (pss_cons (ps_for PassesOwn.never rfl (pi_range1 (by rfl) mr (pa_cons (pv 3) pa_nil)) (pg_name (i := 5) scCont.nd rfl (.inl rfl))
        (pss_cons (ps_set (i := 6) scCont.nd rfl (.inl rfl) (pe_cal gW hr pass0 (pa_cons (pv 0) (pa_cons (pv 1) (pa_cons (pe_op op_add (pv 2) (pe_op op_mul pe_int (pv 5))) (pa_cons pe_int pa_nil))))))
      (pss_one (ps_if (pt_cmp (pc_notN (pv 6))) (pss_one (ps_for PassesOwn.never rfl (pi_row (pe_slice sl_list (pe_ix ix_tup (pe_cal gR hr pass0 (pa_cons (pv 0) (pa_cons (pe_slice sl_list (pv 6) po_none (po_some pe_int)) pa_nil))) pe_int (fun _ _ => rfl)) po_none (po_some pe_int))) (pg_name (i := 7) scCont.nd rfl (.inl rfl))
        (pss_one (ps_expr (pe_bm PySem.F.plainAttrs_list PySem.F.slot_list_append PySem.F.type_list_append mt_append (pv 4) (pa_cons (pe_ix ix_tup (pv 7) pe_int (fun _ _ => rfl)) pa_nil)))))) pss_nil))))
      (pss_one (ps_ret (pv 4))))), ?_⟩
    refine ⟨(by show 0 ≤ sizeLine; decide), fun D hD => ?_⟩
    have sD := same_new hD (.lst [])
    have hD1 := upd_same (H := H) (a := D) (o := .lst [])
    generalize upd H D (.lst []) = H1 at sD hD1 ⊢
    refine ⟨_, rfl, (many : Int), rfl, by omega, by omega, for_range (lo := 0) (n := many) (fun k σ H' => ∃ k5 f6 p7 : Option V, σ = [some (.ref pi), some (.ref pn), some (.int (at0 : Int)), some (.int (many : Int)), some (.ref D), k5, f6, p7] ∧ ∃ G' acc cs, Same H G' ∧ Same G' H' ∧ G' D = none ∧ H' D = some (.lst acc) ∧ Paired (CtAt VlAt G') acc cs ∧ (∀ c ∈ cs, Mean l c) ∧ cs.length ≤ 2 * k)
      ⟨none, none, none, rfl, H, [], [], Same.refl _, sD, hD, hD1, .nil, (fun c hc => by cases hc), Nat.le_refl _⟩ ?_ ?_⟩
    · rintro k σ H2 hk ⟨k5, f6, p7, rfl, G2, acc, cs, sg2, s2, gD2, hacc, pcs, mcs, lcs⟩
      have lac := plen pcs
      refine ⟨_, rfl, _, rfl, _, rfl, _, rfl, _, _, rfl, rfl, .inl ⟨by decide, by decide⟩, _, _, rfl, rfl, ?_⟩
      refine ⟨pi, pn, xs, l, ns, at0 + 7 * k, 30, by rw [show ((at0 + 7 * k : Nat) : Int) = (at0 : Int) + 7 * (0 + (k : Int)) by omega]; rfl, s2 _ _ (sg2 _ _ hpi), L2.Paired.mapP hl fun _ _ h => h.tk (sTk (sg2.trans s2)), dr.okW.1, s2 _ _ (sg2 _ _ hn), nb, by omega, by omega, by omega, dr.okW.2, fun pf bs H3 s3 hbs byb lbs => ?_, fun H3 s3 => ?_⟩
      · refine ⟨_, rfl, _, rfl, iteT ?_⟩
        refine ⟨_, rfl, _, rfl, _, rfl, pf, _, rfl, SqL.of hbs, fun p40 h40 => ?_⟩
        rw [show (40 : Int) = ((40 : Nat) : Int) from rfl, cutV_to, ← List.map_take]
        have hD3 := s3 _ _ hacc
        have s4 := same_new h40 (.lst ((bs.take 40).map V.int))
        have hp40 := upd_same (H := H3) (a := p40) (o := .lst ((bs.take 40).map V.int))
        have n40 : p40 ≠ D := fun e => by rw [e, hD3] at h40; cases h40
        generalize upd H3 p40 (.lst ((bs.take 40).map V.int)) = H4 at s4 hp40 ⊢
        have hD4 := s4 _ _ hD3
        have g4 : Same G2 (wo H4 D) := wo_up (s2.trans (s3.trans s4)) gD2
        have sg4 := sg2.trans g4
        have l40 : (bs.take 40).length ≤ 40 := by rw [List.length_take]; omega
        have b40 : By (bs.take 40) := fun x hx => byb x (List.mem_of_mem_take hx)
        refine ⟨wo H4 D, pi, p40, xs, l, bs.take 40, rfl, wo_same, sg4 _ _ hpi, L2.Paired.mapP hl fun _ _ h => h.tk (sTk sg4), fun x hx => ⟨dr.okW.1 x hx, dr.okR x hx⟩, dr.n4, (wo_ne n40).trans hp40, b40, by omega, fun t r z rs zs G5 H5 g5 s5 h5 n5 ht hr prs hz pzs => ?_⟩
        have gD5 := n5 D wo_none (by rw [hD4]; exact fun z => by cases z)
        have hD5 := h5 _ _ hD4
        refine ⟨t, _, 0, _, rfl, rfl, SqT.of (s5 _ _ ht), atI_nat (j := 0) rfl, _, rfl, r, _, rfl, SqL.of (s5 _ _ hr), fun p2 h2 => ?_⟩
        rw [show (2 : Int) = ((2 : Nat) : Int) from rfl, cutV_to]
        have n2 : p2 ≠ D := fun e => by rw [e, hD5] at h2; cases h2
        have g6 : Same G5 (upd G5 p2 (.lst (rs.take 2))) := same_new (s5.free h2) _
        have s6 : Same (upd G5 p2 (.lst (rs.take 2))) (upd H5 p2 (.lst (rs.take 2))) := fun b o e => by
          by_cases c : b = p2
          · rw [c, upd_same] at e ⊢; exact e
          · rw [upd_ne c] at e ⊢; exact s5 _ _ e
        have hp2 := upd_same (H := G5) (a := p2) (o := .lst (rs.take 2))
        have gD6 : (upd G5 p2 (.lst (rs.take 2))) D = none := by rw [upd_ne n2.symm]; exact gD5
        have hD6 : (upd H5 p2 (.lst (rs.take 2))) D = some (.lst acc) := by rw [upd_ne n2.symm]; exact hD5
        generalize upd H5 p2 (.lst (rs.take 2)) = H6 at s6 hD6 ⊢
        generalize upd G5 p2 (.lst (rs.take 2)) = G6 at s6 g6 hp2 gD6
        have p2s : Paired (MnAt G6) (rs.take 2) ((readE (bs.take 40) l).take 2) := ptake (L2.Paired.mapP prs fun _ _ z => mon_mn _ _ _ _ g6 z) 2
        have mem2 : ∀ p ∈ (readE (bs.take 40) l).take 2, p ∈ readE (bs.take 40) l := fun p hp => List.mem_of_mem_take hp
        have len2 : ((readE (bs.take 40) l).take 2).length ≤ 2 := by rw [List.length_take]; omega
        generalize (readE (bs.take 40) l).take 2 = E2 at p2s mem2 len2
        refine ⟨p2, rfl, ?_⟩
        have lp2 := plen p2s
        have g26 := g4.trans (g5.trans g6)
        refine row_l2 (H0 := G6) hp2 s6 fun J wk => ?_
        refine for_it wk (fun i σ H' => ∃ p7 : Option V, σ = [some (.ref pi), some (.ref pn), some (.int (at0 : Int)), some (.int (many : Int)), some (.ref D), some (.int (0 + (k : Int))), some (.ref pf), p7] ∧ Same G6 H' ∧ ∃ acc2 cs2, H' D = some (.lst acc2) ∧ Paired (CtAt VlAt G6) acc2 cs2 ∧ (∀ c ∈ cs2, Mean l c) ∧ cs2.length ≤ 2 * k + i)
          ⟨p7, rfl, s6, acc, cs, hD6, L2.Paired.mapP pcs fun _ _ z => mon_ct mon_vl _ _ _ _ g26 z, mcs, by omega⟩ (fun _ _ _ _ h => by obtain ⟨_, _, z, _⟩ := h; exact z) ?_ ?_
        · rintro i v σ H7' H7 hi ⟨p7, rfl, s7, acc2, cs2, hD7, pcs2, mcs2, lcs2⟩ ⟨e3, hv⟩
          subst e3
          obtain ⟨p0, gp, t0, pp, vv, vs, rfl, h1, h2, h3, h4⟩ := pget p2s hv
          have lac2 := plen pcs2
          refine ⟨_, rfl, .inl ⟨rfl, _, SqL.of hD7⟩, _, rfl, t0, _, 1, _, rfl, rfl, SqT.of (s7 _ _ h1), atI_nat (j := 1) rfl, D, acc2, _, rfl, rfl, hD7, lt_line (by omega), ?_⟩
          refine ⟨_, rfl, fun b o e => by rw [upd_ne (ne_of_none e gD6)]; exact s7 _ _ e, acc2 ++ [.ref vv], cs2 ++ [p0.vals], upd_same, papp pcs2 (.cons ⟨vv, vs, rfl, h3, h4⟩ .nil), ?_, by rw [List.length_append, List.length_singleton]; omega⟩
          intro c hc
          rcases List.mem_append.mp hc with hc | hc
          · exact mcs2 c hc
          · rw [List.mem_singleton.mp hc]
            exact ⟨bs.take 40, p0, b40, l40, mem2 p0 (List.mem_of_getElem? gp), rfl⟩
        · rintro σ H7 ⟨p7, rfl, s7, acc2, cs2, hD7, pcs2, mcs2, lcs2⟩
          exact ⟨_, _, _, rfl, G6, acc2, cs2, sg4.trans (g5.trans g6), s7, gD6, hD7, pcs2, mcs2, by omega⟩
      · refine ⟨_, rfl, _, rfl, iteF ?_⟩
        exact ⟨_, _, _, rfl, G2, acc, cs, sg2, s2.trans s3, gD2, s3 _ _ hacc, pcs, mcs, by omega⟩
    · rintro σ H2 ⟨k5, f6, p7, rfl, G2, acc, cs, sg2, s2, gD2, hacc, pcs, mcs, lcs⟩
      exact ⟨_, rfl, q D acc cs H2 (sg2.trans s2) hacc (L2.Paired.mapP pcs fun _ _ z => mon_ct mon_vl _ _ _ _ s2 z) mcs lcs⟩
end
end Bm

set_option Elab.async false
set_option linter.all false
set_option maxRecDepth 100000
set_option maxHeartbeats 8000000
/-! data as trees; copies -/
namespace Bm
open PySem L2
inductive Dt where
  | int (i : Int)
  | str (z : Str)
  | lst (l : List Dt)
  | tup (l : List Dt)
def DtAt : Nat → Hp → V → Dt → Prop
  | 0, _, v, .int i => v = .int i
  | 0, _, v, .str z => v = .str z
  | 0, _, _, .lst _ => False
  | 0, _, _, .tup _ => False
  | _ + 1, _, v, .int i => v = .int i
  | _ + 1, _, v, .str z => v = .str z
  | n + 1, H, v, .lst l => ∃ p xs, v = .ref p ∧ H p = some (.lst xs) ∧ Paired (DtAt n H) xs l ∧ l.length ≤ 100000
  | n + 1, H, v, .tup l => ∃ p xs, v = .ref p ∧ H p = some (.tup xs) ∧ Paired (DtAt n H) xs l ∧ l.length ≤ 100000
theorem dt_int {n : Nat} {H : Hp} {v : V} {i : Int} : DtAt n H v (.int i) ↔ v = .int i := by cases n <;> exact Iff.rfl
theorem dt_str {n : Nat} {H : Hp} {v : V} {z : Str} : DtAt n H v (.str z) ↔ v = .str z := by cases n <;> exact Iff.rfl
theorem mon_dt : ∀ {n : Nat} {H H' : Hp} {v : V} {d : Dt}, Same H H' → DtAt n H v d → DtAt n H' v d
  | n, _, _, _, .int i, _, h => dt_int.mpr (dt_int.mp h)
  | n, _, _, _, .str i, _, h => dt_str.mpr (dt_str.mp h)
  | 0, _, _, _, .lst _, _, h => h
  | 0, _, _, _, .tup _, _, h => h
  | n + 1, _, _, _, .lst l, s, h => by obtain ⟨p, xs, e, h, q, b⟩ := h; exact ⟨p, xs, e, s _ _ h, L2.Paired.mapP q fun _ _ k => mon_dt s k, b⟩
  | n + 1, _, _, _, .tup l, s, h => by obtain ⟨p, xs, e, h, q, b⟩ := h; exact ⟨p, xs, e, s _ _ h, L2.Paired.mapP q fun _ _ k => mon_dt s k, b⟩
def OdAt (n : Nat) (H : Hp) (v : V) : Option Dt → Prop
  | none => v = .non
  | some d => DtAt n H v d
theorem mon_od {n : Nat} {H H' : Hp} {v : V} {o : Option Dt} (s : Same H H') (h : OdAt n H v o) : OdAt n H' v o := by
  cases o with
  | none => exact h
  | some d => exact mon_dt s h
/-- a copy is new, through and through (in the ghost that grows) -/
def spCopy (n : Nat) : Sp := fun vs H Q _ => ∃ (G : Hp) (v : V) (d : Option Dt), vs = [v] ∧ Same G H ∧ OdAt n G v d ∧ ∀ u G' H', Same G G' → Same G' H' → Same H H' → Nu G H G' → OdAt n G' u d → (∀ p, u = .ref p → H p = none) → Q u H'
section
variable {P : Program} {w : World} {K : PySem.W.Frag} {mg : Str → Option Value} {base : Heap} {f : Addr} {fd : FuncData}
abbrev sCopyP : Stmt := top 1
abbrev nCopyP : List Str := ["value", "part"]
theorem scCopyP : FnScope nCopyP ["value"] (defScope sCopyP) := ⟨rfl, rfl, rfl, by decide +kernel, rfl, by decide +kernel, by decide +kernel⟩
theorem ok_copyP {n k : Nat} (F : Fun K "copied" "copied" sCopyP f fd) (gC : Cal P w K mg base CX0 k "copied" ["value"] (spSub spCopy n)) (mi : mg "isinstance" = none) (mlist : mg "list" = none) (mt : mg "tuple" = none) : FnOk P w K mg base CX0 (k + 1) f fd ["value"] (spCopy n) := by
  refine F.ok scCopyP (fun vs H Q E h => ?_) (fun cdv A outer s H vs Q E hr h => ?_)
  · obtain ⟨G, v, d, rfl, _⟩ := h
    rfl
  · obtain ⟨G, v, d, rfl, sG, hd, q⟩ := h
    refine ⟨_, (pss_cons (ps_if (pt_val (pe_callB call_isi (by rfl) mi (by decide +kernel) (pa_cons (pv 0) (pa_cons (pe_bltn (v := .ty "list") (by rfl) mlist (by decide +kernel) rfl) pa_nil)))) (pss_one (ps_ret (pe_lc (own := [("part", 1)]) (g := gName 1) (tt := tYes) rfl scCopyP.nd (pi_row (pv 0)) (blkOk_by (own := [("part", 1)]) (N := nCopyP) (sc := defScope sCopyP) (by decide +kernel)) (fun _ _ _ _ _ => pg_name (i := 1) scCopyP.nd rfl (Or.inl rfl)) (fun _ _ _ _ _ => pts_nil) (fun _ _ _ _ _ => (pe_cal gC hr pass0 (pa_cons (pv 1) pa_nil)))))) pss_nil)
      (pss_cons (ps_if (pt_val (pe_callB call_isi (by rfl) mi (by decide +kernel) (pa_cons (pv 0) (pa_cons (pe_bltn (v := .ty "tuple") (by rfl) mt (by decide +kernel) rfl) pa_nil)))) (pss_one (ps_ret (pe_tupleOf (by rfl) mt (pe_lc (own := [("part", 1)]) (g := gName 1) (tt := tYes) rfl scCopyP.nd (pi_row (pv 0)) (blkOk_by (own := [("part", 1)]) (N := nCopyP) (sc := defScope sCopyP) (by decide +kernel)) (fun _ _ _ _ _ => pg_name (i := 1) scCopyP.nd rfl (Or.inl rfl)) (fun _ _ _ _ _ => pts_nil) (fun _ _ _ _ _ => (pe_cal gC hr pass0 (pa_cons (pv 1) pa_nil))))))) pss_nil)
      (pss_one (ps_ret (pv 0))))), ?_⟩
    cases d with
    | none =>
      obtain rfl : v = .non := hd
      refine ⟨_, rfl, _, _, _, _, false, rfl, .ty _, .base .non, kit_ty (by decide +kernel), _, rfl, iteF ?_⟩
      refine ⟨_, rfl, _, _, _, _, false, rfl, .ty _, .base .non, kit_ty (by decide +kernel), _, rfl, iteF ?_⟩
      exact ⟨_, rfl, q _ G H (Same.refl _) sG (Same.refl _) (fun _ h _ => h) rfl fun p e => by cases e⟩
    | some d =>
    cases d with
    | int i =>
      obtain rfl := dt_int.mp hd
      refine ⟨_, rfl, _, _, _, _, false, rfl, .ty _, .base (.int _), kit_ty (by decide +kernel), _, rfl, iteF ?_⟩
      refine ⟨_, rfl, _, _, _, _, false, rfl, .ty _, .base (.int _), kit_ty (by decide +kernel), _, rfl, iteF ?_⟩
      exact ⟨_, rfl, q _ G H (Same.refl _) sG (Same.refl _) (fun _ h _ => h) (dt_int.mpr rfl) fun p e => by cases e⟩
    | str z =>
      obtain rfl := dt_str.mp hd
      refine ⟨_, rfl, _, _, _, _, false, rfl, .ty _, .base (.str _), kit_ty (by decide +kernel), _, rfl, iteF ?_⟩
      refine ⟨_, rfl, _, _, _, _, false, rfl, .ty _, .base (.str _), kit_ty (by decide +kernel), _, rfl, iteF ?_⟩
      exact ⟨_, rfl, q _ G H (Same.refl _) sG (Same.refl _) (fun _ h _ => h) (dt_str.mpr rfl) fun p e => by cases e⟩
    | lst l =>
      cases n with
      | zero => exact hd.elim
      | succ n =>
      obtain ⟨p, xs, rfl, hp, pl, ll⟩ := hd
      refine ⟨_, rfl, _, _, _, _, true, rfl, .ty _, .base (.lst (sG _ _ hp)), kit_ty (by decide +kernel), _, rfl, iteT ?_⟩
      refine ⟨_, rfl, p, rfl, ?_⟩
      refine row_l2 (H0 := G) hp sG fun J wk => ?_
      intro D hD
      have gD := sG.free hD
      refine lc_it wk (fun i H' => ∃ G' acc, Same G G' ∧ Same G' H' ∧ Same H H' ∧ Nu G H G' ∧ G' D = none ∧ H' D = some (.lst acc) ∧ Paired (DtAt n G') acc (l.take i))
        ⟨G, [], Same.refl _, sG.trans (same_new hD _), same_new hD _, (fun _ h _ => h), gD, upd_same, .nil⟩ (fun _ _ _ h => by obtain ⟨_, _, z1, z2, _⟩ := h; exact z1.trans z2) ?_ ?_
      · rintro i v H2' H2 hi ⟨G2, acc, g2, s2, h2, n2, gD2, hD2, pacc⟩ ⟨e3, hv⟩
        subst e3
        obtain ⟨d, gd, hd⟩ := pget pl hv
        have lac := plen pacc
        rw [List.length_take] at lac
        refine ⟨rfl, yes_go ?_⟩
        refine ⟨_, rfl, G2, v, some d, rfl, s2, mon_dt g2 hd, fun u G5 H5 g5 s5 h5 n5 hu fr => ?_⟩
        have gD5 := n5 D gD2 (by rw [hD2]; exact fun z => by cases z)
        refine ⟨acc, h5 _ _ hD2, lt_line (by omega), G5, acc ++ [u], g2.trans g5, fun b o e => by rw [upd_ne (ne_of_none e gD5)]; exact s5 _ _ e, fun b o e => by rw [upd_ne (ne_of_none e hD)]; exact h5 _ _ (h2 _ _ e), fun b e1 e2 => n5 b (n2 b e1 e2) ?_, gD5, upd_same, ?_⟩
        · cases c : H b with
          | none => exact absurd c e2
          | some o => rw [h2 _ _ c]; exact fun z => by cases z
        · rw [List.take_add_one, gd]
          exact papp (L2.Paired.mapP pacc fun _ _ z => mon_dt g5 z) (.cons hu .nil)
      · rintro H2 ⟨G2, acc, g2, s2, h2, n2, gD2, hD2, pacc⟩
        rw [plen pl, List.take_length] at pacc
        have gT : Same G2 (upd G2 D (.lst acc)) := fun b o e => by rw [upd_ne (ne_of_none e gD2)]; exact e
        refine q (.ref D) (upd G2 D (.lst acc)) H2 (g2.trans gT) (fun b o e => ?_) h2 (fun b e1 e2 => ?_) ⟨D, acc, rfl, upd_same, L2.Paired.mapP pacc fun _ _ z => mon_dt gT z, ll⟩ fun p e => by cases e; exact hD
        · by_cases c : b = D
          · rw [c, upd_same] at e; rw [c, hD2, e]
          · rw [upd_ne c] at e; exact s2 _ _ e
        · rw [upd_ne (fun z => e2 (by rw [z]; exact hD))]; exact n2 b e1 e2
    | tup l =>
      cases n with
      | zero => exact hd.elim
      | succ n =>
      obtain ⟨p, xs, rfl, hp, pl, ll⟩ := hd
      refine ⟨_, rfl, _, _, _, _, false, rfl, .ty _, .base (.tup (sG _ _ hp)), kit_ty (by decide +kernel), _, rfl, iteF ?_⟩
      refine ⟨_, rfl, _, _, _, _, true, rfl, .ty _, .base (.tup (sG _ _ hp)), kit_ty (by decide +kernel), _, rfl, iteT ?_⟩
      refine ⟨_, rfl, p, rfl, ?_⟩
      refine row_t2 (H0 := G) hp sG fun J wk => ?_
      intro D hD
      have gD := sG.free hD
      refine lc_it wk (fun i H' => ∃ G' acc, Same G G' ∧ Same G' H' ∧ Same H H' ∧ Nu G H G' ∧ G' D = none ∧ H' D = some (.lst acc) ∧ Paired (DtAt n G') acc (l.take i))
        ⟨G, [], Same.refl _, sG.trans (same_new hD _), same_new hD _, (fun _ h _ => h), gD, upd_same, .nil⟩ (fun _ _ _ h => by obtain ⟨_, _, z1, z2, _⟩ := h; exact z1.trans z2) ?_ ?_
      · rintro i v H2' H2 hi ⟨G2, acc, g2, s2, h2, n2, gD2, hD2, pacc⟩ ⟨e3, hv⟩
        subst e3
        obtain ⟨d, gd, hd⟩ := pget pl hv
        have lac := plen pacc
        rw [List.length_take] at lac
        refine ⟨rfl, yes_go ?_⟩
        refine ⟨_, rfl, G2, v, some d, rfl, s2, mon_dt g2 hd, fun u G5 H5 g5 s5 h5 n5 hu fr => ?_⟩
        have gD5 := n5 D gD2 (by rw [hD2]; exact fun z => by cases z)
        refine ⟨acc, h5 _ _ hD2, lt_line (by omega), G5, acc ++ [u], g2.trans g5, fun b o e => by rw [upd_ne (ne_of_none e gD5)]; exact s5 _ _ e, fun b o e => by rw [upd_ne (ne_of_none e hD)]; exact h5 _ _ (h2 _ _ e), fun b e1 e2 => n5 b (n2 b e1 e2) ?_, gD5, upd_same, ?_⟩
        · cases c : H b with
          | none => exact absurd c e2
          | some o => rw [h2 _ _ c]; exact fun z => by cases z
        · rw [List.take_add_one, gd]
          exact papp (L2.Paired.mapP pacc fun _ _ z => mon_dt g5 z) (.cons hu .nil)
      · rintro H2 ⟨G2, acc, g2, s2, h2, n2, gD2, hD2, pacc⟩
        rw [plen pl, List.take_length] at pacc
        refine .inl ⟨D, acc, rfl, SqL.of hD2, fun r hr => ?_⟩
        have gr := s2.free hr
        have gT : Same G2 (upd G2 r (.tup acc)) := fun b o e => by rw [upd_ne (ne_of_none e gr)]; exact e
        refine q (.ref r) (upd G2 r (.tup acc)) _ (g2.trans gT) (fun b o e => ?_) (h2.trans (same_new hr _)) (fun b e1 e2 => ?_) ⟨r, acc, rfl, upd_same, L2.Paired.mapP pacc fun _ _ z => mon_dt gT z, ll⟩ fun p e => by cases e; exact h2.free hr
        · by_cases c : b = r
          · rw [c, upd_same] at e ⊢; exact e
          · rw [upd_ne c] at e ⊢; exact s2 _ _ e
        · rw [upd_ne (fun z => e2 (by rw [z]; exact h2.free hr))]; exact n2 b e1 e2
abbrev sCopyL : Stmt := top 25
abbrev nCopyL : List Str := ["value", "part"]
theorem scCopyL : FnScope nCopyL ["value"] (defScope sCopyL) := ⟨rfl, rfl, rfl, by decide +kernel, rfl, by decide +kernel, by decide +kernel⟩
theorem ok_copyL {n k : Nat} (F : Fun K "_law_copied" "_law_copied" sCopyL f fd) (gC : Cal P w K mg base CX0 k "_law_copied" ["value"] (spSub spCopy n)) (mi : mg "isinstance" = none) (mlist : mg "list" = none) (mt : mg "tuple" = none) : FnOk P w K mg base CX0 (k + 1) f fd ["value"] (spCopy n) := by
  refine F.ok scCopyL (fun vs H Q E h => ?_) (fun cdv A outer s H vs Q E hr h => ?_)
  · obtain ⟨G, v, d, rfl, _⟩ := h
    rfl
  · obtain ⟨G, v, d, rfl, sG, hd, q⟩ := h
    refine ⟨_, (pss_cons (ps_if (pt_val (pe_callB call_isi (by rfl) mi (by decide +kernel) (pa_cons (pv 0) (pa_cons (pe_bltn (v := .ty "list") (by rfl) mlist (by decide +kernel) rfl) pa_nil)))) (pss_one (ps_ret (pe_lc (own := [("part", 1)]) (g := gName 1) (tt := tYes) rfl scCopyL.nd (pi_row (pv 0)) (blkOk_by (own := [("part", 1)]) (N := nCopyL) (sc := defScope sCopyL) (by decide +kernel)) (fun _ _ _ _ _ => pg_name (i := 1) scCopyL.nd rfl (Or.inl rfl)) (fun _ _ _ _ _ => pts_nil) (fun _ _ _ _ _ => (pe_cal gC hr pass0 (pa_cons (pv 1) pa_nil)))))) pss_nil)
      (pss_cons (ps_if (pt_val (pe_callB call_isi (by rfl) mi (by decide +kernel) (pa_cons (pv 0) (pa_cons (pe_bltn (v := .ty "tuple") (by rfl) mt (by decide +kernel) rfl) pa_nil)))) (pss_one (ps_ret (pe_tupleOf (by rfl) mt (pe_lc (own := [("part", 1)]) (g := gName 1) (tt := tYes) rfl scCopyL.nd (pi_row (pv 0)) (blkOk_by (own := [("part", 1)]) (N := nCopyL) (sc := defScope sCopyL) (by decide +kernel)) (fun _ _ _ _ _ => pg_name (i := 1) scCopyL.nd rfl (Or.inl rfl)) (fun _ _ _ _ _ => pts_nil) (fun _ _ _ _ _ => (pe_cal gC hr pass0 (pa_cons (pv 1) pa_nil))))))) pss_nil)
      (pss_one (ps_ret (pv 0))))), ?_⟩
    cases d with
    | none =>
      obtain rfl : v = .non := hd
      refine ⟨_, rfl, _, _, _, _, false, rfl, .ty _, .base .non, kit_ty (by decide +kernel), _, rfl, iteF ?_⟩
      refine ⟨_, rfl, _, _, _, _, false, rfl, .ty _, .base .non, kit_ty (by decide +kernel), _, rfl, iteF ?_⟩
      exact ⟨_, rfl, q _ G H (Same.refl _) sG (Same.refl _) (fun _ h _ => h) rfl fun p e => by cases e⟩
    | some d =>
    cases d with
    | int i =>
      obtain rfl := dt_int.mp hd
      refine ⟨_, rfl, _, _, _, _, false, rfl, .ty _, .base (.int _), kit_ty (by decide +kernel), _, rfl, iteF ?_⟩
      refine ⟨_, rfl, _, _, _, _, false, rfl, .ty _, .base (.int _), kit_ty (by decide +kernel), _, rfl, iteF ?_⟩
      exact ⟨_, rfl, q _ G H (Same.refl _) sG (Same.refl _) (fun _ h _ => h) (dt_int.mpr rfl) fun p e => by cases e⟩
    | str z =>
      obtain rfl := dt_str.mp hd
      refine ⟨_, rfl, _, _, _, _, false, rfl, .ty _, .base (.str _), kit_ty (by decide +kernel), _, rfl, iteF ?_⟩
      refine ⟨_, rfl, _, _, _, _, false, rfl, .ty _, .base (.str _), kit_ty (by decide +kernel), _, rfl, iteF ?_⟩
      exact ⟨_, rfl, q _ G H (Same.refl _) sG (Same.refl _) (fun _ h _ => h) (dt_str.mpr rfl) fun p e => by cases e⟩
    | lst l =>
      cases n with
      | zero => exact hd.elim
      | succ n =>
      obtain ⟨p, xs, rfl, hp, pl, ll⟩ := hd
      refine ⟨_, rfl, _, _, _, _, true, rfl, .ty _, .base (.lst (sG _ _ hp)), kit_ty (by decide +kernel), _, rfl, iteT ?_⟩
      refine ⟨_, rfl, p, rfl, ?_⟩
      refine row_l2 (H0 := G) hp sG fun J wk => ?_
      intro D hD
      have gD := sG.free hD
      refine lc_it wk (fun i H' => ∃ G' acc, Same G G' ∧ Same G' H' ∧ Same H H' ∧ Nu G H G' ∧ G' D = none ∧ H' D = some (.lst acc) ∧ Paired (DtAt n G') acc (l.take i))
        ⟨G, [], Same.refl _, sG.trans (same_new hD _), same_new hD _, (fun _ h _ => h), gD, upd_same, .nil⟩ (fun _ _ _ h => by obtain ⟨_, _, z1, z2, _⟩ := h; exact z1.trans z2) ?_ ?_
      · rintro i v H2' H2 hi ⟨G2, acc, g2, s2, h2, n2, gD2, hD2, pacc⟩ ⟨e3, hv⟩
        subst e3
        obtain ⟨d, gd, hd⟩ := pget pl hv
        have lac := plen pacc
        rw [List.length_take] at lac
        refine ⟨rfl, yes_go ?_⟩
        refine ⟨_, rfl, G2, v, some d, rfl, s2, mon_dt g2 hd, fun u G5 H5 g5 s5 h5 n5 hu fr => ?_⟩
        have gD5 := n5 D gD2 (by rw [hD2]; exact fun z => by cases z)
        refine ⟨acc, h5 _ _ hD2, lt_line (by omega), G5, acc ++ [u], g2.trans g5, fun b o e => by rw [upd_ne (ne_of_none e gD5)]; exact s5 _ _ e, fun b o e => by rw [upd_ne (ne_of_none e hD)]; exact h5 _ _ (h2 _ _ e), fun b e1 e2 => n5 b (n2 b e1 e2) ?_, gD5, upd_same, ?_⟩
        · cases c : H b with
          | none => exact absurd c e2
          | some o => rw [h2 _ _ c]; exact fun z => by cases z
        · rw [List.take_add_one, gd]
          exact papp (L2.Paired.mapP pacc fun _ _ z => mon_dt g5 z) (.cons hu .nil)
      · rintro H2 ⟨G2, acc, g2, s2, h2, n2, gD2, hD2, pacc⟩
        rw [plen pl, List.take_length] at pacc
        have gT : Same G2 (upd G2 D (.lst acc)) := fun b o e => by rw [upd_ne (ne_of_none e gD2)]; exact e
        refine q (.ref D) (upd G2 D (.lst acc)) H2 (g2.trans gT) (fun b o e => ?_) h2 (fun b e1 e2 => ?_) ⟨D, acc, rfl, upd_same, L2.Paired.mapP pacc fun _ _ z => mon_dt gT z, ll⟩ fun p e => by cases e; exact hD
        · by_cases c : b = D
          · rw [c, upd_same] at e; rw [c, hD2, e]
          · rw [upd_ne c] at e; exact s2 _ _ e
        · rw [upd_ne (fun z => e2 (by rw [z]; exact hD))]; exact n2 b e1 e2
    | tup l =>
      cases n with
      | zero => exact hd.elim
      | succ n =>
      obtain ⟨p, xs, rfl, hp, pl, ll⟩ := hd
      refine ⟨_, rfl, _, _, _, _, false, rfl, .ty _, .base (.tup (sG _ _ hp)), kit_ty (by decide +kernel), _, rfl, iteF ?_⟩
      refine ⟨_, rfl, _, _, _, _, true, rfl, .ty _, .base (.tup (sG _ _ hp)), kit_ty (by decide +kernel), _, rfl, iteT ?_⟩
      refine ⟨_, rfl, p, rfl, ?_⟩
      refine row_t2 (H0 := G) hp sG fun J wk => ?_
      intro D hD
      have gD := sG.free hD
      refine lc_it wk (fun i H' => ∃ G' acc, Same G G' ∧ Same G' H' ∧ Same H H' ∧ Nu G H G' ∧ G' D = none ∧ H' D = some (.lst acc) ∧ Paired (DtAt n G') acc (l.take i))
        ⟨G, [], Same.refl _, sG.trans (same_new hD _), same_new hD _, (fun _ h _ => h), gD, upd_same, .nil⟩ (fun _ _ _ h => by obtain ⟨_, _, z1, z2, _⟩ := h; exact z1.trans z2) ?_ ?_
      · rintro i v H2' H2 hi ⟨G2, acc, g2, s2, h2, n2, gD2, hD2, pacc⟩ ⟨e3, hv⟩
        subst e3
        obtain ⟨d, gd, hd⟩ := pget pl hv
        have lac := plen pacc
        rw [List.length_take] at lac
        refine ⟨rfl, yes_go ?_⟩
        refine ⟨_, rfl, G2, v, some d, rfl, s2, mon_dt g2 hd, fun u G5 H5 g5 s5 h5 n5 hu fr => ?_⟩
        have gD5 := n5 D gD2 (by rw [hD2]; exact fun z => by cases z)
        refine ⟨acc, h5 _ _ hD2, lt_line (by omega), G5, acc ++ [u], g2.trans g5, fun b o e => by rw [upd_ne (ne_of_none e gD5)]; exact s5 _ _ e, fun b o e => by rw [upd_ne (ne_of_none e hD)]; exact h5 _ _ (h2 _ _ e), fun b e1 e2 => n5 b (n2 b e1 e2) ?_, gD5, upd_same, ?_⟩
        · cases c : H b with
          | none => exact absurd c e2
          | some o => rw [h2 _ _ c]; exact fun z => by cases z
        · rw [List.take_add_one, gd]
          exact papp (L2.Paired.mapP pacc fun _ _ z => mon_dt g5 z) (.cons hu .nil)
      · rintro H2 ⟨G2, acc, g2, s2, h2, n2, gD2, hD2, pacc⟩
        rw [plen pl, List.take_length] at pacc
        refine .inl ⟨D, acc, rfl, SqL.of hD2, fun r hr => ?_⟩
        have gr := s2.free hr
        have gT : Same G2 (upd G2 r (.tup acc)) := fun b o e => by rw [upd_ne (ne_of_none e gr)]; exact e
        refine q (.ref r) (upd G2 r (.tup acc)) _ (g2.trans gT) (fun b o e => ?_) (h2.trans (same_new hr _)) (fun b e1 e2 => ?_) ⟨r, acc, rfl, upd_same, L2.Paired.mapP pacc fun _ _ z => mon_dt gT z, ll⟩ fun p e => by cases e; exact h2.free hr
        · by_cases c : b = r
          · rw [c, upd_same] at e ⊢; exact e
          · rw [upd_ne c] at e ⊢; exact s2 _ _ e
        · rw [upd_ne (fun z => e2 (by rw [z]; exact h2.free hr))]; exact n2 b e1 e2

end
end Bm

set_option Elab.async false
set_option linter.all false
set_option maxRecDepth 100000
set_option maxHeartbeats 8000000
/-! values at spots -/
namespace Bm
open PySem L2
abbrev sWith : Stmt := top 4
abbrev sVat : Stmt := top 3
def kD : Key → Dt
  | .inl i => .int i
  | .inr z => .str z
/-- tuples are pairs, a number or a name ahead -/
inductive Wk : Dt → Prop where
  | int (i : Int) : Wk (.int i)
  | str (z : Str) : Wk (.str z)
  | lst {l : List Dt} (h : ∀ x ∈ l, Wk x) : Wk (.lst l)
  | pr (k : Key) {d : Dt} (h : Wk d) : Wk (.tup [kD k, d])
theorem Wk.l {l : List Dt} (h : Wk (.lst l)) : ∀ x ∈ l, Wk x := by cases h; assumption
theorem Wk.t {l : List Dt} (h : Wk (.tup l)) : ∃ k d, l = [kD k, d] ∧ Wk d := by cases h with | pr k h => exact ⟨k, _, rfl, h⟩
/-- what a pair is named by a name tells -/
def prN (z : Str) : Dt → Option Dt
  | .tup [.str a, d] => if a = z then some d else none
  | _ => none
def isL : Dt → Bool
  | .lst _ => true
  | _ => false
def win (k : Key) : Dt → Option Dt
  | .tup [.int i, d] => if k = .inl i then some d else none
  | .tup [.str z, d] => if k = .inr z then some d else none
  | .lst l => match k with
    | .inr z => (l.filterMap (prN z)).head?
    | .inl i => if 0 ≤ i ∧ i < l.length then (l[i.toNat]?).bind fun d => if isL d then some d else none else none
  | _ => none
def vat (d : Dt) (s : List Key) : Option Dt := s.foldl (fun o k => o.bind (win k)) (some d)
theorem win_tup (k k' : Key) (d : Dt) : win k (.tup [kD k', d]) = if k = k' then some d else none := by cases k' <;> rfl
theorem req_k {k k' : Key} {H : Hp} {Q : VK} (h : Q (.bl (decide (k' = k))) H) : rEq (kV k') (kV k) H Q := by
  cases k with
  | inl i => cases k' with
    | inl j => exact ⟨rfl, by simpa [kV] using h⟩
    | inr z => exact ⟨rfl, by simpa [kV] using h⟩
  | inr i => cases k' with
    | inl j => exact ⟨rfl, by simpa [kV] using h⟩
    | inr z => exact ⟨rfl, by simpa [kV] using h⟩
/-- deeper is no harm -/
theorem mon_dn : ∀ {n : Nat} {H : Hp} {v : V} {d : Dt}, DtAt n H v d → DtAt (n + 1) H v d
  | n, _, _, .int i, h => dt_int.mpr (dt_int.mp h)
  | n, _, _, .str i, h => dt_str.mpr (dt_str.mp h)
  | 0, _, _, .lst _, h => h.elim
  | 0, _, _, .tup _, h => h.elim
  | n + 1, _, _, .lst l, h => by obtain ⟨p, xs, e, h, q, b⟩ := h; exact ⟨p, xs, e, h, L2.Paired.mapP q fun _ _ k => mon_dn k, b⟩
  | n + 1, _, _, .tup l, h => by obtain ⟨p, xs, e, h, q, b⟩ := h; exact ⟨p, xs, e, h, L2.Paired.mapP q fun _ _ k => mon_dn k, b⟩
theorem wk_win {k : Key} {d d' : Dt} (h : Wk d) (e : win k d = some d') : Wk d' := by
  cases h with
  | int i => cases e
  | str z => cases e
  | @pr k' d h =>
    rw [win_tup] at e
    split at e
    · cases e; exact h
    · cases e
  | @lst l h =>
    cases k with
    | inl i =>
      have e : (if 0 ≤ i ∧ i < l.length then (l[i.toNat]?).bind fun d => if isL d then some d else none else none) = some d' := e
      split at e
      · cases c : l[i.toNat]? with
        | none => rw [c] at e; cases e
        | some x =>
          rw [c] at e
          have e : (if isL x then some x else none) = some d' := e
          split at e
          · cases e; exact h _ (List.mem_of_getElem? c)
          · cases e
      · cases e
    | inr z =>
      have e : (l.filterMap (prN z)).head? = some d' := e
      have m := List.mem_of_mem_head? e
      obtain ⟨x, hx, ex⟩ := List.mem_filterMap.mp m
      have wx := h x hx
      cases wx with
      | int i => cases ex
      | str i => cases ex
      | lst g => cases ex
      | @pr k'' d g =>
        cases k'' with
        | inl i => cases ex
        | inr a =>
          have ex : (if a = z then some d else none) = some d' := ex
          split at ex
          · cases ex; exact g
          · cases ex
def spWith : Sp := fun vs H Q _ => ∃ (n : Nat) (v : V) (o : Option Dt) (k : Key), vs = [v, kV k] ∧ OdAt n H v o ∧ (∀ d, o = some d → Wk d) ∧ ∀ u H', Same H H' → OdAt n H' u (o.bind (win k)) → Q u H'
section
variable {P : Program} {w : World} {K : PySem.W.Frag} {mg : Str → Option Value} {base : Heap} {f : Addr} {fd : FuncData}
abbrev nWith : List Str := ["value", "part", "found", "entry"]
theorem scWith : FnScope nWith ["value", "part"] (defScope sWith) := ⟨rfl, rfl, rfl, by decide +kernel, rfl, by decide +kernel, by decide +kernel⟩
theorem ok_with (F : Fun K "within" "within" sWith f fd) (mi : mg "isinstance" = none) (mlist : mg "list" = none) (mt : mg "tuple" = none) (ms : mg "str" = none) (ml : mg "len" = none) : FnOk P w K mg base CX0 1 f fd ["value", "part"] spWith := by
  refine F.ok scWith (fun vs H Q E h => ?_) (fun cdv A outer s H vs Q E hr h => ?_)
  · obtain ⟨n, v, o, k, rfl, _⟩ := h
    rfl
  · obtain ⟨n, v, o, k, rfl, ho, wk, q⟩ := h
    refine ⟨_, (pss_cons (ps_if (pt_val (pe_callB  call_isi (by rfl) mi (by decide +kernel) (pa_cons (pv 0) (pa_cons (pe_bltn (v := .ty "tuple") (by rfl) mt (by decide +kernel) rfl) pa_nil)))) (pss_one (ps_ret (pe_ifExp (pt_cmpR op_eq (pe_ix ix_tup (pv 0) pe_int (fun _ _ => rfl)) (pv 1) (nomark _)) (pe_ix ix_tup (pv 0) pe_int (fun _ _ => rfl)) pe_non))) pss_nil)
      (pss_cons (ps_if (pt_not (pt_val (pe_callB  call_isi (by rfl) mi (by decide +kernel) (pa_cons (pv 0) (pa_cons (pe_bltn (v := .ty "list") (by rfl) mlist (by decide +kernel) rfl) pa_nil))))) (pss_one (ps_ret pe_non)) pss_nil)
      (pss_cons (ps_if (pt_val (pe_callB  call_isi (by rfl) mi (by decide +kernel) (pa_cons (pv 1) (pa_cons (pe_bltn (v := .ty "str") (by rfl) ms (by decide +kernel) rfl) pa_nil)))) (pss_cons (ps_setLc (i := 2) (own := [("entry", 3)]) (g := gName 3) rfl scWith.nd rfl rfl (sw_true rfl rfl rfl (by decide +kernel)) (pi_row (pv 0)) (blkOk_by (own := [("entry", 3)]) (N := nWith) (sc := defScope sWith) (by decide +kernel)) (fun _ _ _ _ _ => pg_name (i := 3) scWith.nd rfl (Or.inl rfl)) (fun _ _ _ _ _ => pts_one (PW.pt (pw_and (pt_val (pe_callB (r := rIsi K) call_isi (by rfl) mi (by decide +kernel) (pa_cons (pv 3) (pa_cons (pe_bltn (v := .ty "tuple") (by rfl) mt (by decide +kernel) rfl) pa_nil)))) (pw_and1 (pt_cmpR op_eq (pe_ix (r := rIxT K) ix_tup (pv 3) pe_int (fun _ _ => rfl)) (pv 1) (nomark _)))))) (fun _ _ _ _ _ => (pe_ix (r := rIxT K) ix_tup (pv 3) pe_int (fun _ _ => rfl))))
      (pss_one (ps_ret (pe_ifExp (pt_truth (pv 2) (fun _ => rfl)) (pe_ix ix_list (pv 2) pe_int (fun _ _ => rfl)) pe_non)))) pss_nil)
      (pss_cons (ps_if (PW.pt (pw_and (pt_chain op_le op_lt pe_int (pv 1) (pe_callB call_len (by rfl) ml boot_len (pa_cons (pv 0) pa_nil))) (pw_and1 (pt_val (pe_callB  call_isi (by rfl) mi (by decide +kernel) (pa_cons (pe_ix ix_list (pv 0) (pv 1) (fun _ _ => rfl)) (pa_cons (pe_bltn (v := .ty "list") (by rfl) mlist (by decide +kernel) rfl) pa_nil))))))) (pss_one (ps_ret (pe_ix ix_list (pv 0) (pv 1) (fun _ _ => rfl)))) pss_nil)
      (pss_one (ps_ret pe_non)))))), ?_⟩
    cases o with
    | none =>
      obtain rfl : v = .non := ho
      refine ⟨_, rfl, _, _, _, _, false, rfl, .ty _, .base .non, kit_ty (by decide +kernel), _, rfl, iteF ?_⟩
      refine ⟨_, rfl, _, _, _, _, false, rfl, .ty _, .base .non, kit_ty (by decide +kernel), _, rfl, iteT ?_⟩
      exact q _ H (Same.refl _) rfl
    | some d =>
      cases d with
      | int i =>
        obtain rfl := dt_int.mp ho
        refine ⟨_, rfl, _, _, _, _, false, rfl, .ty _, .base (.int _), kit_ty (by decide +kernel), _, rfl, iteF ?_⟩
        refine ⟨_, rfl, _, _, _, _, false, rfl, .ty _, .base (.int _), kit_ty (by decide +kernel), _, rfl, iteT ?_⟩
        exact q _ H (Same.refl _) rfl
      | str z =>
        obtain rfl := dt_str.mp ho
        refine ⟨_, rfl, _, _, _, _, false, rfl, .ty _, .base (.str _), kit_ty (by decide +kernel), _, rfl, iteF ?_⟩
        refine ⟨_, rfl, _, _, _, _, false, rfl, .ty _, .base (.str _), kit_ty (by decide +kernel), _, rfl, iteT ?_⟩
        exact q _ H (Same.refl _) rfl
      | tup l =>
        obtain ⟨n', k', d', rfl, rfl, wd⟩ : ∃ n' k' d', n = n' + 1 ∧ l = [kD k', d'] ∧ Wk d' := by
          cases n with
          | zero => exact ho.elim
          | succ n => obtain ⟨k', d', e, w⟩ := (wk _ rfl).t; exact ⟨n, k', d', rfl, e, w⟩
        obtain ⟨p, xs, rfl, hp, pl, ll⟩ := ho
        obtain ⟨x0, u, rfl, h0, hu⟩ : ∃ x0 u, xs = [x0, u] ∧ DtAt n' H x0 (kD k') ∧ DtAt n' H u d' := by
          cases pl with
          | cons h1 t => cases t with
            | cons h2 t => cases t; exact ⟨_, _, rfl, h1, h2⟩
        obtain rfl : x0 = kV k' := by
          cases k' with
          | inl i => exact dt_int.mp h0
          | inr z => exact dt_str.mp h0
        refine ⟨_, rfl, _, _, _, _, true, rfl, .ty _, .base (.tup hp), kit_ty (by decide +kernel), _, rfl, iteT ?_⟩
        refine ⟨_, rfl, p, _, 0, _, rfl, rfl, SqT.of hp, atI_nat (j := 0) rfl, _, rfl, req_k ?_⟩
        have q : ∀ u H', Same H H' → OdAt (n' + 1) H' u (if k = k' then some d' else none) → Q u H' := fun u H' s h => q u H' s (by show OdAt _ _ _ (win k _); rw [win_tup]; exact h)
        refine ⟨_, rfl, ite2 (fun e => ?_) (fun e => ?_)⟩
        · rw [if_pos (of_decide_eq_true e).symm] at q
          refine ⟨_, rfl, p, _, 1, _, rfl, rfl, SqT.of hp, atI_nat (j := 1) rfl, q u H (Same.refl _) (mon_dn hu)⟩
        · rw [if_neg (fun z => e (decide_eq_true z.symm))] at q
          exact q _ H (Same.refl _) rfl
      | lst l =>
        obtain ⟨n', rfl⟩ : ∃ n', n = n' + 1 := by
          cases n with
          | zero => exact ho.elim
          | succ n => exact ⟨n, rfl⟩
        obtain ⟨p, xs, rfl, hp, pl, ll⟩ := ho
        refine ⟨_, rfl, _, _, _, _, false, rfl, .ty _, .base (.lst hp), kit_ty (by decide +kernel), _, rfl, iteF ?_⟩
        refine ⟨_, rfl, _, _, _, _, true, rfl, .ty _, .base (.lst hp), kit_ty (by decide +kernel), _, rfl, iteF ?_⟩
        cases k with
        | inl i =>
          refine ⟨_, rfl, _, _, _, _, false, rfl, .ty _, .base (.int _), kit_ty (by decide +kernel), _, rfl, iteF ?_⟩
          have qf : ∀ u H', Same H H' → OdAt (n' + 1) H' u (if 0 ≤ i ∧ i < l.length then (l[i.toNat]?).bind fun d => if isL d then some d else none else none) → Q u H' := q
          refine ⟨_, rfl, _, _, rfl, rfl, _, rfl, ite2 (fun e => ?_) (fun e => ?_)⟩
          · have e0 : 0 ≤ i := of_decide_eq_true e
            obtain ⟨j, rfl⟩ := Int.eq_ofNat_of_zero_le e0
            refine ⟨_, rfl, _, _, rfl, .inl ⟨_, SqL.of hp, rfl⟩, _, _, rfl, rfl, _, rfl, ite2 (fun e => ?_) (fun e => ?_)⟩
            · have e1 : j < xs.length := by have := of_decide_eq_true e; omega
              obtain ⟨u, gu⟩ : ∃ u, xs[j]? = some u := ⟨xs[j], List.getElem?_eq_getElem e1⟩
              obtain ⟨d, gd, hd⟩ := pget pl gu
              rw [if_pos ⟨e0, by rw [← plen pl]; omega⟩, Int.toNat_natCast, gd] at qf
              have yes : isL d = true → Q u H := fun z => qf u H (Same.refl _) (by show OdAt _ _ _ (if isL d = true then some d else none); rw [if_pos z]; exact mon_dn hd)
              have no : isL d = false → Q .non H := fun z => qf .non H (Same.refl _) (by show OdAt _ _ _ (if isL d = true then some d else none); rw [z]; rfl)
              refine ⟨_, rfl, _, rfl, p, _, _, u, rfl, rfl, SqL.of hp, atI_nat (j := j) gu, ?_⟩
              cases d with
              | int i =>
                obtain rfl := dt_int.mp hd
                exact ⟨_, _, _, _, false, rfl, .ty _, .base (.int _), kit_ty (by decide +kernel), _, rfl, iteF (no rfl)⟩
              | str i =>
                obtain rfl := dt_str.mp hd
                exact ⟨_, _, _, _, false, rfl, .ty _, .base (.str _), kit_ty (by decide +kernel), _, rfl, iteF (no rfl)⟩
              | tup l2 =>
                cases n' with
                | zero => exact hd.elim
                | succ n' =>
                obtain ⟨p2, xs2, rfl, hp2, _⟩ := hd
                exact ⟨_, _, _, _, false, rfl, .ty _, .base (.tup hp2), kit_ty (by decide +kernel), _, rfl, iteF (no rfl)⟩
              | lst l2 =>
                cases n' with
                | zero => exact hd.elim
                | succ n' =>
                obtain ⟨p2, xs2, rfl, hp2, _⟩ := hd
                exact ⟨_, _, _, _, true, rfl, .ty _, .base (.lst hp2), kit_ty (by decide +kernel), _, rfl, iteT ⟨_, rfl, _, rfl, p, _, _, _, rfl, rfl, SqL.of hp, atI_nat (j := j) gu, yes rfl⟩⟩
            · rw [if_neg (fun z => e (decide_eq_true (by rw [plen pl]; exact z.2)))] at qf
              exact qf .non H (Same.refl _) rfl
          · rw [if_neg (fun z => e (decide_eq_true z.1))] at qf
            exact ⟨_, rfl, iteF (iteF (qf .non H (Same.refl _) rfl))⟩
        | inr z =>
          refine ⟨_, rfl, _, _, _, _, true, rfl, .ty _, .base (.str _), kit_ty (by decide +kernel), _, rfl, iteT ?_⟩
          refine ⟨_, rfl, p, rfl, ?_⟩
          refine row_l hp fun J wk2 => ?_
          intro D hD
          refine lc_it wk2 (fun i H' => Same H H' ∧ ∃ acc, H' D = some (.lst acc) ∧ acc.length ≤ i ∧ Paired (DtAt n' H) acc ((l.take i).filterMap (prN z))) ⟨same_new hD _, [], upd_same, Nat.le_refl _, .nil⟩ (fun _ _ _ h => h.1) ?_ ?_
          · rintro i v H2' H2 hi ⟨s2, acc, hD2, la, pacc⟩ ⟨e3, hv⟩
            subst e3
            obtain ⟨d, gd, hd⟩ := pget pl hv
            have lpl := plen pl
            refine ⟨rfl, ?_⟩
            rw [List.take_add_one, gd, Option.toList, List.filterMap_append]
            have keep : prN z d = none → Same H H2 ∧ ∃ acc, H2 D = some (.lst acc) ∧ acc.length ≤ i + 1 ∧ Paired (DtAt n' H) acc ((l.take i).filterMap (prN z) ++ [d].filterMap (prN z)) := fun e => ⟨s2, acc, hD2, by omega, by rw [List.filterMap_cons_none e, List.filterMap_nil, List.append_nil]; exact pacc⟩
            cases d with
            | int i =>
              obtain rfl := dt_int.mp hd
              exact ⟨_, rfl, _, _, _, _, false, rfl, .ty _, .base (.int _), kit_ty (by decide +kernel), _, rfl, iteF (iteF (keep rfl))⟩
            | str i =>
              obtain rfl := dt_str.mp hd
              exact ⟨_, rfl, _, _, _, _, false, rfl, .ty _, .base (.str _), kit_ty (by decide +kernel), _, rfl, iteF (iteF (keep rfl))⟩
            | lst l2 =>
              cases n' with
              | zero => exact hd.elim
              | succ n' =>
              obtain ⟨p2, xs2, rfl, hp2, _⟩ := hd
              exact ⟨_, rfl, _, _, _, _, false, rfl, .ty _, .base (.lst (s2 _ _ hp2)), kit_ty (by decide +kernel), _, rfl, iteF (iteF (keep rfl))⟩
            | tup l2 =>
              cases n' with
              | zero => exact hd.elim
              | succ n' =>
              obtain ⟨k', d', rfl, wd⟩ := ((wk _ rfl).l _ (List.mem_of_getElem? gd)).t
              obtain ⟨p2, xs2, rfl, hp2, pl2, ll2⟩ := hd
              obtain ⟨x0, u, rfl, h0, hu⟩ : ∃ x0 u, xs2 = [x0, u] ∧ DtAt n' H x0 (kD k') ∧ DtAt n' H u d' := by
                cases pl2 with
                | cons h1 t => cases t with
                  | cons h2 t => cases t; exact ⟨_, _, rfl, h1, h2⟩
              obtain rfl : x0 = kV k' := by
                cases k' with
                | inl i => exact dt_int.mp h0
                | inr z => exact dt_str.mp h0
              have pe : prN z (.tup [kD k', d']) = if k' = .inr z then some d' else none := by
                cases k' with
                | inl i => rfl
                | inr a => show (if a = z then some d' else none) = _; simp
              have hT := SqT.of (K := K) (s2 _ _ hp2)
              refine ⟨_, rfl, _, _, _, _, true, rfl, .ty _, .base (.tup (s2 _ _ hp2)), kit_ty (by decide +kernel), _, rfl, iteT ?_⟩
              refine ⟨_, rfl, p2, _, 0, _, rfl, rfl, hT, atI_nat (j := 0) rfl, _, rfl, req_k (k := .inr z) ?_⟩
              refine ⟨_, rfl, ite2 (fun e => ?_) (fun e => ?_)⟩
              · rw [if_pos (of_decide_eq_true e)] at pe
                refine ⟨_, rfl, p2, _, 1, _, rfl, rfl, hT, atI_nat (j := 1) rfl, acc, hD2, lt_line (by omega), same_set s2 hD, acc ++ [u], upd_same, by rw [List.length_append, List.length_singleton]; omega, ?_⟩
                rw [List.filterMap_cons_some pe, List.filterMap_nil]
                exact papp pacc (.cons (mon_dn hu) .nil)
              · rw [if_neg (fun z => e (decide_eq_true z))] at pe
                exact keep pe
          · rintro H2 ⟨s2, acc, hD2, la, pacc⟩
            rw [plen pl, List.take_length] at pacc
            have qf : ∀ u H', Same H H' → OdAt (n' + 1) H' u (l.filterMap (prN z)).head? → Q u H' := q
            generalize l.filterMap (prN z) = F at pacc qf
            refine ⟨_, rfl, ?_⟩
            cases acc with
            | nil =>
              cases pacc
              exact ⟨false, .inl ⟨[], SqL.of hD2, rfl⟩, iteF (qf .non H2 s2 rfl)⟩
            | cons u r =>
              cases pacc with
              | cons h1 h2 =>
              exact ⟨true, .inl ⟨_, SqL.of hD2, rfl⟩, iteT ⟨_, rfl, D, _, 0, _, rfl, rfl, SqL.of hD2, atI_nat (j := 0) rfl, qf u H2 s2 (mon_dt s2 (mon_dn h1))⟩⟩
abbrev nVat : List Str := ["content", "spot", "value", "part"]
theorem scVat : FnScope nVat ["content", "spot"] (defScope sVat) := ⟨rfl, rfl, rfl, by decide +kernel, rfl, by decide +kernel, by decide +kernel⟩
def spVat : Sp := fun vs H Q _ => ∃ (n : Nat) (v : V) (d : Dt) (ps : Addr) (s : List Key), vs = [v, .ref ps] ∧ DtAt n H v d ∧ Wk d ∧ n ≤ 8 ∧ H ps = some (.tup (s.map kV)) ∧ ∀ u H', Same H H' → OdAt n H' u (vat d s) → (∀ p, u = .ref p → H p = none) → Q u H'
theorem ok_vat {k : Nat} (hk : 1 ≤ k) (F : Fun K "value_at" "value_at" sVat f fd) (gW : Cal P w K mg base CX0 1 "within" ["value", "part"] spWith) (gC : ∀ n, n ≤ 8 → Cal P w K mg base CX0 k "copied" ["value"] (spCopy n)) : FnOk P w K mg base CX0 (k + 1) f fd ["content", "spot"] spVat := by
  refine F.ok scVat (fun vs H Q E h => ?_) (fun cdv A outer s H vs Q E hr h => ?_)
  · obtain ⟨n, v, d, ps, sp, rfl, _⟩ := h
    rfl
  · obtain ⟨n, v, d, ps, sp, rfl, hd, wd, n8, hps, q⟩ := h
    have hr1 : Room 1 _ := hr.mono hk
    have gC := gC n n8
    refine ⟨_, (pss_cons (ps_set (i := 2) scVat.nd rfl (.inl rfl) (pv 0))
      (pss_cons (ps_for PassesOwn.never rfl (pi_row (pv 1)) (pg_name (i := 3) scVat.nd rfl (.inl rfl))
        (pss_one (ps_set (i := 2) scVat.nd rfl (.inl rfl) (pe_cal gW hr1 pass0 (pa_cons (pv 2) (pa_cons (pv 3) pa_nil))))))
      (pss_one (ps_ret (pe_cal gC hr pass0 (pa_cons (pv 2) pa_nil)))))), ?_⟩
    refine ⟨_, rfl, ?_⟩
    refine ⟨_, rfl, ps, rfl, ?_⟩
    refine row_t hps fun J wk => ?_
    refine for_it wk (fun i σ H' => ∃ (u : V) (p3 : Option V), σ = [some v, some (.ref ps), some u, p3] ∧ Same H H' ∧ OdAt n H' u (vat d (sp.take i)) ∧ ∀ x, vat d (sp.take i) = some x → Wk x)
      ⟨v, none, rfl, Same.refl _, hd, fun x e => by cases e; exact wd⟩ (fun _ _ _ _ h => by obtain ⟨_, _, _, z, _⟩ := h; exact z) ?_ ?_
    · rintro i x σ H2' H2 hi ⟨u, p3, rfl, s2, hu, wu⟩ ⟨e3, hx⟩
      subst e3
      rw [List.getElem?_map] at hx
      cases gk : sp[i]? with
      | none => rw [gk] at hx; cases hx
      | some kk =>
        rw [gk] at hx
        cases hx
        have ev : vat d (sp.take (i + 1)) = (vat d (sp.take i)).bind (win kk) := by
          unfold vat
          rw [List.take_add_one, gk, Option.toList, List.foldl_append]; rfl
        rw [ev]
        generalize vat d (sp.take i) = o at hu wu
        refine ⟨_, rfl, _, rfl, n, u, o, kk, rfl, hu, wu, fun u2 H3 s3 hu2 => ?_⟩
        refine ⟨_, _, rfl, s2.trans s3, hu2, fun y e => ?_⟩
        cases o with
        | none => cases e
        | some z => exact wk_win (wu z rfl) e
    · rintro σ H2 ⟨u, p3, rfl, s2, hu, wu⟩
      rw [List.length_map, List.take_length] at hu
      refine ⟨_, rfl, H2, u, vat d sp, rfl, Same.refl _, hu, fun u2 G3 H3 g3 s3 h3 n3 hu2 fr => ?_⟩
      exact q u2 H3 (s2.trans h3) (mon_od s3 hu2) fun p e => s2.free (fr p e)
end
end Bm

set_option Elab.async false
set_option linter.all false
set_option maxRecDepth 100000
set_option maxHeartbeats 4000000
/-! repr of data, where no repr is under way -/
namespace Bm
open PySem L2 PyProof.Rows
mutual
def pyD : Dt → PyData
  | .int i => .int i
  | .str z => .str z
  | .lst l => .list (pyDs l)
  | .tup l => .tuple (pyDs l)
def pyDs : List Dt → List PyData
  | [] => []
  | x :: r => pyD x :: pyDs r
end
section
variable {X : Cx} {pins : List (Addr × Obj)} {σ : L2.St} {H : Hp} {s : Shared}
mutual
theorem reads_dt (I : Inv X pins σ H s) : ∀ {d : Dt} {n : Nat} {v : V} {u : Value}, DtAt n H v d → RelV v u → (pyD d).depth ≤ n ∧ (pyD d).hasDict = false ∧ ∃ as, Reads s.heap u (pyD d) as
  | .int i, n, v, u, h, r => by
    obtain rfl := dt_int.mp h
    obtain ⟨t, rfl⟩ := (show ∃ t, u = Value.int i t from r)
    exact ⟨by simp [pyD, PyData.depth], by simp [pyD, PyData.hasDict], _, by rw [pyD]; exact .int i t⟩
  | .str z, n, v, u, h, r => by
    obtain rfl := dt_str.mp h
    obtain ⟨t, rfl⟩ := (show ∃ t, u = Value.str z t from r)
    exact ⟨by simp [pyD, PyData.depth], by simp [pyD, PyData.hasDict], _, by rw [pyD]; exact .str z t⟩
  | .lst l, 0, v, u, h, r => h.elim
  | .tup l, 0, v, u, h, r => h.elim
  | .lst l, n + 1, v, u, h, r => by
    obtain ⟨p, xs, rfl, hp, pl, ll⟩ := h
    cases (show u = Value.ref p from r)
    obtain ⟨its, rv, ⟨o, m, e, hc, hs, hd⟩, hz⟩ := I.list (SqL.of hp)
    obtain ⟨h1, h2, as, h3⟩ := reads_dts I pl rv
    exact ⟨by simp only [pyD, PyData.depth]; omega, by simp only [pyD, PyData.hasDict]; exact h2, _, by rw [pyD]; exact .list e hc hd (by simpa using h3)⟩
  | .tup l, n + 1, v, u, h, r => by
    obtain ⟨p, xs, rfl, hp, pl, ll⟩ := h
    cases (show u = Value.ref p from r)
    obtain ⟨its, rv, ⟨o, e, hc, m, hd⟩, hz⟩ := I.tuple (SqT.of hp)
    obtain ⟨h1, h2, as, h3⟩ := reads_dts I pl rv
    exact ⟨by simp only [pyD, PyData.depth]; omega, by simp only [pyD, PyData.hasDict]; exact h2, _, by rw [pyD]; exact .tuple e hc hd (by simpa using h3)⟩
theorem reads_dts (I : Inv X pins σ H s) : ∀ {l : List Dt} {n : Nat} {xs : List V} {us : List Value}, Paired (DtAt n H) xs l → Vals xs us → PyData.depthAll (pyDs l) ≤ n ∧ PyData.hasDictAll (pyDs l) = false ∧ ∃ as, ReadsAll s.heap us (pyDs l) as
  | [], n, _, _, .nil, .nil => ⟨by simp [pyDs, PyData.depthAll], by simp [pyDs, PyData.hasDictAll], _, by rw [pyDs]; exact .nil⟩
  | d :: l, n, _, _, .cons h t, .cons r q => by
    obtain ⟨a1, a2, as, a3⟩ := reads_dt I h r
    obtain ⟨b1, b2, bs, b3⟩ := reads_dts I t q
    exact ⟨by simp only [pyDs, PyData.depthAll]; omega, by simp only [pyDs, PyData.hasDictAll, a2, b2]; rfl, _, by rw [pyDs]; exact .cons a3 b3⟩
end
def rRep : List V → Hp → VK → Prop := fun xs H Q => ∃ (n : Nat) (x : V) (d : Dt), xs = [x] ∧ DtAt n H x d ∧ n ≤ 8 ∧ (pyD d).showable = true ∧ (pyD d).shown.length ≤ sizeLine ∧ (∀ z, d ≠ .str z) ∧ Q (.str (pyD d).shown) H
theorem call_rep (hg : X.A.guards = some []) (hu : X.A.units + 9 < cLine) : CallR X (.builtin "repr") rRep := by
  intro pins s σ H xs us Q I r h
  obtain ⟨n, x, d, rfl, hd, n8, hs, hl, hz, q⟩ := h
  obtain ⟨u, rfl, rx⟩ := vals1 r
  have big : ∀ a, u = .ref a → wpAny (model X.prog X.w) X.A (call (.builtin "repr") [u]) (EP X pins σ Q) X.xe s := fun a e => by
    obtain ⟨h1, h2, as, h3⟩ := reads_dt I hd rx
    subst e
    exact repr_of_reads' h3 hs (PyData.noDict_hsm h2) hg (by omega) (fun b o e => e) (fun h' t tk k => ⟨.str _, H, I.kept k, ⟨_, rfl⟩, q⟩) hl
  cases d with
  | int i =>
    obtain rfl := dt_int.mp hd
    obtain ⟨t, rfl⟩ := (show ∃ t, u = Value.int i t from rx)
    have hs : i.natAbs.log2 < 1920 := by simpa [pyD, PyData.showable] using hs
    have q : Q (.str (toString i)) H := by simpa [pyD, PyData.shown] using q
    exact PySem.P.repr_of_int hs ⟨.str _, H, I.tok _, ⟨_, rfl⟩, q⟩
  | str z => exact (hz z rfl).elim
  | lst l =>
    cases n with
    | zero => exact hd.elim
    | succ n =>
    obtain ⟨p, xs, rfl, _⟩ := id hd
    exact big p rx
  | tup l =>
    cases n with
    | zero => exact hd.elim
    | succ n =>
    obtain ⟨p, xs, rfl, _⟩ := id hd
    exact big p rx
end
end Bm

set_option Elab.async false
set_option linter.all false
set_option maxRecDepth 100000
set_option maxHeartbeats 4000000
/-! a law that asks for repr: its promise where no repr is under way (the caller's place is such) -/
namespace Bm
open PySem L2 PySem.Spec PyProof.Rows
/-- FnOk, where no repr is under way -/
structure FnG (P : Program) (w : World) (K : PySem.W.Frag) (mg : Str → Option Value) (base : Heap) (k : Nat) (f : Addr) (fd : FuncData) (ps : List Str) (sp : Sp) : Prop where
  run : ∀ (A : Around) (outer : List Env) (s : Shared) (H : Hp) (args : Args) (us : List Value) (vs : List V) (Q : VK) (E : XK), A.guards = some [] → Room k A → Env0 P w K mg base A outer s H → BindsTo s fd args (ps.zip us) → Vals vs us → sp vs H Q E →
    codeAny (model P w) A (.call (.ref f) args) (CR CX0 outer P w H s Q E) s
theorem okG {P : Program} {w : World} {K : PySem.W.Frag} {mg : Str → Option Value} {base : Heap} {x qual : Str} {st : Stmt} {f : Addr} {fd : FuncData} {N ps : List Str} {k : Nat} {sp : Sp} (F : Fun K x qual st f fd) (S : FnScope N ps (defScope st)) (len : ∀ vs H Q E, sp vs H Q E → vs.length = ps.length)
    (hbody : ∀ (cdv : Value) (A : Around) (outer : List Env) (s : Shared) (H : Hp) (vs : List V) (Q : VK) (E : XK), A.guards = some [] → Room k (A.deeper (envOfC qual (defScope st) s.heap.objs.size f cdv)) → sp vs H Q E →
      ∃ t, PSs (cxOf CX0 P w K mg base N qual (defScope st) f cdv A outer s H E).nox (defBody st) t ∧ t { nx := fun _ H' => Q .non H', rt := Q } (start N vs) H) : FnG P w K mg base (k + 1) f fd ps sp := by
  obtain ⟨oc, od, kV, doc, pm, an, cdv, ct, osl, rfl, lk, hcd⟩ := F.ex
  refine ⟨fun A outer s H args us vs Q E hA hr e0 hb r hsp => ?_⟩
  have hl := len _ _ _ _ hsp
  have old := fun b o e => (e0.bs b o e).1
  refine codeAny_call_function hr.depth (e0.mod.kin.keeps old _ _ lk) rfl S.co S.gen rfl (PySem.W.codeRec_of (e0.mod.kin.keeps old) hcd) (hb _ _ _ _ ?_)
  have hkind : ∀ y ∈ ps.zip us, (defScope st).names.lookup y.1 = some .local ∨ ((defScope st).names.lookup y.1 = some .cell ∧ ((cellsFrom (s.heap.objs.size + 1) (defScope st).names []).lookup y.1).isSome = true) := by
    rintro ⟨n, v⟩ hy
    exact (S.par n (List.of_mem_zip hy).1).imp id fun q => ⟨q, PySem.W.cellsFrom_some _ _ _ (.inl q)⟩
  refine wpAny_newFunctionEnv_cells S.kind hkind fun env he s1 z => ?_
  subst he
  refine ⟨(e0.mod.nolimit.keeps old).keeps z.toInCall.keep, codeAny_func ?_⟩
  obtain ⟨t, ht, hq⟩ := hbody cdv A outer s H vs Q E hA (hr.deeper _) hsp
  refine wpAny_mono (ht.nox.run [] s1 (start N vs) H _ (inv_start S hr.hd e0 hl r z) hq) (fun fl s' hs => ?_) fun e s' hs => hs
  cases fl with
  | ret u => obtain ⟨v, σ', H', J, rv, q⟩ := hs; exact ⟨v, H', J.os, J.bare, J.base, J.hok, rv, q⟩
  | next => obtain ⟨σ', H', J, q⟩ := hs; exact ⟨.non, H', J.os, J.bare, J.base, J.hok, rfl, q⟩
  | brk => obtain ⟨_, _, _, q⟩ := hs; exact False.elim q
  | cont => obtain ⟨_, _, _, q⟩ := hs; exact False.elim q
/-- the call of the law from the caller's place; sp is asked at a heap where at most the script is tracked -/
theorem law_callG {P : Program} {w : World} {K : PySem.W.Frag} {mg mb : Str → Option Value} {k : Nat} {fa a : Addr} {fd : FuncData} {x : Str} {sp : Sp} {s₁ : Shared} {vs : List Value} {ns : List Int}
    (KX : K.In s₁.heap) (hns : s₁.heap.Ns mainGlobals mg) (hb : s₁.heap.Ns builtinsNs mb) (hbb : ∀ x : Str, x ≠ "__name__" → mb x = bootBuiltins x) (hlim : s₁.heap.NoLimit) (hg : s₁.gens = #[])
    (ha : s₁.heap.get? a = some { cls := .type "list", data := .seq vs.toArray }) (hi : IntsAre vs ns) (hl : ns.length ≤ sizeLine) (hr : Room k callerA)
    (F : ∀ base : Heap, K.In base → base.Ns mainGlobals mg → FnG P w K mg base k fa fd [x] sp) (hbind : ∀ (s : Shared) (u : Value), BindsTo s fd ⟨[u], []⟩ [(x, u)])
    (hsp : ∀ H : Hp, Only H → SqL K H a (ns.map V.int) → sp [.ref a] H (fun v _ => v = .bl true) fun _ _ _ => False) :
    codeAny (model P w) callerA (.call (.ref fa) ⟨[.ref a], []⟩) (fun r s' => r = .ok (.ret (.bool true)) ∧ OldK s₁.heap s'.heap ∧ s'.os = s₁.os ∧ AllBare s'.gens) s₁ := by
  have rv := vals_ints hi
  let T : HO := .frz { cls := .type "list", data := .seq vs.toArray } (.lst (ns.map V.int))
  let H : Hp := fun b => if b = a ∧ K.lookup a = none then some T else none
  have inv : ∀ {b : Addr} {u : HO}, H b = some u → b = a ∧ u = T ∧ K.lookup a = none := fun {b u} e => by
    by_cases c : b = a ∧ K.lookup a = none
    · rw [show H b = some T from if_pos c] at e; cases e; exact ⟨c.1, rfl, c.2⟩
    · rw [show H b = none from if_neg c] at e; cases e
  have only : Only H := fun b => by
    cases q : H b with
    | none => exact .inl rfl
    | some u => obtain ⟨_, rfl, _⟩ := inv q; exact .inr ⟨_, _, rfl⟩
  have hS : SqL K H a (ns.map V.int) := by
    cases hk : K.lookup a with
    | some o =>
      have e := KX a o hk
      rw [ha] at e
      cases e
      exact .inr ⟨_, vs.toArray, _, hk, rfl, rfl, rfl, by rw [List.size_toArray, hi.length]; exact hl, by simpa using rv⟩
    | none => exact .inl (.inr ⟨_, if_pos ⟨rfl, hk⟩⟩)
  have hok : HOk P w H s₁.heap := fun b u q => by
    obtain ⟨rfl, rfl, _⟩ := inv q
    exact ⟨ha, by rw [List.length_map]; exact hl, vs, _, rv, ha⟩
  have put : ∀ {b : Addr} {o : Obj}, s₁.heap.get? b = some o → H b = none → (hidT s₁.heap H).get? b = some o := fun e n => hidT_get e n
  have kin : K.In (hidT s₁.heap H) := fun b o e => put (KX b o e) (by
    cases q : H b with
    | none => rfl
    | some u =>
      obtain ⟨rfl, _, hk⟩ := inv q
      rw [hk] at e; cases e)
  have nsK : ∀ {b : Addr} {m : Str → Option Value}, s₁.heap.Ns b m → (hidT s₁.heap H).Ns b m := fun {b m} ⟨o, es, ep, e, d, r⟩ => ⟨o, es, ep, put e (by
    cases q : H b with
    | none => rfl
    | some u =>
      obtain ⟨rfl, _, _⟩ := inv q
      rw [ha] at e
      cases e
      have d' : Data.seq vs.toArray _ = Data.dict es ep := d
      cases d'), d, r⟩
  obtain ⟨mc, l1, l2⟩ := hlim
  have e0 : Env0 P w K mg (hidT s₁.heap H) callerA [] s₁ H := ⟨rfl, ⟨kin, nsK hns, ⟨mb, nsK hb, hbb⟩, mc, nsK l1, l2⟩, fun b o e => of_hidT e, Nat.le_of_eq (hidT_size _ _), trivial, fun b hb => absurd (show b ∈ ([] : List Addr) from hb) (by simp), hok, .of_eq hg⟩
  refine codeAny_mono ((F _ kin (nsK hns)).run callerA [] s₁ H ⟨[.ref a], []⟩ [.ref a] [.ref a] _ _ rfl hr e0 (hbind s₁ (.ref a)) (.cons rfl .nil) (hsp H only hS)) fun r s' h => ?_
  cases r with
  | error e => exact False.elim h
  | ok fl =>
    cases fl with
    | next => exact False.elim h
    | brk => exact False.elim h
    | cont => exact False.elim h
    | ret u =>
      obtain ⟨v, H', os, bare, un, hok', r', q⟩ := h
      obtain rfl : v = .bl true := q
      obtain rfl : u = Value.bool true := r'
      refine ⟨rfl, OldK.of_keep fun b o e => ?_, os, bare⟩
      cases q : H b with
      | none => exact un.keep b o e q (fun z => absurd (show b ∈ ([] : List Addr) from z) (by simp)) (by simp)
      | some u =>
        obtain ⟨rfl, rfl, _⟩ := inv q
        obtain ⟨e1, _⟩ := hok _ _ q
        obtain ⟨e2, _⟩ := hok' _ _ (un.frzs _ _ _ q)
        rw [e] at e1; cases e1
        exact e2
theorem walkG {l : PySem.W.OpenLaw} {n k : Nat} {q : Program} {loose : List Str} {XP : (Str → Option Value) → Heap → Prop} {YP : World → Heap → Prop} {d : DefRec} {K : Params → PySem.W.Frag} {sp : World → Sp} {x : Str}
    (hn : l.most = some n) (hn2 : n ≤ sizeLine) (hdf : d.params.defaults = []) (hr : Room k callerA) (hY : ∀ (w : World) (h : Heap), YP w h → (K w.params).In h)
    (F : ∀ (w : World) (mg : Str → Option Value) (fa : Addr) (h : Heap), (K w.params).In h → h.Ns mainGlobals mg → mg d.name = some (.ref fa) →
      ∃ fd : FuncData, (∀ (s : Shared) (u : Value), BindsTo s fd ⟨[u], []⟩ [(x, u)]) ∧ ∀ base : Heap, (K w.params).In base → base.Ns mainGlobals mg → FnG l.prog w (K w.params) mg base k fa fd [x] (sp w))
    (hsp : ∀ (w : World) (H : Hp) (a : Addr) (ns : List Int), ns.length ≤ n → Only H → SqL (K w.params) H a (ns.map V.int) → sp w [.ref a] H (fun v _ => v = .bl true) fun _ _ _ => False) :
    PySem.W.WalkO q loose XP YP l.row.toRowW d [] (fun f vs => PySem.call f vs) := by
  refine Att.attach_call hn hdf fun w s₀ s₁ mg mb fa o pm cd doc a vs ns G Y ho hd hcd hmg hobj hints hlen hg => ?_
  obtain ⟨fd, hb, hF⟩ := F w mg fa _ (hY w _ Y) G.T.g hmg
  exact law_callG (hY w _ Y) G.T.g G.T.b G.T.builtins G.T.nolimit hg hobj hints (Nat.le_trans hlen hn2) hr hF hb fun H hO hS => hsp w H a ns hlen hO hS
end Bm

set_option Elab.async false
set_option linter.all false
set_option maxRecDepth 100000
set_option maxHeartbeats 4000000
/-! the shape of contents -/
namespace Bm
open PySem L2
def nmd : Sm → Bool
  | .chk .. => false
  | .pad .. => false
  | _ => true
def nmd1 : I2 → Bool
  | .sm y => nmd y
  | _ => true
def SvOk : Sm → SV → Prop
  | .num _ _ _ lo hi, .num i => lo ≤ i ∧ i ≤ hi
  | .byt .., .byt l => By l ∧ l.length ≤ 40
  | .txt .., .byt l => By l ∧ l.length ≤ 40
  | _, _ => False
def C0Ok (b : List Sm) (c : C0) : Prop := Paired (fun (e : Str × SV) (y : Sm) => e.1 = y.name ∧ SvOk y e.2) c (b.filter nmd)
def VlOk : I2 → Vl → Prop
  | .sm y, .sm v => SvOk y v
  | .rep _ _ b, .rds r => r.length ≤ 65535 ∧ (b ≠ [] → (∀ y ∈ b, y.plain) → r.length ≤ 40) ∧ ∀ c ∈ r, C0Ok b c
  | .eit _ bs, .tak k c => ∃ b, bs[k]? = some b ∧ C0Ok b c
  | .swi _ _ cs, .con c => ∃ cc ∈ cs, C0Ok cc.2 c
  | _, _ => False
def C1Ok (l : List I2) (c : C1) : Prop := Paired (fun (e : Str × Vl) (x : I2) => e.1 = x.name ∧ VlOk x e.2) c (l.filter nmd1)
theorem txtGo_sub {n : Str} {stop : Int} {f : List Int} {a : Nat} : ∀ {m k : Nat} {r : Nat × List Int}, txtGo n stop f a k m = .ok r → ∃ j, r.2 = (f.drop a).take j
  | 0, k, r, h => by rw [txtGo] at h; cases h
  | m + 1, k, r, h => by
    rw [txtGo] at h
    cases hb : f[a + k]? with
    | none => rw [hb] at h; cases h
    | some b =>
      rw [hb] at h
      simp only at h
      split at h
      · cases h; exact ⟨k, rfl⟩
      · exact txtGo_sub h
theorem sub_ok {f : List Int} {a j : Nat} (b : By f) (h : f.length ≤ 40) : By ((f.drop a).take j) ∧ ((f.drop a).take j).length ≤ 40 :=
  ⟨fun x hx => b x (List.mem_of_mem_drop (List.mem_of_mem_take hx)), by rw [List.length_take, List.length_drop]; omega⟩
theorem ptS_ok {α : Type} {inj : SV → α} {f : List Int} {y : Sm} {p q : Pt α} (bf : By f) (lf : f.length ≤ 40) (m : q ∈ (ptS inj f y p).1) : ∃ v : Option SV, q.vals = p.vals ++ (v.map fun v => (y.name, inj v)).toList ∧ (∀ u, v = some u → nmd y = true ∧ SvOk y u) ∧ (v = none → nmd y = false) := by
  unfold ptS at m
  cases e : smRun f p.at0 p.known y with
  | error s => rw [e] at m; cases m
  | ok r =>
    obtain ⟨a, v⟩ := r
    rw [e] at m
    simp only [List.mem_singleton] at m
    subst m
    refine ⟨v, rfl, ?_⟩
    cases y with
    | num n s o lo hi =>
      obtain ⟨r, er, e2⟩ := map_ok e
      cases e2
      exact ⟨fun u hu => by cases hu; exact ⟨rfl, (numRun_ok er).2⟩, fun h => by cases h⟩
    | byt n am =>
      simp only [smRun] at e
      split at e
      · cases e
      · cases e; exact ⟨fun u hu => by cases hu; exact ⟨rfl, sub_ok bf lf⟩, fun h => by cases h⟩
    | txt n s mm =>
      obtain ⟨r, er, e2⟩ := map_ok e
      cases e2
      obtain ⟨j, ej⟩ := txtGo_sub er
      exact ⟨fun u hu => by cases hu; rw [ej]; exact ⟨rfl, sub_ok bf lf⟩, fun h => by cases h⟩
    | chk n mm => obtain ⟨r, er, e2⟩ := map_ok e; cases e2; exact ⟨fun u hu => (by cases hu), fun _ => rfl⟩
    | pad n mm b => obtain ⟨r, er, e2⟩ := map_ok e; cases e2; exact ⟨fun u hu => (by cases hu), fun _ => rfl⟩
theorem runL_ok {f : List Int} (bf : By f) (lf : f.length ≤ 40) : ∀ {b : List Sm} {ps : List (Pt SV)} {p' : Pt SV}, p' ∈ (runL (ptS id f) b ps).1 → ∃ p ∈ ps, ∃ c, p'.vals = p.vals ++ c ∧ C0Ok b c
  | [], ps, p', m => ⟨p', m, [], (List.append_nil _).symm, .nil⟩
  | y :: r, ps, p', m => by
    rw [runL] at m
    obtain ⟨q, hq, c, e, hc⟩ := runL_ok bf lf m
    obtain ⟨p, hp, hq⟩ := List.mem_flatMap.mp hq
    obtain ⟨v, ev, h1, h2⟩ := ptS_ok bf lf hq
    cases v with
    | none =>
      refine ⟨p, hp, c, by rw [e, ev]; simp, ?_⟩
      unfold C0Ok
      rw [List.filter_cons_of_neg (by rw [h2 rfl]; simp)]
      exact hc
    | some u =>
      obtain ⟨k1, k2⟩ := h1 u rfl
      refine ⟨p, hp, (y.name, u) :: c, by rw [e, ev]; simp, ?_⟩
      unfold C0Ok
      rw [List.filter_cons_of_pos k1]
      exact .cons ⟨rfl, k2⟩ hc
theorem runS_ok {f : List Int} (bf : By f) (lf : f.length ≤ 40) {b : List Sm} {p p' : Pt SV} (e : p.vals = []) (m : p' ∈ (runS f b p).1) : C0Ok b p'.vals := by
  obtain ⟨q, hq, c, e2, hc⟩ := runL_ok bf lf m
  rw [List.mem_singleton.mp hq, e, List.nil_append] at e2
  rw [e2]; exact hc
theorem rounds_ok {f : List Int} (bf : By f) (lf : f.length ≤ 40) {b : List Sm} {kn : List (Str × Int)} : ∀ {m : Nat} {rs : List Rw} {r : Rw}, (∀ r ∈ rs, ∀ c ∈ r.2.2, C0Ok b c) → r ∈ (rounds f b kn m rs).1 → ∀ c ∈ r.2.2, C0Ok b c
  | 0, rs, r, h, hm => h r hm
  | m + 1, rs, r, h, hm => by
    rw [rounds] at hm
    refine rounds_ok bf lf (m := m) (fun q hq => ?_) hm
    obtain ⟨r0, hr0, hq⟩ := List.mem_flatMap.mp hq
    unfold rowStep at hq
    obtain ⟨t, ht, rfl⟩ := List.mem_map.mp hq
    intro c hc
    rcases List.mem_append.mp hc with hc | hc
    · exact h r0 hr0 c hc
    · rw [List.mem_singleton.mp hc]; exact runS_ok bf lf (by rfl) ht
theorem eitGo_ok {f : List Int} (bf : By f) (lf : f.length ≤ 40) {n : Str} {p q : Pt Vl} : ∀ {bs : List (List Sm)} {k : Nat}, q ∈ (eitGo f n p k bs).1 → ∃ (j : Nat) (b : List Sm) (c : C0), bs[j]? = some b ∧ q.vals = p.vals ++ [(n, .tak (k + j) c)] ∧ C0Ok b c
  | [], k, m => by simp [eitGo] at m
  | b :: r, k, m => by
    rw [eitGo] at m
    rcases List.mem_append.mp m with m | m
    · obtain ⟨t, ht, rfl⟩ := List.mem_map.mp m
      exact ⟨0, b, t.vals, rfl, rfl, runS_ok bf lf (by rfl) ht⟩
    · obtain ⟨j, b', c, h1, h2, h3⟩ := eitGo_ok bf lf m
      exact ⟨j + 1, b', c, by simpa using h1, by rw [h2, show k + 1 + j = k + (j + 1) by omega], h3⟩
theorem sm_adv {f : List Int} {a : Nat} {kn : List (Str × Int)} {y : Sm} {r : Nat × Option SV} (pl : y.plain) (h : smRun f a kn y = .ok r) : a + 1 ≤ r.1 := by
  cases y with
  | num n s o lo hi =>
    obtain ⟨q, e, rfl⟩ := map_ok h
    obtain ⟨rfl, _⟩ := pl
    unfold numRun at e
    cases hb : f[a]? with
    | none => rw [hb] at e; cases e
    | some b =>
      rw [hb] at e
      simp only at e
      rw [if_neg (by decide)] at e
      exact Nat.le_of_eq (num1_ok e).1.symm
  | byt n am =>
    simp only [smRun] at h
    split at h
    · cases h
    · cases h
      rcases pl with rfl | rfl
      · exact Nat.le_refl _
      · exact Nat.le_succ _
  | txt => exact pl.elim
  | chk => exact pl.elim
  | pad => exact pl.elim
theorem ptS_adv {f : List Int} {y : Sm} {p q : Pt SV} (pl : y.plain) (m : q ∈ (ptS id f y p).1) : p.at0 + 1 ≤ q.at0 := by
  unfold ptS at m
  cases e : smRun f p.at0 p.known y with
  | error s => rw [e] at m; cases m
  | ok r =>
    obtain ⟨a, v⟩ := r
    rw [e] at m
    simp only [List.mem_singleton] at m
    rw [m]
    exact sm_adv pl e
theorem runL_adv {f : List Int} : ∀ {b : List Sm} {ps : List (Pt SV)} {p' : Pt SV}, (∀ y ∈ b, y.plain) → p' ∈ (runL (ptS id f) b ps).1 → ∃ p ∈ ps, p.at0 + b.length ≤ p'.at0
  | [], ps, p', _, m => ⟨p', m, Nat.le_refl _⟩
  | y :: r, ps, p', pl, m => by
    rw [runL] at m
    obtain ⟨q, hq, h⟩ := runL_adv (fun z hz => pl z (List.mem_cons_of_mem _ hz)) m
    obtain ⟨p, hp, hq⟩ := List.mem_flatMap.mp hq
    have := ptS_adv (pl y (List.mem_cons_self ..)) hq
    exact ⟨p, hp, by rw [List.length_cons]; omega⟩
theorem rounds_adv {f : List Int} {b : List Sm} {kn : List (Str × Int)} (ne : b ≠ []) (pl : ∀ y ∈ b, y.plain) : ∀ {m : Nat} {rs : List Rw} {r : Rw}, r ∈ (rounds f b kn m rs).1 → ∃ r0 ∈ rs, r0.1 + m ≤ r.1
  | 0, rs, r, hm => ⟨r, hm, Nat.le_refl _⟩
  | m + 1, rs, r, hm => by
    rw [rounds] at hm
    obtain ⟨q, hq, h⟩ := rounds_adv ne pl hm
    obtain ⟨r0, hr0, hq⟩ := List.mem_flatMap.mp hq
    unfold rowStep at hq
    obtain ⟨t, ht, rfl⟩ := List.mem_map.mp hq
    obtain ⟨p, hp, a⟩ := runL_adv pl ht
    rw [List.mem_singleton.mp hp] at a
    have l1 : 1 ≤ b.length := by
      cases b with
      | nil => exact absurd rfl ne
      | cons x r => rw [List.length_cons]; omega
    have a : r0.1 + b.length ≤ t.at0 := a
    have h : t.at0 + m ≤ r.1 := h
    exact ⟨r0, hr0, by omega⟩
theorem step_ok {f : List Int} (bf : By f) (lf : f.length ≤ 40) {x : I2} {p q : Pt Vl} (w : x.okW) (kp : KnOk p.known) (pa : p.at0 ≤ f.length) (m : q ∈ (stepI f x p).1) : ∃ v : Option Vl, q.vals = p.vals ++ (v.map fun v => (x.name, v)).toList ∧ (∀ u, v = some u → nmd1 x = true ∧ VlOk x u) ∧ (v = none → nmd1 x = false) := by
  cases x with
  | sm y =>
    obtain ⟨v, e, h1, h2⟩ := ptS_ok bf lf m
    refine ⟨v.map .sm, by rw [e]; cases v <;> rfl, fun u hu => ?_, fun h => h2 (by cases v with | none => rfl | some z => cases h)⟩
    cases v with
    | none => cases hu
    | some z => cases hu; exact h1 z rfl
  | rep n a b =>
    obtain ⟨r, hr, rfl⟩ := List.mem_map.mp m
    have fb : 0 ≤ findK p.known a ∧ findK p.known a ≤ 65535 := by
      cases a with
      | inl i => exact w.1 i rfl
      | inr z => exact findK_mem p.known z (fun i => 0 ≤ i ∧ i ≤ 65535) ⟨by decide, by decide⟩ fun q hq _ => kp q hq
    have l1 := rounds_rds (z := 0) (fun q hq => by rw [List.mem_singleton.mp hq]; rfl) hr
    refine ⟨some (.rds r.2.2), rfl, fun u hu => ?_, fun h => by cases h⟩
    cases hu
    exact ⟨rfl, by omega, fun ne pl => (by obtain ⟨q, hq, a⟩ := rounds_adv ne pl hr; have := roundsc (z := p.path) w.2 kp (fun q hq => by rw [List.mem_singleton.mp hq]; exact ⟨pa, rfl⟩) hr; have := this.1; omega), rounds_ok bf lf (fun q hq c hc => by rw [List.mem_singleton.mp hq] at hc; cases hc) hr⟩
  | eit n bs =>
    obtain ⟨j, b, c, h1, h2, h3⟩ := eitGo_ok bf lf m
    rw [Nat.zero_add] at h2
    refine ⟨some (.tak j c), h2, fun u hu => ?_, fun h => by cases h⟩
    cases hu
    exact ⟨rfl, b, h1, h3⟩
  | swi n t cs =>
    simp only [stepI] at m
    split at m
    · simp at m
    · next cc e =>
      obtain ⟨t', ht, rfl⟩ := List.mem_map.mp m
      refine ⟨some (.con t'.vals), rfl, fun u hu => ?_, fun h => by cases h⟩
      cases hu
      exact ⟨rfl, cc, List.mem_of_find?_eq_some e, runS_ok bf lf (by rfl) ht⟩
theorem runI_ok {f : List Int} (bf : By f) (lf : f.length ≤ 40) : ∀ {l : List I2} {ps : List (Pt Vl)} {n : Nat} {p' : Pt Vl}, (∀ x ∈ l, x.okW) → (∀ p ∈ ps, PtC f n p) → p' ∈ (runL (stepI f) l ps).1 → ∃ p ∈ ps, ∃ c, p'.vals = p.vals ++ c ∧ C1Ok l c
  | [], ps, n, p', w, k, m => ⟨p', m, [], (List.append_nil _).symm, .nil⟩
  | x :: r, ps, n, p', w, k, m => by
    rw [runL] at m
    obtain ⟨q, hq, c, e, hc⟩ := runI_ok bf lf (n := n + 1) (fun z hz => w z (List.mem_cons_of_mem _ hz)) (fun p hp => by
      obtain ⟨q, hq, hp⟩ := List.mem_flatMap.mp hp
      exact step_c (w x (List.mem_cons_self ..)) (k q hq) hp) m
    obtain ⟨p, hp, hq⟩ := List.mem_flatMap.mp hq
    obtain ⟨v, ev, h1, h2⟩ := step_ok bf lf (w x (List.mem_cons_self ..)) (k p hp).2.1 (k p hp).1 hq
    cases v with
    | none =>
      refine ⟨p, hp, c, by rw [e, ev]; simp, ?_⟩
      unfold C1Ok
      rw [List.filter_cons_of_neg (by rw [h2 rfl]; simp)]
      exact hc
    | some u =>
      obtain ⟨k1, k2⟩ := h1 u rfl
      refine ⟨p, hp, (x.name, u) :: c, by rw [e, ev]; simp, ?_⟩
      unfold C1Ok
      rw [List.filter_cons_of_pos k1]
      exact .cons ⟨rfl, k2⟩ hc
/-- what a file means has the shape of its items -/
theorem Mean.ok {l : List I2} {c : C1} (w : ∀ x ∈ l, x.okW) (h : Mean l c) : C1Ok l c := by
  obtain ⟨f, p, bf, lf, hp, rfl⟩ := h
  have hp := (List.mem_filter.mp hp).1
  obtain ⟨q, hq, c, e, hc⟩ := runI_ok bf lf (n := 0) w (fun q hq => by rw [List.mem_singleton.mp hq]; exact ⟨Nat.zero_le _, fun z hz => (by cases hz), Nat.zero_le _, Nat.zero_le _, Nat.zero_le _⟩) hp
  rw [List.mem_singleton.mp hq] at e
  rw [show p.vals = c from e]; exact hc
end Bm

set_option Elab.async false
set_option linter.all false
set_option maxRecDepth 100000
set_option maxHeartbeats 4000000
/-! contents as trees; what stands at their spots -/
namespace Bm
open PySem L2
def entD {α : Type} (g : α → Dt) (c : List (Str × α)) : Dt := .lst (c.map fun e => .tup [.str e.1, g e.2])
def svD : SV → Dt
  | .num i => .int i
  | .byt l => .lst (l.map .int)
def c0D (c : C0) : Dt := entD svD c
def vlD : Vl → Dt
  | .sm s => svD s
  | .rds r => .lst (r.map c0D)
  | .tak k c => .tup [.int (k : Int), c0D c]
  | .con c => c0D c
def c1D (c : C1) : Dt := entD vlD c
theorem c0_lift (c : C0) : c1D (c.map liftE) = c0D c := by
  unfold c1D c0D entD
  rw [List.map_map]
  rfl
theorem pmap {α γ : Type} {F : V → γ → Prop} {R : V → α → Prop} {g : α → γ} : ∀ {xs : List V} {l : List α}, Paired R xs l → (∀ x a, a ∈ l → R x a → F x (g a)) → Paired F xs (l.map g)
  | _, _, .nil, _ => .nil
  | _, _, .cons h t, k => .cons (k _ _ (List.mem_cons_self ..) h) (pmap t fun x a m => k x a (List.mem_cons_of_mem _ m))
theorem at_up {n : Nat} {H : Hp} {v : V} {d : Dt} (k : Nat) (h : DtAt n H v d) : DtAt (n + k) H v d := by
  induction k with
  | zero => exact h
  | succ k ih => exact mon_dn ih
def SvB : SV → Prop
  | .num _ => True
  | .byt l => l.length ≤ 40
def C0B (c : C0) : Prop := c.length ≤ 100 ∧ ∀ e ∈ c, SvB e.2
def VlB : Vl → Prop
  | .sm s => SvB s
  | .rds r => r.length ≤ 65535 ∧ ∀ c ∈ r, C0B c
  | .tak _ c => C0B c
  | .con c => C0B c
def C1B (c : C1) : Prop := c.length ≤ 100 ∧ ∀ e ∈ c, VlB e.2
theorem at_sv {H : Hp} {v : V} {s : SV} (b : SvB s) (h : SVAt H v s) : DtAt 1 H v (svD s) := by
  cases s with
  | num i => exact dt_int.mpr h
  | byt l =>
    obtain ⟨p, rfl, hp⟩ := h
    refine ⟨p, l.map V.int, rfl, hp, ?_, by rw [List.length_map]; have : l.length ≤ 40 := b; omega⟩
    clear b hp
    induction l with
    | nil => exact .nil
    | cons a r ih => exact .cons rfl ih
theorem at_en {α : Type} {n : Nat} {H : Hp} {v : V} {R : Hp → V → α → Prop} {g : α → Dt} {c : List (Str × α)} (lc : c.length ≤ 100) (k : ∀ u e, e ∈ c → R H u e.2 → DtAt n H u (g e.2)) (h : CtAt R H v c) : DtAt (n + 2) H v (entD g c) := by
  obtain ⟨p, xs, rfl, hp, pe⟩ := h
  refine ⟨p, xs, rfl, hp, pmap pe fun x e m r => ?_, by rw [List.length_map]; omega⟩
  obtain ⟨t, u, rfl, ht, hu⟩ := r
  exact ⟨t, _, rfl, ht, .cons (dt_str.mpr rfl) (.cons (k u e m hu) .nil), by show 2 ≤ 100000; decide⟩
theorem at_c0 {H : Hp} {v : V} {c : C0} (b : C0B c) (h : CtAt SVAt H v c) : DtAt 3 H v (c0D c) := at_en (n := 1) b.1 (fun u e m r => at_sv (b.2 e m) r) h
theorem at_vl {H : Hp} {v : V} {x : Vl} (b : VlB x) (h : VlAt H v x) : DtAt 4 H v (vlD x) := by
  cases x with
  | sm s => exact at_up 3 (at_sv b h)
  | rds r =>
    obtain ⟨p, xs, rfl, hp, pc⟩ := h
    exact ⟨p, xs, rfl, hp, pmap pc fun x c m r => at_c0 (b.2 c m) r, by rw [List.length_map]; have := b.1; omega⟩
  | tak k c =>
    obtain ⟨t, u, rfl, ht, hu⟩ := h
    exact ⟨t, _, rfl, ht, .cons (dt_int.mpr rfl) (.cons (at_c0 b hu) .nil), by show 2 ≤ 100000; decide⟩
  | con c => exact at_up 1 (at_c0 b h)
theorem at_c1 {H : Hp} {v : V} {c : C1} (b : C1B c) (h : CtAt VlAt H v c) : DtAt 6 H v (c1D c) := at_en (n := 4) b.1 (fun u e m r => at_vl (b.2 e m) r) h
/-! ### bounds from the shape -/
theorem C0Ok.len {b : List Sm} {c : C0} (h : C0Ok b c) : c.length ≤ b.length := by
  have := plen h
  have := List.length_filter_le nmd b
  omega
theorem pmem {α β : Type} {R : α → β → Prop} : ∀ {xs : List α} {l : List β}, Paired R xs l → ∀ x ∈ xs, ∃ a ∈ l, R x a
  | _, _, .cons h t, x, hx => by
    rcases List.mem_cons.mp hx with rfl | hx
    · exact ⟨_, List.mem_cons_self .., h⟩
    · obtain ⟨a, m, r⟩ := pmem t x hx; exact ⟨a, List.mem_cons_of_mem _ m, r⟩
theorem SvOk.b {y : Sm} {s : SV} (h : SvOk y s) : SvB s := by
  cases s with
  | num i => trivial
  | byt l => cases y <;> first | exact h.elim | exact h.2
theorem C0Ok.b {b : List Sm} {c : C0} (h : C0Ok b c) (l : b.length ≤ 4) : C0B c := ⟨by have := h.len; omega, fun e he => by
  obtain ⟨y, _, _, k⟩ := pmem h e he
  exact k.b⟩
theorem VlOk.b {x : I2} {v : Vl} (r : x.okR) (h : VlOk x v) : VlB v := by
  cases x with
  | sm y => cases v with
    | sm s => exact SvOk.b h
    | _ => exact h.elim
  | rep n a bk => cases v with
    | rds rs => exact ⟨h.1, fun c hc => (h.2.2 c hc).b r⟩
    | _ => exact h.elim
  | eit n bs => cases v with
    | tak k c => obtain ⟨bk, e, k⟩ := h; exact k.b (r.2 bk (List.mem_of_getElem? e))
    | _ => exact h.elim
  | swi n t cs => cases v with
    | con c => obtain ⟨cc, m, k⟩ := h; exact k.b (r cc m)
    | _ => exact h.elim
theorem C1Ok.b {l : List I2} {c : C1} (h : C1Ok l c) (l4 : l.length ≤ 4) (r : ∀ x ∈ l, x.okR) : C1B c := ⟨by have := plen h; have := List.length_filter_le nmd1 l; omega, fun e he => by
  obtain ⟨x, m, _, k⟩ := pmem h e he
  exact k.b (r x (List.mem_filter.mp m).1)⟩
/-! ### what is well made -/
theorem wk_sv (s : SV) : Wk (svD s) := by
  cases s with
  | num i => exact .int i
  | byt l => exact .lst fun x hx => by obtain ⟨i, _, rfl⟩ := List.mem_map.mp hx; exact .int i
theorem wk_en {α : Type} {g : α → Dt} {c : List (Str × α)} (h : ∀ e ∈ c, Wk (g e.2)) : Wk (entD g c) := .lst fun x hx => by
  obtain ⟨e, m, rfl⟩ := List.mem_map.mp hx
  exact .pr (.inr e.1) (h e m)
theorem wk_c0 (c : C0) : Wk (c0D c) := wk_en fun e _ => wk_sv e.2
theorem wk_vl (x : Vl) : Wk (vlD x) := by
  cases x with
  | sm s => exact wk_sv s
  | rds r => exact .lst fun x hx => by obtain ⟨c, _, rfl⟩ := List.mem_map.mp hx; exact wk_c0 c
  | tak k c => exact .pr (.inl (k : Int)) (wk_c0 c)
  | con c => exact wk_c0 c
theorem wk_c1 (c : C1) : Wk (c1D c) := wk_en fun e _ => wk_vl e.2
/-! ### steps down -/
theorem win_in {α : Type} {g : α → Dt} : ∀ {c : List (Str × α)} {e : Str × α}, (c.map (·.1)).Nodup → e ∈ c → win (.inr e.1) (entD g c) = some (g e.2)
  | a :: r, e, nd, m => by
    show ((((a :: r).map fun e => Dt.tup [.str e.1, g e.2])).filterMap (prN e.1)).head? = _
    rw [List.map_cons]
    rcases List.mem_cons.mp m with rfl | m
    · rw [List.filterMap_cons_some (b := g e.2) (by show (if e.1 = e.1 then some (g e.2) else none) = _; rw [if_pos rfl])]; rfl
    · have ne : a.1 ≠ e.1 := fun z => (List.nodup_cons.mp nd).1 (by show a.1 ∈ _; rw [z]; exact List.mem_map_of_mem m)
      rw [List.filterMap_cons_none (by show (if a.1 = e.1 then some (g a.2) else none) = _; rw [if_neg ne])]
      exact win_in (List.nodup_cons.mp nd).2 m
theorem win_out {α : Type} {g : α → Dt} {c : List (Str × α)} {z : Str} (h : z ∉ c.map (·.1)) : win (.inr z) (entD g c) = none := by
  show (((c.map fun e => Dt.tup [.str e.1, g e.2])).filterMap (prN z)).head? = none
  have : ((c.map fun e => Dt.tup [.str e.1, g e.2])).filterMap (prN z) = [] := by
    rw [List.filterMap_eq_nil_iff]
    intro x hx
    obtain ⟨e, m, rfl⟩ := List.mem_map.mp hx
    show (if e.1 = z then some (g e.2) else none) = none
    rw [if_neg fun k => h (by rw [← k]; exact List.mem_map_of_mem m)]
  rw [this]; rfl
theorem win_sv (k : Key) (s : SV) : win k (svD s) = none := by
  cases s with
  | num i => rfl
  | byt l =>
    cases k with
    | inl i =>
      show (if 0 ≤ i ∧ i < (l.map Dt.int).length then ((l.map Dt.int)[i.toNat]?).bind fun d => if isL d then some d else none else none) = none
      split
      · rw [List.getElem?_map]
        cases l[i.toNat]? <;> rfl
      · rfl
    | inr z =>
      show ((l.map Dt.int).filterMap (prN z)).head? = none
      rw [List.filterMap_eq_nil_iff.mpr fun x hx => by obtain ⟨i, _, rfl⟩ := List.mem_map.mp hx; rfl]; rfl
theorem win_rd {r : List C0} {j : Nat} {c : C0} (h : r[j]? = some c) : win (.inl (j : Int)) (.lst (r.map c0D)) = some (c0D c) := by
  show (if 0 ≤ (j : Int) ∧ (j : Int) < (r.map c0D).length then ((r.map c0D)[(j : Int).toNat]?).bind fun d => if isL d then some d else none else none) = _
  have hj : j < r.length := by
    apply Decidable.byContradiction
    intro k
    rw [List.getElem?_eq_none (by omega)] at h; cases h
  rw [if_pos ⟨by omega, by rw [List.length_map]; omega⟩, Int.toNat_natCast, List.getElem?_map, h]; rfl
theorem win_rd_out {r : List C0} {i : Int} (h : i < 0 ∨ (r.length : Int) ≤ i) : win (.inl i) (.lst (r.map c0D)) = none := by
  show (if 0 ≤ i ∧ i < (r.map c0D).length then ((r.map c0D)[i.toNat]?).bind fun d => if isL d then some d else none else none) = _
  rw [if_neg (by rw [List.length_map]; omega)]
theorem win_rd_name {r : List C0} {z : Str} : win (.inr z) (.lst (r.map c0D)) = none := by
  show ((r.map c0D).filterMap (prN z)).head? = none
  rw [List.filterMap_eq_nil_iff.mpr fun x hx => by obtain ⟨i, _, rfl⟩ := List.mem_map.mp hx; rfl]; rfl
theorem vat_snoc (d : Dt) (s : List Key) (k : Key) : vat d (s ++ [k]) = (vat d s).bind (win k) := by
  unfold vat; rw [List.foldl_append]; rfl
theorem vat_app (d : Dt) (s t : List Key) : vat d (s ++ t) = t.foldl (fun o k => o.bind (win k)) (vat d s) := by
  unfold vat; rw [List.foldl_append]
end Bm

set_option Elab.async false
set_option linter.all false
set_option maxRecDepth 100000
set_option maxHeartbeats 8000000
/-! spots where nothing is -/
namespace Bm
open PySem L2
abbrev sWrong : Stmt := top 27
inductive WrOk : List Key → Dt → Str → List (List Key) → Prop where
  | leaf (s : List Key) (z : Str) (d : Dt) {kd : Str} (h : kd = "number" ∨ kd = "bytes" ∨ kd = "text") : WrOk (s ++ [.inr z]) d kd [s ++ [.inr z] ++ [.inl 0], s ++ [.inr z] ++ [.inr "x"], s ++ [.inr (z ++ "x")]]
  | rep (s : List Key) (l : List Dt) : WrOk s (.lst l) "repeat" [s ++ [.inl (l.length : Int)], s ++ [.inl (-1)], s ++ [.inr "x"]]
  | eit (s : List Key) (k : Int) (c : Dt) : WrOk s (.tup [.int k, c]) "either" [s ++ [.inl (k + 1)], s ++ [.inl (-1)], s ++ [.inl k, .inr "x", .inr "y"]]
  | oth (s : List Key) (d : Dt) {kd : Str} (h : kd = "round" ∨ kd = "taken" ∨ kd = "switch") : WrOk s d kd [s ++ [.inr "x"], s ++ [.inr "x", .inl 0]]
def SpotAt (H : Hp) (v : V) (s : List Key) : Prop := ∃ p, v = .ref p ∧ H p = some (.tup (s.map kV))
theorem mon_spot {H H' : Hp} {v : V} {s : List Key} (k : Same H H') (h : SpotAt H v s) : SpotAt H' v s := by
  obtain ⟨p, e, h⟩ := h; exact ⟨p, e, k _ _ h⟩
theorem catS {H H' : Hp} {q b : Addr} {xs ys : List V} (hb : H b = some (.tup ys)) (h : (q = b ∧ H' = H ∧ xs = []) ∨ (H q = none ∧ H' = upd H q (.tup (xs ++ ys)))) : Same H H' ∧ H' q = some (.tup (xs ++ ys)) := by
  rcases h with ⟨rfl, rfl, rfl⟩ | ⟨h, rfl⟩
  · exact ⟨Same.refl _, hb⟩
  · exact ⟨same_new h _, upd_same⟩
theorem sIx_last (xs : List V) (v : V) : HT.sIx (xs ++ [v]).length (xs ++ [v]).length (some (-1)) = xs.length := by
  have e : HT.sIx (xs ++ [v]).length (xs ++ [v]).length (some (-1)) = ((-1 : Int) + ((xs ++ [v]).length : Int)).toNat := by
    show (if (-1 : Int) < 0 then ((-1 : Int) + ((xs ++ [v]).length : Int)).toNat else min (-1 : Int).toNat (xs ++ [v]).length) = _
    rw [if_pos (by decide)]
  rw [e, List.length_append, List.length_singleton]
  omega
theorem last_part (xs : List V) (v : V) : ¬ HT.sIx (xs ++ [v]).length (xs ++ [v]).length (some (-1)) = (xs ++ [v]).length := by
  rw [sIx_last, List.length_append, List.length_singleton]
  omega
theorem cutV_last (xs : List V) (v : V) : cutV (xs ++ [v]) none (some (-1)) = xs := by
  unfold cutV
  rw [HT.sIx_none, sIx_last, List.drop_zero, Nat.sub_zero, List.take_left]
def spWrong : Sp := fun vs H Q _ => ∃ (t ps : Addr) (u : V) (s : List Key) (d : Dt) (kd : Str) (ws : List (List Key)), vs = [.ref t] ∧ H t = some (.tup [.ref ps, u, .str kd]) ∧ H ps = some (.tup (s.map kV)) ∧ DtAt 8 H u d ∧ WrOk s d kd ws ∧ s.length ≤ 100 ∧ (∀ z, .inr z ∈ s → z.length ≤ 100) ∧
  ∀ r rs H', Same H H' → H' r = some (.lst rs) → Paired (SpotAt H') rs ws → Q (.ref r) H'
section
variable {P : Program} {w : World} {K : PySem.W.Frag} {mg : Str → Option Value} {base : Heap} {f : Addr} {fd : FuncData}
abbrev nWr : List Str := ["row", "spot", "value", "kind"]
theorem scWr : FnScope nWr ["row"] (defScope sWrong) := ⟨rfl, rfl, rfl, by decide +kernel, rfl, by decide +kernel, by decide +kernel⟩
theorem ok_wrong (F : Fun K "_law_wrong" "_law_wrong" sWrong f fd) (ml : mg "len" = none) : FnOk P w K mg base CX0 1 f fd ["row"] spWrong := by
  refine F.ok scWr (fun vs H Q E h => ?_) (fun cdv A outer s H vs Q E hr h => ?_)
  · obtain ⟨t, ps, u, s, d, kd, ws, rfl, _⟩ := h
    rfl
  · obtain ⟨t, ps, u, sp, d, kd, ws, rfl, ht, hps, hu, ok, ls, lz, q⟩ := h
    refine ⟨_, (pss_cons (ps_asg (pv 0) (pg_tup rfl (pgs_cons (pg_name (i := 1) scWr.nd rfl (Or.inl rfl)) (pgs_cons (pg_name (i := 2) scWr.nd rfl (Or.inl rfl)) (pgs_cons (pg_name (i := 3) scWr.nd rfl (Or.inl rfl)) pgs_nil)))))
      (pss_cons (ps_if (pt_cmpR op_in_seq (pv 3) (pe_lst (pa_cons pe_str (pa_cons pe_str (pa_cons pe_str pa_nil)))) (by rfl)) (pss_one (ps_ret (pe_lst (pa_cons (pe_op op_catA (pv 1) (pe_tup (pa_cons pe_int pa_nil))) (pa_cons (pe_op op_catA (pv 1) (pe_tup (pa_cons pe_str pa_nil))) (pa_cons (pe_op op_catA (pe_slice sl_tupA (pv 1) po_none (po_some (pe_un un_neg pe_int))) (pe_tup (pa_cons (pe_op op_add_str (pe_ix ix_tup (pv 1) (pe_un un_neg pe_int) (fun _ _ => rfl)) pe_str) pa_nil))) pa_nil)))))) pss_nil)
      (pss_cons (ps_if (pt_cmpR op_eq (pv 3) pe_str (nomark _)) (pss_one (ps_ret (pe_lst (pa_cons (pe_op op_catA (pv 1) (pe_tup (pa_cons (pe_callB call_len (by rfl) ml boot_len (pa_cons (pv 2) pa_nil)) pa_nil))) (pa_cons (pe_op op_catA (pv 1) (pe_tup (pa_cons (pe_un un_neg pe_int) pa_nil))) (pa_cons (pe_op op_catA (pv 1) (pe_tup (pa_cons pe_str pa_nil))) pa_nil)))))) pss_nil)
      (pss_cons (ps_if (pt_cmpR op_eq (pv 3) pe_str (nomark _)) (pss_one (ps_ret (pe_lst (pa_cons (pe_op op_catA (pv 1) (pe_tup (pa_cons (pe_op op_add (pe_ix ix_tup (pv 2) pe_int (fun _ _ => rfl)) pe_int) pa_nil))) (pa_cons (pe_op op_catA (pv 1) (pe_tup (pa_cons (pe_un un_neg pe_int) pa_nil))) (pa_cons (pe_op op_catA (pv 1) (pe_tup (pa_cons (pe_ix ix_tup (pv 2) pe_int (fun _ _ => rfl)) (pa_cons pe_str (pa_cons pe_str pa_nil))))) pa_nil)))))) pss_nil)
      (pss_one (ps_ret (pe_lst (pa_cons (pe_op op_catA (pv 1) (pe_tup (pa_cons pe_str pa_nil))) (pa_cons (pe_op op_catA (pv 1) (pe_tup (pa_cons pe_str (pa_cons pe_int pa_nil)))) pa_nil))))))))), ?_⟩
    refine ⟨_, rfl, t, _, rfl, SqT.of ht, rfl, _, _, rfl, _, _, rfl, _, _, rfl, rfl, ?_⟩
    cases ok with
    | oth _ _ h =>
      refine ⟨_, rfl, (by show 3 ≤ sizeLine; decide), fun a3 ha3 => ⟨a3, _, rfl, .inl (SqL.of upd_same), rfl, rfl, _, rfl, ifF (by rcases h with rfl | rfl | rfl <;> decide +kernel) ?_⟩⟩
      have S0 := same_new ha3 (.lst [.str "number", .str "bytes", .str "text"])
      generalize upd H a3 (.lst [.str "number", .str "bytes", .str "text"]) = H0 at S0 ⊢
      refine ⟨_, rfl, rfl, _, rfl, ifN (by rcases h with rfl | rfl | rfl <;> decide +kernel) ?_⟩
      refine ⟨_, rfl, rfl, _, rfl, ifN (by rcases h with rfl | rfl | rfl <;> decide +kernel) ?_⟩
      refine ⟨_, rfl, (by show 1 ≤ sizeLine; decide), fun q1 h1 => ?_⟩
      refine catGo (SqT.of (same_new h1 _ _ _ (S0 _ _ hps))) (SqT.of upd_same) (by simp only [List.length_append, List.length_map, List.length_cons, List.length_nil, sizeLine]; omega) (by simp) fun w1 H1 e1 => ?_
      obtain ⟨s1, k1⟩ := catS upd_same e1
      have S1 : Same H H1 := S0.trans ((same_new h1 _).trans s1)
      have T1 := (same_new h1 _).trans s1
      refine ⟨_, rfl, (by show 2 ≤ sizeLine; decide), fun q2 h2 => ?_⟩
      refine catGo (SqT.of (same_new h2 _ _ _ (S1 _ _ hps))) (SqT.of upd_same) (by simp only [List.length_append, List.length_map, List.length_cons, List.length_nil, sizeLine]; omega) (by simp) fun w2 H2 e2 => ?_
      obtain ⟨s2, k2⟩ := catS upd_same e2
      have S2 : Same H H2 := S1.trans ((same_new h2 _).trans s2)
      have T2 := (same_new h2 _).trans s2
      refine ⟨(by show 2 ≤ sizeLine; decide), fun r hr => ?_⟩
      have sE := same_new hr (.lst [.ref w1, .ref w2])
      exact q r _ _ (S2.trans sE) upd_same (.cons ⟨w1, rfl, by rw [List.map_append]; exact sE _ _ ((T2 _ _ k1))⟩ (.cons ⟨w2, rfl, by rw [List.map_append]; exact sE _ _ (k2)⟩ .nil))
    | rep _ l =>
      obtain ⟨pd, xs, rfl, hl, pl, ll⟩ := hu
      refine ⟨_, rfl, (by show 3 ≤ sizeLine; decide), fun a3 ha3 => ⟨a3, _, rfl, .inl (SqL.of upd_same), rfl, rfl, _, rfl, ifF (by decide +kernel) ?_⟩⟩
      have S0 := same_new ha3 (.lst [.str "number", .str "bytes", .str "text"])
      generalize upd H a3 (.lst [.str "number", .str "bytes", .str "text"]) = H0 at S0 ⊢
      refine ⟨_, rfl, rfl, _, rfl, ifT rfl ?_⟩
      have LR : (sp ++ [Sum.inl (l.length : Int)]).map kV = sp.map kV ++ [.int (xs.length : Int)] := by rw [List.map_append, plen pl]; rfl
      refine ⟨_, rfl, _, rfl, _, _, rfl, .inl ⟨_, SqL.of (S0 _ _ hl), rfl⟩, (by show 1 ≤ sizeLine; decide), fun q1 h1 => ?_⟩
      refine catGo (SqT.of (same_new h1 _ _ _ (S0 _ _ hps))) (SqT.of upd_same) (by simp only [List.length_append, List.length_map, List.length_cons, List.length_nil, sizeLine]; omega) (by simp) fun w1 H1 e1 => ?_
      obtain ⟨s1, k1⟩ := catS upd_same e1
      have S1 : Same H H1 := S0.trans ((same_new h1 _).trans s1)
      have T1 := (same_new h1 _).trans s1
      refine ⟨_, rfl, _, rfl, (by show 1 ≤ sizeLine; decide), fun q2 h2 => ?_⟩
      refine catGo (SqT.of (same_new h2 _ _ _ (S1 _ _ hps))) (SqT.of upd_same) (by simp only [List.length_append, List.length_map, List.length_cons, List.length_nil, sizeLine]; omega) (by simp) fun w2 H2 e2 => ?_
      obtain ⟨s2, k2⟩ := catS upd_same e2
      have S2 : Same H H2 := S1.trans ((same_new h2 _).trans s2)
      have T2 := (same_new h2 _).trans s2
      refine ⟨_, rfl, (by show 1 ≤ sizeLine; decide), fun q3 h3 => ?_⟩
      refine catGo (SqT.of (same_new h3 _ _ _ (S2 _ _ hps))) (SqT.of upd_same) (by simp only [List.length_append, List.length_map, List.length_cons, List.length_nil, sizeLine]; omega) (by simp) fun w3 H3 e3 => ?_
      obtain ⟨s3, k3⟩ := catS upd_same e3
      have S3 : Same H H3 := S2.trans ((same_new h3 _).trans s3)
      have T3 := (same_new h3 _).trans s3
      refine ⟨(by show 3 ≤ sizeLine; decide), fun r hr => ?_⟩
      have sE := same_new hr (.lst [.ref w1, .ref w2, .ref w3])
      exact q r _ _ (S3.trans sE) upd_same (.cons ⟨w1, rfl, by rw [LR]; exact sE _ _ ((T3 _ _ (T2 _ _ k1)))⟩ (.cons ⟨w2, rfl, by rw [List.map_append]; exact sE _ _ ((T3 _ _ k2))⟩ (.cons ⟨w3, rfl, by rw [List.map_append]; exact sE _ _ (k3)⟩ .nil)))
    | eit _ k c =>
      obtain ⟨pd, xs, rfl, hd, pl, ll⟩ := hu
      obtain ⟨x1, x2, rfl, e1⟩ : ∃ x1 x2, xs = [x1, x2] ∧ DtAt 7 H x1 (.int k) := by
        cases pl with
        | cons h1 t => cases t with
          | cons h2 t => cases t; exact ⟨_, _, rfl, h1⟩
      obtain rfl := dt_int.mp e1
      refine ⟨_, rfl, (by show 3 ≤ sizeLine; decide), fun a3 ha3 => ⟨a3, _, rfl, .inl (SqL.of upd_same), rfl, rfl, _, rfl, ifF (by decide +kernel) ?_⟩⟩
      have S0 := same_new ha3 (.lst [.str "number", .str "bytes", .str "text"])
      generalize upd H a3 (.lst [.str "number", .str "bytes", .str "text"]) = H0 at S0 ⊢
      refine ⟨_, rfl, rfl, _, rfl, ifN (by decide +kernel) ?_⟩
      refine ⟨_, rfl, rfl, _, rfl, ifT rfl ?_⟩
      refine ⟨_, rfl, _, rfl, pd, _, 0, _, rfl, rfl, SqT.of (S0 _ _ hd), atI_nat (j := 0) rfl, _, _, rfl, rfl, (by show 1 ≤ sizeLine; decide), fun q1 h1 => ?_⟩
      refine catGo (SqT.of (same_new h1 _ _ _ (S0 _ _ hps))) (SqT.of upd_same) (by simp only [List.length_append, List.length_map, List.length_cons, List.length_nil, sizeLine]; omega) (by simp) fun w1 H1 e1 => ?_
      obtain ⟨s1, k1⟩ := catS upd_same e1
      have S1 : Same H H1 := S0.trans ((same_new h1 _).trans s1)
      have T1 := (same_new h1 _).trans s1
      refine ⟨_, rfl, _, rfl, (by show 1 ≤ sizeLine; decide), fun q2 h2 => ?_⟩
      refine catGo (SqT.of (same_new h2 _ _ _ (S1 _ _ hps))) (SqT.of upd_same) (by simp only [List.length_append, List.length_map, List.length_cons, List.length_nil, sizeLine]; omega) (by simp) fun w2 H2 e2 => ?_
      obtain ⟨s2, k2⟩ := catS upd_same e2
      have S2 : Same H H2 := S1.trans ((same_new h2 _).trans s2)
      have T2 := (same_new h2 _).trans s2
      refine ⟨_, rfl, _, rfl, pd, _, 0, _, rfl, rfl, SqT.of (S2 _ _ hd), atI_nat (j := 0) rfl, (by show 3 ≤ sizeLine; decide), fun q3 h3 => ?_⟩
      refine catGo (SqT.of (same_new h3 _ _ _ (S2 _ _ hps))) (SqT.of upd_same) (by simp only [List.length_append, List.length_map, List.length_cons, List.length_nil, sizeLine]; omega) (by simp) fun w3 H3 e3 => ?_
      obtain ⟨s3, k3⟩ := catS upd_same e3
      have S3 : Same H H3 := S2.trans ((same_new h3 _).trans s3)
      have T3 := (same_new h3 _).trans s3
      refine ⟨(by show 3 ≤ sizeLine; decide), fun r hr => ?_⟩
      have sE := same_new hr (.lst [.ref w1, .ref w2, .ref w3])
      exact q r _ _ (S3.trans sE) upd_same (.cons ⟨w1, rfl, by rw [List.map_append]; exact sE _ _ ((T3 _ _ (T2 _ _ k1)))⟩ (.cons ⟨w2, rfl, by rw [List.map_append]; exact sE _ _ ((T3 _ _ k2))⟩ (.cons ⟨w3, rfl, by rw [List.map_append]; exact sE _ _ (k3)⟩ .nil)))
    | leaf s0 z _ h =>
      rw [List.map_append] at hps
      have hps : H ps = some (.tup (s0.map kV ++ [.str z])) := hps
      rw [List.length_append, List.length_singleton] at ls
      refine ⟨_, rfl, (by show 3 ≤ sizeLine; decide), fun a3 ha3 => ⟨a3, _, rfl, .inl (SqL.of upd_same), rfl, rfl, _, rfl, ifB (by rcases h with rfl | rfl | rfl <;> decide +kernel) ?_⟩⟩
      have S0 := same_new ha3 (.lst [.str "number", .str "bytes", .str "text"])
      generalize upd H a3 (.lst [.str "number", .str "bytes", .str "text"]) = H0 at S0 ⊢
      refine ⟨_, rfl, (by show 1 ≤ sizeLine; decide), fun q1 h1 => ?_⟩
      refine catGo (SqT.of (same_new h1 _ _ _ (S0 _ _ hps))) (SqT.of upd_same) (by simp only [List.length_append, List.length_map, List.length_cons, List.length_nil, sizeLine]; omega) (by simp) fun w1 H1 e1 => ?_
      obtain ⟨s1, k1⟩ := catS upd_same e1
      have S1 : Same H H1 := S0.trans ((same_new h1 _).trans s1)
      have T1 := (same_new h1 _).trans s1
      refine ⟨_, rfl, (by show 1 ≤ sizeLine; decide), fun q2 h2 => ?_⟩
      refine catGo (SqT.of (same_new h2 _ _ _ (S1 _ _ hps))) (SqT.of upd_same) (by simp only [List.length_append, List.length_map, List.length_cons, List.length_nil, sizeLine]; omega) (by simp) fun w2 H2 e2 => ?_
      obtain ⟨s2, k2⟩ := catS upd_same e2
      have S2 : Same H H2 := S1.trans ((same_new h2 _).trans s2)
      have T2 := (same_new h2 _).trans s2
      refine ⟨_, rfl, _, rfl, _, rfl, ps, _, rfl, SqT.of (S2 _ _ hps), fun wh => absurd wh.2 (last_part _ _), fun _ p3 hp3 => ?_⟩
      rw [cutV_last]
      have s3a := same_new hp3 (.tup (s0.map kV))
      have kp3 := upd_same (H := H2) (a := p3) (o := .tup (s0.map kV))
      generalize upd H2 p3 (.tup (s0.map kV)) = H3a at s3a kp3 ⊢
      have S3a := S2.trans s3a
      refine ⟨_, rfl, _, rfl, ps, _, _, _, rfl, rfl, SqT.of (S3a _ _ hps), atI_last _ _, _, _, rfl, rfl, (by have := lz z (by simp); show z.length + 1 ≤ sizeLine; simp only [sizeLine]; omega), (by show 1 ≤ sizeLine; decide), fun q3 h3 => ?_⟩
      refine catGo (SqT.of (same_new h3 _ _ _ kp3)) (SqT.of upd_same) (by simp only [List.length_map, List.length_cons, List.length_nil, sizeLine]; omega) (by simp) fun w3 H3 e3 => ?_
      obtain ⟨s3, k3⟩ := catS upd_same e3
      have S3 : Same H H3 := S3a.trans ((same_new h3 _).trans s3)
      have T3 := s3a.trans ((same_new h3 _).trans s3)
      refine ⟨(by show 3 ≤ sizeLine; decide), fun r hr => ?_⟩
      have sE := same_new hr (.lst [.ref w1, .ref w2, .ref w3])
      exact q r _ _ (S3.trans sE) upd_same (.cons ⟨w1, rfl, by rw [List.map_append, List.map_append]; exact sE _ _ ((T3 _ _ (T2 _ _ k1)))⟩ (.cons ⟨w2, rfl, by rw [List.map_append, List.map_append]; exact sE _ _ ((T3 _ _ k2))⟩ (.cons ⟨w3, rfl, by rw [List.map_append]; exact sE _ _ (k3)⟩ .nil)))
end
end Bm

set_option Elab.async false
set_option linter.all false
set_option maxRecDepth 100000
set_option maxHeartbeats 4000000
/-! rows of spots: what stands there, and where nothing is -/
namespace Bm
open PySem L2
structure Row2 where
  s : List Key
  d : Dt
  kd : Str
/-- it stands there, and nothing stands at the wrong ones -/
def Rg (R : Dt) (r : Row2) : Prop := vat R r.s = some r.d ∧ ∃ ws, WrOk r.s r.d r.kd ws ∧ ∀ w ∈ ws, vat R w = none
theorem hd_x {z : Str} (h : 2 ≤ z.length) : hd (z ++ "x") = hd z := by
  unfold hd
  have e : (z ++ ("x" : Str)).cps.toList = z.cps.toList ++ ("x" : Str).cps.toList := by
    show (z.cps ++ ("x" : Str).cps).toList = _
    simp
  rw [e]
  have h : 2 ≤ z.cps.size := h
  cases c : z.cps.toList with
  | nil =>
    have := congrArg List.length c
    rw [Array.length_toList] at this
    have this : z.cps.size = 0 := this
    omega
  | cons a r => rfl
/-- names whose first letters differ: none goes on with an x -/
theorem xname {ns : List Str} (nd : (ns.map hd).Nodup) (two : ∀ z ∈ ns, 2 ≤ z.length) {z : Str} (h : z ∈ ns) : z ++ "x" ∉ ns := fun m => by
  have e : z ++ "x" = z := by
    have inj : ∀ {l : List Str}, (l.map hd).Nodup → ∀ a ∈ l, ∀ b ∈ l, hd a = hd b → a = b := by
      intro l
      induction l with
      | nil => intro _ a ha; cases ha
      | cons c r ih =>
        intro nd a ha b hb e
        rw [List.map_cons, List.nodup_cons] at nd
        rcases List.mem_cons.mp ha with ea | ha'
        · rcases List.mem_cons.mp hb with eb | hb'
          · rw [ea, eb]
          · exact absurd (by rw [← ea, e]; exact List.mem_map_of_mem hb') nd.1
        · rcases List.mem_cons.mp hb with eb | hb'
          · exact absurd (by rw [← eb, ← e]; exact List.mem_map_of_mem ha') nd.1
          · exact ih nd.2 a ha' b hb' e
    exact inj nd _ m _ h (hd_x (two z h))
  have : (z ++ "x").length = z.length + 1 := by
    show (z.cps ++ ("x" : Str).cps).size = z.cps.size + 1
    rw [Array.size_append]; rfl
  rw [e] at this
  omega
theorem xname1 {ns : List Str} (two : ∀ z ∈ ns, 2 ≤ z.length) : ("x" : Str) ∉ ns := fun m => by
  have := two _ m
  have e : ("x" : Str).length = 1 := rfl
  omega
/-- the names of a content -/
abbrev Nms {α : Type} (c : List (Str × α)) : List Str := c.map (·.1)
structure NmOk {α : Type} (c : List (Str × α)) : Prop where
  nd : ((Nms c).map hd).Nodup
  two : ∀ z ∈ Nms c, 2 ≤ z.length
theorem nodup_map {α β : Type} {g : α → β} : ∀ {l : List α}, (l.map g).Nodup → l.Nodup
  | [], _ => List.nodup_nil
  | a :: r, h => by
    rw [List.map_cons, List.nodup_cons] at h
    exact List.nodup_cons.mpr ⟨fun m => h.1 (List.mem_map_of_mem m), nodup_map h.2⟩
theorem NmOk.inj {α : Type} {c : List (Str × α)} (h : NmOk c) : (Nms c).Nodup := nodup_map h.nd
section
variable {R : Dt} {s : List Key}
theorem down {α : Type} {g : α → Dt} {c : List (Str × α)} (n : NmOk c) (h : vat R s = some (entD g c)) {e : Str × α} (m : e ∈ c) : vat R (s ++ [.inr e.1]) = some (g e.2) := by
  rw [vat_snoc, h]
  exact win_in n.inj m
/-- a content: x names nothing in it -/
theorem no_x {α : Type} {g : α → Dt} {c : List (Str × α)} (n : NmOk c) (h : vat R s = some (entD g c)) : vat R (s ++ [.inr "x"]) = none := by
  rw [vat_snoc, h]
  exact win_out (xname1 n.two)
theorem no_x2 (h : vat R (s ++ [.inr "x"]) = none) (k : Key) : vat R (s ++ [.inr "x", k]) = none := by
  rw [show s ++ [.inr "x", k] = (s ++ [.inr "x"]) ++ [k] by simp, vat_snoc, h]; rfl
/-- numbers, bytes, texts -/
theorem rg_leaf {α : Type} {g : α → Dt} {c : List (Str × α)} (n : NmOk c) (h : vat R s = some (entD g c)) {e : Str × α} (m : e ∈ c) {v : SV} (ev : g e.2 = svD v) {kd : Str} (k : kd = "number" ∨ kd = "bytes" ∨ kd = "text") : Rg R ⟨s ++ [.inr e.1], g e.2, kd⟩ := by
  refine ⟨down n h m, _, .leaf s e.1 _ k, fun w hw => ?_⟩
  have d := down n h m
  rw [ev] at d
  rcases List.mem_cons.mp hw with rfl | hw
  · rw [vat_snoc, d]; exact win_sv _ _
  rcases List.mem_cons.mp hw with rfl | hw
  · rw [vat_snoc, d]; exact win_sv _ _
  rcases List.mem_cons.mp hw with rfl | hw
  · rw [vat_snoc, h]
    exact win_out (xname n.nd n.two (List.mem_map_of_mem m))
  · cases hw
theorem rg_rep {r : List C0} (h : vat R s = some (.lst (r.map c0D))) : Rg R ⟨s, .lst (r.map c0D), "repeat"⟩ := by
  refine ⟨h, _, .rep s _, fun w hw => ?_⟩
  rcases List.mem_cons.mp hw with rfl | hw
  · rw [vat_snoc, h]; exact win_rd_out (.inr (by rw [List.length_map]; omega))
  rcases List.mem_cons.mp hw with rfl | hw
  · rw [vat_snoc, h]; exact win_rd_out (r := r) (.inl (show (-1 : Int) < 0 by decide))
  rcases List.mem_cons.mp hw with rfl | hw
  · rw [vat_snoc, h]; exact win_rd_name
  · cases hw
theorem rg_eit {k : Nat} {c : C0} (n : NmOk c) (h : vat R s = some (.tup [.int (k : Int), c0D c])) : Rg R ⟨s, .tup [.int (k : Int), c0D c], "either"⟩ := by
  have d : vat R (s ++ [.inl (k : Int)]) = some (c0D c) := by
    rw [vat_snoc, h]
    show (if (Sum.inl (k : Int) : Key) = .inl (k : Int) then some (c0D c) else none) = _
    rw [if_pos rfl]
  refine ⟨h, _, .eit s _ _, fun w hw => ?_⟩
  rcases List.mem_cons.mp hw with rfl | hw
  · rw [vat_snoc, h]
    show (if (Sum.inl ((k : Int) + 1) : Key) = .inl (k : Int) then some (c0D c) else none) = _
    rw [if_neg (fun z => by have := Sum.inl.inj z; omega)]
  rcases List.mem_cons.mp hw with rfl | hw
  · rw [vat_snoc, h]
    show (if (Sum.inl (-1) : Key) = .inl (k : Int) then some (c0D c) else none) = _
    rw [if_neg (fun z => by have := Sum.inl.inj z; omega)]
  rcases List.mem_cons.mp hw with rfl | hw
  · have := no_x2 (no_x n d) (.inr "y")
    rw [← this]
    simp
  · cases hw
theorem rg_oth {c : C0} (n : NmOk c) (h : vat R s = some (c0D c)) {kd : Str} (k : kd = "round" ∨ kd = "taken" ∨ kd = "switch") : Rg R ⟨s, c0D c, kd⟩ := by
  refine ⟨h, _, .oth s _ k, fun w hw => ?_⟩
  rcases List.mem_cons.mp hw with rfl | hw
  · exact no_x n h
  rcases List.mem_cons.mp hw with rfl | hw
  · exact no_x2 (no_x n h) _
  · cases hw
end
end Bm

set_option Elab.async false
set_option linter.all false
set_option maxRecDepth 100000
set_option maxHeartbeats 8000000
/-! the spots of a content -/
namespace Bm
open PySem L2
abbrev sSpots : Stmt := top 26
def RowAt2 (H : Hp) (v : V) (r : Row2) : Prop := ∃ t ps u, v = .ref t ∧ H t = some (.tup [.ref ps, u, .str r.kd]) ∧ H ps = some (.tup (r.s.map kV)) ∧ DtAt 8 H u r.d
theorem mon_row2 : Mon RowAt2 := fun _ _ _ _ s h => by
  obtain ⟨t, ps, u, e, h1, h2, h3⟩ := h
  exact ⟨t, ps, u, e, s _ _ h1, s _ _ h2, mon_dt s h3⟩
/-- names of items: first letters differ, no name is short -/
structure NmI (l : List I2) : Prop where
  top : ((l.map I2.name).map hd).Nodup
  two : ∀ x ∈ l, ∀ z ∈ x.names, 2 ≤ z.length ∧ z.length ≤ 100
  own : ∀ x ∈ l, (x.names.map hd).Nodup
  sok : ∀ x ∈ l, ∀ z ∈ x.names, PyData.strOk z = true
def okC : I2 → Prop
  | .swi _ _ cs => cs.length ≤ 1000
  | _ => True
/-- what a row may be -/
def Rw2Ok (R : Dt) (r : Row2) : Prop := Rg R r ∧ r.s.length ≤ 50 ∧ (∀ z, .inr z ∈ r.s → z.length ≤ 100) ∧ ((∃ v, r.d = vlD v ∧ VlB v) ∨ ∃ c, r.d = c0D c ∧ C0B c)
/-- rows for one item, at most -/
def RB (n : Nat) : Nat := if n = 0 then 1 else 350000
/-- an own list D that is written on, outside of what stands for good -/
structure Ow (G0 H0 : Hp) (D : Addr) (G H : Hp) : Prop where
  gg : Same G0 G
  gh : Same G H
  hh : Same H0 H
  nu : Nu G0 H0 G
  gd : G D = none
  hd : H0 D = none
theorem Ow.new {G0 H0 G H : Hp} {D a : Addr} {o : HO} (w : Ow G0 H0 D G H) (h : H a = none) (hD : H D ≠ none) : Ow G0 H0 D (upd G a o) (upd H a o) := by
  have ga := w.gh.free h
  have ha := w.hh.free h
  have n : D ≠ a := fun e => hD (by rw [e]; exact h)
  refine ⟨fun b u e => ?_, fun b u e => ?_, fun b u e => ?_, fun b h1 h2 => ?_, by rw [upd_ne n]; exact w.gd, w.hd⟩
  · rw [upd_ne (ne_of_none (w.gg _ _ e) ga)]; exact w.gg _ _ e
  · by_cases c : b = a
    · rw [c, upd_same] at e ⊢; exact e
    · rw [upd_ne c] at e ⊢; exact w.gh _ _ e
  · rw [upd_ne (ne_of_none e ha)]; exact w.hh _ _ e
  · rw [upd_ne (fun z => h2 (by rw [z]; exact ha))]; exact w.nu b h1 h2
theorem Ow.wr {G0 H0 G H : Hp} {D : Addr} {o : HO} (w : Ow G0 H0 D G H) : Ow G0 H0 D G (upd H D o) :=
  ⟨w.gg, fun b u e => by rw [upd_ne (ne_of_none e w.gd)]; exact w.gh _ _ e, fun b u e => by rw [upd_ne (ne_of_none e w.hd)]; exact w.hh _ _ e, w.nu, w.gd, w.hd⟩
theorem Ow.call {G0 H0 G H G' H' : Hp} {D : Addr} (w : Ow G0 H0 D G H) (hD : H D ≠ none) (s1 : Same G G') (s2 : Same G' H') (s3 : Same H H') (n : Nu G H G') : Ow G0 H0 D G' H' :=
  ⟨w.gg.trans s1, s2, w.hh.trans s3, fun b h1 h2 => n b (w.nu b h1 h2) (by
    cases c : H0 b with
    | none => exact absurd c h2
    | some o => rw [w.hh _ _ c]; exact fun z => by cases z), n D w.gd hD, w.hd⟩
theorem Ow.move {G0 H0 G H : Hp} {D a : Addr} {o : HO} (w : Ow G0 H0 D G H) (h : H a = none) : Ow G0 H0 a G (upd H a o) :=
  ⟨w.gg, w.gh.trans (same_new h _), w.hh.trans (same_new h _), w.nu, w.gh.free h, w.hh.free h⟩
theorem Ow.alloc {G0 H0 G H : Hp} {D a : Addr} {o : HO} (w : Ow G0 H0 D G H) (h : H a = none) (hD : H D ≠ none) : ∃ G', Ow G0 H0 D G' (upd H a o) ∧ Same G G' ∧ G' a = some o :=
  ⟨upd G a o, w.new h hD, fun b u e => by rw [upd_ne (ne_of_none e (w.gh.free h))]; exact e, upd_same⟩
theorem Ow.take {G0 H0 G H : Hp} {D : Addr} {o : HO} (w : Ow G0 H0 D G H) (h : H D = some o) : Same G (upd G D o) ∧ Same G0 (upd G D o) ∧ Same (upd G D o) H ∧ Nu G0 H0 (upd G D o) := by
  have s : Same G (upd G D o) := fun b u e => by rw [upd_ne (ne_of_none e w.gd)]; exact e
  refine ⟨s, w.gg.trans s, fun b u e => ?_, fun b h1 h2 => ?_⟩
  · by_cases c : b = D
    · rw [c, upd_same] at e; rw [c, h, e]
    · rw [upd_ne c] at e; exact w.gh _ _ e
  · rw [upd_ne (fun z => h2 (by rw [z]; exact w.hd))]; exact w.nu b h1 h2
theorem Ow.cat {G0 H0 G H H' : Hp} {D q b : Addr} {xs ys : List V} (w : Ow G0 H0 D G H) (hD : H D ≠ none) (hb : G b = some (.tup ys)) (h : (q = b ∧ H' = H ∧ xs = []) ∨ (H q = none ∧ H' = upd H q (.tup (xs ++ ys)))) : ∃ G', Ow G0 H0 D G' H' ∧ Same G G' ∧ Same H H' ∧ G' q = some (.tup (xs ++ ys)) := by
  rcases h with ⟨rfl, rfl, rfl⟩ | ⟨h, rfl⟩
  · exact ⟨G, w, Same.refl _, Same.refl _, hb⟩
  · obtain ⟨G', w', g, k⟩ := w.alloc (o := .tup (xs ++ ys)) h hD
    exact ⟨G', w', g, same_new h _, k⟩
theorem nm_of {α : Type} {c : List (Str × α)} {ns : List Str} (s : (Nms c).Sublist ns) (nd : (ns.map hd).Nodup) (two : ∀ z ∈ ns, 2 ≤ z.length) : NmOk c := ⟨nd.sublist (s.map hd), fun z hz => two z (s.subset hz)⟩
theorem nms_pair {α β : Type} {F : Str × α → β → Prop} {nm : β → Str} : ∀ {c : List (Str × α)} {l : List β}, Paired F c l → (∀ e y, F e y → e.1 = nm y) → Nms c = l.map nm
  | _, _, .nil, _ => rfl
  | _, _, .cons h t, k => by
    exact congr (congrArg List.cons (k _ _ h)) (nms_pair t k)
theorem nms0 {b : List Sm} {c : C0} (h : C0Ok b c) : (Nms c).Sublist (b.map Sm.name) := by
  rw [nms_pair (nm := Sm.name) h fun e y k => k.1]
  exact List.filter_sublist.map _
theorem nms1 {l : List I2} {c : C1} (h : C1Ok l c) : (Nms c).Sublist (l.map I2.name) := by
  rw [nms_pair (nm := I2.name) h fun e y k => k.1]
  exact List.filter_sublist.map _
theorem sub_flat {α β : Type} {g : α → List β} : ∀ {l : List α} {a : α}, a ∈ l → (g a).Sublist (l.flatMap g)
  | b :: r, a, h => by
    rw [List.flatMap_cons]
    rcases List.mem_cons.mp h with rfl | h
    · exact List.sublist_append_left _ _
    · exact (sub_flat h).trans (List.sublist_append_right _ _)
theorem ct_lift {H : Hp} {v : V} {c : C0} (h : CtAt SVAt H v c) : CtAt VlAt H v (c.map liftE) := by
  obtain ⟨p, xs, e, hp, q⟩ := h
  exact ⟨p, xs, e, hp, pmap q fun x a _ r => by obtain ⟨t, u, e1, e2, e3⟩ := r; exact ⟨t, u, e1, e2, e3⟩⟩
theorem ok_lift : ∀ {b : List Sm} {c : C0}, C0Ok b c → C1Ok (b.map .sm) (c.map liftE) := fun {b c} h => by
  unfold C0Ok at h
  unfold C1Ok
  have e : (b.map I2.sm).filter nmd1 = (b.filter nmd).map I2.sm := by rw [List.filter_map]; rfl
  rw [e]
  generalize b.filter nmd = l at h
  induction h with
  | nil => exact .nil
  | cons h t ih => exact .cons ⟨h.1, h.2⟩ ih
theorem nmI_lift {b : List Sm} {ns : List Str} (s : (b.map Sm.name).Sublist ns) (nd : (ns.map hd).Nodup) (two : ∀ z ∈ ns, 2 ≤ z.length ∧ z.length ≤ 100) (sok : ∀ z ∈ ns, PyData.strOk z = true) : NmI (b.map .sm) := by
  refine ⟨?_, fun x hx z hz => ?_, fun x hx => ?_, fun x hx z hz => ?_⟩
  · have e : (b.map I2.sm).map I2.name = b.map Sm.name := List.map_map
    rw [e]
    exact nd.sublist (s.map hd)
  · obtain ⟨y, hy, rfl⟩ := List.mem_map.mp hx
    rw [show z = y.name from List.mem_singleton.mp hz]
    exact two _ (s.subset (List.mem_map_of_mem hy))
  · obtain ⟨y, hy, rfl⟩ := List.mem_map.mp hx
    exact List.nodup_cons.mpr ⟨(fun h => by cases h), List.nodup_nil⟩
  · obtain ⟨y, hy, rfl⟩ := List.mem_map.mp hx
    rw [show z = y.name from List.mem_singleton.mp hz]
    exact sok _ (s.subset (List.mem_map_of_mem hy))
theorem get_lt' {α : Type} {f : List α} {i : Nat} {b : α} (h : f[i]? = some b) : i < f.length := by
  apply Decidable.byContradiction
  intro k
  rw [List.getElem?_eq_none (by omega)] at h; cases h
theorem flat_eq {α β : Type} {g : α → List β} : ∀ {l : List α} {a b : α} {z : β}, (l.flatMap g).Nodup → a ∈ l → b ∈ l → z ∈ g a → z ∈ g b → a = b
  | c :: r, a, b, z, nd, ha, hb, za, zb => by
    rw [List.flatMap_cons, List.nodup_append] at nd
    obtain ⟨n1, n2, n3⟩ := nd
    rcases List.mem_cons.mp ha with ea | ha'
    · rcases List.mem_cons.mp hb with eb | hb'
      · rw [ea, eb]
      · exact absurd rfl (n3 z (by rw [← ea]; exact za) z (List.mem_flatMap.mpr ⟨b, hb', zb⟩))
    · rcases List.mem_cons.mp hb with eb | hb'
      · exact absurd rfl (n3 z (by rw [← eb]; exact zb) z (List.mem_flatMap.mpr ⟨a, ha', za⟩))
      · exact flat_eq n2 ha' hb' za zb
theorem dp_strs {K : PySem.W.Frag} {H : Hp} : ∀ l : List Str, DpAll K H (l.map V.str) (l.map PyData.str)
  | [] => .nil
  | a :: r => .cons (.str a) (dp_strs r)
theorem shaped_strs {l : List Str} (h : ∀ z ∈ l, PyData.strOk z = true) : SeqAt.shaped (.list (l.map PyData.str)) = true := by
  have a : PyData.canLayAll0 (l.map PyData.str) = true ∧ PyData.depthAll (l.map PyData.str) = 0 := by
    induction l with
    | nil => exact ⟨rfl, rfl⟩
    | cons z r ih =>
      obtain ⟨i1, i2⟩ := ih fun y hy => h y (List.mem_cons_of_mem _ hy)
      have hz := h z (List.mem_cons_self ..)
      refine ⟨?_, ?_⟩
      · simp only [List.map_cons, PyData.canLayAll0, PyData.canLay0, hz, i1, Bool.and_self]
      · simp only [List.map_cons, PyData.depthAll, PyData.depth, i2, Nat.max_self]
  unfold SeqAt.shaped
  simp only [PyData.canLay0, PyData.depth, a.1, a.2]
  decide
theorem eqv_strs : ∀ {a b : List Str}, PyData.eqv (.list (a.map PyData.str)) (.list (b.map PyData.str)) = true → a = b := by
  have all : ∀ {a b : List Str}, PyData.eqvAll (a.map PyData.str) (b.map PyData.str) = true → a = b := by
    intro a
    induction a with
    | nil => intro b h; cases b with
      | nil => rfl
      | cons y r => simp [PyData.eqvAll] at h
    | cons x r ih => intro b h; cases b with
      | nil => simp [PyData.eqvAll] at h
      | cons y q =>
        simp only [List.map_cons, PyData.eqvAll, PyData.eqv, Bool.and_eq_true] at h
        rw [eq_of_beq h.1, ih h.2]
  intro a b h
  exact all (by simpa [PyData.eqv] using h)
theorem kind_nmd (x : I2) : (if true = true then !inV (.str x.kind) [V.str "check", V.str "pad"] else inV (.str x.kind) [V.str "check", V.str "pad"]) = nmd1 x := by
  cases x with
  | sm y =>
    cases y with
    | num => exact (by decide +kernel : (!inV (V.str "number") [V.str "check", V.str "pad"]) = true)
    | byt => exact (by decide +kernel : (!inV (V.str "bytes") [V.str "check", V.str "pad"]) = true)
    | txt => exact (by decide +kernel : (!inV (V.str "text") [V.str "check", V.str "pad"]) = true)
    | chk => exact (by decide +kernel : (!inV (V.str "check") [V.str "check", V.str "pad"]) = false)
    | pad => exact (by decide +kernel : (!inV (V.str "pad") [V.str "check", V.str "pad"]) = false)
  | rep => exact (by decide +kernel : (!inV (V.str "repeat") [V.str "check", V.str "pad"]) = true)
  | eit => exact (by decide +kernel : (!inV (V.str "either") [V.str "check", V.str "pad"]) = true)
  | swi => exact (by decide +kernel : (!inV (V.str "switch") [V.str "check", V.str "pad"]) = true)
def spSpots (n : Nat) : Sp := fun vs H Q _ => ∃ (G : Hp) (pb ps pc : Addr) (xs : List V) (l : List I2) (s : List Key) (c : C1) (R : Dt), vs = [.ref pb, .ref ps, .ref pc] ∧ Same G H ∧ G pb = some (.tup xs) ∧ ItsAt G xs l ∧ (∀ x ∈ l, x.okR ∧ (n = 0 → x.flat)) ∧ (∀ x ∈ l, okC x) ∧ l.length ≤ 4 ∧ NmI l ∧ G ps = some (.tup (s.map kV)) ∧ s.length ≤ 20 - 10 * n ∧ (∀ z, .inr z ∈ s → z.length ≤ 100) ∧ CtAt VlAt G (.ref pc) c ∧ C1Ok l c ∧ vat R s = some (c1D c) ∧
  ∀ r rs rows G' H', Same G G' → Same G' H' → Same H H' → Nu G H G' → G' r = some (.lst rs) → Paired (RowAt2 G') rs rows → (∀ w ∈ rows, Rw2Ok R w) → rows.length ≤ RB n * 4 → Q (.ref r) H'
section
variable {P : Program} {w : World} {K : PySem.W.Frag} {mg : Str → Option Value} {base : Heap} {f : Addr} {fd : FuncData}
abbrev nSp : List Str := ["block", "spot", "content", "found", "named", "k", "item", "value", "here", "j", "case", "part", "pair"]
theorem scSp : FnScope nSp ["block", "spot", "content"] (defScope sSpots) := ⟨rfl, rfl, rfl, by decide +kernel, rfl, by decide +kernel, by decide +kernel⟩
theorem ok_spots {n k : Nat} (hn : n ≤ 1) (F : Fun K "_law_spots" "_law_spots" sSpots f fd) (gS : Cal P w K mg base CX0 k "_law_spots" ["block", "spot", "content"] (spSub spSpots n)) (ml : mg "len" = none) (mr : mg "range" = none) : FnOk P w K mg base CX0 (k + 1) f fd ["block", "spot", "content"] (spSpots n) := by
  refine F.ok scSp (fun vs H Q E h => ?_) (fun cdv A outer s H vs Q E hr h => ?_)
  · obtain ⟨G, pb, ps, pc, xs, l, sp, c, R, rfl, _⟩ := h
    rfl
  · obtain ⟨G, pb, ps, pc, xs, l, sp, c, R, rfl, sG, hpb, hl, hok, hokC, l4, nm, hps, ls, lz, hc, okc, hv, q⟩ := h
    have hu : (cxOf CX0 P w K mg base nSp "_law_spots" (defScope sSpots) f cdv A outer s H E).nox.A.units + 64 < cLine := Nat.lt_of_le_of_lt (Nat.le_refl _) hr.units
    refine ⟨_, (pss_cons (ps_set (i := 3) scSp.nd rfl (.inl rfl) (pe_lst pa_nil))
      (pss_cons (ps_setLc (i := 4) (own := [("item", 6)]) (g := gName 6) rfl scSp.nd rfl rfl (sw_true rfl rfl rfl (by decide +kernel)) (pi_row (pv 0)) (blkOk_by (own := [("item", 6)]) (N := nSp) (sc := defScope sSpots) (by decide +kernel)) (fun _ _ _ _ _ => pg_name (i := 6) scSp.nd rfl (Or.inl rfl)) (fun _ _ _ _ _ => pts_one (pt_cmpR (r := rIn K true) op_notIn_seq (pe_ix (r := rIxT K) ix_tup (pv 6) pe_int (fun _ _ => rfl)) (pe_lst (pa_cons pe_str (pa_cons pe_str pa_nil))) (by rfl))) (fun _ _ _ _ _ => (pv 6)))
      (pss_cons (ps_for PassesOwn.never rfl (pi_range1 (by rfl) mr (pa_cons (pe_callB call_len (by rfl) ml boot_len (pa_cons (pv 4) pa_nil)) pa_nil)) (pg_name (i := 5) scSp.nd rfl (.inl rfl))
        (pss_cons (ps_set (i := 6) scSp.nd rfl (.inl rfl) (pe_ix ix_list (pv 4) (pv 5) (fun _ _ => rfl)))
      (pss_cons (ps_set (i := 7) scSp.nd rfl (.inl rfl) (pe_ix ix_tup (pe_ix ix_list (pv 2) (pv 5) (fun _ _ => rfl)) pe_int (fun _ _ => rfl)))
      (pss_cons (ps_set (i := 8) scSp.nd rfl (.inl rfl) (pe_op op_catA (pv 1) (pe_tup (pa_cons (pe_ix ix_tup (pv 6) pe_int (fun _ _ => rfl)) pa_nil))))
      (pss_cons (ps_expr (pe_bm PySem.F.plainAttrs_list PySem.F.slot_list_append PySem.F.type_list_append mt_append (pv 3) (pa_cons (pe_tup (pa_cons (pv 8) (pa_cons (pv 7) (pa_cons (pe_ix ix_tup (pv 6) pe_int (fun _ _ => rfl)) pa_nil)))) pa_nil)))
      (pss_cons (ps_if (pt_cmpR op_eq (pe_ix ix_tup (pv 6) pe_int (fun _ _ => rfl)) pe_str (nomark _)) (pss_one (ps_for PassesOwn.never rfl (pi_range1 (by rfl) mr (pa_cons (pe_callB call_len (by rfl) ml boot_len (pa_cons (pv 7) pa_nil)) pa_nil)) (pg_name (i := 9) scSp.nd rfl (.inl rfl))
        (pss_cons (ps_expr (pe_bm PySem.F.plainAttrs_list PySem.F.slot_list_append PySem.F.type_list_append mt_append (pv 3) (pa_cons (pe_tup (pa_cons (pe_op op_catA (pv 8) (pe_tup (pa_cons (pv 9) pa_nil))) (pa_cons (pe_ix ix_list (pv 7) (pv 9) (fun _ _ => rfl)) (pa_cons pe_str pa_nil)))) pa_nil)))
      (pss_one (ps_set (i := 3) scSp.nd rfl (.inl rfl) (pe_op op_cat (pv 3) (pe_cal gS hr pass0 (pa_cons (pe_ix ix_tup (pv 6) pe_int (fun _ _ => rfl)) (pa_cons (pe_op op_catA (pv 8) (pe_tup (pa_cons (pv 9) pa_nil))) (pa_cons (pe_ix ix_list (pv 7) (pv 9) (fun _ _ => rfl)) pa_nil)))))))))) pss_nil)
      (pss_cons (ps_if (pt_cmpR op_eq (pe_ix ix_tup (pv 6) pe_int (fun _ _ => rfl)) pe_str (nomark _)) (pss_cons (ps_expr (pe_bm PySem.F.plainAttrs_list PySem.F.slot_list_append PySem.F.type_list_append mt_append (pv 3) (pa_cons (pe_tup (pa_cons (pe_op op_catA (pv 8) (pe_tup (pa_cons (pe_ix ix_tup (pv 7) pe_int (fun _ _ => rfl)) pa_nil))) (pa_cons (pe_ix ix_tup (pv 7) pe_int (fun _ _ => rfl)) (pa_cons pe_str pa_nil)))) pa_nil)))
      (pss_one (ps_set (i := 3) scSp.nd rfl (.inl rfl) (pe_op op_cat (pv 3) (pe_cal gS hr pass0 (pa_cons (pe_ix (r := rIxT K) ix_tup (pe_ix ix_tup (pv 6) pe_int (fun _ _ => rfl)) (pe_ix ix_tup (pv 7) pe_int (fun _ _ => rfl)) (fun _ _ => rfl)) (pa_cons (pe_op op_catA (pv 8) (pe_tup (pa_cons (pe_ix ix_tup (pv 7) pe_int (fun _ _ => rfl)) pa_nil))) (pa_cons (pe_ix ix_tup (pv 7) pe_int (fun _ _ => rfl)) pa_nil)))))))) pss_nil)
      (pss_one (ps_if (pt_cmpR op_eq (pe_ix ix_tup (pv 6) pe_int (fun _ _ => rfl)) pe_str (nomark _)) (pss_one (ps_for PassesOwn.never rfl (pi_row (pe_ix ix_tup (pv 6) pe_int (fun _ _ => rfl))) (pg_name (i := 10) scSp.nd rfl (.inl rfl))
        (pss_one (ps_if (PW.pt (pw_and (pt_cmpR op_gt (pe_callB call_len (by rfl) ml boot_len (pa_cons (pv 7) pa_nil)) pe_int (nomark _)) (pw_and1 (pt_cmpR (op_eqD hu) (pe_lc (own := [("part", 11)]) (g := gName 11) rfl scSp.nd (pi_row (pe_ix ix_tup (pv 10) pe_int (fun _ _ => rfl))) (blkOk_by (own := [("part", 11)]) (N := nSp) (sc := defScope sSpots) (by decide +kernel)) (fun _ _ _ _ _ => pg_name (i := 11) scSp.nd rfl (Or.inl rfl)) (fun _ _ _ _ _ => pts_one (pt_cmpR (r := rIn K true) op_notIn_seq (pe_ix (r := rIxT K) ix_tup (pv 11) pe_int (fun _ _ => rfl)) (pe_lst (pa_cons pe_str (pa_cons pe_str pa_nil))) (by rfl))) (fun _ _ _ _ _ => (pe_ix (r := rIxT K) ix_tup (pv 11) pe_int (fun _ _ => rfl)))) (pe_lc (own := [("pair", 12)]) (g := gName 12) (tt := tYes) rfl scSp.nd (pi_row (pv 7)) (blkOk_by (own := [("pair", 12)]) (N := nSp) (sc := defScope sSpots) (by decide +kernel)) (fun _ _ _ _ _ => pg_name (i := 12) scSp.nd rfl (Or.inl rfl)) (fun _ _ _ _ _ => pts_nil) (fun _ _ _ _ _ => (pe_ix (r := rIxT K) ix_tup (pv 12) pe_int (fun _ _ => rfl)))) (nomark _))))) (pss_one (ps_set (i := 3) scSp.nd rfl (.inl rfl) (pe_op op_cat (pv 3) (pe_cal gS hr pass0 (pa_cons (pe_ix ix_tup (pv 10) pe_int (fun _ _ => rfl)) (pa_cons (pv 8) (pa_cons (pv 7) pa_nil))))))) pss_nil)))) pss_nil)))))))))
      (pss_one (ps_ret (pv 3)))))), ?_⟩
    refine ⟨(by show 0 ≤ sizeLine; decide), fun D hD => ?_⟩
    have gD := sG.free hD
    have s1 : Same H (upd H D (.lst [])) := same_new hD _
    have hD1 := upd_same (H := H) (a := D) (o := .lst [])
    generalize upd H D (.lst []) = H1 at s1 hD1 ⊢
    have g1 := sG.trans s1
    refine ⟨_, rfl, pb, rfl, ?_⟩
    refine row_t2 (H0 := G) hpb g1 fun J wk => ?_
    intro E1 hE1
    have gE : G E1 = none := g1.free hE1
    have nDE : D ≠ E1 := fun e => by rw [← e, hD1] at hE1; cases hE1
    refine lc_it wk (fun i H' => Same H1 H' ∧ ∃ acc, H' E1 = some (.lst acc) ∧ Paired (I2At G) acc ((l.take i).filter nmd1)) ⟨same_new hE1 _, [], upd_same, .nil⟩ (fun _ _ _ h => g1.trans h.1) ?_ ?_
    · rintro i v H2' H2 hi ⟨s2, acc, hE2, pacc⟩ ⟨e3, hv⟩
      subst e3
      obtain ⟨x, gx, hx⟩ := pget hl hv
      obtain ⟨pi, rest, rfl, hpi⟩ := hx.head
      have lac := plen pacc
      have lf := List.length_filter_le nmd1 (l.take i)
      rw [List.length_take] at lf
      refine ⟨rfl, ?_⟩
      refine ⟨_, rfl, pi, _, 0, _, rfl, rfl, SqT.of ((g1.trans s2) _ _ hpi), atI_nat (j := 0) rfl, (by show 2 ≤ sizeLine; decide), fun a ha => ⟨a, _, rfl, .inl (SqL.of upd_same), rfl, rfl, _, rfl, ?_⟩⟩
      rw [kind_nmd, List.take_add_one, gx, Option.toList, List.filter_append]
      have s3 := s2.trans (same_new ha (.lst [.str "check", .str "pad"]))
      have hE3 := same_new ha (.lst [.str "check", .str "pad"]) _ _ hE2
      generalize upd H2 a (.lst [.str "check", .str "pad"]) = H3 at s3 hE3 ⊢
      cases c : nmd1 x with
      | true =>
        rw [List.filter_cons_of_pos c, List.filter_nil]
        exact iteT ⟨_, rfl, acc, hE3, lt_line (by omega), same_set s3 hE1, _, upd_same, papp pacc (.cons hx .nil)⟩
      | false =>
        rw [List.filter_cons_of_neg (by rw [c]; simp), List.filter_nil, List.append_nil]
        exact iteF ⟨s3, acc, hE3, pacc⟩
    · rintro H2 ⟨s2, named, hE2, pn⟩
      rw [plen hl, List.take_length] at pn
      have w0 : Ow G H D (upd G E1 (.lst named)) H2 := by
        refine ⟨fun b u e => by rw [upd_ne (ne_of_none e gE)]; exact e, fun b u e => ?_, s1.trans s2, fun b h1 h2 => ?_, by rw [upd_ne nDE]; exact gD, hD⟩
        · by_cases c : b = E1
          · rw [c, upd_same] at e; rw [c, hE2, e]
          · rw [upd_ne c] at e; exact (g1.trans s2) _ _ e
        · rw [upd_ne (fun z => h2 (by rw [z]; exact s1.free hE1))]; exact h1
      have hD2 := s2 _ _ hD1
      have ln := plen pn
      have lc2 := plen okc
      have lf := List.length_filter_le nmd1 l
      obtain ⟨pc', cs, e0, hcs, pcs⟩ := hc
      cases e0
      have lcs := plen pcs
      have nmc : NmOk c := nm_of (nms1 okc) nm.top fun z hz => by
        obtain ⟨x, hx, rfl⟩ := List.mem_map.mp hz
        exact (nm.two x hx _ (name_in x)).1
      refine ⟨_, rfl, _, _, rfl, .inl ⟨_, SqL.of hE2, rfl⟩, (named.length : Int), rfl, by omega, by omega, for_range (lo := 0) (n := named.length) (fun k σ H' => ∃ (D' : Addr) (k5 i6 v7 h8 j9 c10 : Option V), σ = [some (.ref pb), some (.ref ps), some (.ref pc), some (.ref D'), some (.ref E1), k5, i6, v7, h8, j9, c10, none, none] ∧ ∃ G' acc rows, Ow G H D' G' H' ∧ G' E1 = some (.lst named) ∧ H' D' = some (.lst acc) ∧ Paired (RowAt2 G') acc rows ∧ (∀ w ∈ rows, Rw2Ok R w) ∧ rows.length ≤ RB n * k)
        ⟨D, none, none, none, none, none, none, rfl, _, [], [], w0, upd_same, hD2, .nil, (fun _ h => by cases h), Nat.zero_le _⟩ ?_ ?_⟩
      · rintro k σ H3 hk ⟨D', k5, i6, v7, h8, j9, c10, rfl, G3, acc, rows, w3, hE3, hD3, prows, okr, lr⟩
        rw [Int.zero_add]
        obtain ⟨vi, gvi⟩ : ∃ v, named[k]? = some v := ⟨named[k], List.getElem?_eq_getElem hk⟩
        obtain ⟨x, gx, hx⟩ := pget pn gvi
        obtain ⟨en, gen⟩ : ∃ en, c[k]? = some en := ⟨c[k]'(by omega), List.getElem?_eq_getElem (by omega)⟩
        obtain ⟨vc, gvc⟩ : ∃ v, cs[k]? = some v := ⟨cs[k]'(by omega), List.getElem?_eq_getElem (by omega)⟩
        obtain ⟨en', gen', hen⟩ := pget pcs gvc
        rw [gen] at gen'; cases gen'
        obtain ⟨x', gx', hne, hvo⟩ := pget okc gen
        rw [gx] at gx'; cases gx'
        have mx := (List.mem_filter.mp (List.mem_of_getElem? gx))
        have men := List.mem_of_getElem? gen
        obtain ⟨te, ue, rfl, hte, hue⟩ := hen
        obtain ⟨pi, rest, rfl, hpi⟩ := hx.head
        refine ⟨_, rfl, _, rfl, E1, _, _, _, rfl, rfl, SqL.of (w3.gh _ _ hE3), atI_nat (j := k) gvi, ?_⟩
        refine ⟨_, rfl, _, rfl, pc, _, _, _, rfl, rfl, SqL.of (w3.gh _ _ (w3.gg _ _ hcs)), atI_nat (j := k) gvc, te, _, 1, _, rfl, rfl, SqT.of (w3.gh _ _ (w3.gg _ _ hte)), atI_nat (j := 1) rfl, ?_⟩
        have hD3' : H3 D' ≠ none := by rw [hD3]; exact fun z => by cases z
        refine ⟨_, rfl, _, rfl, pi, _, 1, _, rfl, rfl, SqT.of (w3.gh _ _ (w3.gg _ _ hpi)), atI_nat (j := 1) rfl, (by show 1 ≤ sizeLine; decide), fun q1 h1 => ?_⟩
        obtain ⟨G4, w4, g4, k4⟩ := w3.alloc (o := .tup [.str x.name]) h1 hD3'
        have hD4 := same_new h1 (.tup [.str x.name]) _ _ hD3
        generalize upd H3 q1 (.tup [.str x.name]) = H4 at w4 hD4 ⊢
        have hD4' : H4 D' ≠ none := by rw [hD4]; exact fun z => by cases z
        refine catGo (SqT.of (w4.gh _ _ (w4.gg _ _ hps))) (SqT.of (w4.gh _ _ k4)) (by simp only [List.length_map, List.length_cons, List.length_nil, sizeLine]; omega) (by simp) fun he H5 e5 => ?_
        obtain ⟨G5, w5, g5, t5, khe⟩ := w4.cat hD4' k4 e5
        have hD5 := t5 _ _ hD4
        have hD5' : H5 D' ≠ none := by rw [hD5]; exact fun z => by cases z
        have khe : G5 he = some (.tup ((sp ++ [Sum.inr x.name]).map kV)) := by rw [List.map_append]; exact khe
        refine ⟨_, rfl, .inl ⟨rfl, _, SqL.of hD5⟩, _, rfl, _, rfl, _, rfl, pi, _, 0, _, rfl, rfl, SqT.of (w5.gh _ _ (w5.gg _ _ hpi)), atI_nat (j := 0) rfl, (by show 3 ≤ sizeLine; decide), fun t0 h6 => ?_⟩
        obtain ⟨G6, w6, g6, k6⟩ := w5.alloc (o := .tup [.ref he, ue, .str x.kind]) h6 hD5'
        have hD6 := same_new h6 (.tup [.ref he, ue, .str x.kind]) _ _ hD5
        generalize upd H5 t0 (.tup [.ref he, ue, .str x.kind]) = H6 at w6 hD6 ⊢
        have lac := plen prows
        have rb : RB n * k + RB n ≤ RB n * 4 := by rw [← Nat.mul_succ]; exact Nat.mul_le_mul_left _ (by omega)
        have rb2 : RB n ≤ 350000 := by unfold RB; split <;> omega
        refine ⟨D', acc, _, rfl, rfl, hD6, lt_line (by omega), ?_⟩
        have w7 := w6.wr (o := .lst (acc ++ [.ref t0]))
        have hD7 := upd_same (H := H6) (a := D') (o := .lst (acc ++ [.ref t0]))
        generalize upd H6 D' (.lst (acc ++ [.ref t0])) = H7 at w7 hD7 ⊢
        have mxl := mx.1
        have vb := VlOk.b (hok x mxl).1 hvo
        have g36 := g4.trans (g5.trans g6)
        have prows7 : Paired (RowAt2 G6) (acc ++ [.ref t0]) (rows ++ [⟨sp ++ [Sum.inr x.name], vlD en.2, x.kind⟩]) := papp (L2.Paired.mapP prows fun _ _ z => mon_row2 _ _ _ _ g36 z) (.cons ⟨t0, he, ue, rfl, k6, g6 _ _ khe, mon_dt w6.gg (at_up 4 (at_vl vb hue))⟩ .nil)
        have lsp : (sp ++ [Sum.inr x.name] : List Key).length ≤ 21 := by rw [List.length_append, List.length_singleton]; omega
        have zsp : ∀ z, Sum.inr z ∈ (sp ++ [Sum.inr x.name] : List Key) → z.length ≤ 100 := fun z hz => by
          rcases List.mem_append.mp hz with hz | hz
          · exact lz z hz
          · rw [Sum.inr.inj (List.mem_singleton.mp hz)]
            exact (nm.two x mxl _ (name_in x)).2
        have dn : vat R (sp ++ [Sum.inr x.name]) = some (vlD en.2) := by rw [← hne]; exact down nmc hv men
        have row7 : Rg R ⟨sp ++ [Sum.inr x.name], vlD en.2, x.kind⟩ → ∀ w ∈ rows ++ [⟨sp ++ [Sum.inr x.name], vlD en.2, x.kind⟩], Rw2Ok R w := fun rg w hw => by
          rcases List.mem_append.mp hw with hw | hw
          · exact okr w hw
          · rw [List.mem_singleton.mp hw]
            exact ⟨rg, by show (sp ++ [Sum.inr x.name] : List Key).length ≤ 50; omega, zsp, .inl ⟨_, rfl, vb⟩⟩
        have lr7 : (rows ++ [(⟨sp ++ [Sum.inr x.name], vlD en.2, x.kind⟩ : Row2)]).length ≤ RB n * k + 1 := by rw [List.length_append, List.length_singleton]; omega
        have r1 : 1 ≤ RB n := by unfold RB; split <;> omega
        have callS : ∀ (G2 H2 : Hp) (D2 he2 : Addr) (b : List Sm) (ub u0 : V) (s2 : List Key) (c0 : C0) (Rk : VK), n = 1 → Ow G H D2 G2 H2 → H2 D2 ≠ none → BkAt G ub b → b.length ≤ 4 → (b.map Sm.name).Sublist x.names → G2 he2 = some (.tup (s2.map kV)) → s2.length ≤ 20 → (∀ z, Sum.inr z ∈ s2 → z.length ≤ 100) → CtAt SVAt G u0 c0 → C0Ok b c0 → vat R s2 = some (c0D c0) →
            (∀ r rs rws G' H', Ow G H D2 G' H' → Same G2 G' → Same H2 H' → G' r = some (.lst rs) → Paired (RowAt2 G') rs rws → (∀ w ∈ rws, Rw2Ok R w) → rws.length ≤ 4 → Rk (.ref r) H') → spSub spSpots n [ub, .ref he2, u0] H2 Rk E0 := fun G2 H2 D2 he2 b ub u0 s2 c0 Rk n1 w2 hd2 hbk b4 bs hh l2 z2 hc0 okc0 v2 g => by
          subst n1
          obtain ⟨pu, xu, rfl, hpu, itu⟩ := bk_its hbk
          obtain ⟨p0, xs0, rfl, hc0'⟩ := ct_lift hc0
          refine ⟨G2, pu, he2, p0, xu, b.map .sm, s2, c0.map liftE, R, rfl, w2.gh, w2.gg _ _ hpu, itu.tk (sTk w2.gg), (fun y hy => by obtain ⟨z, hz, rfl⟩ := List.mem_map.mp hy; exact ⟨trivial, fun _ => trivial⟩), (fun y hy => by obtain ⟨z, hz, rfl⟩ := List.mem_map.mp hy; trivial), by rw [List.length_map]; exact b4, nmI_lift bs (nm.own x mxl) (nm.two x mxl) (nm.sok x mxl), hh, by omega, z2, mon_ct mon_vl _ _ _ _ w2.gg ⟨p0, xs0, rfl, hc0'⟩, ok_lift okc0, by rw [c0_lift]; exact v2, fun r rs rws G' H' g1 g2 g3 g4 hr pr ok lw => ?_⟩
          exact g r rs rws G' H' (w2.call hd2 g1 g2 g3 g4) g1 g3 hr pr ok lw
        cases x with
        | sm y =>
          obtain ⟨v0, ev0⟩ : ∃ v0, en.2 = .sm v0 := by
            cases h : en.2 with
            | sm v => exact ⟨v, rfl⟩
            | _ => rw [h] at hvo; exact hvo.elim
          have kd : y.kind = "number" ∨ y.kind = "bytes" ∨ y.kind = "text" := by
            have := mx.2
            cases y with
            | num => exact .inl rfl
            | byt => exact .inr (.inl rfl)
            | txt => exact .inr (.inr rfl)
            | chk => cases this
            | pad => cases this
          have rg : Rg R ⟨sp ++ [Sum.inr (I2.sm y).name], vlD en.2, (I2.sm y).kind⟩ := by rw [← hne]; exact rg_leaf nmc hv men (v := v0) (by rw [ev0]; rfl) kd
          have hT := SqT.of (K := K) (w7.gh _ _ (w7.gg _ _ hpi))
          have nk : ∀ z : Str, (z = "repeat" ∨ z = "either" ∨ z = "switch") → (I2.sm y).kind ≠ z := fun z hz e => by
            have e : y.kind = z := e
            rw [e] at kd
            rcases hz with rfl | rfl | rfl <;> (revert kd; decide +kernel)
          refine ⟨_, rfl, pi, _, 0, _, rfl, rfl, hT, atI_nat (j := 0) rfl, rfl, _, rfl, ifN (nk _ (.inl rfl)) ?_⟩
          refine ⟨_, rfl, pi, _, 0, _, rfl, rfl, hT, atI_nat (j := 0) rfl, rfl, _, rfl, ifN (nk _ (.inr (.inl rfl))) ?_⟩
          refine ⟨_, rfl, pi, _, 0, _, rfl, rfl, hT, atI_nat (j := 0) rfl, rfl, _, rfl, ifN (nk _ (.inr (.inr rfl))) ?_⟩
          exact ⟨D', _, _, _, _, _, _, rfl, G6, _, _, w7, g36 _ _ hE3, hD7, prows7, row7 rg, by rw [Nat.mul_succ]; omega⟩
        | rep nn a b =>
          have n1 : n = 1 := by
            have := (hok _ mxl).2
            by_cases c : n = 0
            · exact (this c).elim
            · omega
          obtain ⟨r0, ev1, lr0, okb⟩ : ∃ (r0 : List C0), en.2 = .rds r0 ∧ r0.length ≤ 65535 ∧ ∀ c ∈ r0, C0Ok b c := by
            cases h : en.2 with
            | rds r => rw [h] at hvo; exact ⟨r, rfl, hvo.1, hvo.2.2⟩
            | _ => rw [h] at hvo; exact hvo.elim
          have b4 : b.length ≤ 4 := (hok _ mxl).1
          have bsub : (b.map Sm.name).Sublist (I2.rep nn a b).names := List.sublist_cons_self _ _
          rw [ev1] at dn prows7 row7 lr7 hue vb
          obtain ⟨p2, xr, rfl, hp2, pxr⟩ := hue
          obtain ⟨pi', ub, e1, hpi', hbb⟩ := hx
          cases e1
          have rg : Rg R ⟨sp ++ [Sum.inr (I2.rep nn a b).name], .lst (r0.map c0D), "repeat"⟩ := rg_rep dn
          have hT := SqT.of (K := K) (w7.gh _ _ (w7.gg _ _ hpi))
          refine ⟨_, rfl, pi, _, 0, _, rfl, rfl, hT, atI_nat (j := 0) rfl, rfl, _, rfl, ifT rfl ?_⟩
          have lxr := plen pxr
          have rb1 : RB n = 350000 := by rw [n1]; rfl
          refine ⟨_, rfl, _, _, rfl, .inl ⟨_, SqL.of (w7.gh _ _ (w7.gg _ _ hp2)), rfl⟩, (r0.length : Int), by rw [lxr], by omega, by omega, for_range (lo := 0) (n := r0.length) (fun j σ H' => ∃ (D2 : Addr) (j9 : Option V), σ = [some (.ref pb), some (.ref ps), some (.ref pc), some (.ref D2), some (.ref E1), some (.int (k : Int)), some (.ref pi), some (.ref p2), some (.ref he), j9, c10, none, none] ∧ ∃ G' acc' rows', Ow G H D2 G' H' ∧ Same G6 G' ∧ H' D2 = some (.lst acc') ∧ Paired (RowAt2 G') acc' rows' ∧ (∀ w ∈ rows', Rw2Ok R w) ∧ rows'.length ≤ RB n * k + 1 + 5 * j)
            ⟨D', _, rfl, G6, _, _, w7, Same.refl _, hD7, prows7, row7 rg, by omega⟩ ?_ ?_⟩
          · rintro j σ H7 hj ⟨D2, j9, rfl, G7, acc2, rows2, w7, g67, hD7, prows7, okr7, lr7⟩
            rw [Int.zero_add]
            have hD7' : H7 D2 ≠ none := by rw [hD7]; exact fun z => by cases z
            have khe7 := (g6.trans g67) _ _ khe
            have lac2 := plen prows7
            obtain ⟨c0, gc0⟩ : ∃ c, r0[j]? = some c := ⟨r0[j], List.getElem?_eq_getElem hj⟩
            obtain ⟨u2, gu2⟩ : ∃ u, xr[j]? = some u := ⟨xr[j]'(by omega), List.getElem?_eq_getElem (by omega)⟩
            obtain ⟨c0', gc0', hu2⟩ := pget pxr gu2
            rw [gc0] at gc0'; cases gc0'
            have mc0 := List.mem_of_getElem? gc0
            have okc0 := okb c0 mc0
            have nm0 : NmOk c0 := nm_of ((nms0 okc0).trans bsub) (nm.own _ mxl) fun z hz => (nm.two _ mxl z hz).1
            have dj : vat R (sp ++ [Sum.inr (I2.rep nn a b).name] ++ [Sum.inl (j : Int)]) = some (c0D c0) := by
              rw [vat_snoc, dn]
              exact win_rd gc0
            refine ⟨_, rfl, .inl ⟨rfl, _, SqL.of hD7⟩, _, rfl, _, rfl, (by show 1 ≤ sizeLine; decide), fun q2 h2 => ?_⟩
            obtain ⟨G8, w8, g8, k8⟩ := w7.alloc (o := .tup [.int (j : Int)]) h2 hD7'
            have hD8 := same_new h2 (.tup [.int (j : Int)]) _ _ hD7
            generalize upd H7 q2 (.tup [.int (j : Int)]) = H8 at w8 hD8 ⊢
            have hD8' : H8 D2 ≠ none := by rw [hD8]; exact fun z => by cases z
            have he8 := ((fun z : Same G7 G8 => z) g8) _ _ khe7
            refine catGo (SqT.of (w8.gh _ _ he8)) (SqT.of (w8.gh _ _ k8)) (by simp only [List.length_append, List.length_map, List.length_cons, List.length_nil, sizeLine]; omega) (by simp) fun he2 H9 e9 => ?_
            obtain ⟨G9, w9, g9, t9, k9⟩ := w8.cat hD8' k8 e9
            have hD9 := t9 _ _ hD8
            have hD9' : H9 D2 ≠ none := by rw [hD9]; exact fun z => by cases z
            refine ⟨_, rfl, _, rfl, p2, _, _, u2, rfl, rfl, SqL.of (w9.gh _ _ (w9.gg _ _ hp2)), atI_nat (j := j) gu2, (by show 3 ≤ sizeLine; decide), fun t3 h10 => ?_⟩
            obtain ⟨Ga, wa, ga, ka⟩ := w9.alloc (o := .tup [.ref he2, u2, .str "round"]) h10 hD9'
            have hDa := same_new h10 (.tup [.ref he2, u2, .str "round"]) _ _ hD9
            generalize upd H9 t3 (.tup [.ref he2, u2, .str "round"]) = Ha at wa hDa ⊢
            refine ⟨D2, acc2, _, rfl, rfl, hDa, lt_line (by omega), ?_⟩
            have wb := wa.wr (o := .lst (acc2 ++ [.ref t3]))
            have hDb := upd_same (H := Ha) (a := D2) (o := .lst (acc2 ++ [.ref t3]))
            generalize upd Ha D2 (.lst (acc2 ++ [.ref t3])) = Hb at wb hDb ⊢
            have hDb' : Hb D2 ≠ none := by rw [hDb]; exact fun z => by cases z
            have l2 : (sp ++ [Sum.inr (I2.rep nn a b).name] ++ [Sum.inl (j : Int)] : List Key).length ≤ 20 := by rw [List.length_append, List.length_append, List.length_singleton, List.length_singleton]; omega
            have z2 : ∀ z, Sum.inr z ∈ (sp ++ [Sum.inr (I2.rep nn a b).name] ++ [Sum.inl (j : Int)] : List Key) → z.length ≤ 100 := fun z hz => by
              rcases List.mem_append.mp hz with hz | hz
              · exact zsp z hz
              · cases List.mem_singleton.mp hz
            refine ⟨_, rfl, _, rfl, pi, _, 3, _, rfl, rfl, SqT.of (wb.gh _ _ (wb.gg _ _ hpi')), atI_nat (j := 3) rfl, _, rfl, _, rfl, (by show 1 ≤ sizeLine; decide), fun q4 h11 => ?_⟩
            obtain ⟨Gc, wc, gc, kc⟩ := wb.alloc (o := .tup [.int (j : Int)]) h11 hDb'
            have hDc := same_new h11 (.tup [.int (j : Int)]) _ _ hDb
            generalize upd Hb q4 (.tup [.int (j : Int)]) = Hc at wc hDc ⊢
            have hDc' : Hc D2 ≠ none := by rw [hDc]; exact fun z => by cases z
            have hec := ((fun z : Same Ga Gc => g8.trans (g9.trans (ga.trans z))) gc) _ _ khe7
            refine catGo (SqT.of (wc.gh _ _ hec)) (SqT.of (wc.gh _ _ kc)) (by simp only [List.length_append, List.length_map, List.length_cons, List.length_nil, sizeLine]; omega) (by simp) fun he4 Hd ed => ?_
            obtain ⟨Gd, wd, gd, td, kd⟩ := wc.cat hDc' kc ed
            have hDd := td _ _ hDc
            have hDd' : Hd D2 ≠ none := by rw [hDd]; exact fun z => by cases z
            refine ⟨_, rfl, _, rfl, p2, _, _, u2, rfl, rfl, SqL.of (wd.gh _ _ (wd.gg _ _ hp2)), atI_nat (j := j) gu2, ?_⟩
            refine nilGo ?_
            have kd2 : Gd he4 = some (.tup ((sp ++ [Sum.inr (I2.rep nn a b).name] ++ [Sum.inl (j : Int)] : List Key).map kV)) := by rw [List.map_append]; exact kd
            have k92 : G9 he2 = some (.tup ((sp ++ [Sum.inr (I2.rep nn a b).name] ++ [Sum.inl (j : Int)] : List Key).map kV)) := by rw [List.map_append]; exact k9
            refine callS Gd Hd D2 he4 b ub u2 _ c0 _ n1 wd hDd' hbb b4 bsub kd2 l2 z2 hu2 okc0 dj fun r rs rws Gz Hz wz gz tz hr pr okr2 lw => ?_
            have lrs := plen pr
            refine ⟨D2, r, _, rs, rfl, rfl, tz _ _ hDd, wz.gh _ _ hr, le_line (by simp only [List.length_append, List.length_singleton]; omega), fun a2 ha => ?_⟩
            have wy := wz.move (o := .lst (acc2 ++ [.ref t3] ++ rs)) ha
            have hDy := upd_same (H := Hz) (a := a2) (o := .lst (acc2 ++ [.ref t3] ++ rs))
            generalize upd Hz a2 (.lst (acc2 ++ [.ref t3] ++ rs)) = Hy at wy hDy ⊢
            have gaz := gc.trans (gd.trans gz)
            have g7z := g8.trans (g9.trans (ga.trans gaz))
            refine ⟨a2, _, rfl, Gz, _, rows2 ++ [⟨sp ++ [Sum.inr (I2.rep nn a b).name] ++ [Sum.inl (j : Int)], c0D c0, "round"⟩] ++ rws, wy, g67.trans g7z, hDy, ?_, fun w hw => ?_, ?_⟩
            · exact papp (papp (L2.Paired.mapP prows7 fun _ _ z => mon_row2 _ _ _ _ g7z z) (.cons ⟨t3, he2, u2, rfl, gaz _ _ ka, (ga.trans gaz) _ _ k92, mon_dt wz.gg (at_up 5 (at_c0 (vb.2 c0 mc0) hu2))⟩ .nil)) pr
            · rcases List.mem_append.mp hw with hw | hw
              · rcases List.mem_append.mp hw with hw | hw
                · exact okr7 w hw
                · rw [List.mem_singleton.mp hw]
                  exact ⟨rg_oth nm0 dj (.inl rfl), Nat.le_trans l2 (by decide), z2, .inr ⟨c0, rfl, vb.2 c0 mc0⟩⟩
              · exact okr2 w hw
            · rw [List.length_append, List.length_append, List.length_singleton]
              omega
          · rintro σ H8 ⟨D2, j9, rfl, G7, acc2, rows2, w8, g67, hD8, prows8, okr8, lr8⟩
            have hT := SqT.of (K := K) (w8.gh _ _ (w8.gg _ _ hpi))
            refine ⟨_, rfl, pi, _, 0, _, rfl, rfl, hT, atI_nat (j := 0) rfl, rfl, _, rfl, ifN (by simp only [I2.kind]; decide +kernel) ?_⟩
            refine ⟨_, rfl, pi, _, 0, _, rfl, rfl, hT, atI_nat (j := 0) rfl, rfl, _, rfl, ifN (by simp only [I2.kind]; decide +kernel) ?_⟩
            exact ⟨D2, _, _, _, _, _, _, rfl, G7, acc2, rows2, w8, (g36.trans g67) _ _ hE3, hD8, prows8, okr8, by rw [rb1, Nat.mul_succ]; rw [rb1] at lr8; omega⟩
        | eit nn bs =>
          have n1 : n = 1 := by
            have := (hok _ mxl).2
            by_cases c : n = 0
            · exact (this c).elim
            · omega
          obtain ⟨v1, bb, c0, ev1, gbb, okb⟩ : ∃ (v1 : Nat) (bb : List Sm) (c0 : C0), en.2 = .tak v1 c0 ∧ bs[v1]? = some bb ∧ C0Ok bb c0 := by
            cases h : en.2 with
            | tak k c => rw [h] at hvo; obtain ⟨b, e, o⟩ := hvo; exact ⟨k, b, c, rfl, e, o⟩
            | _ => rw [h] at hvo; exact hvo.elim
          have mb := List.mem_of_getElem? gbb
          have b4 := (hok _ mxl).1.2 bb mb
          have bsub : (bb.map Sm.name).Sublist (I2.eit nn bs).names := (sub_flat (g := fun b : List Sm => b.map Sm.name) mb).trans (List.sublist_cons_self _ _)
          have nm0 : NmOk c0 := nm_of ((nms0 okb).trans bsub) (nm.own _ mxl) fun z hz => (nm.two _ mxl z hz).1
          rw [ev1] at dn prows7 row7 lr7 hue vb
          obtain ⟨t2, u2, rfl, ht2, hu2⟩ := hue
          obtain ⟨pi', pq, xb, e1, hpi', hpq, pbs⟩ := hx
          cases e1
          have rg : Rg R ⟨sp ++ [Sum.inr (I2.eit nn bs).name], .tup [.int (v1 : Int), c0D c0], "either"⟩ := rg_eit nm0 dn
          have dj : vat R (sp ++ [Sum.inr (I2.eit nn bs).name] ++ [Sum.inl (v1 : Int)]) = some (c0D c0) := by
            rw [vat_snoc, dn]
            show (if (Sum.inl (v1 : Int) : Key) = .inl (v1 : Int) then some (c0D c0) else none) = _
            rw [if_pos rfl]
          have hT := SqT.of (K := K) (w7.gh _ _ (w7.gg _ _ hpi))
          refine ⟨_, rfl, pi, _, 0, _, rfl, rfl, hT, atI_nat (j := 0) rfl, rfl, _, rfl, ifN (by simp only [I2.kind]; decide +kernel) ?_⟩
          refine ⟨_, rfl, pi, _, 0, _, rfl, rfl, hT, atI_nat (j := 0) rfl, rfl, _, rfl, ifT rfl ?_⟩
          have hD7' : H7 D' ≠ none := by rw [hD7]; exact fun z => by cases z
          refine ⟨_, rfl, .inl ⟨rfl, _, SqL.of hD7⟩, _, rfl, _, rfl, t2, _, 0, _, rfl, rfl, SqT.of (w7.gh _ _ (w7.gg _ _ ht2)), atI_nat (j := 0) rfl, (by show 1 ≤ sizeLine; decide), fun q2 h2 => ?_⟩
          obtain ⟨G8, w8, g8, k8⟩ := w7.alloc (o := .tup [.int (v1 : Int)]) h2 hD7'
          have hD8 := same_new h2 (.tup [.int (v1 : Int)]) _ _ hD7
          generalize upd H7 q2 (.tup [.int (v1 : Int)]) = H8 at w8 hD8 ⊢
          have hD8' : H8 D' ≠ none := by rw [hD8]; exact fun z => by cases z
          have he8 := ((fun z : Same G6 G8 => g6.trans z) g8) _ _ khe
          refine catGo (SqT.of (w8.gh _ _ he8)) (SqT.of (w8.gh _ _ k8)) (by simp only [List.length_append, List.length_map, List.length_cons, List.length_nil, sizeLine]; omega) (by simp) fun he2 H9 e9 => ?_
          obtain ⟨G9, w9, g9, t9, k9⟩ := w8.cat hD8' k8 e9
          have hD9 := t9 _ _ hD8
          have hD9' : H9 D' ≠ none := by rw [hD9]; exact fun z => by cases z
          refine ⟨_, rfl, t2, _, 1, _, rfl, rfl, SqT.of (w9.gh _ _ (w9.gg _ _ ht2)), atI_nat (j := 1) rfl, (by show 3 ≤ sizeLine; decide), fun t3 h10 => ?_⟩
          obtain ⟨Ga, wa, ga, ka⟩ := w9.alloc (o := .tup [.ref he2, u2, .str "taken"]) h10 hD9'
          have hDa := same_new h10 (.tup [.ref he2, u2, .str "taken"]) _ _ hD9
          generalize upd H9 t3 (.tup [.ref he2, u2, .str "taken"]) = Ha at wa hDa ⊢
          refine ⟨D', acc ++ [.ref t0], _, rfl, rfl, hDa, lt_line (by rw [List.length_append, List.length_singleton]; omega), ?_⟩
          have wb := wa.wr (o := .lst (acc ++ [.ref t0] ++ [.ref t3]))
          have hDb := upd_same (H := Ha) (a := D') (o := .lst (acc ++ [.ref t0] ++ [.ref t3]))
          generalize upd Ha D' (.lst (acc ++ [.ref t0] ++ [.ref t3])) = Hb at wb hDb ⊢
          have hDb' : Hb D' ≠ none := by rw [hDb]; exact fun z => by cases z
          have l2 : (sp ++ [Sum.inr (I2.eit nn bs).name] ++ [Sum.inl (v1 : Int)] : List Key).length ≤ 20 := by rw [List.length_append, List.length_append, List.length_singleton, List.length_singleton]; omega
          have z2 : ∀ z, Sum.inr z ∈ (sp ++ [Sum.inr (I2.eit nn bs).name] ++ [Sum.inl (v1 : Int)] : List Key) → z.length ≤ 100 := fun z hz => by
            rcases List.mem_append.mp hz with hz | hz
            · exact zsp z hz
            · cases List.mem_singleton.mp hz
          obtain ⟨ub, gub⟩ : ∃ ub, xb[v1]? = some ub := by
            have : v1 < bs.length := get_lt' gbb
            exact ⟨xb[v1]'(by rw [plen pbs]; exact this), List.getElem?_eq_getElem _⟩
          obtain ⟨bb', gbb', hbb⟩ := pget pbs gub
          rw [gbb] at gbb'; cases gbb'
          refine ⟨_, rfl, _, rfl, pi, _, 2, _, rfl, rfl, SqT.of (wb.gh _ _ (wb.gg _ _ hpi')), atI_nat (j := 2) rfl, _, rfl, t2, _, 0, _, rfl, rfl, SqT.of (wb.gh _ _ (wb.gg _ _ ht2)), atI_nat (j := 0) rfl, pq, _, _, ub, rfl, rfl, SqT.of (wb.gh _ _ (wb.gg _ _ hpq)), atI_nat (j := v1) gub, ?_⟩
          refine ⟨_, rfl, _, rfl, t2, _, 0, _, rfl, rfl, SqT.of (wb.gh _ _ (wb.gg _ _ ht2)), atI_nat (j := 0) rfl, (by show 1 ≤ sizeLine; decide), fun q4 h11 => ?_⟩
          obtain ⟨Gc, wc, gc, kc⟩ := wb.alloc (o := .tup [.int (v1 : Int)]) h11 hDb'
          have hDc := same_new h11 (.tup [.int (v1 : Int)]) _ _ hDb
          generalize upd Hb q4 (.tup [.int (v1 : Int)]) = Hc at wc hDc ⊢
          have hDc' : Hc D' ≠ none := by rw [hDc]; exact fun z => by cases z
          have hec := ((fun z : Same Ga Gc => g6.trans (g8.trans (g9.trans (ga.trans z)))) gc) _ _ khe
          refine catGo (SqT.of (wc.gh _ _ hec)) (SqT.of (wc.gh _ _ kc)) (by simp only [List.length_append, List.length_map, List.length_cons, List.length_nil, sizeLine]; omega) (by simp) fun he4 Hd ed => ?_
          obtain ⟨Gd, wd, gd, td, kd⟩ := wc.cat hDc' kc ed
          have hDd := td _ _ hDc
          have hDd' : Hd D' ≠ none := by rw [hDd]; exact fun z => by cases z
          refine ⟨_, rfl, t2, _, 1, _, rfl, rfl, SqT.of (wd.gh _ _ (wd.gg _ _ ht2)), atI_nat (j := 1) rfl, ?_⟩
          refine nilGo ?_
          have kd2 : Gd he4 = some (.tup ((sp ++ [Sum.inr (I2.eit nn bs).name] ++ [Sum.inl (v1 : Int)] : List Key).map kV)) := by rw [List.map_append]; exact kd
          have k92 : G9 he2 = some (.tup ((sp ++ [Sum.inr (I2.eit nn bs).name] ++ [Sum.inl (v1 : Int)] : List Key).map kV)) := by rw [List.map_append]; exact k9
          refine callS Gd Hd D' he4 bb ub u2 _ c0 _ n1 wd hDd' hbb b4 bsub kd2 l2 z2 hu2 okb dj fun r rs rws Gz Hz wz gz tz hr pr okr2 lw => ?_
          have lrs := plen pr
          refine ⟨D', r, _, rs, rfl, rfl, tz _ _ hDd, wz.gh _ _ hr, le_line (by simp only [List.length_append, List.length_singleton]; omega), fun a ha => ?_⟩
          have wy := wz.move (o := .lst (acc ++ [.ref t0] ++ [.ref t3] ++ rs)) ha
          have hDy := upd_same (H := Hz) (a := a) (o := .lst (acc ++ [.ref t0] ++ [.ref t3] ++ rs))
          generalize upd Hz a (.lst (acc ++ [.ref t0] ++ [.ref t3] ++ rs)) = Hy at wy hDy ⊢
          refine ⟨_, rfl, pi, _, 0, _, rfl, rfl, SqT.of (wy.gh _ _ (wy.gg _ _ hpi)), atI_nat (j := 0) rfl, rfl, _, rfl, ifN (by simp only [I2.kind]; decide +kernel) ?_⟩
          have gaz := gc.trans (gd.trans gz)
          have g6z := g8.trans (g9.trans (ga.trans gaz))
          have rb1 : RB n = 350000 := by rw [n1]; rfl
          refine ⟨a, _, _, _, _, _, _, rfl, Gz, _, rows ++ [⟨sp ++ [Sum.inr (I2.eit nn bs).name], vlD (.tak v1 c0), (I2.eit nn bs).kind⟩] ++ [⟨sp ++ [Sum.inr (I2.eit nn bs).name] ++ [Sum.inl (v1 : Int)], c0D c0, "taken"⟩] ++ rws, wy, (g36.trans g6z) _ _ hE3, hDy, ?_, fun w hw => ?_, ?_⟩
          · refine papp (papp (L2.Paired.mapP prows7 fun _ _ z => mon_row2 _ _ _ _ g6z z) (.cons ⟨t3, he2, u2, rfl, gaz _ _ ka, (ga.trans gaz) _ _ k92, mon_dt wz.gg (at_up 5 (at_c0 vb hu2))⟩ .nil)) pr
          · rcases List.mem_append.mp hw with hw | hw
            · rcases List.mem_append.mp hw with hw | hw
              · exact row7 rg w hw
              · rw [List.mem_singleton.mp hw]
                exact ⟨rg_oth nm0 dj (.inr (.inl rfl)), Nat.le_trans l2 (by decide), z2, .inr ⟨c0, rfl, vb⟩⟩
            · exact okr2 w hw
          · rw [List.length_append, List.length_append, List.length_singleton, rb1, Nat.mul_succ]
            rw [rb1] at lr7
            omega
        | swi nn tg css =>
          have n1 : n = 1 := by
            have := (hok _ mxl).2
            by_cases c : n = 0
            · exact (this c).elim
            · omega
          obtain ⟨c0, cc, ev1, mcc, okb⟩ : ∃ (c0 : C0) (cc : Int × List Sm), en.2 = .con c0 ∧ cc ∈ css ∧ C0Ok cc.2 c0 := by
            cases h : en.2 with
            | con c => rw [h] at hvo; obtain ⟨cc, m, o⟩ := hvo; exact ⟨c, cc, rfl, m, o⟩
            | _ => rw [h] at hvo; exact hvo.elim
          have lcs1 : css.length ≤ 1000 := hokC _ mxl
          have bsub : ∀ c ∈ css, (c.2.map Sm.name).Sublist (I2.swi nn tg css).names := fun c hc => (sub_flat (g := fun c : Int × List Sm => c.2.map Sm.name) hc).trans (List.sublist_cons_self _ _)
          have own := nm.own _ mxl
          have nm0 : NmOk c0 := nm_of ((nms0 okb).trans (bsub cc mcc)) own fun z hz => (nm.two _ mxl z hz).1
          rw [ev1] at dn prows7 row7 lr7 hue vb
          obtain ⟨p2, xv, rfl, hp2, pxv⟩ := id hue
          obtain ⟨pi', pq, xcs, e1, hpi', hpq, pcases⟩ := hx
          cases e1
          have rg : Rg R ⟨sp ++ [Sum.inr (I2.swi nn tg css).name], c0D c0, "switch"⟩ := rg_oth nm0 dn (.inr (.inr rfl))
          have hT := SqT.of (K := K) (w7.gh _ _ (w7.gg _ _ hpi))
          refine ⟨_, rfl, pi, _, 0, _, rfl, rfl, hT, atI_nat (j := 0) rfl, rfl, _, rfl, ifN (by simp only [I2.kind]; decide +kernel) ?_⟩
          refine ⟨_, rfl, pi, _, 0, _, rfl, rfl, hT, atI_nat (j := 0) rfl, rfl, _, rfl, ifN (by simp only [I2.kind]; decide +kernel) ?_⟩
          refine ⟨_, rfl, pi, _, 0, _, rfl, rfl, hT, atI_nat (j := 0) rfl, rfl, _, rfl, ifT rfl ?_⟩
          have lxv := plen pxv
          have lxs := plen pcases
          have rb1 : RB n = 350000 := by rw [n1]; rfl
          refine ⟨_, rfl, pi, _, 3, _, rfl, rfl, SqT.of (w7.gh _ _ (w7.gg _ _ hpi')), atI_nat (j := 3) rfl, pq, rfl, ?_⟩
          refine row_t2 (H0 := G6) (w6.gg _ _ hpq) w7.gh fun J2 wk2 => ?_
          refine for_it wk2 (fun j σ H' => ∃ (D2 : Addr) (c10 : Option V), σ = [some (.ref pb), some (.ref ps), some (.ref pc), some (.ref D2), some (.ref E1), some (.int (k : Int)), some (.ref pi), some (.ref p2), some (.ref he), j9, c10, none, none] ∧ ∃ G' acc' rows', Ow G H D2 G' H' ∧ Same G6 G' ∧ H' D2 = some (.lst acc') ∧ Paired (RowAt2 G') acc' rows' ∧ (∀ w ∈ rows', Rw2Ok R w) ∧ rows'.length ≤ RB n * k + 1 + 4 * j)
            ⟨D', _, rfl, G6, _, _, w7, Same.refl _, hD7, prows7, row7 rg, by omega⟩ (fun _ _ _ _ h => by obtain ⟨_, _, _, _, _, _, z1, z2, _⟩ := h; exact z2.trans z1.gh) ?_ ?_
          · rintro j v σ H8' H8 hj ⟨D2, c10, rfl, G8, acc2, rows2, w8, g68, hD8, prows8, okr8, lr8⟩ ⟨e3, hv⟩
            subst e3
            obtain ⟨cc2, gcc, rr, u, rfl, hrr, hbk⟩ := pget pcases hv
            have mc2 := List.mem_of_getElem? gcc
            have hD8' : H8 D2 ≠ none := by rw [hD8]; exact fun z => by cases z
            refine ⟨_, rfl, _, _, rfl, .inl ⟨_, SqL.of (w8.gh _ _ (w8.gg _ _ hp2)), rfl⟩, _, _, rfl, rfl, _, rfl, ite2 (fun e => ?_) (fun e => ?_)⟩
            · have lpos : 0 < xv.length := by have := of_decide_eq_true e; omega
              obtain ⟨pu, xu, rfl, hpu, pxu⟩ := id hbk
              refine ⟨_, rfl, rr, _, 1, _, rfl, rfl, SqT.of (w8.gh _ _ (w8.gg _ _ hrr)), atI_nat (j := 1) rfl, pu, rfl, ?_⟩
              refine row_t2 (H0 := G8) (w8.gg _ _ hpu) w8.gh fun J3 wk3 => ?_
              intro L1 hL1
              have b4 := (hok _ mxl).1 cc2 mc2
              refine lc_it wk3 (fun i H' => Same H8 H' ∧ H' L1 = some (.lst (((cc2.2.take i).filter nmd).map fun y => V.str y.name))) ⟨same_new hL1 _, upd_same⟩ (fun _ _ _ h => w8.gh.trans h.1) ?_ ?_
              · rintro i v H9' H9 hi ⟨s9, hL9⟩ ⟨e3, hv2⟩
                subst e3
                obtain ⟨y, gy, py, rfl, hpy⟩ := pget pxu hv2
                have hpy9 := s9 _ _ (w8.gh _ _ (w8.gg _ _ hpy))
                have lf9 := List.length_filter_le nmd (cc2.2.take i)
                rw [List.length_take] at lf9
                refine ⟨rfl, ?_⟩
                refine ⟨_, rfl, py, _, 0, _, rfl, rfl, SqT.of hpy9, atI_nat (j := 0) rfl, (by show 2 ≤ sizeLine; decide), fun a ha => ⟨a, _, rfl, .inl (SqL.of upd_same), rfl, rfl, _, rfl, ?_⟩⟩
                have kn : (if true = true then !inV (V.str y.kind) [V.str "check", V.str "pad"] else inV (V.str y.kind) [V.str "check", V.str "pad"]) = nmd y := kind_nmd (.sm y)
                rw [kn, List.take_add_one, gy, Option.toList, List.filter_append, List.map_append]
                have sa := s9.trans (same_new ha (.lst [.str "check", .str "pad"]))
                have hLa := same_new ha (.lst [.str "check", .str "pad"]) _ _ hL9
                have hpya := same_new ha (.lst [.str "check", .str "pad"]) _ _ hpy9
                generalize upd H9 a (.lst [.str "check", .str "pad"]) = Ha at sa hLa hpya ⊢
                cases c : nmd y with
                | true =>
                  rw [List.filter_cons_of_pos c, List.filter_nil]
                  exact iteT ⟨_, rfl, py, _, 1, _, rfl, rfl, SqT.of hpya, atI_nat (j := 1) rfl, _, hLa, lt_line (by rw [List.length_map]; omega), same_set sa hL1, upd_same⟩
                | false =>
                  rw [List.filter_cons_of_neg (by rw [c]; simp), List.filter_nil, List.map_nil, List.append_nil]
                  exact iteF ⟨sa, hLa⟩
              rintro H9 ⟨s9, hL9⟩
              rw [plen pxu, List.take_length] at hL9
              refine ⟨_, rfl, p2, rfl, ?_⟩
              refine row_l2 (H0 := G8) (w8.gg _ _ hp2) (w8.gh.trans s9) fun J4 wk4 => ?_
              intro M1 hM1
              have lc0 := okb.len
              have b4c := (hok _ mxl).1 cc mcc
              refine lc_it wk4 (fun i H' => Same H9 H' ∧ H' M1 = some (.lst ((c0.take i).map fun e => V.str e.1))) ⟨same_new hM1 _, upd_same⟩ (fun _ _ _ h => (w8.gh.trans s9).trans h.1) ?_ ?_
              · rintro i v Ha' Ha hi ⟨sa, hMa⟩ ⟨e3, hv2⟩
                subst e3
                obtain ⟨ee, ge, tt, uu, rfl, htt, _⟩ := pget pxv hv2
                refine ⟨rfl, yes_go ?_⟩
                refine ⟨_, rfl, tt, _, 0, _, rfl, rfl, SqT.of (sa _ _ (s9 _ _ (w8.gh _ _ (w8.gg _ _ htt)))), atI_nat (j := 0) rfl, _, hMa, lt_line (by rw [List.length_map, List.length_take]; omega), same_set sa hM1, ?_⟩
                rw [upd_same, List.take_add_one, ge, Option.toList, List.map_append]; rfl
              rintro Ha ⟨sa, hMa⟩
              rw [lxv, List.take_length] at hMa
              have e1 : (c0.map fun e => V.str e.1) = (Nms c0).map V.str := by rw [List.map_map]; rfl
              have e2 : ((cc2.2.filter nmd).map fun y => V.str y.name) = ((cc2.2.filter nmd).map Sm.name).map V.str := by rw [List.map_map]; rfl
              rw [e1] at hMa
              rw [e2] at hL9
              have sub2 : ((cc2.2.filter nmd).map Sm.name).Sublist (I2.swi nn tg css).names := (List.filter_sublist.map _).trans (bsub cc2 mc2)
              refine ⟨_, _, .lst (SqL.of (sa _ _ hL9)) (dp_strs _), .lst (SqL.of hMa) (dp_strs _), shaped_strs fun z hz => nm.sok _ mxl z (sub2.subset hz), shaped_strs fun z hz => nm.sok _ mxl z (((nms0 okb).trans (bsub cc mcc)).subset hz), _, rfl, ite2 (fun e => ?_) (fun e => ?_)⟩
              · have en := eqv_strs e
                have hcc : cc2 = cc := by
                  have nd : (css.flatMap fun c : Int × List Sm => c.2.map Sm.name).Nodup := (List.nodup_cons.mp (nodup_map own)).2
                  cases c0 with
                  | nil => rw [lxv] at lpos; exact absurd lpos (by simp)
                  | cons e0 r =>
                    have m0 : e0.1 ∈ Nms (e0 :: r) := List.mem_cons_self ..
                    exact flat_eq nd mc2 mcc ((List.filter_sublist.map _).subset (by rw [en]; exact m0)) ((nms0 okb).subset m0)
                subst hcc
                have wa : Ow G H D2 G8 Ha := ⟨w8.gg, w8.gh.trans (s9.trans sa), w8.hh.trans (s9.trans sa), w8.nu, w8.gd, w8.hd⟩
                have hDa := sa _ _ (s9 _ _ hD8)
                have lac2 := plen prows8
                refine ⟨_, rfl, _, rfl, rr, _, 1, _, rfl, rfl, SqT.of (wa.gh _ _ (wa.gg _ _ hrr)), atI_nat (j := 1) rfl, _, rfl, _, rfl, ?_⟩
                refine nilGo ?_
                refine callS G8 Ha D2 he cc2.2 (.ref pu) (.ref p2) _ c0 _ n1 wa (by rw [hDa]; exact fun z => by cases z) hbk b4 (bsub cc2 mc2) ((g6.trans g68) _ _ khe) (by rw [List.length_append, List.length_singleton]; omega) zsp hue okb dn fun r rs rws Gz Hz wz gz tz hr pr okr2 lw => ?_
                have lrs := plen pr
                refine ⟨D2, r, _, rs, rfl, rfl, tz _ _ hDa, wz.gh _ _ hr, le_line (by omega), fun a2 ha => ?_⟩
                refine ⟨a2, _, rfl, Gz, _, rows2 ++ rws, wz.move ha, g68.trans gz, upd_same, papp (L2.Paired.mapP prows8 fun _ _ z => mon_row2 _ _ _ _ gz z) pr, fun w hw => (List.mem_append.mp hw).elim (okr8 w) (okr2 w), by rw [List.length_append]; omega⟩
              · exact ⟨D2, _, rfl, G8, acc2, rows2, ⟨w8.gg, w8.gh.trans (s9.trans sa), w8.hh.trans (s9.trans sa), w8.nu, w8.gd, w8.hd⟩, g68, sa _ _ (s9 _ _ hD8), prows8, okr8, by omega⟩
            · exact iteF ⟨D2, _, rfl, G8, acc2, rows2, w8, g68, hD8, prows8, okr8, by omega⟩
          · rintro σ H8 ⟨D2, c10, rfl, G8, acc2, rows2, w8, g68, hD8, prows8, okr8, lr8⟩
            exact ⟨D2, _, _, _, _, _, _, rfl, G8, acc2, rows2, w8, (g36.trans g68) _ _ hE3, hD8, prows8, okr8, by rw [rb1, Nat.mul_succ]; rw [rb1] at lr8; omega⟩
      · rintro σ H3 ⟨D', k5, i6, v7, h8, j9, c10, rfl, G3, acc, rows, w3, hE3, hD3, prows, okr, lr⟩
        obtain ⟨t1, t2, t3, t4⟩ := w3.take hD3
        exact ⟨_, rfl, q D' acc rows _ H3 t2 t3 w3.hh t4 upd_same (L2.Paired.mapP prows fun _ _ z => mon_row2 _ _ _ _ t1 z) okr (Nat.le_trans lr (Nat.mul_le_mul_left _ (by omega)))⟩
end
end Bm

set_option Elab.async false
set_option linter.all false
set_option maxRecDepth 100000
set_option maxHeartbeats 4000000
/-! how long the repr of data can be -/
namespace Bm
open PySem L2
structure Tm (d : Dt) (b : Nat) : Prop where
  bulk : (pyD d).bulk ≤ b
  short : (pyD d).leavesShort 13 = true
  show_ : (pyD d).showable = true
theorem Tm.mono {d : Dt} {a b : Nat} (h : Tm d a) (k : a ≤ b) : Tm d b := ⟨Nat.le_trans h.bulk k, h.short, h.show_⟩
theorem tm_int {i : Int} (h : i.natAbs ≤ 100000) : Tm (.int i) 0 := by
  refine ⟨by simp [pyD, PyData.bulk], ?_, ?_⟩
  · simp only [pyD, PyData.leavesShort]
    exact decide_eq_true (PyData.shown_int_le (by omega))
  · simp only [pyD, PyData.showable]
    refine decide_eq_true ?_
    by_cases z : i.natAbs = 0
    · rw [z]; decide
    · have := (Nat.log2_lt z (k := 17)).mpr (by omega)
      omega
theorem tm_str {z : Str} {n : Nat} (h : z.length ≤ n) (k : ∀ c ∈ z.cps.toList, c < 16 ^ 8) : Tm (.str z) n := by
  refine ⟨by simp only [pyD, PyData.bulk]; exact h, ?_, by simp only [pyD, PyData.showable]⟩
  simp only [pyD, PyData.leavesShort]
  exact List.all_eq_true.mpr fun c hc => decide_eq_true (k c hc)
theorem tm_all {b : Nat} : ∀ {l : List Dt}, (∀ d ∈ l, Tm d b) → PyData.bulkAll (pyDs l) ≤ l.length * (b + 1) ∧ PyData.leavesShortAll 13 (pyDs l) = true ∧ PyData.showableAll (pyDs l) = true
  | [], _ => ⟨by simp [pyDs, PyData.bulkAll], by simp [pyDs, PyData.leavesShortAll], by simp [pyDs, PyData.showableAll]⟩
  | d :: l, h => by
    obtain ⟨h1, h2, h3⟩ := tm_all fun x hx => h x (List.mem_cons_of_mem _ hx)
    have hd := h d (List.mem_cons_self ..)
    refine ⟨?_, ?_, ?_⟩
    · simp only [pyDs, PyData.bulkAll, List.length_cons, Nat.succ_mul]
      have := hd.bulk
      omega
    · simp only [pyDs, PyData.leavesShortAll, hd.short, h2, Bool.and_self]
    · simp only [pyDs, PyData.showableAll, hd.show_, h3, Bool.and_self]
theorem tm_lst {b n : Nat} {l : List Dt} (h : ∀ d ∈ l, Tm d b) (k : l.length ≤ n) : Tm (.lst l) (n * (b + 1)) := by
  obtain ⟨h1, h2, h3⟩ := tm_all h
  exact ⟨by simp only [pyD, PyData.bulk]; exact Nat.le_trans h1 (Nat.mul_le_mul_right _ k), by simp only [pyD, PyData.leavesShort]; exact h2, by simp only [pyD, PyData.showable]; exact h3⟩
theorem tm_tup {b n : Nat} {l : List Dt} (h : ∀ d ∈ l, Tm d b) (k : l.length ≤ n) : Tm (.tup l) (n * (b + 1)) := by
  obtain ⟨h1, h2, h3⟩ := tm_all h
  exact ⟨by simp only [pyD, PyData.bulk]; exact Nat.le_trans h1 (Nat.mul_le_mul_right _ k), by simp only [pyD, PyData.leavesShort]; exact h2, by simp only [pyD, PyData.showable]; exact h3⟩
theorem tm_pair {b : Nat} {x y : Dt} (hx : Tm x b) (hy : Tm y b) : Tm (.tup [x, y]) (2 * (b + 1)) :=
  tm_tup (fun d hd => by
    rcases List.mem_cons.mp hd with rfl | hd
    · exact hx
    · rw [List.mem_singleton.mp hd]; exact hy) (Nat.le_refl _)
theorem Tm.len {d : Dt} {b : Nat} (h : Tm d b) (k : b ≤ 1000000) : (pyD d).shown.length ≤ sizeLine := by
  have := PyData.shown_le_bulk 13 (by decide) (pyD d) h.short
  have h1 := h.bulk
  have : (pyD d).shown.length ≤ 15 * (pyD d).bulk + 13 := this
  show _ ≤ 2 ^ 24
  omega
end Bm

set_option Elab.async false
set_option linter.all false
set_option maxRecDepth 100000
set_option maxHeartbeats 4000000
/-! contents of drawn items: names, sizes -/
namespace Bm
open PySem L2
def NmS (z : Str) : Prop := z.length ≤ 100 ∧ ∀ c ∈ z.cps.toList, c < 16 ^ 8
theorem tm_sv {y : Sm} {s : SV} (w : y.okW) (h : SvOk y s) : Tm (svD s) 40 := by
  cases s with
  | num i =>
    cases y with
    | num n sz o lo hi =>
      obtain ⟨w1, w2, w3, _⟩ := w
      obtain ⟨h1, h2⟩ := h
      exact (tm_int (by omega)).mono (by decide)
    | _ => exact h.elim
  | byt l =>
    have hb : By l ∧ l.length ≤ 40 := by cases y <;> first | exact h.elim | exact h
    have := tm_lst (b := 0) (n := 40) (l := l.map Dt.int) (fun d hd => by
      obtain ⟨i, hi, rfl⟩ := List.mem_map.mp hd
      have := hb.1 i hi
      exact tm_int (by omega)) (by rw [List.length_map]; exact hb.2)
    exact this
theorem tm_en {α : Type} {g : α → Dt} {c : List (Str × α)} {b : Nat} (l4 : c.length ≤ 4) (h100 : 100 ≤ b) (ns : ∀ e ∈ c, NmS e.1) (h : ∀ e ∈ c, Tm (g e.2) b) : Tm (entD g c) (4 * (2 * (b + 1) + 1)) :=
  tm_lst (fun d hd => by
    obtain ⟨e, he, rfl⟩ := List.mem_map.mp hd
    exact tm_pair ((tm_str (ns e he).1 (ns e he).2).mono h100) (h e he)) (by rw [List.length_map]; exact l4)
theorem tm_c0 {b : List Sm} {c : C0} (h : C0Ok b c) (l4 : b.length ≤ 4) (w : ∀ y ∈ b, y.okW) (ns : ∀ y ∈ b, NmS y.name) : Tm (c0D c) 812 := by
  have := tm_en (g := svD) (c := c) (b := 100) (Nat.le_trans h.len l4) (Nat.le_refl _) (fun e he => by
    obtain ⟨y, hy, e1, _⟩ := pmem h e he
    rw [e1]; exact ns y (List.mem_filter.mp hy).1) (fun e he => by
    obtain ⟨y, hy, _, k⟩ := pmem h e he
    exact (tm_sv (w y (List.mem_filter.mp hy).1) k).mono (by decide))
  exact this.mono (by decide)
/-- what an item has to be for its contents to be small -/
def I2.sml : I2 → Prop
  | .sm y => y.okW
  | .rep _ _ b => b.length ≤ 4 ∧ b ≠ [] ∧ (∀ y ∈ b, y.plain) ∧ ∀ y ∈ b, y.okW
  | .eit _ bs => bs.length ≤ 3 ∧ ∀ b ∈ bs, b.length ≤ 4 ∧ ∀ y ∈ b, y.okW
  | .swi _ _ cs => ∀ c ∈ cs, c.2.length ≤ 4 ∧ ∀ y ∈ c.2, y.okW
theorem tm_vl {x : I2} {v : Vl} (h : VlOk x v) (w : x.sml) (ns : ∀ z ∈ x.names, NmS z) : Tm (vlD v) 32520 := by
  cases x with
  | sm y => cases v with
    | sm s => exact (tm_sv w h).mono (by decide)
    | _ => exact h.elim
  | rep n a bk => cases v with
    | rds rs =>
      obtain ⟨w1, w2, w3, w4⟩ := w
      exact tm_lst (b := 812) (n := 40) (fun d hd => by
        obtain ⟨c, hc, rfl⟩ := List.mem_map.mp hd
        exact tm_c0 (h.2.2 c hc) w1 w4 fun y hy => ns _ (List.mem_cons_of_mem _ (List.mem_map_of_mem hy))) (by rw [List.length_map]; exact h.2.1 w2 w3)
    | _ => exact h.elim
  | eit n bs => cases v with
    | tak k c =>
      obtain ⟨bk, e, o⟩ := h
      have mb := List.mem_of_getElem? e
      have t0 := tm_c0 o (w.2 bk mb).1 (w.2 bk mb).2 fun y hy => ns _ (List.mem_cons_of_mem _ (List.mem_flatMap.mpr ⟨bk, mb, List.mem_map_of_mem hy⟩))
      have kl : k < bs.length := get_lt' e
      have k3 := w.1
      exact (tm_pair ((tm_int (i := (k : Int)) (by omega)).mono (b := 812) (by decide)) t0).mono (by decide)
    | _ => exact h.elim
  | swi n t cs => cases v with
    | con c =>
      obtain ⟨cc, m, o⟩ := h
      exact (tm_c0 o (w cc m).1 (w cc m).2 fun y hy => ns _ (List.mem_cons_of_mem _ (List.mem_flatMap.mpr ⟨cc, m, List.mem_map_of_mem hy⟩))).mono (by decide)
    | _ => exact h.elim
theorem tm_c1 {l : List I2} {c : C1} (h : C1Ok l c) (l4 : l.length ≤ 4) (w : ∀ x ∈ l, x.sml) (ns : ∀ x ∈ l, ∀ z ∈ x.names, NmS z) : Tm (c1D c) 1000000 := by
  have lf := List.length_filter_le nmd1 l
  have := tm_en (g := vlD) (c := c) (b := 32520) (by have := plen h; omega) (by decide) (fun e he => by
    obtain ⟨x, hx, e1, _⟩ := pmem h e he
    rw [e1]; exact ns x (List.mem_filter.mp hx).1 _ (name_in x)) (fun e he => by
    obtain ⟨x, hx, _, k⟩ := pmem h e he
    exact tm_vl k (w x (List.mem_filter.mp hx).1) (ns x (List.mem_filter.mp hx).1))
  exact this.mono (by decide)
/-! ### what is drawn is so -/
theorem plain_sml {b : List Sm} (h : ∀ y ∈ b, y.plain) : ∀ y ∈ b, y.okW := fun y hy => (plain_okW (h y hy)).1
theorem ok_sml {x : I2} {ah : List Str} (h : x.ok ah) : x.sml := by
  cases x with
  | sm y => exact (ok_okW h).1
  | rep n a b =>
    obtain ⟨_, ⟨h1, h2⟩, h3⟩ := h
    exact ⟨by omega, fun e => by rw [e] at h1; simp at h1, h3, plain_sml h3⟩
  | eit n bs =>
    obtain ⟨⟨_, h1⟩, h2, _⟩ := h
    exact ⟨h1, fun b hb => ⟨by have := (h2 b hb).1; omega, plain_sml (h2 b hb).2⟩⟩
  | swi n t cs =>
    obtain ⟨_, _, h2, _⟩ := h
    exact fun c hc => ⟨by have := (h2 c hc).2.1; omega, plain_sml (h2 c hc).2.2⟩
theorem ok_okC {x : I2} {ah : List Str} (h : x.ok ah) : okC x := by
  cases x with
  | swi n t cs => show cs.length ≤ 1000; have := h.2.1.2; omega
  | _ => trivial
theorem isName_S {z : Str} (h : isName z = true) : NmS z ∧ PyData.strOk z = true := by
  have ch : ∀ c, isSign c = true → c < 128 := fun c hc => by
    have : ∀ x ∈ letters.cps.toList ++ digits.cps.toList, x < 128 := by decide +kernel
    refine this c ?_
    unfold isSign isLetter isDigit at hc
    rw [Bool.or_eq_true] at hc
    exact List.mem_append.mpr (hc.imp of_decide_eq_true of_decide_eq_true)
  unfold isName at h
  cases e : z.cps.toList with
  | nil => rw [e] at h; cases h
  | cons c r =>
    rw [e] at h
    simp only [nameOk, Bool.and_eq_true, decide_eq_true_eq] at h
    obtain ⟨h1, _, h3⟩ := h
    have all : ∀ x ∈ z.cps.toList, x < 128 := fun x hx => ch x (List.all_eq_true.mp h3 x (by rw [← e]; exact hx))
    have ln : z.cps.size = r.length + 1 := by rw [← Array.length_toList, e]; rfl
    refine ⟨⟨by show z.cps.size ≤ 100; omega, fun x hx => Nat.lt_trans (all x hx) (by decide)⟩, ?_⟩
    unfold PyData.strOk
    rw [Array.all_eq_true']
    exact fun x hx => decide_eq_true (Nat.lt_trans (all x (by simpa using hx)) (by decide))
theorem Drawn.nmI {l : List I2} (h : Drawn l) : NmI l := by
  have nm : ∀ x ∈ l, ∀ z ∈ x.names, isName z = true ∧ 2 ≤ z.length := fun x hx z hz => h.nm z (List.mem_flatMap.mpr ⟨x, hx, hz⟩)
  refine ⟨?_, fun x hx z hz => ⟨(nm x hx z hz).2, (isName_S (nm x hx z hz).1).1.1⟩, h.hds, fun x hx z hz => (isName_S (nm x hx z hz).1).2⟩
  have := h.top
  rw [List.map_map]
  exact this
theorem Drawn.nmS {l : List I2} (h : Drawn l) : ∀ x ∈ l, ∀ z ∈ x.names, NmS z := fun x hx z hz => (isName_S (h.nm z (List.mem_flatMap.mpr ⟨x, hx, hz⟩)).1).1
theorem Drawn.sml {l : List I2} (h : Drawn l) : ∀ x ∈ l, x.sml := fun x hx => by obtain ⟨_, h⟩ := okL_in h.ok x hx; exact ok_sml h
theorem Drawn.okC {l : List I2} (h : Drawn l) : ∀ x ∈ l, okC x := fun x hx => by obtain ⟨_, h⟩ := okL_in h.ok x hx; exact ok_okC h
end Bm

set_option Elab.async false
set_option linter.all false
set_option maxRecDepth 100000
set_option maxHeartbeats 8000000
/-! law_k82 -/
namespace Bm
open PySem L2
abbrev sLaw : Stmt := top 28
theorem tm_in {b : Nat} : ∀ {l : List Dt}, PyData.bulkAll (pyDs l) ≤ b → PyData.leavesShortAll 13 (pyDs l) = true → PyData.showableAll (pyDs l) = true → ∀ d ∈ l, Tm d b
  | x :: r, h1, h2, h3, d, hd => by
    simp only [pyDs, PyData.bulkAll] at h1
    simp only [pyDs, PyData.leavesShortAll, Bool.and_eq_true] at h2
    simp only [pyDs, PyData.showableAll, Bool.and_eq_true] at h3
    rcases List.mem_cons.mp hd with rfl | hd
    · exact ⟨by omega, h2.1, h3.1⟩
    · exact tm_in (by omega) h2.2 h3.2 d hd
theorem Tm.l {l : List Dt} {b : Nat} (h : Tm (.lst l) b) : ∀ d ∈ l, Tm d b := tm_in (by simpa only [pyD, PyData.bulk] using h.bulk) (by simpa only [pyD, PyData.leavesShort] using h.short) (by simpa only [pyD, PyData.showable] using h.show_)
theorem Tm.t {l : List Dt} {b : Nat} (h : Tm (.tup l) b) : ∀ d ∈ l, Tm d b := tm_in (by simpa only [pyD, PyData.bulk] using h.bulk) (by simpa only [pyD, PyData.leavesShort] using h.short) (by simpa only [pyD, PyData.showable] using h.show_)
theorem tm_win {D d : Dt} {b : Nat} {k : Key} (h : Tm D b) (e : win k D = some d) : Tm d b := by
  unfold win at e
  split at e
  · split at e
    · cases e; exact h.t _ (by simp)
    · cases e
  · split at e
    · cases e; exact h.t _ (by simp)
    · cases e
  · next l =>
    split at e
    · next z =>
      have m := List.mem_of_mem_head? e
      obtain ⟨x, hx, ex⟩ := List.mem_filterMap.mp m
      have hx := h.l x hx
      unfold prN at ex
      split at ex
      · split at ex
        · cases ex; exact hx.t _ (by simp)
        · cases ex
      · cases ex
    · next i =>
      split at e
      · cases c : l[i.toNat]? with
        | none => rw [c] at e; cases e
        | some x =>
          rw [c] at e
          have e : (if isL x then some x else none) = some d := e
          split at e
          · cases e; exact h.l _ (List.mem_of_getElem? c)
          · cases e
      · cases e
  · cases e
theorem tm_fold {b : Nat} : ∀ {s : List Key} {o : Option Dt} {d : Dt}, (∀ x, o = some x → Tm x b) → s.foldl (fun o k => o.bind (win k)) o = some d → Tm d b
  | [], o, d, h, e => h d e
  | k :: r, o, d, h, e => tm_fold (s := r) (o := o.bind (win k)) (fun x hx => by
    cases o with
    | none => cases hx
    | some y => exact tm_win (h y rfl) hx) e
theorem tm_vat {R d : Dt} {s : List Key} {b : Nat} (h : Tm R b) (e : vat R s = some d) : Tm d b := tm_fold (fun x hx => by cases hx; exact h) e
mutual
theorem dp_dt {K : PySem.W.Frag} {H : Hp} : ∀ {d : Dt} {n : Nat} {v : V}, DtAt n H v d → Dp K H v (pyD d)
  | .int i, n, v, h => by obtain rfl := dt_int.mp h; rw [pyD]; exact .int i
  | .str z, n, v, h => by obtain rfl := dt_str.mp h; rw [pyD]; exact .str z
  | .lst l, 0, v, h => h.elim
  | .tup l, 0, v, h => h.elim
  | .lst l, n + 1, v, h => by
    obtain ⟨p, xs, rfl, hp, pl, _⟩ := h
    rw [pyD]
    exact .lst (SqL.of hp) (dp_dts pl)
  | .tup l, n + 1, v, h => by
    obtain ⟨p, xs, rfl, hp, pl, _⟩ := h
    rw [pyD]
    exact .tup (SqT.of hp) (dp_dts pl)
theorem dp_dts {K : PySem.W.Frag} {H : Hp} : ∀ {l : List Dt} {n : Nat} {xs : List V}, Paired (DtAt n H) xs l → DpAll K H xs (pyDs l)
  | [], n, _, .nil => by rw [pyDs]; exact .nil
  | d :: l, n, _, .cons h t => by rw [pyDs]; exact .cons (dp_dt h) (dp_dts t)
end
mutual
theorem eqv_dt : ∀ d : Dt, PyData.eqv (pyD d) (pyD d) = true
  | .int i => by simp [pyD, PyData.eqv]
  | .str z => by simp [pyD, PyData.eqv]
  | .lst l => by simp only [pyD, PyData.eqv]; exact eqv_dts l
  | .tup l => by simp only [pyD, PyData.eqv]; exact eqv_dts l
theorem eqv_dts : ∀ l : List Dt, PyData.eqvAll (pyDs l) (pyDs l) = true
  | [] => by simp [pyDs, PyData.eqvAll]
  | d :: l => by simp only [pyDs, PyData.eqvAll, eqv_dt d, eqv_dts l, Bool.and_self]
end
mutual
theorem dep_dt {H : Hp} : ∀ {d : Dt} {n : Nat} {v : V}, DtAt n H v d → (pyD d).depth ≤ n
  | .int i, n, v, h => by simp [pyD, PyData.depth]
  | .str z, n, v, h => by simp [pyD, PyData.depth]
  | .lst l, 0, v, h => h.elim
  | .tup l, 0, v, h => h.elim
  | .lst l, n + 1, v, h => by
    obtain ⟨p, xs, rfl, hp, pl, _⟩ := h
    simp only [pyD, PyData.depth]
    have := dep_dts pl
    omega
  | .tup l, n + 1, v, h => by
    obtain ⟨p, xs, rfl, hp, pl, _⟩ := h
    simp only [pyD, PyData.depth]
    have := dep_dts pl
    omega
theorem dep_dts {H : Hp} : ∀ {l : List Dt} {n : Nat} {xs : List V}, Paired (DtAt n H) xs l → PyData.depthAll (pyDs l) ≤ n
  | [], n, _, .nil => by simp [pyDs, PyData.depthAll]
  | d :: l, n, _, .cons h t => by
    simp only [pyDs, PyData.depthAll]
    have := dep_dt h
    have := dep_dts t
    omega
end
/-- no odd letter in it -/
def Cl (d : Dt) : Prop := (pyD d).canLay0 = true
theorem cl_all : ∀ {l : List Dt}, (∀ d ∈ l, Cl d) → PyData.canLayAll0 (pyDs l) = true
  | [], _ => by simp [pyDs, PyData.canLayAll0]
  | d :: l, h => by
    have h1 : (pyD d).canLay0 = true := h d (List.mem_cons_self ..)
    simp only [pyDs, PyData.canLayAll0, h1, cl_all fun x hx => h x (List.mem_cons_of_mem _ hx), Bool.and_self]
theorem cl_lst {l : List Dt} (h : ∀ d ∈ l, Cl d) : Cl (.lst l) := by unfold Cl; simp only [pyD, PyData.canLay0]; exact cl_all h
theorem cl_pair {x y : Dt} (hx : Cl x) (hy : Cl y) : Cl (.tup [x, y]) := by
  unfold Cl
  simp only [pyD, PyData.canLay0]
  exact cl_all fun d hd => by
    rcases List.mem_cons.mp hd with rfl | hd
    · exact hx
    · rw [List.mem_singleton.mp hd]; exact hy
theorem cl_int (i : Int) : Cl (.int i) := by unfold Cl; simp [pyD, PyData.canLay0]
theorem cl_str {z : Str} (h : PyData.strOk z = true) : Cl (.str z) := by unfold Cl; simp only [pyD, PyData.canLay0]; exact h
theorem cl_sv (s : SV) : Cl (svD s) := by
  cases s with
  | num i => exact cl_int i
  | byt l => exact cl_lst fun d hd => by obtain ⟨i, _, rfl⟩ := List.mem_map.mp hd; exact cl_int i
theorem cl_en {α : Type} {g : α → Dt} {c : List (Str × α)} (ns : ∀ e ∈ c, PyData.strOk e.1 = true) (h : ∀ e ∈ c, Cl (g e.2)) : Cl (entD g c) := cl_lst fun d hd => by
  obtain ⟨e, he, rfl⟩ := List.mem_map.mp hd
  exact cl_pair (cl_str (ns e he)) (h e he)
theorem cl_c0 {b : List Sm} {c : C0} (h : C0Ok b c) (ns : ∀ y ∈ b, PyData.strOk y.name = true) : Cl (c0D c) := cl_en (fun e he => by
  obtain ⟨y, hy, e1, _⟩ := pmem h e he
  rw [e1]; exact ns y (List.mem_filter.mp hy).1) fun e _ => cl_sv e.2
theorem cl_vl {x : I2} {v : Vl} (h : VlOk x v) (ns : ∀ z ∈ x.names, PyData.strOk z = true) : Cl (vlD v) := by
  cases x with
  | sm y => cases v with
    | sm s => exact cl_sv s
    | _ => exact h.elim
  | rep n a bk => cases v with
    | rds rs =>
      refine cl_lst fun d hd => ?_
      obtain ⟨c, hc, rfl⟩ := List.mem_map.mp hd
      exact cl_c0 (h.2.2 c hc) fun y hy => ns _ (List.mem_cons_of_mem _ (List.mem_map_of_mem hy))
    | _ => exact h.elim
  | eit n bs => cases v with
    | tak k c =>
      obtain ⟨bk, e, o⟩ := h
      have mb := List.mem_of_getElem? e
      exact cl_pair (cl_int _) (cl_c0 o fun y hy => ns _ (List.mem_cons_of_mem _ (List.mem_flatMap.mpr ⟨bk, mb, List.mem_map_of_mem hy⟩)))
    | _ => exact h.elim
  | swi n t cs => cases v with
    | con c =>
      obtain ⟨cc, m, o⟩ := h
      exact cl_c0 o fun y hy => ns _ (List.mem_cons_of_mem _ (List.mem_flatMap.mpr ⟨cc, m, List.mem_map_of_mem hy⟩))
    | _ => exact h.elim
theorem cl_c1 {l : List I2} {c : C1} (h : C1Ok l c) (ns : ∀ x ∈ l, ∀ z ∈ x.names, PyData.strOk z = true) : Cl (c1D c) := cl_en (fun e he => by
  obtain ⟨x, hx, e1, _⟩ := pmem h e he
  rw [e1]; exact ns x (List.mem_filter.mp hx).1 _ (name_in x)) fun e he => by
  obtain ⟨x, hx, _, k⟩ := pmem h e he
  exact cl_vl k (ns x (List.mem_filter.mp hx).1)
theorem shaped_dt {H : Hp} {d : Dt} {n : Nat} {v : V} (c : Cl d) (h : DtAt n H v d) (k : n ≤ 64) : SeqAt.shaped (pyD d) = true := by
  unfold SeqAt.shaped
  rw [show (pyD d).canLay0 = true from c, Bool.true_and]
  exact decide_eq_true (Nat.le_trans (dep_dt h) k)
def spLaw (K : PySem.W.Frag) : Sp := fun vs H Q _ => ∃ (a : Addr) (ns : List Int), vs = [.ref a] ∧ SqL K H a (ns.map V.int) ∧ ns.length ≤ 63 ∧ ∀ H', Q (.bl true) H'
section
variable {P : Program} {w : World} {K : PySem.W.Frag} {mg : Str → Option Value} {base : Heap} {f : Addr} {fd : FuncData}
abbrev nLaw : List Str := ["script", "numbers", "items", "content", "given", "rows", "row", "found", "spot"]
theorem scLaw : FnScope nLaw ["script"] (defScope sLaw) := ⟨rfl, rfl, rfl, by decide +kernel, rfl, by decide +kernel, by decide +kernel⟩
theorem ok_law {k : Nat} (F : Fun K "law" "law" sLaw f fd) (gN : Cal P w K mg base CX0 k "_law_numbers" ["script", "many"] (spNums 150 K)) (gI : Cal P w K mg base CX0 k "_law_items" ["numbers", "at"] spItems) (gC : Cal P w K mg base CX0 k "_law_contents" ["items", "numbers", "at", "many"] spCont) (gY : Cal P w K mg base CX0 k "_law_copied" ["value"] (spCopy 6)) (gS : Cal P w K mg base CX0 k "_law_spots" ["block", "spot", "content"] (spSpots 1)) (gV : Cal P w K mg base CX0 k "value_at" ["content", "spot"] spVat) (gW : Cal P w K mg base CX0 k "_law_wrong" ["row"] spWrong)
    (mi : mg "isinstance" = none) (mlist : mg "list" = none) (mp : mg "repr" = none) : FnG P w K mg base (k + 1) f fd ["script"] (spLaw K) := by
  refine okG F scLaw (fun vs H Q E h => ?_) (fun cdv A outer s H vs Q E hA hr h => ?_)
  · obtain ⟨a, ns, rfl, _⟩ := h
    rfl
  · obtain ⟨a, ns, rfl, hS, hl, q⟩ := h
    have hg : (cxOf CX0 P w K mg base nLaw "law" (defScope sLaw) f cdv A outer s H E).nox.A.guards = some [] := hA
    have hu9 : (cxOf CX0 P w K mg base nLaw "law" (defScope sLaw) f cdv A outer s H E).nox.A.units + 9 < cLine := Nat.lt_of_le_of_lt (Nat.add_le_add_left (by decide : 9 ≤ 64) _) hr.units
    have hu : (cxOf CX0 P w K mg base nLaw "law" (defScope sLaw) f cdv A outer s H E).nox.A.units + 64 < cLine := Nat.lt_of_le_of_lt (Nat.le_refl _) hr.units
    refine ⟨_, (pss_cons (ps_set (i := 1) scLaw.nd rfl (.inl rfl) (pe_cal gN hr pass0 (pa_cons (pv 0) (pa_cons pe_int pa_nil))))
      (pss_cons (ps_set (i := 2) scLaw.nd rfl (.inl rfl) (pe_cal gI hr pass0 (pa_cons (pv 1) (pa_cons pe_int pa_nil))))
      (pss_cons (ps_for PassesOwn.never rfl (pi_row (pe_cal gC hr pass0 (pa_cons (pv 2) (pa_cons (pv 1) (pa_cons pe_int (pa_cons pe_int pa_nil)))))) (pg_name (i := 3) scLaw.nd rfl (.inl rfl))
        (pss_cons (ps_set (i := 4) scLaw.nd rfl (.inl rfl) (pe_cal gY hr pass0 (pa_cons (pv 3) pa_nil)))
      (pss_cons (ps_set (i := 5) scLaw.nd rfl (.inl rfl) (pe_cal gS hr pass0 (pa_cons (pv 2) (pa_cons (pe_tup pa_nil) (pa_cons (pv 3) pa_nil)))))
      (pss_cons (ps_if (pt_cmpR op_ne (pe_callB (call_rep hg hu9) (by rfl) mp (by decide +kernel) (pa_cons (pe_cal gV hr pass0 (pa_cons (pv 4) (pa_cons (pe_tup pa_nil) pa_nil))) pa_nil)) (pe_callB (call_rep hg hu9) (by rfl) mp (by decide +kernel) (pa_cons (pv 3) pa_nil)) (nomark _)) (pss_one (ps_ret pe_bl)) pss_nil)
      (pss_cons (ps_for PassesOwn.never rfl (pi_row (pv 5)) (pg_name (i := 6) scLaw.nd rfl (.inl rfl))
        (pss_cons (ps_set (i := 7) scLaw.nd rfl (.inl rfl) (pe_cal gV hr pass0 (pa_cons (pv 4) (pa_cons (pe_ix ix_tup (pv 6) pe_int (fun _ _ => rfl)) pa_nil))))
      (pss_cons (ps_if (pt_cmpR op_ne (pe_callB (call_rep hg hu9) (by rfl) mp (by decide +kernel) (pa_cons (pv 7) pa_nil)) (pe_callB (call_rep hg hu9) (by rfl) mp (by decide +kernel) (pa_cons (pe_ix ix_tup (pv 6) pe_int (fun _ _ => rfl)) pa_nil)) (nomark _)) (pss_one (ps_ret pe_bl)) pss_nil)
      (pss_cons (ps_if (pt_val (pe_callB call_isi (by rfl) mi (by decide +kernel) (pa_cons (pv 7) (pa_cons (pe_bltn (v := .ty "list") (by rfl) mlist (by decide +kernel) rfl) pa_nil)))) (pss_one (ps_expr (pe_bm PySem.F.plainAttrs_list PySem.F.slot_list_append PySem.F.type_list_append mt_append (pv 7) (pa_cons pe_int pa_nil)))) pss_nil)
      (pss_one (ps_for PassesOwn.never rfl (pi_row (pe_cal gW hr pass0 (pa_cons (pv 6) pa_nil))) (pg_name (i := 8) scLaw.nd rfl (.inl rfl))
        (pss_one (ps_if (pt_cmp (pc_notN (pe_cal gV hr pass0 (pa_cons (pv 4) (pa_cons (pv 8) pa_nil))))) (pss_one (ps_ret pe_bl)) pss_nil))))))))
      (pss_one (ps_if (PW.pt (pw_or (pt_cmpR (op_neD hu) (pv 4) (pv 3) (nomark _)) (pw_or1 (pt_cmp (pc_notN (pe_cal gV hr pass0 (pa_cons (pv 4) (pa_cons (pe_tup (pa_cons pe_str pa_nil)) pa_nil)))))))) (pss_one (ps_ret pe_bl)) pss_nil)))))))
      (pss_one (ps_ret pe_bl))))), ?_⟩
    refine ⟨_, rfl, a, ns, rfl, by decide, hS, hl, fun pn rs H1 s1 hpn lrs nb => ?_⟩
    refine ⟨_, rfl, pn, rs, 0, rfl, hpn, nb, by omega, fun l pi xs H2 s2 hpi hl2 dr => ?_⟩
    refine ⟨_, rfl, _, rfl, pi, pn, xs, l, rs, 90, 1, rfl, hpi, hl2, dr, s2 _ _ hpn, nb, by omega, by omega, fun r cs0 cts H3 s3 hr3 pct mn lc => ?_⟩
    refine ⟨r, rfl, row_l hr3 fun J wk => ?_⟩
    refine for_it wk (fun i σ H' => ∃ c3 g4 r5 r6 f7 s8 : Option V, σ = [some (.ref a), some (.ref pn), some (.ref pi), c3, g4, r5, r6, f7, s8] ∧ Same H3 H') ⟨_, _, _, _, _, _, rfl, Same.refl _⟩ (fun _ _ _ _ h => by obtain ⟨_, _, _, _, _, _, _, z⟩ := h; exact z) ?_ ?_
    · rintro i v σ H4' H4 hi ⟨c3, g4, r5, r6, f7, s8, rfl, s34⟩ ⟨e3, hv⟩
      subst e3
      obtain ⟨c, gc, hc⟩ := pget pct hv
      have okc := (mn c (List.mem_of_getElem? gc)).ok dr.okW.1
      have cb := okc.b dr.n4 dr.okR
      have tm := tm_c1 okc dr.n4 dr.sml dr.nmS
      have hc4 := mon_ct mon_vl _ _ _ _ s34 hc
      have d4 := at_c1 cb hc4
      obtain ⟨pc, xc, rfl, hxc, pxc⟩ := id hc4
      refine ⟨_, rfl, H4, .ref pc, some (c1D c), rfl, Same.refl _, d4, fun u G5 H5 g5 s5 h5 n5 hu5 fr => ?_⟩
      have d5 : DtAt 6 H5 u (c1D c) := mon_dt s5 hu5
      refine ⟨_, rfl, (by show 0 ≤ sizeLine; decide), fun e0 h0 => ⟨_, rfl, ?_⟩⟩
      have s6 := same_new h0 (.tup [])
      have ke0 := upd_same (H := H5) (a := e0) (o := .tup [])
      generalize upd H5 e0 (.tup []) = H6 at s6 ke0 ⊢
      have S46 := h5.trans s6
      have S36 := s34.trans S46
      refine ⟨H6, pi, e0, pc, xs, l, [], c, c1D c, rfl, Same.refl _, S36 _ _ (s3 _ _ hpi), L2.Paired.mapP hl2 fun _ _ h => h.tk (sTk (s3.trans S36)), fun x hx => ⟨dr.okR x hx, fun z => by cases z⟩, dr.okC, dr.n4, dr.nmI, ke0, by decide, (fun z hz => by cases hz), mon_ct mon_vl _ _ _ _ S46 hc4, okc, rfl, fun r6 rs6 rows G7 H7 g7 s7 h7 n7 hr6 prow okrow lrow => ?_⟩
      have hs := tm.show_
      have hlen := tm.len (by decide)
      refine ⟨_, rfl, (by show 0 ≤ sizeLine; decide), fun e1 h1 => ?_⟩
      have S7 := same_new h1 (.tup [])
      have ke1 := upd_same (H := H7) (a := e1) (o := .tup [])
      generalize upd H7 e1 (.tup []) = H8 at S7 ke1 ⊢
      have S57 := s6.trans h7
      refine ⟨6, u, c1D c, e1, [], rfl, mon_dt (S57.trans S7) d5, wk_c1 c, by decide, ke1, fun u9 H9 s9 hu9' fr9 => ?_⟩
      refine ⟨6, u9, c1D c, rfl, hu9', by decide, hs, hlen, (fun z e => by cases e), ?_⟩
      refine ⟨_, rfl, 6, .ref pc, c1D c, rfl, mon_dt (h5.trans ((S57.trans S7).trans s9)) d4, by decide, hs, hlen, (fun z e => by cases e), rfl, _, rfl, ?_⟩
      refine ifF (by simp) ?_
      refine ⟨_, rfl, r6, rfl, ?_⟩
      refine row_l2 (H0 := H7) (s7 _ _ hr6) (S7.trans s9) fun J2 wk2 => ?_
      refine for_it wk2 (fun i σ H' => ∃ r6' f7 s8 : Option V, σ = [some (.ref a), some (.ref pn), some (.ref pi), some (.ref pc), some u, some (.ref r6), r6', f7, s8] ∧ Same H7 H') ⟨_, _, _, rfl, S7.trans s9⟩ (fun _ _ _ _ h => by obtain ⟨_, _, _, _, z⟩ := h; exact z) ?_ ?_
      · rintro i v σ H10' H10 hi ⟨r6', f7, s8, rfl, s10⟩ ⟨e3, hv⟩
        subst e3
        obtain ⟨rw2, grw, t, ps, ur, rfl, ht, hps, hd8⟩ := pget prow hv
        have g710 := s7.trans s10
        have ht := g710 _ _ ht
        have hps := g710 _ _ hps
        have hd8 := mon_dt g710 hd8
        obtain ⟨⟨hvat, ws, wrok, nows⟩, lsp, lz, kinds⟩ := okrow rw2 (List.mem_of_getElem? grw)
        have tmr := tm_vat tm hvat
        have nstr : ∀ z, rw2.d ≠ .str z := fun z e => by
          rcases kinds with ⟨v, e1, _⟩ | ⟨c, e1, _⟩
          · rw [e1] at e
            cases v with
            | sm s => cases s <;> cases e
            | _ => cases e
          · rw [e1] at e; cases e
        have S5x := S57.trans s10
        refine ⟨_, rfl, _, rfl, t, _, 0, _, rfl, rfl, SqT.of ht, atI_nat (j := 0) rfl, 6, u, c1D c, ps, rw2.s, rfl, mon_dt S5x d5, wk_c1 c, by decide, hps, fun u11 H11 s11 hu11 fr11 => ?_⟩
        rw [hvat] at hu11
        have hu11 : DtAt 6 H11 u11 rw2.d := hu11
        refine ⟨_, rfl, 6, u11, rw2.d, rfl, hu11, by decide, tmr.show_, tmr.len (by decide), nstr, ?_⟩
        refine ⟨_, rfl, t, _, 1, _, rfl, rfl, SqT.of (s11 _ _ ht), atI_nat (j := 1) rfl, 8, ur, rw2.d, rfl, mon_dt s11 hd8, by decide, tmr.show_, tmr.len (by decide), nstr, rfl, _, rfl, ?_⟩
        refine ifF (by simp) ?_
        cases hdd : rw2.d with
        | str z => exact (nstr z hdd).elim
        | int z =>
          rw [hdd] at hu11
          obtain rfl := dt_int.mp hu11
          refine ⟨_, rfl, _, _, _, _, false, rfl, .ty _, .base (.int _), kit_ty (by decide +kernel), _, rfl, iteF ?_⟩
          refine ⟨_, rfl, t, ps, ur, rw2.s, rw2.d, rw2.kd, ws, rfl, s11 _ _ ht, s11 _ _ hps, mon_dt s11 hd8, wrok, by omega, lz, fun rw rws H13 s13 hrw prw => ?_⟩
          refine ⟨rw, rfl, row_l hrw fun J3 wk3 => ?_⟩
          refine for_it wk3 (fun i σ H' => ∃ s8, σ = [some (.ref a), some (.ref pn), some (.ref pi), some (.ref pc), some u, some (.ref r6), some (.ref t), some (.int z), s8] ∧ Same H13 H') ⟨_, rfl, Same.refl _⟩ (fun _ _ _ _ h => by obtain ⟨_, _, z⟩ := h; exact z) ?_ ?_
          · rintro i v σ H14' H14 hi ⟨s8, rfl, s14⟩ ⟨e3, hv⟩
            subst e3
            obtain ⟨sw, gsw, psw, rfl, hpsw⟩ := pget prw hv
            refine ⟨_, rfl, _, rfl, 6, u, c1D c, psw, sw, rfl, mon_dt (S5x.trans (s11.trans (s13.trans s14))) d5, wk_c1 c, by decide, s14 _ _ hpsw, fun u15 H15 s15 hu15 _ => ?_⟩
            rw [nows sw (List.mem_of_getElem? gsw)] at hu15
            obtain rfl : u15 = .non := hu15
            exact ⟨_, rfl, iteF ⟨_, rfl, s14.trans s15⟩⟩
          · rintro σ H14 ⟨s8, rfl, s14⟩
            exact ⟨_, _, _, rfl, s10.trans (s11.trans (s13.trans s14))⟩
        | tup ll =>
          rw [hdd] at hu11
          obtain ⟨p11, x11, rfl, hp11, _⟩ := id hu11
          refine ⟨_, rfl, _, _, _, _, false, rfl, .ty _, .base (.tup hp11), kit_ty (by decide +kernel), _, rfl, iteF ?_⟩
          refine ⟨_, rfl, t, ps, ur, rw2.s, rw2.d, rw2.kd, ws, rfl, s11 _ _ ht, s11 _ _ hps, mon_dt s11 hd8, wrok, by omega, lz, fun rw rws H13 s13 hrw prw => ?_⟩
          refine ⟨rw, rfl, row_l hrw fun J3 wk3 => ?_⟩
          refine for_it wk3 (fun i σ H' => ∃ s8, σ = [some (.ref a), some (.ref pn), some (.ref pi), some (.ref pc), some u, some (.ref r6), some (.ref t), some (.ref p11), s8] ∧ Same H13 H') ⟨_, rfl, Same.refl _⟩ (fun _ _ _ _ h => by obtain ⟨_, _, z⟩ := h; exact z) ?_ ?_
          · rintro i v σ H14' H14 hi ⟨s8, rfl, s14⟩ ⟨e3, hv⟩
            subst e3
            obtain ⟨sw, gsw, psw, rfl, hpsw⟩ := pget prw hv
            refine ⟨_, rfl, _, rfl, 6, u, c1D c, psw, sw, rfl, mon_dt (S5x.trans (s11.trans (s13.trans s14))) d5, wk_c1 c, by decide, s14 _ _ hpsw, fun u15 H15 s15 hu15 _ => ?_⟩
            rw [nows sw (List.mem_of_getElem? gsw)] at hu15
            obtain rfl : u15 = .non := hu15
            exact ⟨_, rfl, iteF ⟨_, rfl, s14.trans s15⟩⟩
          · rintro σ H14 ⟨s8, rfl, s14⟩
            exact ⟨_, _, _, rfl, s10.trans (s11.trans (s13.trans s14))⟩
        | lst ll =>
          rw [hdd] at hu11
          obtain ⟨p11, x11, rfl, hp11, pl11, ll11⟩ := id hu11
          refine ⟨_, rfl, _, _, _, _, true, rfl, .ty _, .base (.lst hp11), kit_ty (by decide +kernel), _, rfl, iteT ?_⟩
          have s12 : Same H10 (upd H11 p11 (.lst (x11 ++ [.int 0]))) := same_set s11 (fr11 p11 rfl)
          refine ⟨_, rfl, .inl ⟨rfl, _, SqL.of hp11⟩, p11, x11, _, rfl, rfl, hp11, lt_line (by rw [plen pl11]; omega), ?_⟩
          generalize upd H11 p11 (.lst (x11 ++ [.int 0])) = H12 at s12 ⊢
          refine ⟨_, rfl, t, ps, ur, rw2.s, rw2.d, rw2.kd, ws, rfl, s12 _ _ ht, s12 _ _ hps, mon_dt s12 hd8, wrok, by omega, lz, fun rw rws H13 s13 hrw prw => ?_⟩
          refine ⟨rw, rfl, row_l hrw fun J3 wk3 => ?_⟩
          refine for_it wk3 (fun i σ H' => ∃ s8, σ = [some (.ref a), some (.ref pn), some (.ref pi), some (.ref pc), some u, some (.ref r6), some (.ref t), some (.ref p11), s8] ∧ Same H13 H') ⟨_, rfl, Same.refl _⟩ (fun _ _ _ _ h => by obtain ⟨_, _, z⟩ := h; exact z) ?_ ?_
          · rintro i v σ H14' H14 hi ⟨s8, rfl, s14⟩ ⟨e3, hv⟩
            subst e3
            obtain ⟨sw, gsw, psw, rfl, hpsw⟩ := pget prw hv
            refine ⟨_, rfl, _, rfl, 6, u, c1D c, psw, sw, rfl, mon_dt (S5x.trans (s12.trans (s13.trans s14))) d5, wk_c1 c, by decide, s14 _ _ hpsw, fun u15 H15 s15 hu15 _ => ?_⟩
            rw [nows sw (List.mem_of_getElem? gsw)] at hu15
            obtain rfl : u15 = .non := hu15
            exact ⟨_, rfl, iteF ⟨_, rfl, s14.trans s15⟩⟩
          · rintro σ H14 ⟨s8, rfl, s14⟩
            exact ⟨_, _, _, rfl, s10.trans (s12.trans (s13.trans s14))⟩
      · rintro σ H10 ⟨r6', f7, s8, rfl, s10⟩
        have cl := cl_c1 okc fun x hx z hz => dr.nmI.sok x hx z hz
        have S5x := S57.trans s10
        have d10 := mon_dt S5x d5
        have e10 := mon_dt (h5.trans S5x) d4
        refine ⟨_, rfl, _, rfl, _, _, dp_dt d10, dp_dt e10, shaped_dt cl d10 (by decide), shaped_dt cl e10 (by decide), ?_⟩
        rw [eqv_dt]
        have nmc : NmOk c := nm_of (nms1 okc) dr.nmI.top fun z hz => by
          obtain ⟨x, hx, rfl⟩ := List.mem_map.mp hz
          exact (dr.nmI.two x hx _ (name_in x)).1
        have nox : vat (c1D c) [Sum.inr "x"] = none := no_x (g := vlD) (R := c1D c) (s := []) nmc rfl
        refine ⟨_, rfl, iteF ?_⟩
        refine ⟨_, rfl, (by show 1 ≤ sizeLine; decide), fun e2 h2 => ?_⟩
        refine ⟨6, u, c1D c, e2, [Sum.inr "x"], rfl, mon_dt (same_new h2 _) d10, wk_c1 c, by decide, upd_same, fun u12 H12 s12 hu12 _ => ?_⟩
        rw [nox] at hu12
        obtain rfl : u12 = .non := hu12
        exact ⟨_, rfl, iteF ⟨_, _, _, _, _, _, rfl, S36.trans (h7.trans (s10.trans ((same_new h2 _).trans s12)))⟩⟩
    · rintro σ H4 ⟨c3, g4, r5, r6, f7, s8, rfl, s34⟩
      exact q H4
end
end Bm

set_option Elab.async false
set_option linter.all false
set_option maxRecDepth 100000
set_option maxHeartbeats 0
namespace Bm
open PySem L2
/-! the head of k82: what the top leaves, all defs together -/
def gDef (x : Str) (i : Nat) : He.DefD := ⟨(x, none), x, x, defArgs (top i), defBody (top i), defScope (top i), [], []⟩
def fns : List He.DefD := [gDef "copied" 1, gDef "value_at" 3, gDef "within" 4, gDef "_law_row" 6, gDef "_law_numbers" 7, gDef "_law_names" 8, gDef "_law_simple" 9, gDef "_law_block" 10, gDef "_law_nested" 11, gDef "_law_item" 12, gDef "_law_items" 13, gDef "_law_find" 14, gDef "_law_take" 15, gDef "_law_put_simple" 16, gDef "_law_put_block" 17, gDef "_law_written" 18, gDef "_law_run_number" 19, gDef "_law_run_plain" 20, gDef "_law_run_blocks" 21, gDef "_law_run_block" 22, gDef "_law_run" 23, gDef "_law_contents" 24, gDef "_law_copied" 25, gDef "_law_spots" 26, gDef "_law_wrong" 27, gDef "law" 28]
def fas : List He.Fa := [.glo "copied", .glo "value_at", .glo "within", .glo "_law_row", .glo "_law_numbers", .glo "_law_names", .glo "_law_simple", .glo "_law_block", .glo "_law_nested", .glo "_law_item", .glo "_law_items", .glo "_law_find", .glo "_law_take", .glo "_law_put_simple", .glo "_law_put_block", .glo "_law_written", .glo "_law_run_number", .glo "_law_run_plain", .glo "_law_run_blocks", .glo "_law_run_block", .glo "_law_run", .glo "_law_contents", .glo "_law_copied", .glo "_law_spots", .glo "_law_wrong", .glo "law", .free "isinstance", .free "int", .free "str", .free "list", .free "tuple", .free "len", .free "max", .free "min", .free "range", .free "abs", .free "sum", .free "repr"]
def tbs : List He.Tab := []
section
variable {P : Program} {w : World} {K : PySem.W.Frag} {mg : Str → Option Value} {h base : Heap} {C : Addr}
theorem fun_of {x q : Str} {st : Stmt} {f : Addr} {fd : FuncData} (F : FunD K x q (defArgs st) (defBody st) (defScope st) [] [] f fd) : Fun K x q st f fd := by
  obtain ⟨oc, od, dV, kV, doc, pm, an, cdv, ct, osl, rfl, lk, c, d, _⟩ := F.ex
  have e : dV = .none := d.elim (·.2) (fun z => absurd rfl z.1)
  subst e
  exact ⟨⟨oc, od, kV, doc, pm, an, cdv, ct, osl, rfl, lk, c⟩, F.kp⟩
theorem cal_of (X : K.In h) (G : h.Ns mainGlobals mg) (c : He.SaysT fas fns tbs w K) (j jg : Nat) {x : Str} {i : Nat} (e : fns[j]? = some (gDef x i)) (eg : fas[jg]? = some (.glo x)) {CX : CXT} {k : Nat} {ps : List Str} {sp : Sp}
    (bn : ∀ (f : Addr) (fd : FuncData), Fun K x x (top i) f fd → Binds K fd ps []) (ok : ∀ (f : Addr) (fd : FuncData), Fun K x x (top i) f fd → FnOk P w K mg base CX k f fd ps sp) : Cal P w K mg base CX k x ps sp := by
  obtain ⟨fd, FD⟩ := c.d.def_ j (d := gDef x i) e
  have F : Fun K x x (top i) (He.ga K x) fd := fun_of FD
  exact ⟨_, fd, He.glo_ok X G (c.d.fact jg eg), F.kp, bn _ fd F, ok _ fd F⟩
theorem Cal.no {CX : CXT} {j k : Nat} {x : Str} {ps : List Str} {sp sq : Sp} (g : Cal P w K mg base CX j x ps sp) (no : ∀ vs H Q E, ¬ sq vs H Q E) : Cal P w K mg base CX k x ps sq := by
  obtain ⟨f, fd, h1, h2, h3, h4⟩ := g.ex
  exact ⟨f, fd, h1, h2, h3, ⟨fun _ _ _ _ z => (no _ _ _ _ z).elim, fun _ _ _ _ _ _ _ _ _ _ _ _ _ z => (no _ _ _ _ z).elim⟩⟩
theorem facts (X : K.In h) (G : h.Ns mainGlobals mg) (c : He.SaysT fas fns tbs w K) {fa : Addr} (hfa : mg ("law" : Str) = some (.ref fa)) : ∃ fd : FuncData, (∀ (s : Shared) (v : Value), BindsTo s fd ⟨[v], []⟩ [("script", v)]) ∧ ∀ base : Heap, K.In base → base.Ns mainGlobals mg → FnG P w K mg base 11 fa fd ["script"] (spLaw K) := by
  have e := hfa.symm.trans (He.glo_ok X G (c.d.fact 25 (f := .glo "law") rfl))
  cases e
  obtain ⟨fd, FD⟩ := c.d.def_ 25 (d := gDef "law" 28) rfl
  have b := FunD.bindsA (ps := ["script"]) FD fun _ _ _ _ _ _ us hl => match us, hl with | [_], _ => rfl
  have F : Fun K "law" "law" sLaw (He.ga K "law") fd := fun_of FD
  refine ⟨fd, fun s v => b s [v] rfl, fun base _ _ => ?_⟩
  have gRow : Cal P w K mg base CX0 1 "_law_row" ["cell", "many"] (spRow) := cal_of X G c 3 3 (i := 6) rfl rfl (fun _ _ F => F.binds fun _ _ _ _ _ _ us hl => match us, hl with | [_, _], _ => rfl) fun _ _ F => ok_row F (He.free_ok X G (c.d.fact 35 (f := .free "abs") rfl)) (He.free_ok X G (c.d.fact 27 (f := .free "int") rfl)) (He.free_ok X G (c.d.fact 34 (f := .free "range") rfl))
  have gNum : Cal P w K mg base CX0 2 "_law_numbers" ["script", "many"] (spNums 150 K) := cal_of X G c 4 4 (i := 7) rfl rfl (fun _ _ F => F.binds fun _ _ _ _ _ _ us hl => match us, hl with | [_, _], _ => rfl) fun _ _ F => ok_nums (k := 1) (by decide) F gRow (He.free_ok X G (c.d.fact 32 (f := .free "max") rfl)) (He.free_ok X G (c.d.fact 31 (f := .free "len") rfl))
  have gNam : Cal P w K mg base CX0 1 "_law_names" ["number", "many"] (spNames) := cal_of X G c 5 5 (i := 8) rfl rfl (fun _ _ F => F.binds fun _ _ _ _ _ _ us hl => match us, hl with | [_, _], _ => rfl) fun _ _ F => ok_names F (He.free_ok X G (c.d.fact 31 (f := .free "len") rfl)) (He.free_ok X G (c.d.fact 34 (f := .free "range") rfl)) (He.free_ok X G (c.d.fact 27 (f := .free "int") rfl)) (He.free_ok X G (c.d.fact 33 (f := .free "min") rfl))
  have gSim : Cal P w K mg base CX0 1 "_law_simple" ["numbers", "at", "name"] (spSimp) := cal_of X G c 6 6 (i := 9) rfl rfl (fun _ _ F => F.binds fun _ _ _ _ _ _ us hl => match us, hl with | [_, _, _], _ => rfl) fun _ _ F => ok_simp F (He.free_ok X G (c.d.fact 27 (f := .free "int") rfl)) (He.free_ok X G (c.d.fact 33 (f := .free "min") rfl))
  have gBlk : Cal P w K mg base CX0 2 "_law_block" ["numbers", "at", "names", "many"] (spBlk) := cal_of X G c 7 7 (i := 10) rfl rfl (fun _ _ F => F.binds fun _ _ _ _ _ _ us hl => match us, hl with | [_, _, _, _], _ => rfl) fun _ _ F => ok_blk F gSim (He.free_ok X G (c.d.fact 34 (f := .free "range") rfl)) (He.free_ok X G (c.d.fact 30 (f := .free "tuple") rfl))
  have gNes : Cal P w K mg base CX0 3 "_law_nested" ["numbers", "at", "names", "ahead"] (spNest) := cal_of X G c 8 8 (i := 11) rfl rfl (fun _ _ F => F.binds fun _ _ _ _ _ _ us hl => match us, hl with | [_, _, _, _], _ => rfl) fun _ _ F => ok_nest F gBlk (He.free_ok X G (c.d.fact 27 (f := .free "int") rfl)) (He.free_ok X G (c.d.fact 31 (f := .free "len") rfl)) (He.free_ok X G (c.d.fact 34 (f := .free "range") rfl)) (He.free_ok X G (c.d.fact 30 (f := .free "tuple") rfl))
  have gItm : Cal P w K mg base CX0 4 "_law_item" ["numbers", "at", "names", "ahead", "checked"] (spItem) := cal_of X G c 9 9 (i := 12) rfl rfl (fun _ _ F => F.binds fun _ _ _ _ _ _ us hl => match us, hl with | [_, _, _, _, _], _ => rfl) fun _ _ F => ok_item F gNes (He.free_ok X G (c.d.fact 27 (f := .free "int") rfl)) (He.free_ok X G (c.d.fact 31 (f := .free "len") rfl)) (He.free_ok X G (c.d.fact 33 (f := .free "min") rfl))
  have gIts : Cal P w K mg base CX0 5 "_law_items" ["numbers", "at"] (spItems) := cal_of X G c 10 10 (i := 13) rfl rfl (fun _ _ F => F.binds fun _ _ _ _ _ _ us hl => match us, hl with | [_, _], _ => rfl) fun _ _ F => ok_items F gNam gItm (He.free_ok X G (c.d.fact 27 (f := .free "int") rfl)) (He.free_ok X G (c.d.fact 34 (f := .free "range") rfl)) (He.free_ok X G (c.d.fact 30 (f := .free "tuple") rfl))
  have gFin : Cal P w K mg base CX0 1 "_law_find" ["known", "count"] (spFind) := cal_of X G c 11 11 (i := 14) rfl rfl (fun _ _ F => F.binds fun _ _ _ _ _ _ us hl => match us, hl with | [_, _], _ => rfl) fun _ _ F => ok_find F (He.free_ok X G (c.d.fact 26 (f := .free "isinstance") rfl)) (He.free_ok X G (c.d.fact 28 (f := .free "str") rfl))
  have gTak : Cal P w K mg base CX0 1 "_law_take" ["numbers", "at", "many", "state"] (spTake) := cal_of X G c 12 12 (i := 15) rfl rfl (fun _ _ F => F.binds fun _ _ _ _ _ _ us hl => match us, hl with | [_, _, _, _], _ => rfl) fun _ _ F => ok_take F (He.free_ok X G (c.d.fact 27 (f := .free "int") rfl))
  have gPuS : Cal P w K mg base CX0 2 "_law_put_simple" ["item", "numbers", "at", "many", "state"] (spPutS) := cal_of X G c 13 13 (i := 16) rfl rfl (fun _ _ F => F.binds fun _ _ _ _ _ _ us hl => match us, hl with | [_, _, _, _, _], _ => rfl) fun _ _ F => ok_puts F gTak gFin (He.free_ok X G (c.d.fact 27 (f := .free "int") rfl)) (He.free_ok X G (c.d.fact 34 (f := .free "range") rfl))
  have gPuX : Cal P w K mg base CX0 2 "_law_put_block" ["block", "numbers", "at", "many", "state"] (fun _ _ _ _ => False) := cal_of X G c 14 14 (i := 17) rfl rfl (fun _ _ F => F.binds fun _ _ _ _ _ _ us hl => match us, hl with | [_, _, _, _, _], _ => rfl) fun _ _ F => ⟨fun _ _ _ _ z => z.elim, fun _ _ _ _ _ _ _ _ _ _ _ _ _ z => z.elim⟩
  have gPb0 : Cal P w K mg base CX0 3 "_law_put_block" ["block", "numbers", "at", "many", "state"] (spPutB 0) := cal_of X G c 14 14 (i := 17) rfl rfl (fun _ _ F => F.binds fun _ _ _ _ _ _ us hl => match us, hl with | [_, _, _, _, _], _ => rfl) fun _ _ F => ok_putb (k := 2) (by decide) F gPuS gTak gFin ((gPuX).no fun _ _ _ _ z => z) (He.free_ok X G (c.d.fact 27 (f := .free "int") rfl)) (He.free_ok X G (c.d.fact 34 (f := .free "range") rfl)) (He.free_ok X G (c.d.fact 31 (f := .free "len") rfl)) (He.free_ok X G (c.d.fact 36 (f := .free "sum") rfl))
  have gPb1 : Cal P w K mg base CX0 4 "_law_put_block" ["block", "numbers", "at", "many", "state"] (spPutB 1) := cal_of X G c 14 14 (i := 17) rfl rfl (fun _ _ F => F.binds fun _ _ _ _ _ _ us hl => match us, hl with | [_, _, _, _, _], _ => rfl) fun _ _ F => ok_putb (k := 3) (by decide) F gPuS gTak gFin gPb0 (He.free_ok X G (c.d.fact 27 (f := .free "int") rfl)) (He.free_ok X G (c.d.fact 34 (f := .free "range") rfl)) (He.free_ok X G (c.d.fact 31 (f := .free "len") rfl)) (He.free_ok X G (c.d.fact 36 (f := .free "sum") rfl))
  have gWri : Cal P w K mg base CX0 5 "_law_written" ["items", "numbers", "at", "many"] (spWri) := cal_of X G c 15 15 (i := 18) rfl rfl (fun _ _ F => F.binds fun _ _ _ _ _ _ us hl => match us, hl with | [_, _, _, _], _ => rfl) fun _ _ F => ok_wri F gPb1
  have gRn : Cal P w K mg base CX0 1 "_law_run_number" ["item", "file", "part", "stops"] (spRunS fun x => x.kind = "number") := cal_of X G c 16 16 (i := 19) rfl rfl (fun _ _ F => F.binds fun _ _ _ _ _ _ us hl => match us, hl with | [_, _, _, _], _ => rfl) fun _ _ F => ok_runn F (He.free_ok X G (c.d.fact 27 (f := .free "int") rfl)) (He.free_ok X G (c.d.fact 31 (f := .free "len") rfl))
  have gRp : Cal P w K mg base CX0 2 "_law_run_plain" ["item", "file", "part", "stops"] (spRunS fun x => x.kind ≠ "number") := cal_of X G c 17 17 (i := 20) rfl rfl (fun _ _ F => F.binds fun _ _ _ _ _ _ us hl => match us, hl with | [_, _, _, _], _ => rfl) fun _ _ F => ok_runp F gFin (He.free_ok X G (c.d.fact 27 (f := .free "int") rfl)) (He.free_ok X G (c.d.fact 31 (f := .free "len") rfl)) (He.free_ok X G (c.d.fact 34 (f := .free "range") rfl)) (He.free_ok X G (c.d.fact 36 (f := .free "sum") rfl))
  have gRkX : Cal P w K mg base CX0 2 "_law_run_blocks" ["item", "file", "part", "stops"] (fun _ _ _ _ => False) := cal_of X G c 18 18 (i := 21) rfl rfl (fun _ _ F => F.binds fun _ _ _ _ _ _ us hl => match us, hl with | [_, _, _, _], _ => rfl) fun _ _ F => ⟨fun _ _ _ _ z => z.elim, fun _ _ _ _ _ _ _ _ _ _ _ _ _ z => z.elim⟩
  have gRb0 : Cal P w K mg base CX0 3 "_law_run_block" ["block", "file", "part", "stops"] (spRunB 0) := cal_of X G c 19 19 (i := 22) rfl rfl (fun _ _ F => F.binds fun _ _ _ _ _ _ us hl => match us, hl with | [_, _, _, _], _ => rfl) fun _ _ F => ok_runb (k := 2) (by decide) F gRn gRp gRkX
  have gRk0 : Cal P w K mg base CX0 4 "_law_run_blocks" ["item", "file", "part", "stops"] (spRunK 0) := cal_of X G c 18 18 (i := 21) rfl rfl (fun _ _ F => F.binds fun _ _ _ _ _ _ us hl => match us, hl with | [_, _, _, _], _ => rfl) fun _ _ F => ok_runk (k := 3) (by decide) F gFin gRb0 (He.free_ok X G (c.d.fact 31 (f := .free "len") rfl)) (He.free_ok X G (c.d.fact 34 (f := .free "range") rfl))
  have gRb1 : Cal P w K mg base CX0 5 "_law_run_block" ["block", "file", "part", "stops"] (spRunB 1) := cal_of X G c 19 19 (i := 22) rfl rfl (fun _ _ F => F.binds fun _ _ _ _ _ _ us hl => match us, hl with | [_, _, _, _], _ => rfl) fun _ _ F => ok_runb (k := 4) (by decide) F gRn gRp gRk0
  have gRun : Cal P w K mg base CX0 6 "_law_run" ["items", "file"] (spRun) := cal_of X G c 20 20 (i := 23) rfl rfl (fun _ _ F => F.binds fun _ _ _ _ _ _ us hl => match us, hl with | [_, _], _ => rfl) fun _ _ F => ok_run F gRb1 (He.free_ok X G (c.d.fact 31 (f := .free "len") rfl))
  have gCon : Cal P w K mg base CX0 7 "_law_contents" ["items", "numbers", "at", "many"] (spCont) := cal_of X G c 21 21 (i := 24) rfl rfl (fun _ _ F => F.binds fun _ _ _ _ _ _ us hl => match us, hl with | [_, _, _, _], _ => rfl) fun _ _ F => ok_cont F (gWri.mono (by decide)) gRun (He.free_ok X G (c.d.fact 34 (f := .free "range") rfl))
  have copy : ∀ n, Cal P w K mg base CX0 (n + 1) "copied" ["value"] (spCopy n) ∧ Cal P w K mg base CX0 (n + 1) "_law_copied" ["value"] (spCopy n) := by
    have b0 : ∀ k, Cal P w K mg base CX0 k "copied" ["value"] (fun _ _ _ _ => False) := fun k => cal_of X G c 0 0 (i := 1) rfl rfl (fun _ _ F => F.binds fun _ _ _ _ _ _ us hl => match us, hl with | [_], _ => rfl) fun _ _ F => ⟨fun _ _ _ _ z => z.elim, fun _ _ _ _ _ _ _ _ _ _ _ _ _ z => z.elim⟩
    have b1 : ∀ k, Cal P w K mg base CX0 k "_law_copied" ["value"] (fun _ _ _ _ => False) := fun k => cal_of X G c 22 22 (i := 25) rfl rfl (fun _ _ F => F.binds fun _ _ _ _ _ _ us hl => match us, hl with | [_], _ => rfl) fun _ _ F => ⟨fun _ _ _ _ z => z.elim, fun _ _ _ _ _ _ _ _ _ _ _ _ _ z => z.elim⟩
    intro n
    induction n with
    | zero => exact ⟨cal_of X G c 0 0 (i := 1) rfl rfl (fun _ _ F => F.binds fun _ _ _ _ _ _ us hl => match us, hl with | [_], _ => rfl) fun _ _ F => ok_copyP F (b0 0) (He.free_ok X G (c.d.fact 26 (f := .free "isinstance") rfl)) (He.free_ok X G (c.d.fact 29 (f := .free "list") rfl)) (He.free_ok X G (c.d.fact 30 (f := .free "tuple") rfl)), cal_of X G c 22 22 (i := 25) rfl rfl (fun _ _ F => F.binds fun _ _ _ _ _ _ us hl => match us, hl with | [_], _ => rfl) fun _ _ F => ok_copyL F (b1 0) (He.free_ok X G (c.d.fact 26 (f := .free "isinstance") rfl)) (He.free_ok X G (c.d.fact 29 (f := .free "list") rfl)) (He.free_ok X G (c.d.fact 30 (f := .free "tuple") rfl))⟩
    | succ n ih => exact ⟨cal_of X G c 0 0 (i := 1) rfl rfl (fun _ _ F => F.binds fun _ _ _ _ _ _ us hl => match us, hl with | [_], _ => rfl) fun _ _ F => ok_copyP F ih.1 (He.free_ok X G (c.d.fact 26 (f := .free "isinstance") rfl)) (He.free_ok X G (c.d.fact 29 (f := .free "list") rfl)) (He.free_ok X G (c.d.fact 30 (f := .free "tuple") rfl)), cal_of X G c 22 22 (i := 25) rfl rfl (fun _ _ F => F.binds fun _ _ _ _ _ _ us hl => match us, hl with | [_], _ => rfl) fun _ _ F => ok_copyL F ih.2 (He.free_ok X G (c.d.fact 26 (f := .free "isinstance") rfl)) (He.free_ok X G (c.d.fact 29 (f := .free "list") rfl)) (He.free_ok X G (c.d.fact 30 (f := .free "tuple") rfl))⟩
  have gWit : Cal P w K mg base CX0 1 "within" ["value", "part"] (spWith) := cal_of X G c 2 2 (i := 4) rfl rfl (fun _ _ F => F.binds fun _ _ _ _ _ _ us hl => match us, hl with | [_, _], _ => rfl) fun _ _ F => ok_with F (He.free_ok X G (c.d.fact 26 (f := .free "isinstance") rfl)) (He.free_ok X G (c.d.fact 29 (f := .free "list") rfl)) (He.free_ok X G (c.d.fact 30 (f := .free "tuple") rfl)) (He.free_ok X G (c.d.fact 28 (f := .free "str") rfl)) (He.free_ok X G (c.d.fact 31 (f := .free "len") rfl))
  have gVat : Cal P w K mg base CX0 10 "value_at" ["content", "spot"] (spVat) := cal_of X G c 1 1 (i := 3) rfl rfl (fun _ _ F => F.binds fun _ _ _ _ _ _ us hl => match us, hl with | [_, _], _ => rfl) fun _ _ F => ok_vat (k := 9) (by decide) F gWit fun n hn => (copy n).1.mono (by omega)
  have gSpX : Cal P w K mg base CX0 0 "_law_spots" ["block", "spot", "content"] (fun _ _ _ _ => False) := cal_of X G c 23 23 (i := 26) rfl rfl (fun _ _ F => F.binds fun _ _ _ _ _ _ us hl => match us, hl with | [_, _, _], _ => rfl) fun _ _ F => ⟨fun _ _ _ _ z => z.elim, fun _ _ _ _ _ _ _ _ _ _ _ _ _ z => z.elim⟩
  have gSp0 : Cal P w K mg base CX0 1 "_law_spots" ["block", "spot", "content"] (spSpots 0) := cal_of X G c 23 23 (i := 26) rfl rfl (fun _ _ F => F.binds fun _ _ _ _ _ _ us hl => match us, hl with | [_, _, _], _ => rfl) fun _ _ F => ok_spots (by decide) F gSpX (He.free_ok X G (c.d.fact 31 (f := .free "len") rfl)) (He.free_ok X G (c.d.fact 34 (f := .free "range") rfl))
  have gSp1 : Cal P w K mg base CX0 2 "_law_spots" ["block", "spot", "content"] (spSpots 1) := cal_of X G c 23 23 (i := 26) rfl rfl (fun _ _ F => F.binds fun _ _ _ _ _ _ us hl => match us, hl with | [_, _, _], _ => rfl) fun _ _ F => ok_spots (by decide) F gSp0 (He.free_ok X G (c.d.fact 31 (f := .free "len") rfl)) (He.free_ok X G (c.d.fact 34 (f := .free "range") rfl))
  have gWro : Cal P w K mg base CX0 1 "_law_wrong" ["row"] (spWrong) := cal_of X G c 24 24 (i := 27) rfl rfl (fun _ _ F => F.binds fun _ _ _ _ _ _ us hl => match us, hl with | [_], _ => rfl) fun _ _ F => ok_wrong F (He.free_ok X G (c.d.fact 31 (f := .free "len") rfl))
  exact ok_law (k := 10) F (gNum.mono (by decide)) (gIts.mono (by decide)) (gCon.mono (by decide)) ((copy 6).2.mono (by decide)) (gSp1.mono (by decide)) gVat (gWro.mono (by decide)) (He.free_ok X G (c.d.fact 26 (f := .free "isinstance") rfl)) (He.free_ok X G (c.d.fact 29 (f := .free "list") rfl)) (He.free_ok X G (c.d.fact 37 (f := .free "repr") rfl))
end
theorem walk {l : PySem.W.OpenLaw} {q : Program} {loose : List Str} {XP : (Str → Option Value) → Heap → Prop} {YP : World → Heap → Prop} {d : DefRec} {K : Params → PySem.W.Frag} (hn : l.most = some 63) (hdf : d.params.defaults = [])
    (hY : ∀ (w : World) (h : Heap), YP w h → (K w.params).In h)
    (F : ∀ (w : World) (mg : Str → Option Value) (fa : Addr) (h : Heap), (K w.params).In h → h.Ns mainGlobals mg → mg d.name = some (.ref fa) →
      ∃ fd : FuncData, (∀ (s : Shared) (u : Value), BindsTo s fd ⟨[u], []⟩ [("script", u)]) ∧ ∀ base : Heap, (K w.params).In base → base.Ns mainGlobals mg → FnG l.prog w (K w.params) mg base 11 fa fd ["script"] (spLaw (K w.params))) :
    PySem.W.WalkO q loose XP YP l.row.toRowW d [] (fun f vs => PySem.call f vs) :=
  walkG (n := 63) (k := 11) (x := "script") (sp := fun w => spLaw (K w.params)) hn (by decide) hdf ⟨rfl, by decide, by decide⟩ hY F (fun _ _ a ns hl _ hS => ⟨a, ns, rfl, hS, hl, fun _ => rfl⟩)
end Bm

set_option Elab.async false
set_option linter.all false
set_option maxRecDepth 100000
set_option maxHeartbeats 0
open PySem PySem.W PyProof.Rows
theorem PySem.Challenge.cw_byteshape_k82_values_at_spots_holds : PySem.Challenge.rw_byteshape_k82_values_at_spots.Holds := by
  w_on; o_law; k_head; (case hw => w_witness2)
  k_fill
  refine Bm.walk (l := PySem.Challenge.rw_byteshape_k82_values_at_spots) rfl rfl (fun w h Y => PySem.W.kIn_of Y) ?F
  case F =>
    intro w mg fa h KX G hmg
    refine Bm.facts KX G ?c hmg
    case c =>
      show He.obsT Bm.fas Bm.fns Bm.tbs _ = He.valT Bm.fns Bm.tbs w
      kernel_rfl

