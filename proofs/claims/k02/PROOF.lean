import PyProof.Rows.All
import Wide.All
import OpenK.AllK
import Wide.FinOn
import HandS.ForMost
import HandS.Exc
import HandS.ExcOwn
import HandS.TryOnly
import HandS.WordsExc
import KE.GoesComp
import KE.GoesRaise
import HandS.Conv
import HandS.More
import HandS.IsInst
import HandS.FStr
import HandS.Star
import HandS.RaiseMore
import HandS.ExcIs
import HandS.DictComp
import HandS.Zip
import HandS.TupAny
import HandS.CallLocal
import HandS.Flow
import HandS.EndBits
import PySem.Challenge.RW_byteshape_k02_names
import HandS.Walk
import HandS.Strs
import KE.KAssignIn
import HandS.Ends
import HandS.Defaults
import HandS.HeadEnd
import HandS.HeadHook1
import HandS.HeadHook2
import HandS.HeadHook3
set_option Elab.async false
set_option linter.all false
set_option maxRecDepth 100000
set_option maxHeartbeats 4000000
namespace Rj
open PySem PySem.Spec PyProof.Rows L2

/-! ### a list comprehension whose element may raise -/
/-- an exception that a call in the block let out: sI is the state ahead of it, in the block's context Y -/
def Fell (Y : Cx) (E : XK) (u : Value) (s' : Shared) : Prop :=
  ∃ (a : Addr) (B : Heap) (sI : Shared) (pn : List (Addr × Obj)) (σ : L2.St) (H : Hp) (cls : Value) (d : Option Addr), u = .ref a ∧ Inv Y pn σ H sI ∧
    (∀ b o, sI.heap.get? b = some o → b ∉ frs Y.stack → B.get? b = some o) ∧ sI.heap.UpToSlots s'.heap ∧ HandSPX.FlyingZ B Y.stack a (Zc cls d) s'.heap ∧ H a = none ∧ s'.os = sI.os ∧ AllBare s'.gens ∧ E cls d H

theorem fell_of_call {Y : Cx} {pn : List (Addr × Obj)} {σ : L2.St} {H : Hp} {s s' : Shared} {E : XK} {u : Value} (I : Inv Y pn σ H s) (c : L2.CX Y.prog Y.w Y.stack H s E u s') : Fell Y E u s' := by
  obtain ⟨a, B, H', cls, d, eu, fl, hok, ub, na, eo, ag, hE⟩ := c
  obtain ⟨G, gin, gout⟩ := restrict s'.heap fun b => (B.get? b).isSome || decide (b ∈ frs Y.stack)
  have stay : B.StaysIn s'.heap := fl.1
  have ofB : ∀ b o, B.get? b = some o → G.get? b = some o := fun b o e => (gin b (by simp [e])).trans (stay b o e)
  have ofF : ∀ b, b ∈ frs Y.stack → G.get? b = s'.heap.get? b := fun b hb => gin b (by simp [hb])
  have back : ∀ b o, G.get? b = some o → s'.heap.get? b = some o ∧ ((B.get? b).isSome = true ∨ b ∈ frs Y.stack) := fun b o e => by
    by_cases q : ((B.get? b).isSome || decide (b ∈ frs Y.stack)) = true
    · exact ⟨(gin b q).symm.trans e, by simpa using q⟩
    · have z := gout b (by simpa using q)
      rw [z] at e
      cases e
  refine ⟨a, B, ⟨G, s'.gens, s'.drawn, s'.toks, s.os⟩, pn, σ, H', cls, d, eu, ?_, fun b o e hb => ?_, Heap.UpToSlots.of_keeps fun b o e => (back b o e).1, fl, na, eo, ag, hE⟩
  · exact I.call (ch := []) ⟨fun b o e n hb _ => ofB b o (ub.keep b o e n hb), fun b o e n hb _ => (ub.slot b o e hb).imp fun sl q => (ofF b hb).trans q, fun b o e n _ => ub.free b o e n,
      fun b o e _ => (Classical.em (b ∈ frs Y.stack)).elim (fun hb => let ⟨sl, q⟩ := ub.slot b o e hb; ⟨_, (ofF b hb).trans q⟩) (fun hb => let ⟨o', q⟩ := ub.there b o e hb; ⟨o', ofB b o' q⟩), ub.tups, ub.frzs, ub.tbls⟩
      (hok.kept ofB) ag (fun _ z => nomatch z)
  · obtain ⟨e1, h1⟩ := back b o e
    rcases h1 with h1 | h1
    · obtain ⟨o', q⟩ := Option.isSome_iff_exists.mp h1
      have z := stay b o' q
      rw [e1] at z
      cases z
      exact q
    · exact absurd h1 hb

/-- what may leave the block is passed on -/
theorem fell_passes {Y : Cx} {E : XK} : Passes (L2.CX (Y.wish (Fell Y E)).prog (Y.wish (Fell Y E)).w) (Y.wish (Fell Y E)) E := fun _ _ _ _ _ _ I c => fell_of_call I.unwish c

theorem flyingZ_less {B B' h : Heap} {l : List Env} {e : Addr} {Z : Obj → Prop} (x : HandSPX.FlyingZ B l e Z h) (sub : ∀ b o, B'.get? b = some o → B.get? b = some o) : HandSPX.FlyingZ B' l e Z h := by
  obtain ⟨k1, k2, k3, oe, vs, T, oT, ts, t1, t2, t3, t4, t5, t6⟩ := x
  have nn : ∀ b, B.get? b = none → B'.get? b = none := fun b n => by
    cases q : B'.get? b with
    | none => rfl
    | some o => rw [sub b o q] at n; cases n
  exact ⟨fun b o e => k1 b o (sub b o e), nn _ k2, funFrames_none k3 fun L hL => nn L (k3.mem hL).1, oe, vs, T, oT, ts, t1, t2, t3, t4, nn _ t5, t6⟩

theorem heldZ_but {B h h' : Heap} {l : List Env} {e L C : Addr} {Z : Obj → Prop} {m m' : Str → Option Value} (x : HandSPX.HeldZ B l e Z L h) (nB : B.get? C = none) (hn : h.Ns C m) (hn' : h'.Ns C m') (sb : Heap.SameBut C h h') : HandSPX.HeldZ B l e Z L h' := by
  obtain ⟨k1, k2, k3, oe, vs, T, oT, ts, t1, t2, t3, t4, t5, t6, t7, t8, t9⟩ := x
  obtain ⟨oC, es, ep, c1, c2, _⟩ := hn
  have ne1 : e ≠ C := fun z => by rw [z, c1] at t1; cases t1; rw [c2] at t3; cases t3
  have ne2 : T ≠ C := fun z => by rw [z, c1] at t7; cases t7; rw [c2] at t8; cases t8
  exact ⟨fun b o q => (sb.2 b fun z => by rw [z, nB] at q; cases q).trans (k1 b o q), k2, Heap.FunFrames.sameBut sb hn' k3, oe, vs, T, oT, ts, (sb.2 e ne1).trans t1, t2, t3, t4, t5, t6, (sb.2 T ne2).trans t7, t8, t9⟩

theorem UpToSlots.tr {a b c : Heap} (x : a.UpToSlots b) (y : b.UpToSlots c) : a.UpToSlots c := x.trans y

section
variable {X : Cx}
/-- the exception leaves the block and goes on in the def -/
theorem fell_out {Ex : XK} {pn : List (Addr × Obj)} {σ : L2.St} {H3 : Hp} {s3 s' : Shared} {scope : Scope} {ce : Env} {fp : List Addr} {u : Value}
    (hst : X.stack = X.env :: X.outer) (hfr : X.env.frame = some X.env.locals) (cfr : ce.frame = X.env.frame) (cL : ce.locals = s3.heap.objs.size)
    (tk : Takes X fun cls d _ H => Ex cls d H) (I3 : Inv X pn σ H3 s3)
    (f3 : ∀ b ∈ fp, FpOk X pn H3 b ∧ b < s3.heap.objs.size)
    (x : Fell (X.blk s3 H3 scope ce fp) Ex u s') : notedBy (model X.prog X.w) X.A ce (CompFails (model X.prog X.w) X.A X.xe ce) u s' := by
  obtain ⟨a, B, sI, pb, σb, Hb, cls, d, rfl, Ib, nb, up, fl, na, eo, ag, hE⟩ := x
  have fl : HandSPX.FlyingZ B X.stack a (Zc cls d) s'.heap := fl
  have nb : ∀ b o, sI.heap.get? b = some o → b ∉ frs X.stack → B.get? b = some o := nb
  -- the ground without the block's names
  obtain ⟨B', b1, b2⟩ := restrict B fun b => decide (b ≠ ce.locals)
  have sub : ∀ b o, B'.get? b = some o → B.get? b = some o := fun b o e => by
    by_cases q : b = ce.locals
    · have z := b2 b (by simp [q]); rw [z] at e; cases e
    · exact (b1 b (by simp [q])).symm.trans e
  have nBC : B'.get? ce.locals = none := b2 _ (by simp)
  have fl' := flyingZ_less fl sub
  -- back in the def's context, the block's names hidden
  have I7 : Inv X pn σ Hb sI := I3.call' (ch := fp) Ib.os Ib.base Ib.hok Ib.bare fun b hb => ⟨(f3 b hb).1.2.2.2.1, (f3 b hb).1.2.1, (f3 b hb).1.2.2.2.2.1, (f3 b hb).1.2.2.2.2.2⟩
  have nC : Hb ce.locals = none := Ib.free
  have fC : FpOk X pn Hb ce.locals := I3.fpOk (Nat.le_of_eq cL.symm) nC
  obtain ⟨G, g1, g2⟩ := restrict sI.heap fun b => decide (b ≠ ce.locals)
  obtain ⟨h0, h1, h2, h3, h4, h5⟩ := fC
  have I8 : Inv X pn σ Hb { sI with heap := G, toks := sI.toks } := I7.turned (fun b o hb e => (g1 b (by simp [hb])).trans e) h0 h1 h3 h4 h5
  have subG : ∀ b o, G.get? b = some o → b ≠ ce.locals ∧ sI.heap.get? b = some o := fun b o e => by
    by_cases q : b = ce.locals
    · have z := g2 b (by simp [q]); rw [z] at e; cases e
    · exact ⟨q, (g1 b (by simp [q])).symm.trans e⟩
  obtain ⟨m0, hn0, _⟩ := Ib.loc
  have hn0 : sI.heap.Ns ce.locals m0 := hn0
  have frA : X.A.frames = some (X.env :: X.outer) := by rw [I3.ok.frames, hst]
  rw [hst] at fl'
  show wpAny _ _ (noteFrame (.ref a) ce) _ _ s'
  rw [PySem.noteFrame_env _ cfr]
  refine HandSPX.looks_onZ Zc.steady frA hfr fl' fun k1 held1 upk => ?_
  have up1 : sI.heap.UpToSlots k1 := up.trans upk
  have hn1 : k1.Ns ce.locals m0 := hn0.upToSlots up1
  refine ⟨m0, hn1, fun k2 m2 hn2 sb => ?_⟩
  have held2 := heldZ_but held1 nBC hn1 hn2 sb
  obtain ⟨q1, q2, q3, oe, vs, T, oT, ts, t1, t2, t3, t4, t5⟩ := id held2
  unfold PySem.passOn
  refine wpAny_bind (wpAny_field t1 t3 t4 ?_)
  rw [if_neg (show ¬ ((Value.ref T == Value.none) = true) from by simp)]
  have fin : wpAny (model X.prog X.w) X.A (setFlight (.ref a) ce.frame) (fun _ s4 => wpAny (model X.prog X.w) X.A (throw (.ref a) : Sem Value) (fun _ _ => False) X.xe s4) X.xe { s' with heap := k2 } := by
    rw [cfr, hfr]
    refine HandSPX.setFlight_onZ held2 fun k3 held3 up3 => wpAny_throw (tk _ _ ?_)
    refine ⟨a, B', { sI with heap := G, toks := sI.toks }, pn, σ, Hb, cls, d, rfl, I8, fun b o e hb => ?_, fun b o e hnf => ?_, .inr (.inr (by rw [hst]; exact held3)), na, eo, ag, hE⟩
    · obtain ⟨z1, z2⟩ := subG b o e
      exact (b1 b (by simp [z1])).trans (nb b o z2 hb)
    · obtain ⟨z1, z2⟩ := subG b o e
      obtain ⟨sl, e1⟩ := up1 b o z2 hnf
      obtain ⟨sl', e2⟩ := up3 b _ ((sb.2 b z1).trans e1) hnf
      exact ⟨sl', e2⟩
  first
    | exact wpAny_bind (wpAny_pure (wpAny_bind fin))
    | exact wpAny_bind fin
end
section
variable {X : Cx}
/-- the reading of a comprehension whose element may raise what Ex wants -/
theorem lcx_core {Ex : XK} {pins : List (Addr × Obj)} {s : Shared} {σ : L2.St} {H : Hp} {Q : VK} {elt tg iter : Expr} {scope : Scope} {own : List (Str × Nat)} {pos pos' : Pos} {wi : TI} {g : TG} {te : TE} {use : Option (Value → Sem Unit)} {Qf : Value → Shared → Prop}
    (hc : X.calm = true) (hN : X.N.Nodup) (hst : X.stack = X.env :: X.outer) (hfr : X.env.frame = some X.env.locals) (tk : Takes X fun cls d _ H => Ex cls d H) (I : Inv X pins σ H s) (hi : PI X tg iter wi) (ok : BlkOk X.N X.env.scope scope own)
    (hg : ∀ (s : Shared) (H : Hp) (C : Addr) (cl : List (Str × Addr)) (fp : List Addr), PG (X.blk s H scope (compEnvC scope cl C X.env) fp) tg g)
    (he : ∀ (s : Shared) (H : Hp) (C : Addr) (cl : List (Str × Addr)) (fp : List Addr), PE ((X.blk s H scope (compEnvC scope cl C X.env) fp).wish (Fell (X.blk s H scope (compEnvC scope cl C X.env) fp) Ex)) elt te)
    (hs : ∀ x, foldedSetIterable iter X.env x = pure x) (h : tLc wi g tYes te (own.map (·.2)) σ H Q)
    (hRR : ∀ D ce s' m H', Inv X pins σ H' s' → Q (.ref D) H' → s'.heap.Ns ce.locals m → FpOk X pins H' ce.locals → compEnds (model X.prog X.w) X.A X.xe use Qf (.ref D) ce (.ok .next) s') :
    wpAny (model X.prog X.w) X.A (comprehension (.ListComp elt [⟨tg, iter, [], 0⟩] scope pos) scope X.env pos' (newList []) false (eval iter X.env) use) Qf X.xe s := by
  have frees : ∀ y ∈ scope.names, y.2 = .free → ∃ c, X.env.cells.lookup y.1 = some c := fun y hy e => (ok.free y hy e).elim (fun k => I.ok.has _ (.inl k)) fun k => I.ok.has _ (.inr k)
  refine comprehension_at (use := use) rfl hs (closure_ok frees) ok.kind (fun y hy e => (ok.uniq y hy).trans (congrArg some e)) (thn (hi.run pins s σ H _ I h) fun xv s1 hx => thn hx fun itv s2 h2 => ?_)
  obtain ⟨it, fp, tn, J, H2, eit, I2, T, st2, f2, q⟩ := h2
  subst eit
  refine wpAny_newObj_type (newEnv_comp ?_) (Nat.zero_le _)
  generalize hD : s2.heap.objs.size = D
  have freshD : H2 D = none := I2.hok.fresh (Nat.le_of_eq hD)
  obtain ⟨W, ⟨m0, w0⟩, turn⟩ := q D freshD
  generalize hs3 : ({ s2 with heap := s2.heap.push { cls := .type "list", data := .seq ([] : List Value).toArray } } : Shared) = s3
  have e3 : s3.heap = s2.heap.push { cls := .type "list", data := .seq ([] : List Value).toArray } := by rw [← hs3]
  have kept3 : ∀ b o, s2.heap.get? b = some o → s3.heap.get? b = some o := fun b o e => by rw [e3]; exact Heap.get?_push_of_some _ e
  have I3 : Inv X pins σ (upd H2 D (.lst [])) s3 := by
    subst hs3
    exact I2.laid (t' := s2.toks) kept3 (Nat.le_of_eq hD) ⟨Nat.zero_le _, [], 0, .nil, by rw [← hD]; exact Heap.get?_push_size _ rfl⟩
  have lt2 : ∀ b ∈ fp, b < s2.heap.objs.size := fun b hb => let ⟨o, e, _⟩ := T.obj _ _ st2 b hb; Heap.lt_size e
  have f3 : ∀ b ∈ fp, FpOk X pins (upd H2 D (.lst [])) b ∧ b < s3.heap.objs.size := fun b hb =>
    ⟨⟨(upd_ne (by rw [← hD]; exact Nat.ne_of_lt (lt2 b hb))).trans (f2 b hb).1, (f2 b hb).2⟩, by rw [e3, Heap.size_push]; exact Nat.lt_succ_of_lt (lt2 b hb)⟩
  have st3 : tn 0 s3.heap := T.keep _ _ _ st2 fun b _ o e => kept3 b o e
  have I4 := block_start I3 ok hN f3
  have pg := hg s3 (upd H2 D (.lst [])) s3.heap.objs.size (cellsFrom (s3.heap.objs.size + 1) scope.names (cloFrom X.env.cells scope.names [])) fp
  have pe := he s3 (upd H2 D (.lst [])) s3.heap.objs.size (cellsFrom (s3.heap.objs.size + 1) scope.names (cloFrom X.env.cells scope.names [])) fp
  show codeAny _ _ (.compStart (.ListComp elt [⟨tg, iter, [], 0⟩] scope pos) 0 (.ref it) (.ref D) (compEnvC scope (cellsFrom (s3.heap.objs.size + 1) scope.names (cloFrom X.env.cells scope.names [])) s3.heap.objs.size X.env))
    (compEnds (model X.prog X.w) X.A X.xe use Qf (.ref D) (compEnvC scope (cellsFrom (s3.heap.objs.size + 1) scope.names (cloFrom X.env.cells scope.names [])) s3.heap.objs.size X.env)) { s3 with heap := pushCells (s3.heap.push { cls := .type "dict", data := .dict #[] }) scope.names }
  have nfp : ∀ b ∈ fp, (upd H2 D (.lst [])) b = none := fun b hb => (f3 b hb).1.1
  have cfr : (compEnvC scope (cellsFrom (s3.heap.objs.size + 1) scope.names (cloFrom X.env.cells scope.names [])) s3.heap.objs.size X.env).frame = X.env.frame := rfl
  have cL : (compEnvC scope (cellsFrom (s3.heap.objs.size + 1) scope.names (cloFrom X.env.cells scope.names [])) s3.heap.objs.size X.env).locals = s3.heap.objs.size := rfl
  generalize compEnvC scope (cellsFrom (s3.heap.objs.size + 1) scope.names (cloFrom X.env.cells scope.names [])) s3.heap.objs.size X.env = ce at I4 pg pe cfr cL ⊢
  generalize upd H2 D (.lst []) = H3 at I3 I4 pg pe w0 nfp f3
  generalize hs4 : ({ s3 with heap := pushCells (s3.heap.push { cls := .type "dict", data := .dict #[] }) scope.names } : Shared) = s4 at I4 ⊢
  have st4 : tn 0 s4.heap := T.keep _ _ _ st3 fun b _ o e => by subst hs4; exact pushCells_keeps _ _ _ _ (Heap.get?_push_of_some _ e)
  have static : ∀ {σ' : L2.St} {H' : Hp} {s' : Shared}, Inv (X.blk s3 H3 scope ce fp) [] σ' H' s' → (∀ b ∈ fp, H' b = none) → ∀ b ∈ fp, FpOk (X.blk s3 H3 scope ce fp) [] H' b := fun {σ' H' s'} I' n b hb =>
    ⟨n b hb, (I'.ok.exf b hb).1, I'.ok.exfs b hb, .inl hb, fun x c e => (I'.ok.exf b hb).2 x c e, fun p hp => by cases hp⟩
  have loop : codeAny (model X.prog X.w) X.A (.compLoop (.ListComp elt [⟨tg, iter, [], 0⟩] scope pos) 0 (.ref it) (.ref D) ce) (compEnds (model X.prog X.w) X.A X.xe use Qf (.ref D) ce) s4 := by
    refine compLoop_any (fun n s' => ∃ i H', Inv (X.blk s3 H3 scope ce fp) [] (wipe σ (own.map (·.2))) H' s' ∧ tn i s'.heap ∧ (∀ b ∈ fp, H' b = none) ∧ W i n H') ?_ m0 ⟨0, H3, I4, st4, nfp, w0⟩
    rintro n s5 ⟨i, H5, I5, st5, n5, w5⟩
    rcases turn i n H5 w5 with ⟨stop, qq⟩ | ⟨go, Nx, hNx, step⟩
    · refine thnF (T.done (X.blk s3 H3 scope ce fp) rfl rfl rfl hc i [] s5 _ H5 (fun _ _ => False) I5 (static I5 n5) st5 stop) fun r s6 ⟨er, I6⟩ => ?_
      subst er
      have I7 : Inv X pins σ H5 s6 := I3.call' (ch := fp) I6.os I6.base I6.hok I6.bare fun b hb => ⟨(f3 b hb).1.2.2.2.1, (f3 b hb).1.2.1, (f3 b hb).1.2.2.2.2.1, (f3 b hb).1.2.2.2.2.2⟩
      have nC : H5 ce.locals = none := I6.free
      obtain ⟨m, hn, _⟩ := I6.loc
      exact hRR D ce s6 m H5 I7 qq hn (I3.fpOk (Nat.le_of_eq cL.symm) nC)
    · refine thnF (T.item (X.blk s3 H3 scope ce fp) rfl rfl rfl hc i [] s5 _ H5 (fun _ _ => False) I5 (static I5 n5) st5 go) fun r s6 ⟨u, er, h6⟩ => ?_
      subst er
      refine thnF h6 fun _ s7 ⟨x, H7, I7, r7, y7, st7, n7⟩ => ?_
      have I7' := I7.pinned (static I7 n7) (T.obj _ _ st7)
      refine thnF (pg.run _ s7 _ H7 x u _ I7' r7 (step x H7 y7)) fun _ s8 ⟨σ8, H8, I8, hw8, q8⟩ => ?_
      have q8 : te σ8 H8 fun y H4 => ∃ acc, H4 D = some (.lst acc) ∧ acc.length < sizeLine ∧ Nx (upd H4 D (.lst (acc ++ [y]))) := by simpa [tYes] using q8
      have fin : ∀ {s' : Shared} {H' : Hp}, Inv (X.blk s3 H3 scope ce fp) ([] ++ pinsAt fp s7.heap) σ8 H' s' → Nx H' → ∃ m, m < n ∧ ∃ i H', Inv (X.blk s3 H3 scope ce fp) [] (wipe σ (own.map (·.2))) H' s' ∧ tn i s'.heap ∧ (∀ b ∈ fp, H' b = none) ∧ W i m H' := fun {s' H'} I' nx => by
        obtain ⟨m', hm, w'⟩ := hNx H' nx
        have pinned : ∀ b ∈ fp, ∀ o, s7.heap.get? b = some o → s'.heap.get? b = some o ∧ H' b = none := fun b hb o e =>
          let z := I'.pin (b, o) (List.mem_append_right _ (List.mem_append_right _ (mem_pinsAt hb e)))
          ⟨z.1, z.2.1⟩
        have len8 : (wipe σ (own.map (·.2))).length = σ8.length := by rw [← hw8, wipe_length]
        refine ⟨m', hm, i + 1, H', (I'.unpinned (pins := [])).weak len8 (fun j v e => ?_), T.keep _ _ _ st7 fun b hb o e => (pinned b hb o e).1, fun b hb => ?_, w'⟩
        · rw [← hw8] at e
          exact (wipe_some e).1
        · obtain ⟨o, e, _⟩ := T.obj _ _ st7 b hb
          exact (pinned b hb o e).2
      refine wpAny_tests_nil ?_
      simp only [if_true]
      refine wpAny_mono (pe.run _ s8 σ8 H8 _ (I8.wish _) q8) (fun z s10 ⟨yv, H10, I10, r10, acc, hD10, hz10, nx⟩ => ?_) fun u' s' fe => fell_out hst hfr cfr cL tk I3 f3 fe
      exact app_ok (X := X.blk s3 H3 scope ce fp) I10.unwish hD10 hz10 r10 fun s11 I11 => fin I11 nx
  exact codeAny_compStart_list loop (T.self X.A 0 _ _ _ st4 loop)
/-- as a value -/
theorem pe_lcx {Ex : XK} {elt tg iter : Expr} {scope : Scope} {own : List (Str × Nat)} {pos : Pos} {wi : TI} {g : TG} {te : TE} (hst : X.stack = X.env :: X.outer) (hfr : X.env.frame = some X.env.locals) (tk : Takes X fun cls d _ H => Ex cls d H) (hc : X.calm = true) (hN : X.N.Nodup) (hi : PI X tg iter wi) (ok : BlkOk X.N X.env.scope scope own)
    (hg : ∀ (s : Shared) (H : Hp) (C : Addr) (cl : List (Str × Addr)) (fp : List Addr), PG (X.blk s H scope (compEnvC scope cl C X.env) fp) tg g)
    (he : ∀ (s : Shared) (H : Hp) (C : Addr) (cl : List (Str × Addr)) (fp : List Addr), PE ((X.blk s H scope (compEnvC scope cl C X.env) fp).wish (Fell (X.blk s H scope (compEnvC scope cl C X.env) fp) Ex)) elt te)
    (hs : ∀ x, foldedSetIterable iter X.env x = pure x := by intro _; rfl) : PE X (.ListComp elt [⟨tg, iter, [], 0⟩] scope pos) (tLc wi g tYes te (own.map (·.2))) := by
  refine ⟨fun pins s σ H Q I h => ?_⟩
  rw [eval_ListComp]
  refine lcx_core (use := none) hc hN hst hfr tk I hi ok hg he hs h fun D ce s' m H' I' q hn ⟨f0, f1, f2, f3, f4, f5⟩ => ⟨m, hn, fun h2 sb => ?_⟩
  exact ⟨.ref D, H', I'.turned (t' := s'.toks) (fun b o hb e => (sb.2 b hb).trans e) f0 f1 f3 f4 f5, rfl, q⟩
/-- y = [..], y a local -/
theorem ps_setLcx {Ex : XK} {i : Nat} {y : Str} {py : Pos} {elt tg iter : Expr} {scope : Scope} {own : List (Str × Nat)} {pos spos : Pos} {wi : TI} {g : TG} {te : TE} (hst : X.stack = X.env :: X.outer) (hfr : X.env.frame = some X.env.locals) (tk : Takes X fun cls d _ H => Ex cls d H) (hc : X.calm = true) (hN : X.N.Nodup)
    (hy : X.N[i]? = some y) (hyl : X.env.scope.names.lookup y = some .local) (hsw : swapsWith (.ListComp elt [⟨tg, iter, [], 0⟩] scope pos) (some (.Name y py)) spos.line X.env = pure true) (hi : PI X tg iter wi) (ok : BlkOk X.N X.env.scope scope own)
    (hg : ∀ (s : Shared) (H : Hp) (C : Addr) (cl : List (Str × Addr)) (fp : List Addr), PG (X.blk s H scope (compEnvC scope cl C X.env) fp) tg g)
    (he : ∀ (s : Shared) (H : Hp) (C : Addr) (cl : List (Str × Addr)) (fp : List Addr), PE ((X.blk s H scope (compEnvC scope cl C X.env) fp).wish (Fell (X.blk s H scope (compEnvC scope cl C X.env) fp) Ex)) elt te)
    (hs : ∀ x, foldedSetIterable iter X.env x = pure x := by intro _; rfl) : PS X (.Assign [.Name y py] (.ListComp elt [⟨tg, iter, [], 0⟩] scope pos) spos) (tAsg (tLc wi g tYes te (own.map (·.2))) (gName i)) := by
  refine ⟨fun pins s σ H D I h => ?_⟩
  rw [exec_Assign_Name_used _ _ _ _ hsw]
  refine wpAny_bind (wpAny_standAt (wpAny_bind ?_))
  show wpAny _ X.A (do let _ ← comprehension (.ListComp elt [⟨tg, iter, [], 0⟩] scope pos) scope X.env (firstIterPos [⟨tg, iter, [], 0⟩] pos) (newList []) false (eval iter X.env) (some (assign (.Name y py) X.env))) _ _ s
  have h' : tLc wi g tYes te (own.map (·.2)) σ H (fun x H1 => gName i x σ H1 D.nx) := h
  refine wpAny_bind (thn (lcx_core (Qf := fun _ s' => SP X pins D .next s') (use := some (assign (.Name y py) X.env)) hc hN hst hfr tk I hi ok hg he hs h' fun L ce s' m H' I' q hn ⟨f0, f1, f2, f3, f4, f5⟩ => ?_) fun _ s' hq => wpAny_pure (wpAny_pure hq))
  refine wpAny_assign_Name (store_ok2 (v := V.ref L) I' hN hy (.inl hyl) rfl (fun s2 I2 ⟨a, sb, ha⟩ => ?_) (.inr hyl))
  have apart : ce.locals ≠ a := ha.elim (fun z => by rw [z]; exact f1) fun z e => f4 y a z e.symm
  exact ⟨m, hn.sameBut sb apart, fun h3 sb3 => ⟨_, H', I2.turned (t' := s2.toks) (fun b o hb e => (sb3.2 b hb).trans e) f0 f1 f3 f4 f5, q⟩⟩
end
end Rj

set_option Elab.async false
set_option linter.all false
set_option maxRecDepth 100000
set_option maxHeartbeats 4000000
/-! The text by places, the mirror of shapes, the heap's relation to it. -/
namespace Bs
open PySem L2
def top (i : Nat) : Stmt := PySem.Challenge.pw_byteshape_k02_names.main.body.getD i (.Pass ⟨0, 0, 0, 0⟩)
abbrev sBlocksOf : Stmt := top 6
abbrev sListed : Stmt := top 7
abbrev sIsInteger : Stmt := top 15
abbrev sRequire : Stmt := top 16
abbrev sAmount : Stmt := top 17
abbrev sNumber : Stmt := top 18
abbrev sBytes : Stmt := top 19
abbrev sText : Stmt := top 20
abbrev sRepeat : Stmt := top 21
abbrev sEither : Stmt := top 22
abbrev sSwitch : Stmt := top 23
abbrev sCheck : Stmt := top 24
abbrev sPad : Stmt := top 25
abbrev sListLen : Stmt := top 27
abbrev sIsName : Stmt := top 37
abbrev sIsRow : Stmt := top 38
abbrev sCopList : Stmt := top 39
abbrev sCopItem : Stmt := top 40
abbrev sCopChoices : Stmt := top 41
abbrev sCopCases : Stmt := top 42
abbrev sInit : Stmt := inClass (top 43) 0
abbrev sLawRow : Stmt := top 45
abbrev sLawNumbers : Stmt := top 46
abbrev sLawTaken : Stmt := top 47
abbrev sLaw : Stmt := top 48

/-! ### names -/
abbrev letters : Str := "abcdefghijklmnopqrstuvwxyz"
abbrev digits : Str := "0123456789"
def isLetter (c : Nat) : Bool := decide (c ∈ letters.cps.toList)
def isDigit (c : Nat) : Bool := decide (c ∈ digits.cps.toList)
def isSign (c : Nat) : Bool := isLetter c || isDigit c
def nameOk : List Nat → Bool
  | [] => false
  | c :: r => decide (r.length < 12) && (isLetter c && (c :: r).all isSign)
def isName (z : Str) : Bool := nameOk z.cps.toList

/-! ### shapes -/
mutual
inductive It where
  | num (n : Str) (size : Int) (order : Str) (low high : Int)
  | byt (n : Str) (amt : Key)
  | txt (n : Str) (stop most : Int)
  | rep (n : Str) (amt : Key) (body : Its)
  | eit (n : Str) (bs : Blks)
  | swi (n : Str) (tag : Str) (bs : Blks)
  | chk (n : Str) (m : Int)
  | pad (n : Str) (m b : Int)
inductive Its where
  | nil | cons (x : It) (r : Its)
inductive Blks where
  | nil | cons (v : Int) (b : Its) (r : Blks)
end
def It.name : It → Str
  | .num n .. => n | .byt n .. => n | .txt n .. => n | .rep n .. => n | .eit n .. => n | .swi n .. => n | .chk n .. => n | .pad n .. => n
def Its.len : Its → Nat
  | .nil => 0 | .cons _ r => r.len + 1
def Blks.len : Blks → Nat
  | .nil => 0 | .cons _ _ r => r.len + 1
def Blks.vals : Blks → List Int
  | .nil => [] | .cons v _ r => v :: r.vals

/-! ### an item as a value: fz says that all rows are tuples -/
def RowAt (fz : Bool) (H : Hp) (p : Addr) (xs : List V) : Prop := H p = some (.tup xs) ∨ (fz = false ∧ H p = some (.lst xs))
mutual
def It.At (fz : Bool) (H : Hp) : It → V → Prop
  | .num n size order low high, v => ∃ p, v = .ref p ∧ H p = some (.tup [.str "number", .str n, .int size, .str order, .int low, .int high])
  | .byt n amt, v => ∃ p, v = .ref p ∧ H p = some (.tup [.str "bytes", .str n, kV amt])
  | .txt n stop most, v => ∃ p, v = .ref p ∧ H p = some (.tup [.str "text", .str n, .int stop, .int most])
  | .rep n amt b, v => ∃ p q xs, v = .ref p ∧ H p = some (.tup [.str "repeat", .str n, kV amt, .ref q]) ∧ RowAt fz H q xs ∧ b.At fz H xs
  | .eit n bs, v => ∃ p q xs, v = .ref p ∧ H p = some (.tup [.str "either", .str n, .ref q]) ∧ RowAt fz H q xs ∧ bs.AtE fz H xs
  | .swi n tag bs, v => ∃ p q xs, v = .ref p ∧ H p = some (.tup [.str "switch", .str n, .str tag, .ref q]) ∧ RowAt fz H q xs ∧ bs.AtS fz H xs
  | .chk n m, v => ∃ p, v = .ref p ∧ H p = some (.tup [.str "check", .str n, .int m])
  | .pad n m b, v => ∃ p, v = .ref p ∧ H p = some (.tup [.str "pad", .str n, .int m, .int b])
def Its.At (fz : Bool) (H : Hp) : Its → List V → Prop
  | .nil, l => l = []
  | .cons x r, l => ∃ v l', l = v :: l' ∧ x.At fz H v ∧ r.At fz H l'
def Blks.AtE (fz : Bool) (H : Hp) : Blks → List V → Prop
  | .nil, l => l = []
  | .cons _ b r, l => ∃ q xs l', l = .ref q :: l' ∧ RowAt fz H q xs ∧ b.At fz H xs ∧ r.AtE fz H l'
def Blks.AtS (fz : Bool) (H : Hp) : Blks → List V → Prop
  | .nil, l => l = []
  | .cons v b r, l => ∃ p q xs l', l = .ref p :: l' ∧ H p = some (.tup [.int v, .ref q]) ∧ RowAt fz H q xs ∧ b.At fz H xs ∧ r.AtS fz H l'
end
/-- what an item leans on is kept: tuples; where it may have lists, these, too -/
structure Kp (fz : Bool) (H H' : Hp) : Prop where
  t : ∀ b xs, H b = some (.tup xs) → H' b = some (.tup xs)
  l : fz = false → ∀ b xs, H b = some (.lst xs) → H' b = some (.lst xs)
theorem Kp.of {fz : Bool} {H H' : Hp} (s : Same H H') : Kp fz H H' := ⟨fun _ _ h => s _ _ h, fun _ _ _ h => s _ _ h⟩
theorem RowAt.kp {fz : Bool} {H H' : Hp} {p : Addr} {xs : List V} (s : Kp fz H H') (h : RowAt fz H p xs) : RowAt fz H' p xs := h.imp (s.t _ _) fun ⟨a, b⟩ => ⟨a, s.l a _ _ b⟩
theorem RowAt.same {fz : Bool} {H H' : Hp} {p : Addr} {xs : List V} (s : Same H H') (h : RowAt fz H p xs) : RowAt fz H' p xs := h.kp (.of s)
mutual
theorem It.At.kp {fz : Bool} {H H' : Hp} (s : Kp fz H H') : ∀ {x : It} {v : V}, x.At fz H v → x.At fz H' v
  | .num .., _, h => by simp only [It.At] at h ⊢; obtain ⟨p, e, h⟩ := h; exact ⟨p, e, s.t _ _ h⟩
  | .byt .., _, h => by simp only [It.At] at h ⊢; obtain ⟨p, e, h⟩ := h; exact ⟨p, e, s.t _ _ h⟩
  | .txt .., _, h => by simp only [It.At] at h ⊢; obtain ⟨p, e, h⟩ := h; exact ⟨p, e, s.t _ _ h⟩
  | .chk .., _, h => by simp only [It.At] at h ⊢; obtain ⟨p, e, h⟩ := h; exact ⟨p, e, s.t _ _ h⟩
  | .pad .., _, h => by simp only [It.At] at h ⊢; obtain ⟨p, e, h⟩ := h; exact ⟨p, e, s.t _ _ h⟩
  | .rep .., _, h => by simp only [It.At] at h ⊢; obtain ⟨p, q, xs, e, h, r, b⟩ := h; exact ⟨p, q, xs, e, s.t _ _ h, r.kp s, Its.At.kp s b⟩
  | .eit .., _, h => by simp only [It.At] at h ⊢; obtain ⟨p, q, xs, e, h, r, b⟩ := h; exact ⟨p, q, xs, e, s.t _ _ h, r.kp s, Blks.AtE.kp s b⟩
  | .swi .., _, h => by simp only [It.At] at h ⊢; obtain ⟨p, q, xs, e, h, r, b⟩ := h; exact ⟨p, q, xs, e, s.t _ _ h, r.kp s, Blks.AtS.kp s b⟩
theorem Its.At.kp {fz : Bool} {H H' : Hp} (s : Kp fz H H') : ∀ {x : Its} {v : List V}, x.At fz H v → x.At fz H' v
  | .nil, _, h => by simp only [Its.At] at h ⊢; exact h
  | .cons .., _, h => by simp only [Its.At] at h ⊢; obtain ⟨v, l', e, h, r⟩ := h; exact ⟨v, l', e, It.At.kp s h, Its.At.kp s r⟩
theorem Blks.AtE.kp {fz : Bool} {H H' : Hp} (s : Kp fz H H') : ∀ {x : Blks} {v : List V}, x.AtE fz H v → x.AtE fz H' v
  | .nil, _, h => by simp only [Blks.AtE] at h ⊢; exact h
  | .cons .., _, h => by simp only [Blks.AtE] at h ⊢; obtain ⟨q, xs, l', e, a, b, r⟩ := h; exact ⟨q, xs, l', e, a.kp s, Its.At.kp s b, Blks.AtE.kp s r⟩
theorem Blks.AtS.kp {fz : Bool} {H H' : Hp} (s : Kp fz H H') : ∀ {x : Blks} {v : List V}, x.AtS fz H v → x.AtS fz H' v
  | .nil, _, h => by simp only [Blks.AtS] at h ⊢; exact h
  | .cons .., _, h => by simp only [Blks.AtS] at h ⊢; obtain ⟨p, q, xs, l', e, z, a, b, r⟩ := h; exact ⟨p, q, xs, l', e, s.t _ _ z, a.kp s, Its.At.kp s b, Blks.AtS.kp s r⟩
end
theorem It.At.same {fz : Bool} {H H' : Hp} (s : Same H H') {x : It} {v : V} (h : x.At fz H v) : x.At fz H' v := h.kp (.of s)
theorem Its.At.same {fz : Bool} {H H' : Hp} (s : Same H H') {x : Its} {v : List V} (h : x.At fz H v) : x.At fz H' v := h.kp (.of s)
theorem Blks.AtE.same {fz : Bool} {H H' : Hp} (s : Same H H') {x : Blks} {v : List V} (h : x.AtE fz H v) : x.AtE fz H' v := h.kp (.of s)
theorem Blks.AtS.same {fz : Bool} {H H' : Hp} (s : Same H H') {x : Blks} {v : List V} (h : x.AtS fz H v) : x.AtS fz H' v := h.kp (.of s)
/-- a list is written -/
theorem Kp.wr {H : Hp} {D : Addr} {xs : List V} {o : HO} (h : H D = some (.lst xs)) : Kp true H (upd H D o) :=
  ⟨fun b ys e => by rw [upd_ne (ne_of e h (by intro z; cases z))]; exact e, fun z => by cases z⟩
theorem Kp.trans {fz : Bool} {H H1 H2 : Hp} (a : Kp fz H H1) (b : Kp fz H1 H2) : Kp fz H H2 := ⟨fun x y h => b.t _ _ (a.t _ _ h), fun z x y h => b.l z _ _ (a.l z _ _ h)⟩
theorem Its.At.len {fz : Bool} {H : Hp} : ∀ {x : Its} {l : List V}, x.At fz H l → l.length = x.len
  | .nil, _, h => by simp only [Its.At] at h; subst h; rfl
  | .cons _ r, _, h => by simp only [Its.At] at h; obtain ⟨v, l', e, h, b⟩ := h; subst e; simp [Its.len, Its.At.len b]
theorem Blks.AtE.len {fz : Bool} {H : Hp} : ∀ {x : Blks} {l : List V}, x.AtE fz H l → l.length = x.len
  | .nil, _, h => by simp only [Blks.AtE] at h; subst h; rfl
  | .cons _ _ r, _, h => by simp only [Blks.AtE] at h; obtain ⟨q, xs, l', e, a, b, c⟩ := h; subst e; simp [Blks.len, Blks.AtE.len c]
theorem Blks.AtS.len {fz : Bool} {H : Hp} : ∀ {x : Blks} {l : List V}, x.AtS fz H l → l.length = x.len
  | .nil, _, h => by simp only [Blks.AtS] at h; subst h; rfl
  | .cons _ _ r, _, h => by simp only [Blks.AtS] at h; obtain ⟨p, q, xs, l', e, z, a, b, c⟩ := h; subst e; simp [Blks.len, Blks.AtS.len c]

/-! ### what is copied -/
mutual
def It.ok (d : Int) : It → Bool
  | .rep n _ b => isName n && (decide (d ≤ 2) && (decide (b.len ≤ 12) && b.ok (d + 1)))
  | .eit n bs => isName n && (decide (d ≤ 2) && (decide (2 ≤ bs.len ∧ bs.len ≤ 4) && bs.ok (d + 1)))
  | .swi n _ bs => isName n && (decide (d ≤ 2) && (decide (1 ≤ bs.len ∧ bs.len ≤ 8) && bs.ok (d + 1)))
  | x => isName x.name && decide (d ≤ 3)
def Its.ok (d : Int) : Its → Bool
  | .nil => true
  | .cons x r => x.ok d && r.ok d
def Blks.ok (d : Int) : Blks → Bool
  | .nil => true
  | .cons _ b r => (decide (b.len ≤ 12) && b.ok d) && r.ok d
end

/-! ### lengths -/
abbrev Env := Str → Option (Int × Int)
def Env.put (f : Env) (n : Str) (p : Int × Int) : Env := fun y => if y = n then some p else f y
def amount (f : Env) (most : Int) : Key → Option (Int × Int)
  | .inl i => if 0 ≤ i ∧ i ≤ most then some (i, i) else none
  | .inr z => match f z with
    | some p => if p.2 ≤ most then some p else none
    | none => none
def numOk (size : Int) (order : Str) (low high : Int) : Bool :=
  decide (1 ≤ size ∧ size ≤ 2) && (decide (order = "big" ∨ order = "little") && (decide (0 ≤ high ∧ high ≤ (if size = 1 then 255 else 65535)) && decide (0 ≤ low ∧ low ≤ high)))
def spread (r : List (Int × Int)) : Option (Int × Int) := match (r.map (·.1)).min?, (r.map (·.2)).max? with
  | some a, some b => some (a, b)
  | _, _ => none
mutual
def It.lens (f : Env) : It → Option (Int × Int)
  | .num _ size order low high => if numOk size order low high = true then some (size, size) else none
  | .byt _ amt => amount f 64 amt
  | .txt _ stop most => if (0 ≤ stop ∧ stop ≤ 255) ∧ 0 ≤ most ∧ most ≤ 64 then some (1, most + 1) else none
  | .rep _ amt b => match amount f 16 amt, b.lens f with
    | some a, some l => if 1 ≤ l.1 then some (a.1 * l.1, a.2 * l.2) else none
    | _, _ => none
  | .eit _ bs => match bs.lens f with
    | some r => if (r.filter fun p => decide (p.1 = 0)).length ≤ 1 then spread r else none
    | none => none
  | .swi _ tag bs => if (f tag).isSome = true ∧ (∀ v ∈ bs.vals, 0 ≤ v ∧ v ≤ 65535) ∧ bs.vals.Nodup then (match bs.lens f with
    | some r => spread r
    | none => none) else none
  | .chk _ m => if 1 ≤ m ∧ m ≤ 16 then some (1, 1) else none
  | .pad _ m b => if (m = 1 ∨ m = 2 ∨ m = 4 ∨ m = 8 ∨ m = 16) ∧ 0 ≤ b ∧ b ≤ 255 then some (0, m - 1) else none
def Its.lens (f : Env) : Its → Option (Int × Int)
  | .nil => some (0, 0)
  | .cons x r => match x.lens f, r.lens (match x with | .num n _ _ low high => f.put n (low, high) | _ => f) with
    | some a, some b => some (a.1 + b.1, a.2 + b.2)
    | _, _ => none
def Blks.lens (f : Env) : Blks → Option (List (Int × Int))
  | .nil => some []
  | .cons _ b r => match b.lens f, r.lens f with
    | some a, some l => some (a :: l)
    | _, _ => none
end

/-! ### the items in their order -/
mutual
def It.walk (d : Int) : It → List (Int × It)
  | .rep n a b => (d, .rep n a b) :: b.walk (d + 1)
  | .eit n bs => (d, .eit n bs) :: bs.walk (d + 1)
  | .swi n t bs => (d, .swi n t bs) :: bs.walk (d + 1)
  | x => [(d, x)]
def Its.walk (d : Int) : Its → List (Int × It)
  | .nil => []
  | .cons x r => x.walk d ++ r.walk d
def Blks.walk (d : Int) : Blks → List (Int × It)
  | .nil => []
  | .cons _ b r => b.walk d ++ r.walk d
end
def It.isChk : It → Bool
  | .chk .. => true
  | _ => false
def Its.names (x : Its) : List Str := (x.walk 0).map (·.2.name)
def Its.shape (x : Its) : Bool :=
  (decide (x.len ≤ 12) && x.ok 0) && (decide (1 ≤ x.len) && (decide ((x.walk 0).length ≤ 30) && (decide x.names.Nodup && (decide (((x.walk 0).filter (·.2.isChk)).length ≤ 1) && (x.lens fun _ => none).isSome))))
end Bs

set_option Elab.async false
set_option linter.all false
set_option maxRecDepth 100000
set_option maxHeartbeats 4000000
namespace Bs
open PySem L2
abbrev veB : List Value := [.type "ValueError", .type "Exception", .type "BaseException", .type "object"]
/-- the class InvalidShape at C -/
structure ShpC (K : PySem.W.Frag) (mg : Str → Option Value) (C : Addr) : Prop where
  gC : mg "InvalidShape" = some (.ref C)
  kC : PySem.W.keepIn K (.ref C) = true
  xC : PySem.W.excIn K C veB "ValueError.__new__" = true
  bC : PySem.W.subIn K (.ref C) (.type "BaseException") = some true
  tC : PySem.W.typeIn K (.ref C) = some (.type "type")
/-- a module's int -/
def GInt (mg : Str → Option Value) (x : Str) (i : Int) : Prop := ∃ t, mg x = some (.int i t)
def GStr (mg : Str → Option Value) (x : Str) (z : Str) : Prop := ∃ t, mg x = some (.str z t)
theorem pe_gint {X : Cx} {x : Str} {i : Int} {pos : Pos} (h : GInt X.mg x i) (hg : Gl X x) (hd : (x == ("__debug__" : Str)) = false := by decide) : PE X (.Name x pos) (tC (.int i)) := by
  obtain ⟨t, e⟩ := h
  exact pe_glob hg e ⟨t, rfl⟩ hd
theorem pe_gstr {X : Cx} {x : Str} {z : Str} {pos : Pos} (h : GStr X.mg x z) (hg : Gl X x) (hd : (x == ("__debug__" : Str)) = false := by decide) : PE X (.Name x pos) (tC (.str z)) := by
  obtain ⟨t, e⟩ := h
  exact pe_glob hg e ⟨t, rfl⟩ hd
/-- require: nothing, or the error -/
def spRequire (C : Addr) : Sp := fun vs H Q E => ∃ b z, vs = [.bl b, .str z] ∧ (b = true → Q .non H) ∧ (b = false → E (.ref C) none H)
/-- is_integer, of an int -/
def spIsInt : Sp := fun vs H Q _ => ∃ i lo hi : Int, vs = [.int i, .int lo, .int hi] ∧ Q (.bl (decide (lo ≤ i ∧ i ≤ hi))) H
section
variable {P : Program} {w : World} {K : PySem.W.Frag} {mg : Str → Option Value} {base : Heap} {f C : Addr} {fd : FuncData}
theorem scRequire : FnScope ["holds", "words"] ["holds", "words"] (defScope sRequire) := ⟨rfl, rfl, rfl, by decide +kernel, rfl, by decide +kernel, by decide +kernel⟩
theorem ok_require (F : Fun K "require" "require" sRequire f fd) (T : ShpC K mg C) : FnOk P w K mg base (L2.CX P w) 1 f fd ["holds", "words"] (spRequire C) := by
  refine F.okX scRequire (fun vs H Q E h => ?_) (fun cdv A outer s H vs Q E hr h => ?_)
  · obtain ⟨b, z, rfl, _⟩ := h
    rfl
  · obtain ⟨b, z, rfl, q1, q2⟩ := h
    refine ⟨_, pss_one (ps_if (pt_not (pt_val (pv 0))) (pss_one (ps_raise rfl (takes_of rfl rfl rfl rfl) (SkE.pmk_own1 PySem.F.excBase_ValueError T.xC T.gC T.kC (raises_own T.bC T.tC) rfl (pv 1)))) pss_nil), ?_⟩
    refine ⟨_, rfl, _, rfl, ?_⟩
    cases b with
    | true => exact iteF (q1 rfl)
    | false => exact iteT ⟨_, rfl, q2 rfl⟩
theorem scIsInt : FnScope ["value", "low", "high"] ["value", "low", "high"] (defScope sIsInteger) := ⟨rfl, rfl, rfl, by decide +kernel, rfl, by decide +kernel, by decide +kernel⟩
theorem ok_isint (F : Fun K "is_integer" "is_integer" sIsInteger f fd) (mi : mg "isinstance" = none) (mint : mg "int" = none) (mb : mg "bool" = none) : FnOk P w K mg base CX0 1 f fd ["value", "low", "high"] spIsInt := by
  refine F.ok scIsInt (fun vs H Q E h => ?_) (fun cdv A outer s H vs Q E hr h => ?_)
  · obtain ⟨i, lo, hi, rfl, _⟩ := h
    rfl
  · obtain ⟨i, lo, hi, rfl, q⟩ := h
    refine ⟨_, pss_one (ps_ret (pe_and (pe_callB call_isi (by rfl) mi (by decide +kernel) (pa_cons (pv 0) (pa_cons (pe_bltn (v := .ty "int") (by rfl) mint (by decide +kernel) rfl) pa_nil)))
      (pe_and (pe_not (pe_callB call_isi (by rfl) mi (by decide +kernel) (pa_cons (pv 0) (pa_cons (pe_bltn (v := .ty "bool") (by rfl) mb (by decide +kernel) rfl) pa_nil)))) (pe_one (pe_chain op_le op_le (pv 1) (pv 0) (pv 2)))))), ?_⟩
    refine ⟨_, rfl, _, _, _, _, true, rfl, .ty _, .base (.int _), kit_ty (by decide +kernel), _, rfl, iteT ?_⟩
    refine ⟨_, rfl, _, _, _, _, false, rfl, .ty _, .base (.int _), kit_ty (by decide +kernel), _, rfl, _, rfl, iteT ?_⟩
    refine ⟨_, rfl, _, rfl, _, _, rfl, rfl, _, rfl, ?_⟩
    by_cases c : lo ≤ i
    · rw [if_pos (decide_eq_true c)]
      refine ⟨_, rfl, _, _, rfl, rfl, ?_⟩
      show Q (.bl (decide (i ≤ hi))) H
      rw [show decide (i ≤ hi) = decide (lo ≤ i ∧ i ≤ hi) by simp [c]]
      exact q
    · rw [if_neg (by simpa using c)]
      rw [show decide (lo ≤ i ∧ i ≤ hi) = false by simp [c]] at q
      exact q
end
end Bs

set_option Elab.async false
set_option linter.all false
set_option maxRecDepth 100000
set_option maxHeartbeats 4000000
namespace Bs
open PySem L2
def spIsName : Sp := fun vs H Q _ => ∃ z : Str, vs = [.str z] ∧ z.length ≤ sizeLine ∧ ∀ H', Same H H' → Q (.bl (isName z)) H'
/-- is_row of a list or tuple -/
def spIsRow : Sp := fun vs H Q _ => ∃ (p : Addr) (xs : List V) (lo hi : Int), vs = [.ref p, .int lo, .int hi] ∧ RowAt false H p xs ∧ ∀ H', Same H H' → Q (.bl (decide (lo ≤ (xs.length : Int) ∧ (xs.length : Int) ≤ hi))) H'
theorem same_new {H : Hp} {p : Addr} (h : H p = none) (o : HO) : Same H (upd H p o) := fun b u q => by rw [upd_ne (ne_of_none q h)]; exact q
theorem same_set {H H' : Hp} {p : Addr} {o : HO} (s : Same H H') (h : H p = none) : Same H (upd H' p o) := fun b u q => by rw [upd_ne (ne_of_none q h)]; exact s b u q
theorem yes_go {te : TE} {σ : L2.St} {H : Hp} {R : V → Hp → Prop} {N : Hp → Prop} (h : te σ H R) : tYes σ H fun b H3 => if b = true then te σ H3 R else N H3 := by
  show if true = true then te σ H R else N H
  rw [if_pos rfl]
  exact h
theorem sizeLine_big : 16777216 = sizeLine := by decide
theorem le_line {n : Nat} (h : n ≤ 16777216) : n ≤ sizeLine := by rw [← sizeLine_big]; exact h
theorem nameOk_len {l : List Nat} (h : ¬ (1 ≤ l.length ∧ l.length ≤ 12)) : nameOk l = false := by
  cases l with
  | nil => rfl
  | cons c r =>
    have : ¬ r.length < 12 := fun q => h ⟨by simp, q⟩
    rw [nameOk, decide_eq_false this]; rfl
section
variable {P : Program} {w : World} {K : PySem.W.Frag} {mg : Str → Option Value} {base : Heap} {f C : Addr} {fd : FuncData}
theorem scIsName : FnScope ["text", "one"] ["text"] (defScope sIsName) := ⟨rfl, rfl, rfl, by decide +kernel, rfl, by decide +kernel, by decide +kernel⟩
theorem ok_isname (F : Fun K "is_name" "is_name" sIsName f fd) (mi : mg "isinstance" = none) (ms : mg "str" = none) (ml : mg "len" = none) (ma : mg "all" = none) (gL : GStr mg "LETTERS" letters) (gD : GStr mg "DIGITS" digits) (gN : GInt mg "LONGEST_NAME" 12) :
    FnOk P w K mg base CX0 1 f fd ["text"] spIsName := by
  refine F.ok scIsName (fun vs H Q E h => ?_) (fun cdv A outer s H vs Q E hr h => ?_)
  · obtain ⟨z, rfl, _⟩ := h
    rfl
  · obtain ⟨z, rfl, hz, q⟩ := h
    refine ⟨_, pss_cons (ps_if (PW.pt (pw_or (pt_not (pt_val (pe_callB call_isi (by rfl) mi (by decide +kernel) (pa_cons (pv 0) (pa_cons (pe_bltn (v := .ty "str") (by rfl) ms (by decide +kernel) rfl) pa_nil)))))
        (pw_or1 (pt_not (pt_chain op_le op_le pe_int (pe_callB call_len_str (by rfl) ml boot_len (pa_cons (pv 0) pa_nil)) (pe_gint gN rfl)))))) (pss_one (ps_ret pe_bl)) pss_nil)
      (pss_one (ps_ret (pe_and (pe_cmpR op_in_sign (pe_item_str (pv 0) pe_int (fun _ _ => rfl)) (pe_gstr gL rfl) rfl)
        (pe_one (pe_callB (cr_all rfl) (by rfl) ma (by decide +kernel) (pa_cons (pe_lc (own := [("one", 1)]) (g := gName 1) (tt := tYes) rfl scIsName.nd (pi_str (pv 0)) (blkOk_by (own := [("one", 1)]) (N := ["text", "one"]) (sc := defScope sIsName) (by decide +kernel))
          (fun _ _ _ _ _ => pg_name (i := 1) scIsName.nd rfl (Or.inl rfl)) (fun _ _ _ _ _ => pts_nil)
          (fun _ _ _ _ _ => pe_or (pe_cmpR op_in_sign (pv 1) (pe_gstr gL rfl) rfl) (pe_one (pe_cmpR op_in_sign (pv 1) (pe_gstr gD rfl) rfl)))) pa_nil)))))), ?_⟩
    refine ⟨_, rfl, _, _, _, _, true, rfl, .ty _, .base (.str _), kit_ty (by decide +kernel), _, rfl, ?_⟩
    refine iteF ?_
    refine ⟨_, rfl, z, rfl, hz, _, _, rfl, rfl, _, rfl, ?_⟩
    have hl : z.length = z.cps.toList.length := by simp [Str.length]
    have bad : ¬ (1 ≤ (z.length : Int) ∧ (z.length : Int) ≤ 12) → isName z = false := fun h => nameOk_len fun ⟨h1, h2⟩ => h (by rw [hl]; omega)
    have out : isName z = false → Q (.bl false) H := fun e => by have z := q H (Same.refl H); rw [e] at z; exact z
    refine ite2 (fun c => ?_) (fun c => ?_)
    · have c : 1 ≤ (z.length : Int) := of_decide_eq_true c
      refine ⟨_, _, rfl, rfl, _, rfl, ?_⟩
      refine ite2 (fun d => ?_) (fun d => ?_)
      · have d : ¬ (z.length : Int) ≤ 12 := by simpa using d
        exact out (bad fun h => d h.2)
      · have d : (z.length : Int) ≤ 12 := by simpa using d
        obtain ⟨a, r, hzr⟩ : ∃ a r, z.cps.toList = a :: r := by
          cases e : z.cps.toList with
          | nil => rw [hl, e] at c; simp at c
          | cons a r => exact ⟨a, r, rfl⟩
        have h0 : z.cps[0]? = some a := by rw [← Array.getElem?_toList, hzr]; rfl
        have hr12 : r.length < 12 := by rw [hl, hzr] at d; simp at d; omega
        have hN : isName z = (isLetter a && (a :: r).all isSign) := by
          show nameOk z.cps.toList = _
          rw [hzr, nameOk, decide_eq_true hr12]; rfl
        refine ⟨_, rfl, z, 0, a, rfl, rfl, by decide, by decide, by omega, h0, a, letters, rfl, rfl, _, rfl, ?_⟩
        refine ite2 (fun e => ?_) (fun e => ?_)
        · have e : isLetter a = true := e
          refine ⟨_, rfl, z, rfl, fun D hD => lc_it (walk_str (z := z)) (fun i H' => Same H H' ∧ H' D = some (.lst ((((a :: r).take i).map isSign).map V.bl))) ⟨same_new hD _, upd_same⟩ (fun _ _ _ _ => trivial) ?_ ?_⟩
          · rintro i x H1 H2 hi ⟨sm, hD1⟩ ⟨rfl, ch, hch, rfl⟩
            have hch' : (a :: r)[i]? = some ch := by rw [← hzr, Array.getElem?_toList]; exact hch
            have step : (a :: r).take (i + 1) = (a :: r).take i ++ [ch] := by rw [List.take_add_one, hch']; rfl
            have fin : ∀ b, b = isSign ch → Same H (upd H2 D (.lst ((((a :: r).take i).map isSign).map V.bl ++ [V.bl b]))) ∧ (upd H2 D (.lst ((((a :: r).take i).map isSign).map V.bl ++ [V.bl b]))) D = some (.lst ((((a :: r).take (i + 1)).map isSign).map V.bl)) := fun b eb => by
              refine ⟨same_set sm hD, ?_⟩
              rw [upd_same, step, eb, List.map_append, List.map_append]
              rfl
            have size : ((((a :: r).take i).map isSign).map V.bl).length < sizeLine := small1000 (by rw [List.length_map, List.length_map, List.length_take]; simp; omega)
            refine ⟨rfl, yes_go ?_⟩
            refine ⟨_, rfl, ch, letters, rfl, rfl, _, rfl, ?_⟩
            refine ite2 (fun g => ?_) (fun g => ?_)
            · exact ⟨_, hD1, size, fin true (by have g : isLetter ch = true := g; rw [isSign, g]; rfl)⟩
            · refine ⟨_, rfl, ch, digits, rfl, rfl, _, hD1, size, fin _ ?_⟩
              have g : isLetter ch = false := by simpa [isLetter] using g
              rw [isSign, g]; rfl
          · rintro H1 ⟨sm, hD1⟩
            have hn : z.cps.size = (a :: r).length := by rw [← hzr]; simp
            rw [hn, List.take_length] at hD1
            refine ⟨D, _, rfl, SqL.of hD1, ?_⟩
            have k := q H1 sm
            rw [hN, e] at k
            rw [List.all_map]
            exact k
        · have e : isLetter a = false := by simpa [isLetter] using e
          exact out (by rw [hN, e]; rfl)
    · have c : ¬ 1 ≤ (z.length : Int) := by simpa using c
      exact ⟨false, rfl, iteT (out (bad fun h => c h.1))⟩
theorem scIsRow : FnScope ["rows", "least", "most"] ["rows", "least", "most"] (defScope sIsRow) := ⟨rfl, rfl, rfl, by decide +kernel, rfl, by decide +kernel, by decide +kernel⟩
theorem ok_isrow (F : Fun K "is_row" "is_row" sIsRow f fd) (mi : mg "isinstance" = none) (ml : mg "len" = none) (mlist : mg "list" = none) (mtup : mg "tuple" = none) :
    FnOk P w K mg base CX0 1 f fd ["rows", "least", "most"] spIsRow := by
  refine F.ok scIsRow (fun vs H Q E h => ?_) (fun cdv A outer s H vs Q E hr h => ?_)
  · obtain ⟨p, xs, lo, hi, rfl, _⟩ := h
    rfl
  · obtain ⟨p, xs, lo, hi, rfl, hp, q⟩ := h
    refine ⟨_, pss_one (ps_ret (pe_and (pe_callB call_isiT (by rfl) mi (by decide +kernel) (pa_cons (pv 0) (pa_cons (pe_tup (pa_cons (pe_bltn (v := .ty "list") (by rfl) mlist (by decide +kernel) rfl) (pa_cons (pe_bltn (v := .ty "tuple") (by rfl) mtup (by decide +kernel) rfl) pa_nil))) pa_nil)))
      (pe_one (pe_chain op_le op_le (pv 1) (pe_callB call_len (by rfl) ml boot_len (pa_cons (pv 0) pa_nil)) (pv 2))))), ?_⟩
    refine ⟨_, rfl, (by show 2 ≤ sizeLine; decide), fun t ht => ?_⟩
    have s0 := same_new ht (.tup [.ty "list", .ty "tuple"])
    have h2 : RowAt false (upd H t (.tup [.ty "list", .ty "tuple"])) p xs := hp.same s0
    have cl : Paired ClsV [V.ty "list", V.ty "tuple"] [Value.type "list", Value.type "tuple"] := .cons (.ty _) (.cons (.ty _) .nil)
    obtain ⟨ty, hty, hk, hl⟩ : ∃ ty, TyX K (upd H t (.tup [.ty "list", .ty "tuple"])) (.ref p) ty ∧ PySem.W.kitAny K ty [Value.type "list", Value.type "tuple"] = some true ∧ LenV K (.ref p) (upd H t (.tup [.ty "list", .ty "tuple"])) xs.length := by
      rcases h2 with h2 | ⟨_, h2⟩
      · exact ⟨_, .base (.tup h2), kitAny_cons (kit_ty (b := "list") (r := false) (by decide +kernel)) (fun _ => kitAny_cons (kit_ty (r := true) (by decide +kernel)) (fun z => by cases z) (fun _ => rfl)) (fun z => by cases z), .inr ⟨_, SqT.of h2, rfl⟩⟩
      · exact ⟨_, .base (.lst h2), kitAny_cons (kit_ty (r := true) (by decide +kernel)) (fun z => by cases z) (fun _ => rfl), .inl ⟨_, SqL.of h2, rfl⟩⟩
    have z := q _ s0
    refine ⟨_, t, _, ty, _, true, rfl, upd_same, cl, hty, hk, _, rfl, iteT ?_⟩
    refine ⟨_, rfl, _, rfl, V.ref p, xs.length, rfl, hl, _, _, rfl, rfl, _, rfl, ite2 (fun c => ?_) (fun c => ?_)⟩
    · have c : lo ≤ (xs.length : Int) := of_decide_eq_true c
      refine ⟨_, rfl, _, _, rfl, rfl, ?_⟩
      show Q (.bl (decide ((xs.length : Int) ≤ hi))) _
      rw [show decide ((xs.length : Int) ≤ hi) = decide (lo ≤ (xs.length : Int) ∧ (xs.length : Int) ≤ hi) by simp [c]]
      exact z
    · have c : ¬ lo ≤ (xs.length : Int) := by simpa using c
      rw [show decide (lo ≤ (xs.length : Int) ∧ (xs.length : Int) ≤ hi) = false by simp [c]] at z
      exact z
end
end Bs

set_option Elab.async false
set_option linter.all false
set_option maxRecDepth 100000
set_option maxHeartbeats 4000000
namespace Bs
open PySem L2
/-! ### calls in short -/
structure Cal (P : Program) (w : World) (K : PySem.W.Frag) (mg : Str → Option Value) (base : Heap) (CX : CXT) (k : Nat) (x : Str) (ps : List Str) (sp : Sp) : Prop where
  ex : ∃ (f : Addr) (fd : FuncData), mg x = some (.ref f) ∧ PySem.W.keepIn K (.ref f) = true ∧ Binds K fd ps [] ∧ FnOk P w K mg base CX k f fd ps sp
def tCl (sp : Sp) (E : XK) (t : TA) : TE := fun σ H Q => t σ H fun vs H1 => sp vs H1 Q E
theorem tCall_nil {sp : Sp} {E : XK} {t : TA} : tCall sp [] E t = tCl sp E t := by
  funext σ H Q
  show t σ H (fun vs H1 => sp (vs ++ []) H1 Q E) = _
  congr
  funext vs H1
  rw [List.append_nil]
/-- x(e, ..), x a def of the text -/
theorem pe_cal {X : Cx} {CX : CXT} {k : Nat} {x : Str} {ps : List Str} {sp : Sp} {E : XK} {e : Expr} {es : List Expr} {t : TA} {p pos : Pos} (G : Cal X.prog X.w X.K X.mg X.base CX k x ps sp) (hr : Room k X.A) (hx : Passes CX X E) (ha : PA X (e :: es) t) (hg : Gl X x := by rfl)
    (hdb : (x == ("__debug__" : Str)) = false := by decide) (he : starEach (e :: es) X.env = (false, eval e X.env) :: starEach es X.env := by rfl) (hpl : (backTo pos (starEach es X.env)).any (·.1) = false := by rfl) :
    PE X (.Call (.Name x p) (e :: es) [] pos) (tCl sp E t) := by
  obtain ⟨f, fd, h1, h2, h3, h4⟩ := G.ex
  rw [← tCall_nil]
  exact pe_call h4 hr hg h1 h2 h3 .nil hx ha hdb he hpl
/-- x in a list or a tuple -/
def RowR (K : PySem.W.Frag) (a : Addr) (R : L2.It → Hp → Prop) (H : Hp) : Prop := ((∃ xs, SqL K H a xs) ∧ R (Itl K a) H) ∨ ((∃ xs, SqT K H a xs) ∧ R (Itt K a) H)
def iRow (K : PySem.W.Frag) (tl : TE) : TI := fun σ H R => tl σ H fun x H1 => ∃ a, x = .ref a ∧ RowR K a R H1
theorem pi_row {X : Cx} {tg l : Expr} {tl : TE} (hl : PE X l tl) : PI X tg l (iRow X.K tl) := by
  refine ⟨fun pins s σ H R I h => thn (hl.run pins s σ H _ I h) fun v s1 ⟨x, H1, I1, r1, a, ex, q1⟩ => ?_⟩
  subst ex
  cases r1
  rcases q1 with ⟨⟨xs, hq⟩, q⟩ | ⟨⟨xs, hq⟩, q⟩
  · obtain ⟨its, rv, p, hz⟩ := I1.list hq
    exact wpAny_pyIter_list p.isList (pi_one (tk := s1.toks) I1 _ (turn_list a _) ⟨_, Heap.get?_push_size _ rfl, rfl, rfl⟩ q)
  · obtain ⟨its, rv, p, hz⟩ := I1.tuple hq
    exact PySem.wpAny_pyIter_tuple (show s1.heap.IsTuple a its.toArray from p) (pi_one (tk := s1.toks) I1 _ (turn_tuple a _) ⟨_, Heap.get?_push_size _ rfl, rfl, rfl⟩ q)
theorem row_go {K : PySem.W.Frag} {H : Hp} {p : Addr} {xs : List V} {R : L2.It → Hp → Prop} (hp : RowAt false H p xs) (h : ∀ J, Walk J xs.length (fun H' => Same H H') (YAt xs) → R J H) : RowR K p R H := by
  rcases hp with hp | ⟨_, hp⟩
  · exact .inr ⟨⟨xs, SqT.of hp⟩, h _ (walk_tup.mono (fun H' s => SqT.of (s _ _ hp)) fun _ _ _ _ _ _ y => y)⟩
  · exact .inl ⟨⟨xs, SqL.of hp⟩, h _ (walk_list.mono (fun H' s => SqL.of (s _ _ hp)) fun _ _ _ _ _ _ y => y)⟩
theorem row_go2 {K : PySem.W.Frag} {H0 H : Hp} {p : Addr} {xs : List V} {R : L2.It → Hp → Prop} (hp : RowAt false H0 p xs) (s0 : Same H0 H) (h : ∀ J, Walk J xs.length (fun H' => Same H0 H') (YAt xs) → R J H) : RowR K p R H := by
  rcases hp with hp | ⟨_, hp⟩
  · exact .inr ⟨⟨xs, SqT.of (s0 _ _ hp)⟩, h _ (walk_tup.mono (fun H' s => SqT.of (s _ _ hp)) fun _ _ _ _ _ _ y => y)⟩
  · exact .inl ⟨⟨xs, SqL.of (s0 _ _ hp)⟩, h _ (walk_list.mono (fun H' s => SqL.of (s _ _ hp)) fun _ _ _ _ _ _ y => y)⟩

/-! ### what is small enough: names; amounts are numbers -/
mutual
def It.tame : It → Prop
  | .byt n amt => n.length ≤ 1000 ∧ ∃ i, amt = .inl i
  | .rep n amt b => n.length ≤ 1000 ∧ (∃ i, amt = .inl i) ∧ b.tame
  | .eit n bs => n.length ≤ 1000 ∧ bs.tame
  | .swi n _ bs => n.length ≤ 1000 ∧ bs.vals.Nodup ∧ bs.tame
  | x => x.name.length ≤ 1000
def Its.tame : Its → Prop
  | .nil => True
  | .cons x r => x.tame ∧ r.tame
def Blks.tame : Blks → Prop
  | .nil => True
  | .cons _ b r => b.tame ∧ r.tame
end
theorem It.tame_name : ∀ {x : It}, x.tame → x.name.length ≤ 1000
  | .num .., h => by simpa only [It.tame] using h
  | .byt .., h => by simp only [It.tame] at h; exact h.1
  | .txt .., h => by simpa only [It.tame] using h
  | .rep .., h => by simp only [It.tame] at h; exact h.1
  | .eit .., h => by simp only [It.tame] at h; exact h.1
  | .swi .., h => by simp only [It.tame] at h; exact h.1
  | .chk .., h => by simpa only [It.tame] using h
  | .pad .., h => by simpa only [It.tame] using h
theorem At_get {fz : Bool} {H : Hp} : ∀ {x : Its} {l : List V} {i : Nat} {v : V}, x.At fz H l → l[i]? = some v → ∃ y : It, y.At fz H v ∧ (x.tame → y.tame) ∧ (∀ d, x.ok d = true → y.ok d = true)
  | .nil, l, i, v, h, e => by simp only [Its.At] at h; subst h; simp at e
  | .cons y r, l, i, v, h, e => by
    simp only [Its.At] at h
    obtain ⟨v0, l', rfl, h1, h2⟩ := h
    cases i with
    | zero =>
      simp at e
      subst e
      exact ⟨y, h1, fun t => by simp only [Its.tame] at t; exact t.1, fun d t => by simp only [Its.ok, Bool.and_eq_true] at t; exact t.1⟩
    | succ i =>
      obtain ⟨z, a, b, c⟩ := At_get (i := i) h2 (by simpa using e)
      exact ⟨z, a, fun t => b (by simp only [Its.tame] at t; exact t.2), fun d t => c d (by simp only [Its.ok, Bool.and_eq_true] at t; exact t.2)⟩
/-- the first i items, the rest -/
def Its.take : Nat → Its → Its
  | 0, _ => .nil
  | _ + 1, .nil => .nil
  | i + 1, .cons x r => .cons x (r.take i)
def Its.get : Its → Nat → Option It
  | .nil, _ => none
  | .cons x _, 0 => some x
  | .cons _ r, i + 1 => r.get i
theorem At_item {fz : Bool} {H : Hp} : ∀ {x : Its} {l : List V} {i : Nat} {v : V}, x.At fz H l → l[i]? = some v → ∃ y, x.get i = some y ∧ y.At fz H v
  | .nil, l, i, v, h, e => by simp only [Its.At] at h; subst h; simp at e
  | .cons y r, l, i, v, h, e => by
    simp only [Its.At] at h
    obtain ⟨v0, l', rfl, h1, h2⟩ := h
    cases i with
    | zero => simp at e; subst e; exact ⟨y, rfl, h1⟩
    | succ i => exact At_item (i := i) h2 (by simpa using e)
theorem get_tame : ∀ {x : Its} {i : Nat} {y : It}, x.tame → x.get i = some y → y.tame
  | .nil, _, _, _, e => by simp [Its.get] at e
  | .cons x r, 0, y, t, e => by simp [Its.get] at e; subst e; simp only [Its.tame] at t; exact t.1
  | .cons x r, i + 1, y, t, e => by simp only [Its.tame] at t; exact get_tame t.2 e
theorem get_ok : ∀ {x : Its} {i : Nat} {y : It} {d : Int}, x.get i = some y → y.ok d = false → x.ok d = false
  | .nil, _, _, _, e, _ => by simp [Its.get] at e
  | .cons x r, 0, y, d, e, f => by simp [Its.get] at e; subst e; simp [Its.ok, f]
  | .cons x r, i + 1, y, d, e, f => by simp [Its.ok, get_ok (x := r) e f]
theorem take_at {fz : Bool} {H H' : Hp} (s : Same H H') : ∀ {x : Its} {i : Nat} {l : List V} {y : It} {v : V}, (x.take i).At fz H l → x.get i = some y → y.At fz H' v → (x.take (i + 1)).At fz H' (l ++ [v])
  | .nil, _, _, _, _, _, e, _ => by simp [Its.get] at e
  | .cons x r, 0, l, y, v, h, e, g => by
    simp only [Its.take, Its.At] at h
    simp [Its.get] at e
    subst h e
    simp only [Its.take, Its.At]
    exact ⟨v, [], rfl, g, by simp [Its.At]⟩
  | .cons x r, i + 1, l, y, v, h, e, g => by
    simp only [Its.take, Its.At] at h
    obtain ⟨v0, l', rfl, h1, h2⟩ := h
    show (Its.cons x (r.take (i + 1))).At fz H' (v0 :: l' ++ [v])
    simp only [Its.At]
    exact ⟨v0, l' ++ [v], rfl, h1.same s, take_at s h2 e g⟩
theorem get_lt : ∀ {x : Its} {i : Nat} {y : It}, x.get i = some y → i < x.len
  | .nil, _, _, e => by simp [Its.get] at e
  | .cons x r, 0, _, _ => by simp [Its.len]
  | .cons x r, i + 1, _, e => by simp [Its.len]; exact get_lt (x := r) e
theorem take_all : ∀ (x : Its), x.take x.len = x
  | .nil => rfl
  | .cons x r => by simp [Its.len, Its.take, take_all r]
theorem all_ok : ∀ {x : Its} {d : Int}, (∀ i y, x.get i = some y → y.ok d = true) → x.ok d = true
  | .nil, _, _ => by simp [Its.ok]
  | .cons x r, d, h => by simp [Its.ok, h 0 x rfl, all_ok (x := r) fun i y e => h (i + 1) y e]

/-! ### the copies -/
def spCopItem (C : Addr) (n : Nat) : Sp := fun vs H Q E => ∃ (v : V) (x : It) (d : Int), vs = [v, .int d] ∧ d + n = 3 ∧ x.At false H v ∧ x.tame ∧
  (x.ok d = true → ∀ v' H', Same H H' → x.At true H' v' → Q v' H') ∧ (x.ok d = false → ∀ H', Same H H' → E (.ref C) none H')
def spCopList (C : Addr) (n : Nat) : Sp := fun vs H Q E => ∃ (a : Addr) (x : Its) (xs : List V) (d : Int), vs = [.ref a, .int d] ∧ d + n = 3 ∧ RowAt false H a xs ∧ x.At false H xs ∧ x.tame ∧
  ((decide (x.len ≤ 12) && x.ok d) = true → ∀ p ys H', Same H H' → H' p = some (.tup ys) → x.At true H' ys → Q (.ref p) H') ∧ ((decide (x.len ≤ 12) && x.ok d) = false → ∀ H', Same H H' → E (.ref C) none H')
section
variable {P : Program} {w : World} {K : PySem.W.Frag} {mg : Str → Option Value} {base : Heap} {f C : Addr} {fd : FuncData}
theorem scCopList : FnScope ["items", "depth", "item"] ["items", "depth"] (defScope sCopList) := ⟨rfl, rfl, rfl, by decide +kernel, rfl, by decide +kernel, by decide +kernel⟩
theorem ok_coplist {n k : Nat} (F : Fun K "copied_list" "copied_list" sCopList f fd) (hk : 2 ≤ k) (gR : Cal P w K mg base (L2.CX P w) 1 "require" ["holds", "words"] (spRequire C)) (gI : Cal P w K mg base CX0 1 "is_row" ["rows", "least", "most"] spIsRow) (gL : GInt mg "LONGEST_LIST" 12)
    (mt : mg "tuple" = none) (gC : Cal P w K mg base (L2.CX P w) k "copied_item" ["item", "depth"] (spCopItem C n)) : FnOk P w K mg base (L2.CX P w) (k + 1) f fd ["items", "depth"] (spCopList C n) := by
  refine F.okX scCopList (fun vs H Q E h => ?_) (fun cdv A outer s H vs Q E hr h => ?_)
  · obtain ⟨a, x, xs, d, rfl, _⟩ := h
    rfl
  · obtain ⟨a, x, xs, d, rfl, hd, hrow, hat, ht, q1, q2⟩ := h
    have hr1 : Room 1 _ := hr.mono (by omega)
    have tk : Takes (cxOf (L2.CX P w) P w K mg base ["items", "depth", "item"] "copied_list" (defScope sCopList) f cdv A outer s H E) (fun cls d _ H => E cls d H) := takes_of rfl rfl rfl rfl
    have hx := passes_call tk (E := E) fun _ _ _ _ h => h
    refine ⟨_, pss_cons (ps_expr (pe_cal gR hr1 hx (pa_cons (pe_cal gI hr1 pass0 (pa_cons (pv 0) (pa_cons pe_int (pa_cons (pe_gint gL rfl) pa_nil)))) (pa_cons (pe_joined (.cons pe_str (.cons (pe_fmt (pe_gint gL rfl)) (.cons pe_str .nil)))) pa_nil))))
      (pss_one (ps_ret (pe_tupleOf rfl mt (Rj.pe_lcx (Ex := E) (own := [("item", 2)]) (g := gName 2) rfl rfl tk rfl scCopList.nd (pi_row (pv 0)) (blkOk_by (own := [("item", 2)]) (N := ["items", "depth", "item"]) (sc := defScope sCopList) (by decide +kernel))
        (fun _ _ _ _ _ => pg_name (i := 2) scCopList.nd rfl (Or.inl rfl)) (fun _ _ _ _ _ => pe_cal gC hr Rj.fell_passes (pa_cons (pv 2) (pa_cons (pv 1) pa_nil))))))), ?_⟩
    refine ⟨_, rfl, _, _, _, _, rfl, hrow, fun H1 s1 => ?_⟩
    refine ⟨_, rfl, by decide +kernel, .inr ⟨12, rfl, by decide +kernel, _, rfl, by decide +kernel, _, rfl, by decide +kernel, ?_⟩⟩
    have el := hat.len
    refine ⟨_, _, rfl, fun e => ?_, fun e => ?_⟩
    · have e : x.len ≤ 12 := by have := of_decide_eq_true e; rw [el] at this; omega
      rw [decide_eq_true e, Bool.true_and] at q1 q2
      have hrow1 := hrow.same s1
      refine ⟨_, rfl, _, rfl, ?_⟩
      refine row_go hrow1 (fun J wk => ?_)
      intro D hD
      refine lc_it wk (fun i H' => Same H1 H' ∧ ∃ acc, H' D = some (.lst acc) ∧ acc.length = i ∧ (x.take i).At true H' acc ∧ ∀ j < i, ∀ y, x.get j = some y → y.ok d = true)
        ⟨same_new hD _, [], upd_same, rfl, by simp [Its.take, Its.At], fun j hj => absurd hj (Nat.not_lt_zero j)⟩ (fun _ _ _ h => h.1) ?_ ?_
      · rintro i v H2 H3 hi ⟨s2, acc, hacc, hlen, hat2, hok⟩ ⟨e3, hv⟩
        subst e3
        obtain ⟨y, gy, ay⟩ := At_item (hat.same (s1.trans s2)) hv
        refine ⟨rfl, yes_go ?_⟩
        refine ⟨_, rfl, _, rfl, v, y, d, rfl, hd, ay, get_tame ht gy, fun oky v' H4 s4 a4 => ?_, fun no H4 s4 => q2 (get_ok gy no) H4 (s1.trans (s2.trans s4))⟩
        refine ⟨acc, s4 _ _ hacc, small1000 (by omega), same_set (s2.trans s4) hD, acc ++ [v'], upd_same, by simp [hlen], ?_, fun j hj z gz => ?_⟩
        · exact (take_at s4 hat2 gy a4).kp (.wr (s4 _ _ hacc))
        · by_cases hji : j = i
          · subst hji
            rw [gy] at gz
            cases gz
            exact oky
          · exact hok j (by omega) z gz
      · rintro H2 ⟨s2, acc, hacc, hlen, hat2, hok⟩
        refine .inl ⟨D, acc, rfl, SqL.of hacc, fun p hp => ?_⟩
        have okx : x.ok d = true := all_ok fun i y g => hok i (by rw [el]; exact get_lt g) y g
        rw [el, take_all] at hat2
        exact q1 okx p acc _ (s1.trans (same_set s2 (s2.free hp))) upd_same (hat2.same (same_new hp _))
    · have e : ¬ x.len ≤ 12 := fun z => by have := of_decide_eq_false e; rw [el] at this; omega
      rw [decide_eq_false e, Bool.false_and] at q2
      exact q2 rfl H1 s1
end
end Bs

set_option Elab.async false
set_option linter.all false
set_option maxRecDepth 100000
set_option maxHeartbeats 4000000
namespace Bs
open PySem L2
def Blks.take : Nat → Blks → Blks
  | 0, _ => .nil
  | _ + 1, .nil => .nil
  | i + 1, .cons v b r => .cons v b (r.take i)
def Blks.get : Blks → Nat → Option (Int × Its)
  | .nil, _ => none
  | .cons v b _, 0 => some (v, b)
  | .cons _ _ r, i + 1 => r.get i
theorem AtE_item {fz : Bool} {H : Hp} : ∀ {x : Blks} {l : List V} {i : Nat} {v : V}, x.AtE fz H l → l[i]? = some v → ∃ c b q xs, x.get i = some (c, b) ∧ v = .ref q ∧ RowAt fz H q xs ∧ b.At fz H xs
  | .nil, l, i, v, h, e => by simp only [Blks.AtE] at h; subst h; simp at e
  | .cons c b r, l, i, v, h, e => by
    simp only [Blks.AtE] at h
    obtain ⟨q, xs, l', rfl, h1, h2, h3⟩ := h
    cases i with
    | zero => simp at e; subst e; exact ⟨c, b, q, xs, rfl, rfl, h1, h2⟩
    | succ i => exact AtE_item (i := i) h3 (by simpa using e)
theorem AtS_item {fz : Bool} {H : Hp} : ∀ {x : Blks} {l : List V} {i : Nat} {v : V}, x.AtS fz H l → l[i]? = some v → ∃ c b p q xs, x.get i = some (c, b) ∧ v = .ref p ∧ H p = some (.tup [.int c, .ref q]) ∧ RowAt fz H q xs ∧ b.At fz H xs
  | .nil, l, i, v, h, e => by simp only [Blks.AtS] at h; subst h; simp at e
  | .cons c b r, l, i, v, h, e => by
    simp only [Blks.AtS] at h
    obtain ⟨p, q, xs, l', rfl, h0, h1, h2, h3⟩ := h
    cases i with
    | zero => simp at e; subst e; exact ⟨c, b, p, q, xs, rfl, rfl, h0, h1, h2⟩
    | succ i => exact AtS_item (i := i) h3 (by simpa using e)
theorem getB_tame : ∀ {x : Blks} {i : Nat} {c : Int} {b : Its}, x.tame → x.get i = some (c, b) → b.tame
  | .nil, _, _, _, _, e => by simp [Blks.get] at e
  | .cons v b r, 0, c, y, t, e => by simp [Blks.get] at e; simp only [Blks.tame] at t; rw [← e.2]; exact t.1
  | .cons v b r, i + 1, c, y, t, e => by simp only [Blks.tame] at t; exact getB_tame t.2 e
theorem getB_ok : ∀ {x : Blks} {i : Nat} {c : Int} {b : Its} {d : Int}, x.get i = some (c, b) → (decide (b.len ≤ 12) && b.ok d) = false → x.ok d = false
  | .nil, _, _, _, _, e, _ => by simp [Blks.get] at e
  | .cons v b r, 0, c, y, d, e, f => by simp only [Blks.get, Option.some.injEq, Prod.mk.injEq] at e; obtain ⟨rfl, rfl⟩ := e; rw [Blks.ok, f]; rfl
  | .cons v b r, i + 1, c, y, d, e, f => by rw [Blks.ok, getB_ok (x := r) e f]; simp
theorem getB_lt : ∀ {x : Blks} {i : Nat} {y : Int × Its}, x.get i = some y → i < x.len
  | .nil, _, _, e => by simp [Blks.get] at e
  | .cons _ _ r, 0, _, _ => by simp [Blks.len]
  | .cons _ _ r, i + 1, _, e => by simp [Blks.len]; exact getB_lt (x := r) e
theorem takeB_all : ∀ (x : Blks), x.take x.len = x
  | .nil => rfl
  | .cons v b r => by simp [Blks.len, Blks.take, takeB_all r]
theorem allB_ok : ∀ {x : Blks} {d : Int}, (∀ i c b, x.get i = some (c, b) → (decide (b.len ≤ 12) && b.ok d) = true) → x.ok d = true
  | .nil, _, _ => by simp [Blks.ok]
  | .cons v b r, d, h => by rw [Blks.ok, h 0 v b rfl, allB_ok (x := r) fun i c y e => h (i + 1) c y e]; rfl
theorem takeE_at {fz : Bool} {H H' : Hp} (s : Same H H') {q : Addr} {xs : List V} : ∀ {x : Blks} {i : Nat} {l : List V} {c : Int} {b : Its}, (x.take i).AtE fz H l → x.get i = some (c, b) → RowAt fz H' q xs → b.At fz H' xs → (x.take (i + 1)).AtE fz H' (l ++ [.ref q])
  | .nil, _, _, _, _, _, e, _, _ => by simp [Blks.get] at e
  | .cons v x r, 0, l, c, b, h, e, g, k => by
    simp only [Blks.take, Blks.AtE] at h
    simp only [Blks.get, Option.some.injEq, Prod.mk.injEq] at e
    obtain ⟨rfl, rfl⟩ := e
    subst h
    simp only [Blks.take, Blks.AtE]
    exact ⟨q, xs, [], rfl, g, k, by simp [Blks.AtE]⟩
  | .cons v x r, i + 1, l, c, b, h, e, g, k => by
    simp only [Blks.take, Blks.AtE] at h
    obtain ⟨q0, xs0, l', rfl, h1, h2, h3⟩ := h
    show (Blks.cons v x (r.take (i + 1))).AtE fz H' (.ref q0 :: l' ++ [.ref q])
    simp only [Blks.AtE]
    exact ⟨q0, xs0, l' ++ [.ref q], rfl, h1.same s, h2.same s, takeE_at s h3 e g k⟩
theorem takeS_at {fz : Bool} {H H' : Hp} (s : Same H H') {p q : Addr} {xs : List V} : ∀ {x : Blks} {i : Nat} {l : List V} {c : Int} {b : Its}, (x.take i).AtS fz H l → x.get i = some (c, b) → H' p = some (.tup [.int c, .ref q]) → RowAt fz H' q xs → b.At fz H' xs → (x.take (i + 1)).AtS fz H' (l ++ [.ref p])
  | .nil, _, _, _, _, _, e, _, _, _ => by simp [Blks.get] at e
  | .cons v x r, 0, l, c, b, h, e, z, g, k => by
    simp only [Blks.take, Blks.AtS] at h
    simp only [Blks.get, Option.some.injEq, Prod.mk.injEq] at e
    obtain ⟨rfl, rfl⟩ := e
    subst h
    simp only [Blks.take, Blks.AtS]
    exact ⟨p, q, xs, [], rfl, z, g, k, by simp [Blks.AtS]⟩
  | .cons v x r, i + 1, l, c, b, h, e, z, g, k => by
    simp only [Blks.take, Blks.AtS] at h
    obtain ⟨p0, q0, xs0, l', rfl, h0, h1, h2, h3⟩ := h
    show (Blks.cons v x (r.take (i + 1))).AtS fz H' (.ref p0 :: l' ++ [.ref p])
    simp only [Blks.AtS]
    exact ⟨p0, q0, xs0, l' ++ [.ref p], rfl, s _ _ h0, h1.same s, h2.same s, takeS_at s h3 e z g k⟩

def spCopChoices (C : Addr) (n : Nat) : Sp := fun vs H Q E => ∃ (a : Addr) (x : Blks) (xs : List V) (d : Int), vs = [.ref a, .int d] ∧ d + n = 3 ∧ RowAt false H a xs ∧ x.AtE false H xs ∧ x.tame ∧
  ((decide (2 ≤ x.len ∧ x.len ≤ 4) && x.ok d) = true → ∀ p ys H', Same H H' → H' p = some (.tup ys) → x.AtE true H' ys → Q (.ref p) H') ∧ ((decide (2 ≤ x.len ∧ x.len ≤ 4) && x.ok d) = false → ∀ H', Same H H' → E (.ref C) none H')
def spCopCases (C : Addr) (n : Nat) : Sp := fun vs H Q E => ∃ (a : Addr) (x : Blks) (xs : List V) (d : Int), vs = [.ref a, .int d] ∧ d + n = 3 ∧ RowAt false H a xs ∧ x.AtS false H xs ∧ x.tame ∧
  ((decide (1 ≤ x.len ∧ x.len ≤ 8) && x.ok d) = true → ∀ p ys H', Same H H' → H' p = some (.tup ys) → x.AtS true H' ys → Q (.ref p) H') ∧ ((decide (1 ≤ x.len ∧ x.len ≤ 8) && x.ok d) = false → ∀ H', Same H H' → E (.ref C) none H')
section
variable {P : Program} {w : World} {K : PySem.W.Frag} {mg : Str → Option Value} {base : Heap} {f C : Addr} {fd : FuncData}
theorem scCopChoices : FnScope ["choices", "depth", "choice"] ["choices", "depth"] (defScope sCopChoices) := ⟨rfl, rfl, rfl, by decide +kernel, rfl, by decide +kernel, by decide +kernel⟩
theorem ok_copchoices {n k : Nat} (F : Fun K "copied_choices" "copied_choices" sCopChoices f fd) (hk : 2 ≤ k) (gR : Cal P w K mg base (L2.CX P w) 1 "require" ["holds", "words"] (spRequire C)) (gI : Cal P w K mg base CX0 1 "is_row" ["rows", "least", "most"] spIsRow)
    (mt : mg "tuple" = none) (gC : Cal P w K mg base (L2.CX P w) k "copied_list" ["items", "depth"] (spCopList C n)) : FnOk P w K mg base (L2.CX P w) (k + 1) f fd ["choices", "depth"] (spCopChoices C n) := by
  refine F.okX scCopChoices (fun vs H Q E h => ?_) (fun cdv A outer s H vs Q E hr h => ?_)
  · obtain ⟨a, x, xs, d, rfl, _⟩ := h
    rfl
  · obtain ⟨a, x, xs, d, rfl, hd, hrow, hat, ht, q1, q2⟩ := h
    have hr1 : Room 1 _ := hr.mono (by omega)
    have tk : Takes (cxOf (L2.CX P w) P w K mg base ["choices", "depth", "choice"] "copied_choices" (defScope sCopChoices) f cdv A outer s H E) (fun cls d _ H => E cls d H) := takes_of rfl rfl rfl rfl
    have hx := passes_call tk (E := E) fun _ _ _ _ h => h
    refine ⟨_, pss_cons (ps_expr (pe_cal gR hr1 hx (pa_cons (pe_cal gI hr1 pass0 (pa_cons (pv 0) (pa_cons pe_int (pa_cons pe_int pa_nil)))) (pa_cons pe_str pa_nil))))
      (pss_one (ps_ret (pe_tupleOf rfl mt (Rj.pe_lcx (Ex := E) (own := [("choice", 2)]) (g := gName 2) rfl rfl tk rfl scCopChoices.nd (pi_row (pv 0)) (blkOk_by (own := [("choice", 2)]) (N := ["choices", "depth", "choice"]) (sc := defScope sCopChoices) (by decide +kernel))
        (fun _ _ _ _ _ => pg_name (i := 2) scCopChoices.nd rfl (Or.inl rfl)) (fun _ _ _ _ _ => pe_cal gC hr Rj.fell_passes (pa_cons (pv 2) (pa_cons (pv 1) pa_nil))))))), ?_⟩
    refine ⟨_, rfl, _, _, _, _, rfl, hrow, fun H1 s1 => ?_⟩
    have el := hat.len
    have ed : decide (2 ≤ (xs.length : Int) ∧ (xs.length : Int) ≤ 4) = decide (2 ≤ x.len ∧ x.len ≤ 4) := by
      rw [el]; exact decide_eq_decide.mpr ⟨fun ⟨a, b⟩ => ⟨by omega, by omega⟩, fun ⟨a, b⟩ => ⟨by omega, by omega⟩⟩
    refine ⟨_, _, rfl, fun e => ?_, fun e => ?_⟩
    · rw [ed] at e
      have e4 := (of_decide_eq_true e).2
      rw [e, Bool.true_and] at q1 q2
      have hrow1 := hrow.same s1
      refine ⟨_, rfl, _, rfl, ?_⟩
      refine row_go hrow1 (fun J wk => ?_)
      intro D hD
      refine lc_it wk (fun i H' => Same H1 H' ∧ ∃ acc, H' D = some (.lst acc) ∧ acc.length = i ∧ (x.take i).AtE true H' acc ∧ ∀ j < i, ∀ c b, x.get j = some (c, b) → (decide (b.len ≤ 12) && b.ok d) = true)
        ⟨same_new hD _, [], upd_same, rfl, by simp [Blks.take, Blks.AtE], fun j hj => absurd hj (Nat.not_lt_zero j)⟩ (fun _ _ _ h => h.1) ?_ ?_
      · rintro i v H2 H3 hi ⟨s2, acc, hacc, hlen, hat2, hok⟩ ⟨e3, hv⟩
        subst e3
        obtain ⟨c, b, p, zs, gb, rfl, hrw, hb⟩ := AtE_item (hat.same (s1.trans s2)) hv
        refine ⟨rfl, yes_go ?_⟩
        refine ⟨_, rfl, _, rfl, p, b, zs, d, rfl, hd, hrw, hb, getB_tame ht gb, fun okb p' ys H4 s4 h4 a4 => ?_, fun no H4 s4 => q2 (getB_ok gb no) H4 (s1.trans (s2.trans s4))⟩
        refine ⟨acc, s4 _ _ hacc, small1000 (by omega), same_set (s2.trans s4) hD, acc ++ [.ref p'], upd_same, by simp [hlen], ?_, fun j hj c' b' gz => ?_⟩
        · exact (takeE_at s4 hat2 gb (.inl h4) a4).kp (.wr (s4 _ _ hacc))
        · by_cases hji : j = i
          · subst hji
            rw [gb] at gz
            cases gz
            exact okb
          · exact hok j (by omega) c' b' gz
      · rintro H2 ⟨s2, acc, hacc, hlen, hat2, hok⟩
        refine .inl ⟨D, acc, rfl, SqL.of hacc, fun p hp => ?_⟩
        have okx : x.ok d = true := allB_ok fun i c b g => hok i (by rw [el]; exact getB_lt g) c b g
        rw [el, takeB_all] at hat2
        exact q1 okx p acc _ (s1.trans (same_set s2 (s2.free hp))) upd_same (hat2.same (same_new hp _))
    · rw [ed] at e
      rw [e, Bool.false_and] at q2
      exact q2 rfl H1 s1
theorem scCopCases : FnScope ["cases", "depth", "found", "case"] ["cases", "depth"] (defScope sCopCases) := ⟨rfl, rfl, rfl, by decide +kernel, rfl, by decide +kernel, by decide +kernel⟩
theorem ok_copcases {n k : Nat} (F : Fun K "copied_cases" "copied_cases" sCopCases f fd) (hk : 2 ≤ k) (gR : Cal P w K mg base (L2.CX P w) 1 "require" ["holds", "words"] (spRequire C)) (gI : Cal P w K mg base CX0 1 "is_row" ["rows", "least", "most"] spIsRow)
    (mt : mg "tuple" = none) (mi : mg "isinstance" = none) (ml : mg "len" = none) (gC : Cal P w K mg base (L2.CX P w) k "copied_list" ["items", "depth"] (spCopList C n)) : FnOk P w K mg base (L2.CX P w) (k + 1) f fd ["cases", "depth"] (spCopCases C n) := by
  refine F.okX scCopCases (fun vs H Q E h => ?_) (fun cdv A outer s H vs Q E hr h => ?_)
  · obtain ⟨a, x, xs, d, rfl, _⟩ := h
    rfl
  · obtain ⟨a, x, xs, d, rfl, hd, hrow, hat, ht, q1, q2⟩ := h
    have hr1 : Room 1 _ := hr.mono (by omega)
    have tk : Takes (cxOf (L2.CX P w) P w K mg base ["cases", "depth", "found", "case"] "copied_cases" (defScope sCopCases) f cdv A outer s H E) (fun cls d _ H => E cls d H) := takes_of rfl rfl rfl rfl
    have hx := passes_call tk (E := E) fun _ _ _ _ h => h
    refine ⟨_, pss_cons (ps_expr (pe_cal gR hr1 hx (pa_cons (pe_cal gI hr1 pass0 (pa_cons (pv 0) (pa_cons pe_int (pa_cons pe_int pa_nil)))) (pa_cons pe_str pa_nil))))
      (pss_cons (ps_set (i := 2) scCopCases.nd rfl (.inl rfl) (pe_lst pa_nil))
      (pss_cons (ps_for (passes_of rfl) rfl (pi_row (pv 0)) (pg_name (i := 3) scCopCases.nd rfl (.inl rfl))
        (pss_cons (ps_expr (pe_cal gR hr1 hx (pa_cons (pe_and (pe_callB call_isi (by rfl) mi (by decide +kernel) (pa_cons (pv 3) (pa_cons (pe_bltn (v := .ty "tuple") (by rfl) mt (by decide +kernel) rfl) pa_nil)))
            (pe_one (pe_cmpR op_eq (pe_callB call_len (by rfl) ml boot_len (pa_cons (pv 3) pa_nil)) pe_int (nomark _)))) (pa_cons pe_str pa_nil))))
        (pss_one (ps_expr (pe_bm PySem.F.plainAttrs_list PySem.F.slot_list_append PySem.F.type_list_append mt_append (pv 2)
          (pa_cons (pe_tup (pa_cons (pe_ix ix_tup (pv 3) pe_int (fun _ _ => rfl)) (pa_cons (pe_cal gC hr hx (pa_cons (pe_ix ix_tup (pv 3) pe_int (fun _ _ => rfl)) (pa_cons (pv 1) pa_nil))) pa_nil))) pa_nil))))))
      (pss_one (ps_ret (pe_tupleOf rfl mt (pv 2)))))), ?_⟩
    refine ⟨_, rfl, _, _, _, _, rfl, hrow, fun H1 s1 => ?_⟩
    have el := hat.len
    have ed : decide (1 ≤ (xs.length : Int) ∧ (xs.length : Int) ≤ 8) = decide (1 ≤ x.len ∧ x.len ≤ 8) := by
      rw [el]; exact decide_eq_decide.mpr ⟨fun ⟨a, b⟩ => ⟨by omega, by omega⟩, fun ⟨a, b⟩ => ⟨by omega, by omega⟩⟩
    refine ⟨_, _, rfl, fun e => ?_, fun e => ?_⟩
    · rw [ed] at e
      have e8 := (of_decide_eq_true e).2
      rw [e, Bool.true_and] at q1 q2
      refine ⟨Nat.zero_le _, fun D hD => ?_⟩
      refine ⟨_, rfl, _, rfl, ?_⟩
      refine row_go2 (hrow.same s1) (same_new hD _) (fun J wk => ?_)
      refine for_it wk (fun i σ H' => ∃ cv, σ = [some (.ref a), some (.int d), some (.ref D), cv] ∧ Same H1 H' ∧ ∃ acc, H' D = some (.lst acc) ∧ acc.length = i ∧ (x.take i).AtS true H' acc ∧ ∀ j < i, ∀ c b, x.get j = some (c, b) → (decide (b.len ≤ 12) && b.ok d) = true)
        ⟨none, rfl, same_new hD _, [], upd_same, rfl, by simp [Blks.take, Blks.AtS], fun j hj => absurd hj (Nat.not_lt_zero j)⟩ (fun _ _ _ _ h => by obtain ⟨_, _, z, _⟩ := h; exact z) ?_ ?_
      · rintro i v σ H2 H3 hi ⟨cv, rfl, s2, acc, hacc, hlen, hat2, hok⟩ ⟨e3, hv⟩
        subst e3
        obtain ⟨c, b, p, q, zs, gb, rfl, hp, hrw, hb⟩ := AtS_item (hat.same (s1.trans s2)) hv
        refine ⟨_, rfl, _, _, _, _, true, rfl, .ty _, .base (.tup hp), kit_ty (by decide +kernel), _, rfl, iteT ?_⟩
        refine ⟨_, rfl, _, _, rfl, .inr ⟨_, SqT.of hp, rfl⟩, rfl, ?_⟩
        refine ⟨true, _, rfl, fun _ => ?_, fun z => by cases z⟩
        refine ⟨_, rfl, .inl ⟨rfl, _, SqL.of hacc⟩, ?_⟩
        refine ⟨_, rfl, p, _, 0, _, rfl, rfl, SqT.of hp, atI_nat (j := 0) rfl, ?_⟩
        refine ⟨_, rfl, p, _, 1, _, rfl, rfl, SqT.of hp, atI_nat (j := 1) rfl, ?_⟩
        refine ⟨_, rfl, q, b, zs, d, rfl, hd, hrw, hb, getB_tame ht gb, fun okb p' ys H4 s4 h4 a4 => ?_, fun no H4 s4 => q2 (getB_ok gb no) H4 (s1.trans (s2.trans s4))⟩
        refine ⟨by show 2 ≤ sizeLine; decide, fun t ht4 => ?_⟩
        have s5 : Same H4 (upd H4 t (.tup [.int c, .ref p'])) := same_new ht4 _
        have hacc5 := s5 _ _ (s4 _ _ hacc)
        refine ⟨D, acc, .ref t, rfl, rfl, hacc5, small1000 (by omega), ?_⟩
        refine ⟨_, rfl, same_set (s2.trans (s4.trans s5)) hD, acc ++ [.ref t], upd_same, by simp [hlen], ?_, fun j hj c' b' gz => ?_⟩
        · exact (takeS_at (s4.trans s5) hat2 gb upd_same (.inl (s5 _ _ h4)) (a4.same s5)).kp (.wr hacc5)
        · by_cases hji : j = i
          · subst hji
            rw [gb] at gz
            cases gz
            exact okb
          · exact hok j (by omega) c' b' gz
      · rintro σ H2 ⟨cv, rfl, s2, acc, hacc, hlen, hat2, hok⟩
        refine ⟨_, rfl, .inl ⟨D, acc, rfl, SqL.of hacc, fun p hp => ?_⟩⟩
        have okx : x.ok d = true := allB_ok fun i c b g => hok i (by rw [el]; exact getB_lt g) c b g
        rw [el, takeB_all] at hat2
        exact q1 okx p acc _ (s1.trans (same_set s2 (s2.free hp))) upd_same (hat2.same (same_new hp _))
    · rw [ed] at e
      rw [e, Bool.false_and] at q2
      exact q2 rfl H1 s1
end
end Bs

set_option Elab.async false
set_option linter.all false
set_option maxRecDepth 100000
set_option maxHeartbeats 4000000
namespace Bs
open PySem L2
def It.kind : It → Str
  | .num .. => "number" | .byt .. => "bytes" | .txt .. => "text" | .rep .. => "repeat" | .eit .. => "either" | .swi .. => "switch" | .chk .. => "check" | .pad .. => "pad"
def It.parts : It → Nat
  | .num .. => 6 | .byt .. => 3 | .txt .. => 4 | .rep .. => 4 | .eit .. => 3 | .swi .. => 4 | .chk .. => 3 | .pad .. => 4
def It.blocky : It → Bool
  | .rep .. => true | .eit .. => true | .swi .. => true | _ => false
/-- PARTS and WITH_BLOCKS -/
structure Kinds (K : PySem.W.Frag) (w : World) (mg : Str → Option Value) : Prop where
  p : ∃ d es n, mg "PARTS" = some (.ref d) ∧ KDict K w d es n ∧ ∀ x : It, ∃ t, PySem.W.nsIn K d x.kind = some (some (.int (x.parts : Nat) t))
  b : ∃ a, mg "WITH_BLOCKS" = some (.ref a) ∧ ∀ H, SqT K H a [.str "repeat", .str "either", .str "switch"]
theorem At_head {fz : Bool} {H : Hp} : ∀ {x : It} {v : V}, x.At fz H v → ∃ p rest, v = .ref p ∧ H p = some (.tup (.str x.kind :: .str x.name :: rest)) ∧ rest.length + 2 = x.parts
  | .num .., _, h => by simp only [It.At] at h; obtain ⟨p, e, h⟩ := h; exact ⟨p, _, e, h, rfl⟩
  | .byt .., _, h => by simp only [It.At] at h; obtain ⟨p, e, h⟩ := h; exact ⟨p, _, e, h, rfl⟩
  | .txt .., _, h => by simp only [It.At] at h; obtain ⟨p, e, h⟩ := h; exact ⟨p, _, e, h, rfl⟩
  | .chk .., _, h => by simp only [It.At] at h; obtain ⟨p, e, h⟩ := h; exact ⟨p, _, e, h, rfl⟩
  | .pad .., _, h => by simp only [It.At] at h; obtain ⟨p, e, h⟩ := h; exact ⟨p, _, e, h, rfl⟩
  | .rep .., _, h => by simp only [It.At] at h; obtain ⟨p, q, xs, e, h, _⟩ := h; exact ⟨p, _, e, h, rfl⟩
  | .eit .., _, h => by simp only [It.At] at h; obtain ⟨p, q, xs, e, h, _⟩ := h; exact ⟨p, _, e, h, rfl⟩
  | .swi .., _, h => by simp only [It.At] at h; obtain ⟨p, q, xs, e, h, _⟩ := h; exact ⟨p, _, e, h, rfl⟩
theorem blocky_in (x : It) : inV (.str x.kind) [.str "repeat", .str "either", .str "switch"] = x.blocky := by cases x <;> simp only [It.kind, It.blocky] <;> decide +kernel
theorem ok_name {x : It} {d : Int} (h : isName x.name = false) : x.ok d = false := by
  cases x <;> simp only [It.name] at h <;> simp [It.ok, It.name, h]
theorem ok_deep {x : It} {d : Int} (h : ¬ d ≤ (if x.blocky = true then 2 else 3)) : x.ok d = false := by
  cases x <;> simp [It.blocky] at h <;> simp [It.ok] <;> intros <;> omega
theorem deep_go {c : Bool} {σ : L2.St} {H : Hp} {R : V → Hp → Prop} (h : R (.int (if c = true then 2 else 3)) H) : if c = true then tOp (rI0 fun i j => V.int (i - j)) (tC (.int 3)) (tC (.int 1)) σ H R else tC (.int 3) σ H R := by
  cases c with
  | true => exact iteT ⟨_, _, rfl, rfl, h⟩
  | false => exact iteF h
theorem kne {a b : Str} (h : a ≠ b) : ¬ V.str a = V.str b := fun z => h (V.str.inj z)
/-- the copies one deeper, where there is one -/
def spSub (sp : Nat → Sp) : Nat → Sp
  | 0 => fun _ _ _ _ => False
  | n + 1 => sp n
section
variable {P : Program} {w : World} {K : PySem.W.Frag} {mg : Str → Option Value} {base : Heap} {f C : Addr} {fd : FuncData}
theorem scCopItem : FnScope ["item", "depth", "kind", "deepest"] ["item", "depth"] (defScope sCopItem) := ⟨rfl, rfl, rfl, by decide +kernel, rfl, by decide +kernel, by decide +kernel⟩
theorem ok_copitem {n0 k : Nat} (F : Fun K "copied_item" "copied_item" sCopItem f fd) (hk : 1 ≤ k) (T : Kinds K w mg) (gR : Cal P w K mg base (L2.CX P w) 1 "require" ["holds", "words"] (spRequire C)) (gN : Cal P w K mg base CX0 1 "is_name" ["text"] spIsName)
    (mt : mg "tuple" = none) (mi : mg "isinstance" = none) (ml : mg "len" = none) (ms : mg "str" = none) (gD : GInt mg "DEEPEST" 3) (gL : Cal P w K mg base (L2.CX P w) k "copied_list" ["items", "depth"] (spSub (spCopList C) n0))
    (gCh : Cal P w K mg base (L2.CX P w) k "copied_choices" ["choices", "depth"] (spSub (spCopChoices C) n0)) (gCa : Cal P w K mg base (L2.CX P w) k "copied_cases" ["cases", "depth"] (spSub (spCopCases C) n0)) : FnOk P w K mg base (L2.CX P w) (k + 1) f fd ["item", "depth"] (spCopItem C n0) := by
  refine F.okX scCopItem (fun vs H Q E h => ?_) (fun cdv A outer s H vs Q E hr h => ?_)
  · obtain ⟨v, x, d, rfl, _⟩ := h
    rfl
  · obtain ⟨v, x, d, rfl, hd, hat, ht, q1, q2⟩ := h
    obtain ⟨p, rest, rfl, hp, hlen⟩ := At_head hat
    obtain ⟨dP, es, nn, gP, D, hP⟩ := T.p
    obtain ⟨aB, gB, hB⟩ := T.b
    obtain ⟨t6, ns6⟩ := hP x
    have hr1 : Room 1 _ := hr.mono (by omega)
    have tk : Takes (cxOf (L2.CX P w) P w K mg base ["item", "depth", "kind", "deepest"] "copied_item" (defScope sCopItem) f cdv A outer s H E) (fun cls d _ H => E cls d H) := takes_of rfl rfl rfl rfl
    have hx := passes_call tk (E := E) fun _ _ _ _ h => h
    refine ⟨_, pss_cons (ps_expr (pe_cal gR hr1 hx (pa_cons (pe_and (pe_callB call_isi (by rfl) mi (by decide +kernel) (pa_cons (pv 0) (pa_cons (pe_bltn (v := .ty "tuple") (by rfl) mt (by decide +kernel) rfl) pa_nil)))
          (pe_one (pe_cmpR op_gt (pe_callB call_len (by rfl) ml boot_len (pa_cons (pv 0) pa_nil)) pe_int (nomark _)))) (pa_cons pe_str pa_nil))))
      (pss_cons (ps_set (i := 2) scCopItem.nd rfl (.inl rfl) (pe_ix ix_tup (pv 0) pe_int (fun _ _ => rfl)))
      (pss_cons (ps_expr (pe_cal gR hr1 hx (pa_cons (pe_and (pe_callB call_isi (by rfl) mi (by decide +kernel) (pa_cons (pv 2) (pa_cons (pe_bltn (v := .ty "str") (by rfl) ms (by decide +kernel) rfl) pa_nil)))
          (pe_one (pe_cmpR (op_in_kd D) (pv 2) (pe_glob (v := .ref dP) (by rfl) gP rfl) (by rfl)))) (pa_cons pe_str pa_nil))))
      (pss_cons (ps_expr (pe_cal gR hr1 hx (pa_cons (pe_cmpR op_eq (pe_callB call_len (by rfl) ml boot_len (pa_cons (pv 0) pa_nil)) (pe_ix ix_kdict (pe_glob (v := .ref dP) (by rfl) gP rfl) (pv 2) (fun _ _ => rfl)) (nomark _))
          (pa_cons (pe_joined (.cons pe_str (.cons (pe_fmt (pv 2)) (.cons pe_str .nil)))) pa_nil))))
      (pss_cons (ps_expr (pe_cal gR hr1 hx (pa_cons (pe_cal gN hr1 pass0 (pa_cons (pe_ix ix_tup (pv 0) pe_int (fun _ _ => rfl)) pa_nil)) (pa_cons pe_str pa_nil))))
      (pss_cons (ps_set (i := 3) scCopItem.nd rfl (.inl rfl) (pe_ifExp (pt_cmpR op_in_seq (pv 2) (pe_glob (v := .ref aB) (by rfl) gB rfl) (by rfl)) (pe_op op_sub (pe_gint gD rfl) pe_int) (pe_gint gD rfl)))
      (pss_cons (ps_expr (pe_cal gR hr1 hx (pa_cons (pe_cmpR op_le (pv 1) (pv 3) (nomark _)) (pa_cons (pe_joined (.cons pe_str (.cons (pe_fmt (pv 2)) (.cons pe_str .nil)))) pa_nil))))
      (pss_cons (ps_if (pt_cmpR op_eq (pv 2) pe_str (nomark _)) (pss_one (ps_ret (pe_op op_catT (pe_slice sl_tup (pv 0) po_none (po_some pe_int)) (pe_tup (pa_cons (pe_cal gL hr hx (pa_cons (pe_ix ix_tup (pv 0) pe_int (fun _ _ => rfl)) (pa_cons (pe_op op_add (pv 1) pe_int) pa_nil))) pa_nil))))) pss_nil)
      (pss_cons (ps_if (pt_cmpR op_eq (pv 2) pe_str (nomark _)) (pss_one (ps_ret (pe_op op_catT (pe_slice sl_tup (pv 0) po_none (po_some pe_int)) (pe_tup (pa_cons (pe_cal gCh hr hx (pa_cons (pe_ix ix_tup (pv 0) pe_int (fun _ _ => rfl)) (pa_cons (pe_op op_add (pv 1) pe_int) pa_nil))) pa_nil))))) pss_nil)
      (pss_cons (ps_if (pt_cmpR op_eq (pv 2) pe_str (nomark _)) (pss_one (ps_ret (pe_op op_catT (pe_slice sl_tup (pv 0) po_none (po_some pe_int)) (pe_tup (pa_cons (pe_cal gCa hr hx (pa_cons (pe_ix ix_tup (pv 0) pe_int (fun _ _ => rfl)) (pa_cons (pe_op op_add (pv 1) pe_int) pa_nil))) pa_nil))))) pss_nil)
      (pss_one (ps_ret (pe_tupleOf rfl mt (pv 0))))))))))))), ?_⟩
    have fs1 : ∀ y : Str, y = x.kind → (Str.empty ++ ("the kind " : Str)).length ≤ sizeLine ∧ y.length ≤ sizeLine ∧ (Str.empty ++ ("the kind " : Str) ++ y).length ≤ sizeLine ∧ (Str.empty ++ ("the kind " : Str) ++ y ++ (" has another number of parts" : Str)).length ≤ sizeLine := by
      rintro y rfl; cases x <;> simp only [It.kind] <;> decide +kernel
    have fs2 : ∀ y : Str, y = x.kind → (Str.empty ++ ("an item of the kind " : Str)).length ≤ sizeLine ∧ y.length ≤ sizeLine ∧ (Str.empty ++ ("an item of the kind " : Str) ++ y).length ≤ sizeLine ∧ (Str.empty ++ ("an item of the kind " : Str) ++ y ++ (" stands too deep" : Str)).length ≤ sizeLine := by
      rintro y rfl; cases x <;> simp only [It.kind] <;> decide +kernel
    obtain ⟨a1, a2, a3, a4⟩ := fs1 _ rfl
    obtain ⟨b1, b2, b3, b4⟩ := fs2 _ rfl
    have hT : SqT K H p _ := SqT.of hp
    -- an item is a tuple
    refine ⟨_, rfl, _, _, _, _, true, rfl, .ty _, .base (.tup hp), kit_ty (by decide +kernel), _, rfl, iteT ?_⟩
    refine ⟨_, rfl, _, _, rfl, .inr ⟨_, hT, rfl⟩, _, _, rfl, rfl, ?_⟩
    refine ⟨_, _, rfl, fun _ => ?_, fun z => absurd (show (0 : Int) < ((V.str x.kind :: V.str x.name :: rest).length : Nat) by rw [List.length_cons]; omega) (of_decide_eq_false z)⟩
    -- its kind
    refine ⟨_, rfl, p, _, 0, _, rfl, rfl, hT, atI_nat (j := 0) rfl, ?_⟩
    refine ⟨_, rfl, _, _, _, _, true, rfl, .ty _, .base (.str _), kit_ty (by decide +kernel), _, rfl, iteT ?_⟩
    refine ⟨_, rfl, x.kind, _, rfl, rfl, ns6, _, _, rfl, fun _ => ?_, fun z => by cases z⟩
    -- its parts
    refine ⟨_, rfl, _, _, rfl, .inr ⟨_, hT, rfl⟩, _, rfl, dP, x.kind, .int (x.parts : Nat), rfl, rfl, ⟨es, nn, _, D.at_, D.lit, ns6, t6, rfl⟩, rfl, ?_⟩
    refine ⟨_, rfl, a1, _, rfl, .inl ⟨_, rfl, a2, _, rfl, a3, _, rfl, a4, _, _, rfl, fun _ => ?_, fun z => absurd (show V.int ((V.str x.kind :: V.str x.name :: rest).length : Nat) = V.int (x.parts : Nat) by rw [List.length_cons, List.length_cons, ← hlen]) (of_decide_eq_false z)⟩⟩
    -- its name
    refine ⟨_, rfl, p, _, 1, _, rfl, rfl, hT, atI_nat (j := 1) rfl, x.name, rfl, Nat.le_of_lt (small1000 (It.tame_name ht)), fun H1 s1 => ?_⟩
    refine ⟨_, _, rfl, fun en => ?_, fun en => q2 (ok_name en) H1 s1⟩
    have hT1 : SqT K H1 p _ := SqT.of (s1 _ _ hp)
    refine ⟨_, rfl, aB, _, rfl, .inr (hB H1), rfl, by decide +kernel, x.blocky, congrArg V.bl (blocky_in x), ?_⟩
    refine deep_go ?_
    refine ⟨_, rfl, _, rfl, _, _, rfl, rfl, _, rfl, b1, _, rfl, .inl ⟨_, rfl, b2, _, rfl, b3, _, rfl, b4, _, _, rfl, fun e => ?_, fun e => q2 (ok_deep (of_decide_eq_false e)) H1 s1⟩⟩
    have e : d ≤ (if x.blocky = true then 2 else 3) := of_decide_eq_true e
    cases x with
    | num n size order low high =>
      refine ⟨_, rfl, rfl, _, rfl, ite2 (fun z => absurd (of_decide_eq_true z) (kne (by simp only [It.kind]; decide +kernel))) (fun _ => ?_)⟩
      refine ⟨_, rfl, rfl, _, rfl, ite2 (fun z => absurd (of_decide_eq_true z) (kne (by simp only [It.kind]; decide +kernel))) (fun _ => ?_)⟩
      refine ⟨_, rfl, rfl, _, rfl, ite2 (fun z => absurd (of_decide_eq_true z) (kne (by simp only [It.kind]; decide +kernel))) (fun _ => ?_)⟩
      refine ⟨_, rfl, .inr ⟨p, _, rfl, hT1, q1 ?_ _ H1 s1 ?_⟩⟩
      · have e : d ≤ 3 := e
        have en : isName n = true := en
        simp [It.ok, It.name, en, e]
      · refine It.At.same s1 ?_
        simp only [It.At] at hat ⊢
        exact hat
    | byt n amt =>
      refine ⟨_, rfl, rfl, _, rfl, ite2 (fun z => absurd (of_decide_eq_true z) (kne (by simp only [It.kind]; decide +kernel))) (fun _ => ?_)⟩
      refine ⟨_, rfl, rfl, _, rfl, ite2 (fun z => absurd (of_decide_eq_true z) (kne (by simp only [It.kind]; decide +kernel))) (fun _ => ?_)⟩
      refine ⟨_, rfl, rfl, _, rfl, ite2 (fun z => absurd (of_decide_eq_true z) (kne (by simp only [It.kind]; decide +kernel))) (fun _ => ?_)⟩
      refine ⟨_, rfl, .inr ⟨p, _, rfl, hT1, q1 ?_ _ H1 s1 ?_⟩⟩
      · have e : d ≤ 3 := e
        have en : isName n = true := en
        simp [It.ok, It.name, en, e]
      · refine It.At.same s1 ?_
        simp only [It.At] at hat ⊢
        exact hat
    | txt n stop most =>
      refine ⟨_, rfl, rfl, _, rfl, ite2 (fun z => absurd (of_decide_eq_true z) (kne (by simp only [It.kind]; decide +kernel))) (fun _ => ?_)⟩
      refine ⟨_, rfl, rfl, _, rfl, ite2 (fun z => absurd (of_decide_eq_true z) (kne (by simp only [It.kind]; decide +kernel))) (fun _ => ?_)⟩
      refine ⟨_, rfl, rfl, _, rfl, ite2 (fun z => absurd (of_decide_eq_true z) (kne (by simp only [It.kind]; decide +kernel))) (fun _ => ?_)⟩
      refine ⟨_, rfl, .inr ⟨p, _, rfl, hT1, q1 ?_ _ H1 s1 ?_⟩⟩
      · have e : d ≤ 3 := e
        have en : isName n = true := en
        simp [It.ok, It.name, en, e]
      · refine It.At.same s1 ?_
        simp only [It.At] at hat ⊢
        exact hat
    | chk n m =>
      refine ⟨_, rfl, rfl, _, rfl, ite2 (fun z => absurd (of_decide_eq_true z) (kne (by simp only [It.kind]; decide +kernel))) (fun _ => ?_)⟩
      refine ⟨_, rfl, rfl, _, rfl, ite2 (fun z => absurd (of_decide_eq_true z) (kne (by simp only [It.kind]; decide +kernel))) (fun _ => ?_)⟩
      refine ⟨_, rfl, rfl, _, rfl, ite2 (fun z => absurd (of_decide_eq_true z) (kne (by simp only [It.kind]; decide +kernel))) (fun _ => ?_)⟩
      refine ⟨_, rfl, .inr ⟨p, _, rfl, hT1, q1 ?_ _ H1 s1 ?_⟩⟩
      · have e : d ≤ 3 := e
        have en : isName n = true := en
        simp [It.ok, It.name, en, e]
      · refine It.At.same s1 ?_
        simp only [It.At] at hat ⊢
        exact hat
    | pad n m b =>
      refine ⟨_, rfl, rfl, _, rfl, ite2 (fun z => absurd (of_decide_eq_true z) (kne (by simp only [It.kind]; decide +kernel))) (fun _ => ?_)⟩
      refine ⟨_, rfl, rfl, _, rfl, ite2 (fun z => absurd (of_decide_eq_true z) (kne (by simp only [It.kind]; decide +kernel))) (fun _ => ?_)⟩
      refine ⟨_, rfl, rfl, _, rfl, ite2 (fun z => absurd (of_decide_eq_true z) (kne (by simp only [It.kind]; decide +kernel))) (fun _ => ?_)⟩
      refine ⟨_, rfl, .inr ⟨p, _, rfl, hT1, q1 ?_ _ H1 s1 ?_⟩⟩
      · have e : d ≤ 3 := e
        have en : isName n = true := en
        simp [It.ok, It.name, en, e]
      · refine It.At.same s1 ?_
        simp only [It.At] at hat ⊢
        exact hat
    | rep n amt b =>
      have e : d ≤ 2 := e
      have en : isName n = true := en
      simp only [It.At] at hat
      obtain ⟨p', q, xs, e1, h1, hrow, hb⟩ := hat
      cases e1
      simp only [It.tame] at ht
      refine ⟨_, rfl, rfl, _, rfl, ite2 (fun _ => ?_) (fun z => (z (decide_eq_true rfl)).elim)⟩
      cases n0 with
      | zero => exfalso; omega
      | succ m =>
        have g1 : H1 p = _ := s1 _ _ h1
        refine ⟨_, rfl, 3, rfl, p, _, rfl, SqT.of g1, by simp only [List.length_cons, List.length_nil]; decide, fun p1 hp1 => ?_⟩
        have s2 := same_new hp1 (.tup (cutV [.str "repeat", .str n, kV amt, .ref q] none (some 3)))
        have g2 := s2 _ _ g1
        refine ⟨_, rfl, p, _, 3, _, rfl, rfl, SqT.of g2, atI_nat (j := 3) rfl, ?_⟩
        refine ⟨_, rfl, d, 1, rfl, rfl, ?_⟩
        have s12 := s1.trans s2
        refine ⟨q, _, xs, d + 1, rfl, by omega, hrow.same s12, hb.same s12, ht.2.2, fun ok p2 ys H2 s3 h2 a2 => ?_, fun no H2 s3 => q2 (by simp only [It.ok]; rw [no]; simp) H2 (s12.trans s3)⟩
        refine ⟨by show 1 ≤ sizeLine; decide, fun t ht4 => ?_⟩
        have s4 := same_new ht4 (.tup [.ref p2])
        refine ⟨p1, t, [.str "repeat", .str n, kV amt], [.ref p2], rfl, rfl, SqT.of (s4 _ _ (s3 _ _ upd_same)), SqT.of upd_same, by simp, by show 4 ≤ sizeLine; decide, fun z => absurd z (by simp), fun _ p3 hp3 => ?_⟩
        refine q1 (by simp only [It.ok]; rw [ok]; simp [en, e]) (.ref p3) _ (s12.trans (s3.trans (s4.trans (same_new hp3 _)))) ?_
        simp only [It.At]
        exact ⟨p3, p2, ys, rfl, upd_same, .inl ((s4.trans (same_new hp3 _)) _ _ h2), a2.same (s4.trans (same_new hp3 _))⟩
    | eit n bs =>
      have e : d ≤ 2 := e
      have en : isName n = true := en
      simp only [It.At] at hat
      obtain ⟨p', q, xs, e1, h1, hrow, hb⟩ := hat
      cases e1
      simp only [It.tame] at ht
      refine ⟨_, rfl, rfl, _, rfl, ite2 (fun z => absurd (of_decide_eq_true z) (kne (by simp only [It.kind]; decide +kernel))) (fun _ => ?_)⟩
      refine ⟨_, rfl, rfl, _, rfl, ite2 (fun _ => ?_) (fun z => (z (decide_eq_true rfl)).elim)⟩
      cases n0 with
      | zero => exfalso; omega
      | succ m =>
        have g1 : H1 p = _ := s1 _ _ h1
        refine ⟨_, rfl, 2, rfl, p, _, rfl, SqT.of g1, by simp only [List.length_cons, List.length_nil]; decide, fun p1 hp1 => ?_⟩
        have s2 := same_new hp1 (.tup (cutV [.str "either", .str n, .ref q] none (some 2)))
        have g2 := s2 _ _ g1
        refine ⟨_, rfl, p, _, 2, _, rfl, rfl, SqT.of g2, atI_nat (j := 2) rfl, ?_⟩
        refine ⟨_, rfl, d, 1, rfl, rfl, ?_⟩
        have s12 := s1.trans s2
        refine ⟨q, _, xs, d + 1, rfl, by omega, hrow.same s12, hb.same s12, ht.2, fun ok p2 ys H2 s3 h2 a2 => ?_, fun no H2 s3 => q2 (by simp only [It.ok]; rw [no]; simp) H2 (s12.trans s3)⟩
        refine ⟨by show 1 ≤ sizeLine; decide, fun t ht4 => ?_⟩
        have s4 := same_new ht4 (.tup [.ref p2])
        refine ⟨p1, t, [.str "either", .str n], [.ref p2], rfl, rfl, SqT.of (s4 _ _ (s3 _ _ upd_same)), SqT.of upd_same, by simp, by show 3 ≤ sizeLine; decide, fun z => absurd z (by simp), fun _ p3 hp3 => ?_⟩
        refine q1 (by simp only [It.ok]; rw [ok]; simp [en, e]) (.ref p3) _ (s12.trans (s3.trans (s4.trans (same_new hp3 _)))) ?_
        simp only [It.At]
        exact ⟨p3, p2, ys, rfl, upd_same, .inl ((s4.trans (same_new hp3 _)) _ _ h2), a2.same (s4.trans (same_new hp3 _))⟩
    | swi n tag bs =>
      have e : d ≤ 2 := e
      have en : isName n = true := en
      simp only [It.At] at hat
      obtain ⟨p', q, xs, e1, h1, hrow, hb⟩ := hat
      cases e1
      simp only [It.tame] at ht
      refine ⟨_, rfl, rfl, _, rfl, ite2 (fun z => absurd (of_decide_eq_true z) (kne (by simp only [It.kind]; decide +kernel))) (fun _ => ?_)⟩
      refine ⟨_, rfl, rfl, _, rfl, ite2 (fun z => absurd (of_decide_eq_true z) (kne (by simp only [It.kind]; decide +kernel))) (fun _ => ?_)⟩
      refine ⟨_, rfl, rfl, _, rfl, ite2 (fun _ => ?_) (fun z => (z (decide_eq_true rfl)).elim)⟩
      cases n0 with
      | zero => exfalso; omega
      | succ m =>
        have g1 : H1 p = _ := s1 _ _ h1
        refine ⟨_, rfl, 3, rfl, p, _, rfl, SqT.of g1, by simp only [List.length_cons, List.length_nil]; decide, fun p1 hp1 => ?_⟩
        have s2 := same_new hp1 (.tup (cutV [.str "switch", .str n, .str tag, .ref q] none (some 3)))
        have g2 := s2 _ _ g1
        refine ⟨_, rfl, p, _, 3, _, rfl, rfl, SqT.of g2, atI_nat (j := 3) rfl, ?_⟩
        refine ⟨_, rfl, d, 1, rfl, rfl, ?_⟩
        have s12 := s1.trans s2
        refine ⟨q, _, xs, d + 1, rfl, by omega, hrow.same s12, hb.same s12, ht.2.2, fun ok p2 ys H2 s3 h2 a2 => ?_, fun no H2 s3 => q2 (by simp only [It.ok]; rw [no]; simp) H2 (s12.trans s3)⟩
        refine ⟨by show 1 ≤ sizeLine; decide, fun t ht4 => ?_⟩
        have s4 := same_new ht4 (.tup [.ref p2])
        refine ⟨p1, t, [.str "switch", .str n, .str tag], [.ref p2], rfl, rfl, SqT.of (s4 _ _ (s3 _ _ upd_same)), SqT.of upd_same, by simp, by show 4 ≤ sizeLine; decide, fun z => absurd z (by simp), fun _ p3 hp3 => ?_⟩
        refine q1 (by simp only [It.ok]; rw [ok]; simp [en, e]) (.ref p3) _ (s12.trans (s3.trans (s4.trans (same_new hp3 _)))) ?_
        simp only [It.At]
        exact ⟨p3, p2, ys, rfl, upd_same, .inl ((s4.trans (same_new hp3 _)) _ _ h2), a2.same (s4.trans (same_new hp3 _))⟩
end
end Bs

set_option Elab.async false
set_option linter.all false
set_option maxRecDepth 100000
set_option maxHeartbeats 4000000
namespace Bs
open PySem L2
/-! ### lengths of items -/
/-- the numbers that are visible: a dict of pairs -/
def VisAt (H : Hp) (d : Addr) (f : Env) (m : Nat) : Prop := ∃ kvs : List (Key × V), H d = some (.dK kvs) ∧ kvs.length ≤ m ∧ ∀ z : Str, match f z with
  | some p => ∃ a, valV kvs (.inr z) = some (.ref a) ∧ H a = some (.tup [.int p.1, .int p.2])
  | none => valV kvs (.inr z) = none
theorem VisAt.same {H H' : Hp} {d : Addr} {f : Env} {m : Nat} (s : Same H H') (h : VisAt H d f m) : VisAt H' d f m := by
  obtain ⟨kvs, h1, h2, h3⟩ := h
  refine ⟨kvs, s _ _ h1, h2, fun z => ?_⟩
  have q := h3 z
  cases e : f z with
  | none => rw [e] at q; exact q
  | some p => rw [e] at q; obtain ⟨a, q1, q2⟩ := q; exact ⟨a, q1, s _ _ q2⟩
/-- a pair of ints comes out, or the error -/
def Told (C : Addr) (r : Option (Int × Int)) (H : Hp) (Q : VK) (E : XK) : Prop :=
  (∀ l, r = some l → ∀ p H', Same H H' → H' p = some (.tup [.int l.1, .int l.2]) → Q (.ref p) H') ∧ (r = none → ∀ H', Same H H' → E (.ref C) none H')
theorem Told.same {C : Addr} {r : Option (Int × Int)} {H H1 : Hp} {Q : VK} {E : XK} (s : Same H H1) (h : Told C r H Q E) : Told C r H1 Q E :=
  ⟨fun l e p H' s' => h.1 l e p H' (s.trans s'), fun e H' s' => h.2 e H' (s.trans s')⟩
def spAmount (C : Addr) : Sp := fun vs H Q E => ∃ (i most : Int) (u : V), vs = [.int i, u, .int most] ∧ (most = 64 ∨ most = 16) ∧ Told C (amount (fun _ => none) most (.inl i)) H Q E
/-- KIND_lengths(item, visible), of an item at depth d -/
def spLens (C : Addr) (k : Str) (n : Nat) : Sp := fun vs H Q E => ∃ (v : V) (dv : Addr) (x : It) (f : Env) (m : Nat) (d : Int), vs = [v, .ref dv] ∧ x.kind = k ∧ d + n = 3 ∧ x.ok d = true ∧ x.tame ∧ x.At true H v ∧ VisAt H dv f m ∧ m + 12 * n ≤ 100 ∧ Told C (x.lens f) H Q E
section
variable {P : Program} {w : World} {K : PySem.W.Frag} {mg : Str → Option Value} {base : Heap} {f C : Addr} {fd : FuncData}
theorem scAmount : FnScope ["amount", "visible", "most", "low", "high"] ["amount", "visible", "most"] (defScope sAmount) := ⟨rfl, rfl, rfl, by decide +kernel, rfl, by decide +kernel, by decide +kernel⟩
theorem ok_amount (F : Fun K "amount_bounds" "amount_bounds" sAmount f fd) (gR : Cal P w K mg base (L2.CX P w) 1 "require" ["holds", "words"] (spRequire C)) (gI : Cal P w K mg base CX0 1 "is_integer" ["value", "low", "high"] spIsInt) (mi : mg "isinstance" = none) (ms : mg "str" = none) :
    FnOk P w K mg base (L2.CX P w) 2 f fd ["amount", "visible", "most"] (spAmount C) := by
  refine F.okX scAmount (fun vs H Q E h => ?_) (fun cdv A outer s H vs Q E hr h => ?_)
  · obtain ⟨i, most, u, rfl, _⟩ := h
    rfl
  · obtain ⟨i, most, u, rfl, hm, q1, q2⟩ := h
    have tk : Takes (cxOf (L2.CX P w) P w K mg base ["amount", "visible", "most", "low", "high"] "amount_bounds" (defScope sAmount) f cdv A outer s H E) (fun cls d _ H => E cls d H) := takes_of rfl rfl rfl rfl
    have hx := passes_call tk (E := E) fun _ _ _ _ h => h
    refine ⟨_, pss_cons (ps_if (pt_val (pe_callB call_isi (by rfl) mi (by decide +kernel) (pa_cons (pv 0) (pa_cons (pe_bltn (v := .ty "str") (by rfl) ms (by decide +kernel) rfl) pa_nil)))) pss_never pss_nil)
      (pss_cons (ps_expr (pe_cal gR hr hx (pa_cons (pe_cal gI hr pass0 (pa_cons (pv 0) (pa_cons pe_int (pa_cons (pv 2) pa_nil)))) (pa_cons (pe_joined (.cons pe_str (.cons (pe_fmt (pv 2)) .nil))) pa_nil))))
      (pss_one (ps_ret (pe_tup (pa_cons (pv 0) (pa_cons (pv 0) pa_nil)))))), ?_⟩
    refine ⟨_, rfl, _, _, _, _, false, rfl, .ty _, .base (.int _), kit_ty (by decide +kernel), _, rfl, iteF ?_⟩
    have fs : most.natAbs.log2 < 1920 ∧ (Str.empty ++ ("not from 0 to " : Str) ++ toString most).length ≤ sizeLine := by rcases hm with rfl | rfl <;> decide +kernel
    refine ⟨_, rfl, _, rfl, i, 0, most, rfl, _, rfl, by decide +kernel, _, rfl, .inr ⟨most, rfl, fs.1, _, rfl, fs.2, _, _, rfl, fun e => ?_, fun e => ?_⟩⟩
    · have e := of_decide_eq_true e
      refine ⟨_, rfl, _, rfl, (by show 2 ≤ sizeLine; decide), fun p hp => ?_⟩
      exact q1 (i, i) (by simp [amount, e]) p _ (same_new hp _) upd_same
    · have e := of_decide_eq_false e
      exact q2 (by simp [amount, e]) _ (Same.refl H)
theorem scBytes : FnScope ["item", "visible"] ["item", "visible"] (defScope sBytes) := ⟨rfl, rfl, rfl, by decide +kernel, rfl, by decide +kernel, by decide +kernel⟩
theorem ok_bytes {n : Nat} (F : Fun K "bytes_lengths" "bytes_lengths" sBytes f fd) (gA : Cal P w K mg base (L2.CX P w) 2 "amount_bounds" ["amount", "visible", "most"] (spAmount C)) (gL : GInt mg "GREATEST_LENGTH" 64) :
    FnOk P w K mg base (L2.CX P w) 3 f fd ["item", "visible"] (spLens C "bytes" n) := by
  refine F.okX scBytes (fun vs H Q E h => ?_) (fun cdv A outer s H vs Q E hr h => ?_)
  · obtain ⟨v, dv, x, g, m, d, rfl, _⟩ := h
    rfl
  · obtain ⟨v, dv, x, g, m, d, rfl, hk, hd, ok, ht, hat, hv, hm, q⟩ := h
    have tk : Takes (cxOf (L2.CX P w) P w K mg base ["item", "visible"] "bytes_lengths" (defScope sBytes) f cdv A outer s H E) (fun cls d _ H => E cls d H) := takes_of rfl rfl rfl rfl
    have hx := passes_call tk (E := E) fun _ _ _ _ h => h
    cases x with
    | byt nm amt =>
      simp only [It.tame] at ht
      obtain ⟨_, i, rfl⟩ := ht
      simp only [It.At] at hat
      obtain ⟨p, rfl, hp⟩ := hat
      refine ⟨_, pss_one (ps_ret (pe_cal gA hr hx (pa_cons (pe_ix ix_tup (pv 0) pe_int (fun _ _ => rfl)) (pa_cons (pv 1) (pa_cons (pe_gint gL rfl) pa_nil))))), ?_⟩
      exact ⟨_, rfl, p, _, 2, _, rfl, rfl, SqT.of hp, atI_nat (j := 2) rfl, _, rfl, i, 64, .ref dv, rfl, .inl rfl, q⟩
    | _ => exact absurd hk (by simp only [It.kind]; decide +kernel)
theorem scText : FnScope ["item", "visible"] ["item", "visible"] (defScope sText) := ⟨rfl, rfl, rfl, by decide +kernel, rfl, by decide +kernel, by decide +kernel⟩
theorem ok_text {n : Nat} (F : Fun K "text_lengths" "text_lengths" sText f fd) (gR : Cal P w K mg base (L2.CX P w) 1 "require" ["holds", "words"] (spRequire C)) (gI : Cal P w K mg base CX0 1 "is_integer" ["value", "low", "high"] spIsInt) (gL : GInt mg "GREATEST_LENGTH" 64) (gB : GInt mg "GREATEST_BYTE" 255) :
    FnOk P w K mg base (L2.CX P w) 2 f fd ["item", "visible"] (spLens C "text" n) := by
  refine F.okX scText (fun vs H Q E h => ?_) (fun cdv A outer s H vs Q E hr h => ?_)
  · obtain ⟨v, dv, x, g, m, d, rfl, _⟩ := h
    rfl
  · obtain ⟨v, dv, x, g, m, d, rfl, hk, hd, ok, ht, hat, hv, hm, q1, q2⟩ := h
    have tk : Takes (cxOf (L2.CX P w) P w K mg base ["item", "visible"] "text_lengths" (defScope sText) f cdv A outer s H E) (fun cls d _ H => E cls d H) := takes_of rfl rfl rfl rfl
    have hx := passes_call tk (E := E) fun _ _ _ _ h => h
    cases x with
    | txt nm stop most =>
      simp only [It.At] at hat
      obtain ⟨p, rfl, hp⟩ := hat
      have hT : SqT K H p _ := SqT.of hp
      refine ⟨_, pss_cons (ps_expr (pe_cal gR hr hx (pa_cons (pe_cal gI hr pass0 (pa_cons (pe_ix ix_tup (pv 0) pe_int (fun _ _ => rfl)) (pa_cons pe_int (pa_cons (pe_gint gB rfl) pa_nil)))) (pa_cons pe_str pa_nil))))
        (pss_cons (ps_expr (pe_cal gR hr hx (pa_cons (pe_cal gI hr pass0 (pa_cons (pe_ix ix_tup (pv 0) pe_int (fun _ _ => rfl)) (pa_cons pe_int (pa_cons (pe_gint gL rfl) pa_nil)))) (pa_cons (pe_joined (.cons pe_str (.cons (pe_fmt (pe_gint gL rfl)) (.cons pe_str .nil)))) pa_nil))))
        (pss_one (ps_ret (pe_tup (pa_cons pe_int (pa_cons (pe_op op_add (pe_ix ix_tup (pv 0) pe_int (fun _ _ => rfl)) pe_int) pa_nil)))))), ?_⟩
      refine ⟨_, rfl, p, _, 2, _, rfl, rfl, hT, atI_nat (j := 2) rfl, stop, 0, 255, rfl, _, _, rfl, fun e => ?_, fun e => q2 (by have e := of_decide_eq_false e; simp only [It.lens]; rw [if_neg fun z => e z.1]) _ (Same.refl H)⟩
      have e := of_decide_eq_true e
      refine ⟨_, rfl, p, _, 3, _, rfl, rfl, hT, atI_nat (j := 3) rfl, most, 0, 64, rfl, ?_⟩
      refine ⟨_, rfl, by decide +kernel, .inr ⟨64, rfl, by decide +kernel, _, rfl, by decide +kernel, _, rfl, by decide +kernel, _, _, rfl, fun e2 => ?_, fun e2 => q2 (by have e2 := of_decide_eq_false e2; simp only [It.lens]; rw [if_neg fun z => e2 z.2]) _ (Same.refl H)⟩⟩
      have e2 := of_decide_eq_true e2
      refine ⟨_, rfl, p, _, 3, _, rfl, rfl, hT, atI_nat (j := 3) rfl, most, 1, rfl, rfl, (by show 2 ≤ sizeLine; decide), fun t ht4 => ?_⟩
      exact q1 (1, most + 1) (by simp only [It.lens]; rw [if_pos ⟨e, e2⟩]) t _ (same_new ht4 _) upd_same
    | _ => exact absurd hk (by simp only [It.kind]; decide +kernel)
theorem scCheck : FnScope ["item", "visible"] ["item", "visible"] (defScope sCheck) := ⟨rfl, rfl, rfl, by decide +kernel, rfl, by decide +kernel, by decide +kernel⟩
theorem ok_check {n : Nat} (F : Fun K "check_lengths" "check_lengths" sCheck f fd) (gR : Cal P w K mg base (L2.CX P w) 1 "require" ["holds", "words"] (spRequire C)) (gI : Cal P w K mg base CX0 1 "is_integer" ["value", "low", "high"] spIsInt) (gM : GInt mg "GREATEST_MODULUS" 16) :
    FnOk P w K mg base (L2.CX P w) 2 f fd ["item", "visible"] (spLens C "check" n) := by
  refine F.okX scCheck (fun vs H Q E h => ?_) (fun cdv A outer s H vs Q E hr h => ?_)
  · obtain ⟨v, dv, x, g, m, d, rfl, _⟩ := h
    rfl
  · obtain ⟨v, dv, x, g, m, d, rfl, hk, hd, ok, ht, hat, hv, hm, q1, q2⟩ := h
    have tk : Takes (cxOf (L2.CX P w) P w K mg base ["item", "visible"] "check_lengths" (defScope sCheck) f cdv A outer s H E) (fun cls d _ H => E cls d H) := takes_of rfl rfl rfl rfl
    have hx := passes_call tk (E := E) fun _ _ _ _ h => h
    cases x with
    | chk nm mo =>
      simp only [It.At] at hat
      obtain ⟨p, rfl, hp⟩ := hat
      have hT : SqT K H p _ := SqT.of hp
      refine ⟨_, pss_cons (ps_expr (pe_cal gR hr hx (pa_cons (pe_cal gI hr pass0 (pa_cons (pe_ix ix_tup (pv 0) pe_int (fun _ _ => rfl)) (pa_cons pe_int (pa_cons (pe_gint gM rfl) pa_nil)))) (pa_cons (pe_joined (.cons pe_str (.cons (pe_fmt (pe_gint gM rfl)) .nil))) pa_nil))))
        (pss_one (ps_ret (pe_tup (pa_cons pe_int (pa_cons pe_int pa_nil))))), ?_⟩
      refine ⟨_, rfl, p, _, 2, _, rfl, rfl, hT, atI_nat (j := 2) rfl, mo, 1, 16, rfl, ?_⟩
      refine ⟨_, rfl, by decide +kernel, .inr ⟨16, rfl, by decide +kernel, _, rfl, by decide +kernel, _, _, rfl, fun e => ?_, fun e => q2 (by have e := of_decide_eq_false e; simp only [It.lens]; rw [if_neg e]) _ (Same.refl H)⟩⟩
      have e := of_decide_eq_true e
      refine ⟨(by show 2 ≤ sizeLine; decide), fun t ht4 => ?_⟩
      exact q1 (1, 1) (by simp only [It.lens]; rw [if_pos e]) t _ (same_new ht4 _) upd_same
    | _ => exact absurd hk (by simp only [It.kind]; decide +kernel)
end
end Bs

set_option Elab.async false
set_option linter.all false
set_option maxRecDepth 100000
set_option maxHeartbeats 4000000
namespace Bs
open PySem L2
theorem two_go {c : Bool} {a b : Int} {σ : L2.St} {H : Hp} {R : V → Hp → Prop} (h : R (.int (if c = true then a else b)) H) : if c = true then tC (.int a) σ H R else tC (.int b) σ H R := by
  cases c with
  | true => exact iteT h
  | false => exact iteF h
theorem order_in (o : Str) : inV (.str o) [.str "big", .str "little"] = decide (o = "big" ∨ o = "little") := by
  rw [Bool.eq_iff_iff, decide_eq_true_iff]
  simp only [inV, List.any_cons, List.any_nil, eqV, Bool.or_false, Bool.or_eq_true]
  constructor
  · rintro (h | h)
    · exact .inl (eq_of_beq h).symm
    · exact .inr (eq_of_beq h).symm
  · rintro (h | h)
    · exact .inl (beq_iff_eq.mpr h.symm)
    · exact .inr (beq_iff_eq.mpr h.symm)
theorem int_eq {a b : Int} : decide (V.int a = V.int b) = decide (a = b) := decide_eq_decide.mpr ⟨V.int.inj, fun h => congrArg _ h⟩
section
variable {P : Program} {w : World} {K : PySem.W.Frag} {mg : Str → Option Value} {base : Heap} {f C : Addr} {fd : FuncData}
theorem scNumber : FnScope ["item", "visible", "size", "order", "low", "high", "greatest"] ["item", "visible"] (defScope sNumber) := ⟨rfl, rfl, rfl, by decide +kernel, rfl, by decide +kernel, by decide +kernel⟩
theorem ok_number {n : Nat} (F : Fun K "number_lengths" "number_lengths" sNumber f fd) (gR : Cal P w K mg base (L2.CX P w) 1 "require" ["holds", "words"] (spRequire C)) (gI : Cal P w K mg base CX0 1 "is_integer" ["value", "low", "high"] spIsInt) (gB : GInt mg "GREATEST_BYTE" 255) (gP : GInt mg "GREATEST_PAIR" 65535) :
    FnOk P w K mg base (L2.CX P w) 2 f fd ["item", "visible"] (spLens C "number" n) := by
  refine F.okX scNumber (fun vs H Q E h => ?_) (fun cdv A outer s H vs Q E hr h => ?_)
  · obtain ⟨v, dv, x, g, m, d, rfl, _⟩ := h
    rfl
  · obtain ⟨v, dv, x, g, m, d, rfl, hk, hd, ok, ht, hat, hv, hm, q1, q2⟩ := h
    have tk : Takes (cxOf (L2.CX P w) P w K mg base ["item", "visible", "size", "order", "low", "high", "greatest"] "number_lengths" (defScope sNumber) f cdv A outer s H E) (fun cls d _ H => E cls d H) := takes_of rfl rfl rfl rfl
    have hx := passes_call tk (E := E) fun _ _ _ _ h => h
    cases x with
    | num nm size order low high =>
      simp only [It.At] at hat
      obtain ⟨p, rfl, hp⟩ := hat
      have hT : SqT K H p _ := SqT.of hp
      refine ⟨_, pss_cons (ps_asg (pe_slice sl_tup (pv 0) (po_some pe_int) po_none) (pg_tup rfl (pgs_cons (pg_name (i := 2) scNumber.nd rfl (.inl rfl)) (pgs_cons (pg_name (i := 3) scNumber.nd rfl (.inl rfl)) (pgs_cons (pg_name (i := 4) scNumber.nd rfl (.inl rfl)) (pgs_cons (pg_name (i := 5) scNumber.nd rfl (.inl rfl)) pgs_nil))))))
        (pss_cons (ps_expr (pe_cal gR hr hx (pa_cons (pe_cal gI hr pass0 (pa_cons (pv 2) (pa_cons pe_int (pa_cons pe_int pa_nil)))) (pa_cons pe_str pa_nil))))
        (pss_cons (ps_expr (pe_cal gR hr hx (pa_cons (pe_cmpR op_in_seq (pv 3) (pe_tup (pa_cons pe_str (pa_cons pe_str pa_nil))) (by rfl)) (pa_cons pe_str pa_nil))))
        (pss_cons (ps_set (i := 6) scNumber.nd rfl (.inl rfl) (pe_ifExp (pt_cmpR op_eq (pv 2) pe_int (nomark _)) (pe_gint gB rfl) (pe_gint gP rfl)))
        (pss_cons (ps_expr (pe_cal gR hr hx (pa_cons (pe_cal gI hr pass0 (pa_cons (pv 5) (pa_cons pe_int (pa_cons (pv 6) pa_nil)))) (pa_cons (pe_joined (.cons pe_str (.cons (pe_fmt (pv 6)) .nil))) pa_nil))))
        (pss_cons (ps_expr (pe_cal gR hr hx (pa_cons (pe_cal gI hr pass0 (pa_cons (pv 4) (pa_cons pe_int (pa_cons (pv 5) pa_nil)))) (pa_cons pe_str pa_nil))))
        (pss_one (ps_ret (pe_tup (pa_cons (pv 2) (pa_cons (pv 2) pa_nil)))))))))), ?_⟩
      have no : numOk size order low high = false → ∀ H', Same H H' → E (.ref C) none H' := fun e => q2 (by simp only [It.lens]; rw [e]; rfl)
      refine ⟨_, rfl, 2, rfl, p, _, rfl, hT, by simp only [List.length_cons, List.length_nil]; decide, fun t ht4 => ?_⟩
      have s1 := same_new ht4 (.tup [.int size, .str order, .int low, .int high])
      refine ⟨t, [.int size, .str order, .int low, .int high], rfl, SqT.of upd_same, rfl, _, _, rfl, _, _, rfl, _, _, rfl, _, _, rfl, rfl, ?_⟩
      refine ⟨_, rfl, size, 1, 2, rfl, _, _, rfl, fun e1 => ?_, fun e1 => no (by unfold numOk; rw [e1]; rfl) _ s1⟩
      refine ⟨_, rfl, (by show 2 ≤ sizeLine; decide), fun o ho => ?_⟩
      have s2 := s1.trans (same_new ho (.tup [.str "big", .str "little"]))
      refine ⟨o, _, rfl, .inr (SqT.of upd_same), rfl, by decide +kernel, decide (order = "big" ∨ order = "little"), _, by rw [← order_in]; rfl, fun e2 => ?_, fun e2 => no (by unfold numOk; rw [e1, e2]; rfl) _ s2⟩
      refine ⟨_, rfl, rfl, _, rfl, two_go ?_⟩
      rw [int_eq]
      refine ⟨_, rfl, _, rfl, high, 0, _, rfl, ?_⟩
      have eg : (if decide (size = 1) = true then (255 : Int) else 65535) = if size = 1 then 255 else 65535 := by by_cases z : size = 1 <;> simp [z]
      rw [eg]
      have fs : (if size = 1 then (255 : Int) else 65535).natAbs.log2 < 1920 ∧ (Str.empty ++ ("a high is from 0 to " : Str) ++ toString (if size = 1 then (255 : Int) else 65535)).length ≤ sizeLine := by
        by_cases z : size = 1
        · rw [if_pos z]; decide +kernel
        · rw [if_neg z]; decide +kernel
      refine ⟨_, rfl, by decide +kernel, _, rfl, .inr ⟨_, rfl, fs.1, _, rfl, fs.2, _, _, rfl, fun e3 => ?_, fun e3 => no (by unfold numOk; rw [e1, e2, e3]; rfl) _ s2⟩⟩
      refine ⟨_, rfl, _, rfl, low, 0, high, rfl, _, _, rfl, fun e4 => ?_, fun e4 => no (by unfold numOk; rw [e1, e2, e3, e4]; rfl) _ s2⟩
      refine ⟨_, rfl, _, rfl, (by show 2 ≤ sizeLine; decide), fun r hr4 => ?_⟩
      exact q1 (size, size) (by simp only [It.lens]; unfold numOk; rw [e1, e2, e3, e4]; rfl) r _ (s2.trans (same_new hr4 _)) upd_same
    | _ => exact absurd hk (by simp only [It.kind]; decide +kernel)
theorem scPad : FnScope ["item", "visible", "multiple"] ["item", "visible"] (defScope sPad) := ⟨rfl, rfl, rfl, by decide +kernel, rfl, by decide +kernel, by decide +kernel⟩
/-- MULTIPLES -/
def Mults (K : PySem.W.Frag) (mg : Str → Option Value) : Prop := ∃ a, mg "MULTIPLES" = some (.ref a) ∧ ∀ H, SqT K H a [.int 1, .int 2, .int 4, .int 8, .int 16]
theorem mult_in (o : Int) : inV (.int o) [.int 1, .int 2, .int 4, .int 8, .int 16] = decide (o = 1 ∨ o = 2 ∨ o = 4 ∨ o = 8 ∨ o = 16) := by
  rw [Bool.eq_iff_iff, decide_eq_true_iff]
  simp only [inV, List.any_cons, List.any_nil, eqV, Bool.or_false, Bool.or_eq_true, beq_iff_eq]
  omega
theorem ok_pad {n : Nat} (F : Fun K "pad_lengths" "pad_lengths" sPad f fd) (gR : Cal P w K mg base (L2.CX P w) 1 "require" ["holds", "words"] (spRequire C)) (gI : Cal P w K mg base CX0 1 "is_integer" ["value", "low", "high"] spIsInt) (gB : GInt mg "GREATEST_BYTE" 255) (gM : Mults K mg) :
    FnOk P w K mg base (L2.CX P w) 2 f fd ["item", "visible"] (spLens C "pad" n) := by
  refine F.okX scPad (fun vs H Q E h => ?_) (fun cdv A outer s H vs Q E hr h => ?_)
  · obtain ⟨v, dv, x, g, m, d, rfl, _⟩ := h
    rfl
  · obtain ⟨v, dv, x, g, m, d, rfl, hk, hd, ok, ht, hat, hv, hm, q1, q2⟩ := h
    obtain ⟨aM, gM1, gM2⟩ := gM
    have tk : Takes (cxOf (L2.CX P w) P w K mg base ["item", "visible", "multiple"] "pad_lengths" (defScope sPad) f cdv A outer s H E) (fun cls d _ H => E cls d H) := takes_of rfl rfl rfl rfl
    have hx := passes_call tk (E := E) fun _ _ _ _ h => h
    cases x with
    | pad nm mo b =>
      simp only [It.At] at hat
      obtain ⟨p, rfl, hp⟩ := hat
      have hT : SqT K H p _ := SqT.of hp
      refine ⟨_, pss_cons (ps_set (i := 2) scPad.nd rfl (.inl rfl) (pe_ix ix_tup (pv 0) pe_int (fun _ _ => rfl)))
        (pss_cons (ps_expr (pe_cal gR hr hx (pa_cons (pe_and (pe_cal gI hr pass0 (pa_cons (pv 2) (pa_cons pe_int (pa_cons pe_int pa_nil)))) (pe_one (pe_cmpR op_in_seq (pv 2) (pe_glob (v := .ref aM) (by rfl) gM1 rfl) (by rfl)))) (pa_cons pe_str pa_nil))))
        (pss_cons (ps_expr (pe_cal gR hr hx (pa_cons (pe_cal gI hr pass0 (pa_cons (pe_ix ix_tup (pv 0) pe_int (fun _ _ => rfl)) (pa_cons pe_int (pa_cons (pe_gint gB rfl) pa_nil)))) (pa_cons pe_str pa_nil))))
        (pss_one (ps_ret (pe_tup (pa_cons pe_int (pa_cons (pe_op op_sub (pv 2) pe_int) pa_nil))))))), ?_⟩
      refine ⟨_, rfl, p, _, 2, _, rfl, rfl, hT, atI_nat (j := 2) rfl, ?_⟩
      have no : ¬ ((mo = 1 ∨ mo = 2 ∨ mo = 4 ∨ mo = 8 ∨ mo = 16) ∧ 0 ≤ b ∧ b ≤ 255) → ∀ H', Same H H' → E (.ref C) none H' := fun e => q2 (by simp only [It.lens]; rw [if_neg e])
      refine ⟨_, rfl, mo, 1, 16, rfl, _, rfl, ?_⟩
      refine ite2 (fun e => ?_) (fun e => ⟨false, _, rfl, fun z => absurd z (by decide), fun _ => no (fun z => e (decide_eq_true (by omega))) _ (Same.refl H)⟩)
      refine ⟨_, rfl, aM, _, rfl, .inr (gM2 H), rfl, by decide +kernel, decide (mo = 1 ∨ mo = 2 ∨ mo = 4 ∨ mo = 8 ∨ mo = 16), _, by rw [← mult_in]; rfl, fun e2 => ?_, fun e2 => no (fun z => of_decide_eq_false e2 z.1) _ (Same.refl H)⟩
      refine ⟨_, rfl, p, _, 3, _, rfl, rfl, hT, atI_nat (j := 3) rfl, b, 0, 255, rfl, _, _, rfl, fun e3 => ?_, fun e3 => no (fun z => of_decide_eq_false e3 z.2) _ (Same.refl H)⟩
      refine ⟨_, rfl, mo, 1, rfl, rfl, (by show 2 ≤ sizeLine; decide), fun r hr4 => ?_⟩
      exact q1 (0, mo - 1) (by simp only [It.lens]; rw [if_pos ⟨of_decide_eq_true e2, of_decide_eq_true e3⟩]) r _ (same_new hr4 _) upd_same
    | _ => exact absurd hk (by simp only [It.kind]; decide +kernel)
end
end Bs

set_option Elab.async false
set_option linter.all false
set_option maxRecDepth 100000
set_option maxHeartbeats 4000000
namespace Bs
open PySem L2
/-! ### a call of a slot that holds one of the rules -/
structure HeldR (X : Cx) (CX : CXT) (k : Nat) (f : Addr) (sp : Sp) : Prop where
  ex : ∃ (fd : FuncData) (ps : List Str), FnOk X.prog X.w X.K X.mg X.base CX k f fd ps sp ∧ PySem.W.keepIn X.K (.ref f) = true ∧ Binds X.K fd ps []
def tCallR (X : Cx) (CX : CXT) (k : Nat) (i : Nat) (E : XK) (t : TA) : TE := fun σ H Q => ∃ f sp, σ[i]? = some (some (.ref f)) ∧ HeldR X CX k f sp ∧ t σ H fun vs H1 => sp vs H1 Q E
theorem pe_callR {X : Cx} {CX : CXT} {k i : Nat} {E : XK} {x : Str} {p pos : Pos} {e : Expr} {es : List Expr} {t : TA} (hr : Room k X.A) (hN : X.N[i]? = some x) (hv : Vis X.env.scope x) (hx : Passes CX X E) (ha : PA X (e :: es) t)
    (hdb : (x == ("__debug__" : Str)) = false := by decide) (hcd : (x == ("__classdict__" : Str)) = false := by decide)
    (he : starEach (e :: es) X.env = (false, eval e X.env) :: starEach es X.env := by rfl) (hpl : (backTo pos (starEach es X.env)).any (·.1) = false := by rfl) : PE X (.Call (.Name x p) (e :: es) [] pos) (tCallR X CX k i E t) := by
  refine ⟨fun pins s σ H Q I ⟨f, sp, hs, hh, ht⟩ => ?_⟩
  obtain ⟨fd, ps, F, hk, hb⟩ := hh.ex
  refine (pe_callL (i := i) (dvs := []) F hr hN hv hk hb .nil hx ha hdb hcd he hpl).run pins s σ H Q I ⟨hs, ?_⟩
  have e2 : (fun (vs : List V) (H1 : Hp) => sp (vs ++ []) H1 Q E) = fun vs H1 => sp vs H1 Q E := by
    funext vs H1
    rw [List.append_nil]
  show t σ H (fun vs H1 => sp (vs ++ []) H1 Q E)
  rw [e2]
  exact ht
/-! ### list_lengths -/
def Its.drop : Nat → Its → Its
  | 0, x => x
  | _ + 1, .nil => .nil
  | i + 1, .cons _ r => r.drop i
theorem drop_get : ∀ {x : Its} {i : Nat} {y : It}, x.get i = some y → x.drop i = .cons y (x.drop (i + 1))
  | .nil, _, _, e => by simp [Its.get] at e
  | .cons x r, 0, y, e => by simp [Its.get] at e; subst e; cases r <;> rfl
  | .cons x r, i + 1, y, e => drop_get (x := r) e
theorem drop_all : ∀ (x : Its), x.drop x.len = .nil
  | .nil => rfl
  | .cons x r => drop_all r
theorem get_okd : ∀ {x : Its} {i : Nat} {y : It} {d : Int}, x.ok d = true → x.get i = some y → y.ok d = true
  | .nil, _, _, _, _, e => by simp [Its.get] at e
  | .cons x r, 0, y, d, h, e => by simp [Its.get] at e; subst e; rw [Its.ok, Bool.and_eq_true] at h; exact h.1
  | .cons x r, i + 1, y, d, h, e => by rw [Its.ok, Bool.and_eq_true] at h; exact get_okd (x := r) h.2 e
/-- the numbers behind an item -/
def It.seen (f : Env) : It → Env
  | .num n _ _ low high => f.put n (low, high)
  | _ => f
theorem lens_cons (f : Env) (x : It) (r : Its) : (Its.cons x r).lens f = match x.lens f with
    | some a => (r.lens (x.seen f)).map fun b => (a.1 + b.1, a.2 + b.2)
    | none => none := by
  cases x <;> simp only [Its.lens, It.seen] <;> (generalize It.lens f _ = u; generalize Its.lens _ r = v; cases u <;> cases v <;> rfl)
theorem vis_put {H : Hp} {d t : Addr} {f : Env} {m : Nat} {n : Str} {p : Int × Int} {kvs : List (Key × V)} (hd : H d = some (.dK kvs)) (hl : kvs.length ≤ m) (hv : ∀ z : Str, match f z with
      | some p => ∃ a, valV kvs (.inr z) = some (.ref a) ∧ H a = some (.tup [.int p.1, .int p.2])
      | none => valV kvs (.inr z) = none) (ht : H t = some (.tup [.int p.1, .int p.2])) : VisAt (upd H d (.dK (putK kvs (.inr n) (.ref t)))) d (f.put n p) (m + 1) := by
  have ne : ∀ a xs, H a = some (.tup xs) → a ≠ d := fun a xs e => ne_of e hd (by intro z; cases z)
  refine ⟨_, upd_same, Nat.le_trans (length_putK _ _ _) (by omega), fun z => ?_⟩
  rw [valV_put]
  by_cases hz : z = n
  · subst hz
    rw [if_pos rfl]
    show match (if z = z then some p else f z) with | some p => _ | none => _
    rw [if_pos rfl]
    exact ⟨t, rfl, by rw [upd_ne (ne _ _ ht)]; exact ht⟩
  · rw [if_neg (fun e => hz (Sum.inr.inj e))]
    show match (if z = n then some p else f z) with | some p => _ | none => _
    rw [if_neg hz]
    have q := hv z
    cases e : f z with
    | none => rw [e] at q; exact q
    | some y => rw [e] at q; obtain ⟨a, q1, q2⟩ := q; exact ⟨a, q1, by rw [upd_ne (ne _ _ q2)]; exact q2⟩
def spLensList (C : Addr) (n : Nat) : Sp := fun vs H Q E => ∃ (a dv : Addr) (x : Its) (xs : List V) (f : Env) (m : Nat) (d : Int), vs = [.ref a, .ref dv] ∧ d + n = 3 ∧ x.ok d = true ∧ x.len ≤ 12 ∧ x.tame ∧ H a = some (.tup xs) ∧ x.At true H xs ∧ VisAt H dv f m ∧ m + 12 * (n + 1) ≤ 100 ∧
  Told C (x.lens f) H Q E
/-- RULES -/
def Rules (P : Program) (w : World) (K : PySem.W.Frag) (mg : Str → Option Value) (base : Heap) (C : Addr) (k n : Nat) : Prop := ∃ d es nn, mg "RULES" = some (.ref d) ∧ KDict K w d es nn ∧
  ∀ x : It, ∃ f fd, PySem.W.nsIn K d x.kind = some (some (.ref f)) ∧ PySem.W.keepIn K (.ref f) = true ∧ Binds K fd ["item", "visible"] [] ∧ FnOk P w K mg base (L2.CX P w) k f fd ["item", "visible"] (spLens C x.kind n)
section
variable {P : Program} {w : World} {K : PySem.W.Frag} {mg : Str → Option Value} {base : Heap} {f C : Addr} {fd : FuncData}
theorem scListLen : FnScope ["items", "visible", "known", "least", "greatest", "item", "rule", "low", "high"] ["items", "visible"] (defScope sListLen) := ⟨rfl, rfl, rfl, by decide +kernel, rfl, by decide +kernel, by decide +kernel⟩
theorem ok_listlen {n k : Nat} (F : Fun K "list_lengths" "list_lengths" sListLen f fd) (mdict : mg "dict" = none) (R : Rules P w K mg base C k n) :
    FnOk P w K mg base (L2.CX P w) (k + 1) f fd ["items", "visible"] (spLensList C n) := by
  refine F.okX scListLen (fun vs H Q E h => ?_) (fun cdv A outer s H vs Q E hr h => ?_)
  · obtain ⟨a, dv, x, xs, g, m, d, rfl, _⟩ := h
    rfl
  · obtain ⟨a, dv, x, xs, g, m, d, rfl, hd, ok, hlen, ht, ha, hat, ⟨kvs, v1, v2, v3⟩, hm, q1, q2⟩ := h
    obtain ⟨dR, es, nn, gR, DR, hR⟩ := R
    have tk : Takes (cxOf (L2.CX P w) P w K mg base ["items", "visible", "known", "least", "greatest", "item", "rule", "low", "high"] "list_lengths" (defScope sListLen) f cdv A outer s H E) (fun cls d _ H => E cls d H) := takes_of rfl rfl rfl rfl
    have hx : Passes (L2.CX P w) (cxOf (L2.CX P w) P w K mg base ["items", "visible", "known", "least", "greatest", "item", "rule", "low", "high"] "list_lengths" (defScope sListLen) f cdv A outer s H E) E := passes_call tk (E := E) fun _ _ _ _ h => h
    have hu := hu_of hr
    refine ⟨_, pss_cons (ps_set (i := 2) scListLen.nd rfl (.inl rfl) (pe_callTy call_dictD (by rfl) mdict (by decide +kernel) (pa_cons (pv 1) pa_nil)))
      (pss_cons (ps_set (i := 3) scListLen.nd rfl (.inl rfl) pe_int)
      (pss_cons (ps_set (i := 4) scListLen.nd rfl (.inl rfl) pe_int)
      (pss_cons (ps_for (passes_of rfl) rfl (pi_row (pv 0)) (pg_name (i := 5) scListLen.nd rfl (.inl rfl))
        (pss_cons (ps_set (i := 6) scListLen.nd rfl (.inl rfl) (pe_ix ix_kdict (pe_glob (v := .ref dR) (by rfl) gR rfl) (pe_ix ix_tup (pv 5) pe_int (fun _ _ => rfl)) (fun _ _ => rfl)))
        (pss_cons (ps_asg (pe_callR (i := 6) hr rfl (.inl rfl) hx (pa_cons (pv 5) (pa_cons (pv 2) pa_nil))) (pg_tup rfl (pgs_cons (pg_name (i := 7) scListLen.nd rfl (.inl rfl)) (pgs_cons (pg_name (i := 8) scListLen.nd rfl (.inl rfl)) pgs_nil))))
        (pss_cons (ps_aug (i := 3) scListLen.nd rfl (.inl rfl) (pv 7) ip_add)
        (pss_cons (ps_aug (i := 4) scListLen.nd rfl (.inl rfl) (pv 8) ip_add)
        (pss_one (ps_if (pt_cmpR op_eq (pe_ix ix_tup (pv 5) pe_int (fun _ _ => rfl)) pe_str (nomark _))
          (pss_one (ps_dput hu (pv 2) (pe_ix ix_tup (pv 5) pe_int (fun _ _ => rfl)) (pe_tup (pa_cons (pe_ix ix_tup (pv 5) pe_int (fun _ _ => rfl)) (pa_cons (pe_ix ix_tup (pv 5) pe_int (fun _ _ => rfl)) pa_nil))) rfl)) pss_nil)))))))
      (pss_one (ps_ret (pe_tup (pa_cons (pv 3) (pa_cons (pv 4) pa_nil)))))))), ?_⟩
    refine ⟨_, rfl, dv, kvs, rfl, .of v1, fun kn hkn => ?_⟩
    have s0 := same_new hkn (.dK kvs)
    refine ⟨_, rfl, a, rfl, ?_⟩
    have el := hat.len
    refine row_go2 (H0 := H) (.inl ha) s0 (fun J wk => ?_)
    refine for_it wk (fun i σ H' => ∃ L G i5 i6 i7 i8, σ = [some (.ref a), some (.ref dv), some (.ref kn), some (.int L), some (.int G), i5, i6, i7, i8] ∧ Same H H' ∧ ∃ gi, VisAt H' kn gi (m + i) ∧ x.lens g = ((x.drop i).lens gi).map fun p => (L + p.1, G + p.2))
      ⟨0, 0, none, none, none, none, rfl, s0, g, ⟨kvs, upd_same, v2, fun z => ?_⟩, ?_⟩ (fun _ _ _ _ h => by obtain ⟨_, _, _, _, _, _, _, z, _⟩ := h; exact z) ?_ ?_
    · have q := v3 z
      cases e : g z with
      | none => rw [e] at q; exact q
      | some p => rw [e] at q; obtain ⟨b, q1, q2⟩ := q; exact ⟨b, q1, s0 _ _ q2⟩
    · show x.lens g = (x.lens g).map _
      cases x.lens g with
      | none => rfl
      | some p => simp
    · rintro i v σ H2 H3 hi ⟨L, G, i5, i6, i7, i8, rfl, s2, gi, vis, el2⟩ ⟨e3, hv⟩
      subst e3
      obtain ⟨y, gy, ay⟩ := At_item (hat.same s2) hv
      obtain ⟨p, rest, rfl, hp, hrest⟩ := At_head ay
      obtain ⟨fR, fdR, r1, r2, r3, r4⟩ := hR y
      rw [drop_get gy, lens_cons] at el2
      have hTy : SqT K H3 p _ := SqT.of hp
      refine ⟨_, rfl, p, _, 0, _, rfl, rfl, hTy, atI_nat (j := 0) rfl, dR, y.kind, .ref fR, rfl, rfl, ⟨es, nn, _, DR.at_, DR.lit, r1, rfl⟩, ?_⟩
      refine ⟨fR, spLens C y.kind n, rfl, ⟨fdR, _, r4, r2, r3⟩, ?_⟩
      refine ⟨_, rfl, _, rfl, .ref p, kn, y, gi, m + i, d, rfl, rfl, hd, get_okd ok gy, get_tame ht gy, ay, vis, by omega, fun l el3 pl H4 s4 h4 => ?_, fun en H4 s4 => q2 (by rw [el2, en]; rfl) H4 (s2.trans s4)⟩
      rw [el3] at el2
      refine ⟨pl, _, rfl, SqT.of h4, rfl, _, _, rfl, _, _, rfl, rfl, ?_⟩
      refine ⟨_, rfl, _, rfl, _, _, rfl, rfl, ?_⟩
      refine ⟨_, rfl, _, rfl, _, _, rfl, rfl, ?_⟩
      have hTy4 : SqT K H4 p _ := SqT.of (s4 _ _ hp)
      refine ⟨_, rfl, p, _, 0, _, rfl, rfl, hTy4, atI_nat (j := 0) rfl, rfl, _, rfl, ?_⟩
      have next : ∀ r, Option.map (fun q => (L + q.1, G + q.2)) (Option.map (fun b : Int × Int => (l.1 + b.1, l.2 + b.2)) r) = Option.map (fun q => (L + l.1 + q.1, G + l.2 + q.2)) r := fun r => by
        cases r with
        | none => rfl
        | some b => simp [Int.add_assoc]
      refine ite2 (fun e => ?_) (fun e => ?_)
      · cases y with
        | num nm size order low high =>
          simp only [It.At] at ay
          obtain ⟨p', e5, hp5⟩ := ay
          cases e5
          have hp4 := s4 _ _ hp5
          obtain ⟨kv2, w1, w2, w3⟩ := vis.same s4
          refine ⟨_, rfl, p, _, 4, _, rfl, rfl, SqT.of hp4, atI_nat (j := 4) rfl, _, rfl, p, _, 5, _, rfl, rfl, SqT.of hp4, atI_nat (j := 5) rfl, (by show 2 ≤ sizeLine; decide), fun t ht4 => ?_⟩
          have s5 := same_new ht4 (.tup [.int low, .int high])
          have w15 := s5 _ _ w1
          refine ⟨_, rfl, _, rfl, p, _, 1, _, rfl, rfl, SqT.of (s5 _ _ hp4), atI_nat (j := 1) rfl, kn, _, rfl, DPut.k (k := .inr nm) w15 (small1000 (by omega)), ?_⟩
          have v5 := (VisAt.same s5 ⟨kv2, w1, w2, w3⟩)
          refine ⟨_, _, _, _, _, _, rfl, same_set (s2.trans (s4.trans s5)) hkn, gi.put nm (low, high), ?_, ?_⟩
          · refine vis_put w15 w2 (fun z => ?_) upd_same
            have q := w3 z
            cases e9 : gi z with
            | none => rw [e9] at q; exact q
            | some y => rw [e9] at q; obtain ⟨b, q1, q2⟩ := q; exact ⟨b, q1, s5 _ _ q2⟩
          · rw [el2]
            exact next _
        | _ => exact absurd (of_decide_eq_true e) (kne (by simp only [It.kind]; decide +kernel))
      · have ns : y.seen gi = gi := by
          cases y with
          | num => exact absurd (decide_eq_true rfl) e
          | _ => rfl
        refine ⟨_, _, _, _, _, _, rfl, s2.trans s4, gi, ?_, ?_⟩
        · obtain ⟨kv2, w1, w2, w3⟩ := vis.same s4
          exact ⟨kv2, w1, by omega, w3⟩
        · rw [el2, ns]
          exact next _
    · rintro σ H2 ⟨L, G, i5, i6, i7, i8, rfl, s2, gi, vis, el2⟩
      rw [el, drop_all] at el2
      refine ⟨_, rfl, _, rfl, (by show 2 ≤ sizeLine; decide), fun t ht4 => ?_⟩
      exact q1 (L, G) (by rw [el2]; simp [Its.lens]) t _ (s2.trans (same_new ht4 _)) upd_same
end
end Bs

set_option Elab.async false
set_option linter.all false
set_option maxRecDepth 100000
set_option maxHeartbeats 4000000
namespace Bs
open PySem L2
/-! ### lengths of repeats, eithers, switches -/
def Blks.drop : Nat → Blks → Blks
  | 0, x => x
  | _ + 1, .nil => .nil
  | i + 1, .cons _ _ r => r.drop i
theorem dropB_get : ∀ {x : Blks} {i : Nat} {v : Int} {b : Its}, x.get i = some (v, b) → x.drop i = .cons v b (x.drop (i + 1))
  | .nil, _, _, _, e => by simp [Blks.get] at e
  | .cons v b r, 0, _, _, e => by simp only [Blks.get, Option.some.injEq, Prod.mk.injEq] at e; obtain ⟨rfl, rfl⟩ := e; cases r <;> rfl
  | .cons v b r, i + 1, _, _, e => dropB_get (x := r) e
theorem dropB_all : ∀ (x : Blks), x.drop x.len = .nil
  | .nil => rfl
  | .cons v b r => dropB_all r
theorem getB_okd : ∀ {x : Blks} {i : Nat} {c : Int} {b : Its} {d : Int}, x.ok d = true → x.get i = some (c, b) → b.len ≤ 12 ∧ b.ok d = true
  | .nil, _, _, _, _, _, e => by simp [Blks.get] at e
  | .cons v b r, 0, c, y, d, h, e => by
    simp only [Blks.get, Option.some.injEq, Prod.mk.injEq] at e
    obtain ⟨rfl, rfl⟩ := e
    rw [Blks.ok, Bool.and_eq_true, Bool.and_eq_true] at h
    exact ⟨of_decide_eq_true h.1.1, h.1.2⟩
  | .cons v b r, i + 1, c, y, d, h, e => by rw [Blks.ok, Bool.and_eq_true] at h; exact getB_okd (x := r) h.2 e
theorem lensB_cons (f : Env) (v : Int) (b : Its) (r : Blks) : (Blks.cons v b r).lens f = match b.lens f with
    | some a => (r.lens f).map (a :: ·)
    | none => none := by
  rw [Blks.lens]
  generalize b.lens f = u
  generalize r.lens f = w
  cases u <;> cases w <;> rfl
theorem lensB_len : ∀ {x : Blks} {f : Env} {r : List (Int × Int)}, x.lens f = some r → r.length = x.len
  | .nil, f, r, e => by simp [Blks.lens] at e; subst e; rfl
  | .cons v b y, f, r, e => by
    rw [lensB_cons] at e
    cases h : b.lens f with
    | none => rw [h] at e; cases e
    | some a =>
      rw [h] at e
      cases h2 : y.lens f with
      | none => rw [h2] at e; cases e
      | some l => rw [h2] at e; cases e; simp [Blks.len, lensB_len h2]
/-- pairs of ints in tuples -/
abbrev PairsAt (H : Hp) : List V → List (Int × Int) → Prop := Paired fun v p => ∃ a, v = .ref a ∧ H a = some (.tup [.int p.1, .int p.2])
theorem PairsAt.kp {H H' : Hp} (s : ∀ b xs, H b = some (.tup xs) → H' b = some (.tup xs)) : ∀ {l : List V} {r : List (Int × Int)}, PairsAt H l r → PairsAt H' l r
  | _, _, .nil => .nil
  | _, _, .cons ⟨a, e, h⟩ t => .cons ⟨a, e, s _ _ h⟩ (PairsAt.kp s t)
theorem PairsAt.app {H : Hp} {v : V} {p : Int × Int} (h : ∃ a, v = .ref a ∧ H a = some (.tup [.int p.1, .int p.2])) : ∀ {l : List V} {r : List (Int × Int)}, PairsAt H l r → PairsAt H (l ++ [v]) (r ++ [p])
  | _, _, .nil => .cons h .nil
  | _, _, .cons q t => .cons q (PairsAt.app h t)
theorem PairsAt.len {H : Hp} : ∀ {l : List V} {r : List (Int × Int)}, PairsAt H l r → l.length = r.length
  | _, _, .nil => rfl
  | _, _, .cons _ t => by simp [PairsAt.len t]
theorem PairsAt.get {H : Hp} : ∀ {l : List V} {r : List (Int × Int)} {i : Nat} {v : V}, PairsAt H l r → l[i]? = some v → ∃ p a, r[i]? = some p ∧ v = .ref a ∧ H a = some (.tup [.int p.1, .int p.2])
  | _, _, _, _, .nil, e => by simp at e
  | _, _, 0, _, .cons ⟨a, e0, h⟩ _, e => by simp at e; subst e; exact ⟨_, a, by simp, e0, h⟩
  | _, _, i + 1, _, .cons _ t, e => by obtain ⟨p, a, h⟩ := PairsAt.get (i := i) t (by simpa using e); exact ⟨p, a, by simpa using h.1, h.2⟩
theorem g_nx {i : Nat} {v : V} {σ : L2.St} {H : Hp} {N : L2.St → Hp → Prop} (h : N (σ.set i (some v)) H) : gName i v σ H N := h
theorem seq_asg {te : TE} {g : TG} {u : TS} {D : Ends} {σ : L2.St} {H : Hp} (h : te σ H fun x H1 => g x σ H1 (u D)) : tSeq (tAsg te g) u D σ H := h
theorem ret_cb {r : List V → Hp → VK → Prop} {te : TE} {u : TA} {D : Ends} {σ : L2.St} {H : Hp} (h : te σ H fun x H1 => r [x] H1 fun y H2 => u σ H2 fun vs H3 => (y :: vs).length ≤ sizeLine ∧ ∀ p, H3 p = none → D.rt (.ref p) (upd H3 p (.tup (y :: vs)))) :
    tRet (tTup (tCons (tCB r (tCons te tNil)) u)) D σ H := h
theorem cons_cb {r : List V → Hp → VK → Prop} {te : TE} {σ : L2.St} {H : Hp} {Q : List V → Hp → Prop} (h : te σ H fun x H1 => r [x] H1 fun y H2 => Q [y] H2) : tCons (tCB r (tCons te tNil)) tNil σ H Q := h
theorem take_more {α : Type} {l : List α} {i : Nat} {x : α} (h : l[i]? = some x) : l.take (i + 1) = l.take i ++ [x] := by
  rw [List.take_add_one, h]; rfl
/-- [x for x, y in told], told a list of pairs in slot 2 -/
theorem proj_lc {K : PySem.W.Frag} {a b c j : Nat} {vs : List Nat} {σ : L2.St} {H : Hp} {Q : VK} {T : Addr} {acc : List V} {rs : List (Int × Int)} (pr : Int × Int → Int) (h2 : σ[j]? = some (some (.ref T))) (hT : H T = some (.lst acc)) (hp : PairsAt H acc rs) (hl : rs.length ≤ 100)
    (hw : ∀ v w, wipe (((wipe σ vs).set a (some v)).set b (some w)) vs = wipe σ vs) (hc : ∀ p : Int × Int, (((wipe σ vs).set a (some (.int p.1))).set b (some (.int p.2)))[c]? = some (some (.int (pr p))))
    (q : ∀ D H', Same H H' → H' D = some (.lst ((rs.map pr).map V.int)) → Q (.ref D) H') : tLc (iList K (tVar j)) (gTup K 2 (gCons (gName a) (gCons (gName b) gNil))) tYes (tVar c) vs σ H Q := by
  refine ⟨_, h2, T, rfl, ⟨acc, SqL.of hT⟩, fun D hD => lc_list (K := K) (a := T) (xs := acc) (fun i H' => Same H H' ∧ H' D = some (.lst (((rs.take i).map pr).map V.int))) ⟨same_new hD _, upd_same⟩ (fun i H' _ h => SqL.of (h.1 _ _ hT)) ?_ ?_⟩
  · rintro i v H2 hi ⟨s2, h2⟩
    obtain ⟨p, t, e1, rfl, ht⟩ := hp.get hi
    refine ⟨t, _, rfl, SqT.of (s2 _ _ ht), rfl, _, _, rfl, _, _, rfl, rfl, hw _ _, yes_go ⟨_, hc p, _, h2, small1000 (by rw [List.length_map, List.length_map, List.length_take]; omega), same_set s2 hD, ?_⟩⟩
    rw [upd_same, take_more e1, List.map_append, List.map_append]
    rfl
  · rintro H2 ⟨s2, h2⟩
    rw [hp.len, List.take_length] at h2
    exact q D H2 s2 h2
/-- [x for x, y in told if x == 0] -/
theorem zero_lc {K : PySem.W.Frag} {a b j : Nat} {vs : List Nat} {σ : L2.St} {H : Hp} {Q : VK} {T : Addr} {acc : List V} {rs : List (Int × Int)} (h2 : σ[j]? = some (some (.ref T))) (hT : H T = some (.lst acc)) (hp : PairsAt H acc rs) (hl : rs.length ≤ 100)
    (hw : ∀ v w, wipe (((wipe σ vs).set a (some v)).set b (some w)) vs = wipe σ vs) (hc : ∀ p : Int × Int, (((wipe σ vs).set a (some (.int p.1))).set b (some (.int p.2)))[a]? = some (some (.int p.1)))
    (q : ∀ D H', Same H H' → H' D = some (.lst (((rs.filter fun p => decide (p.1 = 0)).map (·.1)).map V.int)) → Q (.ref D) H') : tLc (iList K (tVar j)) (gTup K 2 (gCons (gName a) (gCons (gName b) gNil))) (tTest (tOp rEq (tVar a) (tC (.int 0)))) (tVar a) vs σ H Q := by
  refine ⟨_, h2, T, rfl, ⟨acc, SqL.of hT⟩, fun D hD => lc_list (K := K) (a := T) (xs := acc) (fun i H' => Same H H' ∧ H' D = some (.lst ((((rs.take i).filter fun p => decide (p.1 = 0)).map (·.1)).map V.int))) ⟨same_new hD _, upd_same⟩ (fun i H' _ h => SqL.of (h.1 _ _ hT)) ?_ ?_⟩
  · rintro i v H2 hi ⟨s2, h2⟩
    obtain ⟨p, t, e1, rfl, ht⟩ := hp.get hi
    refine ⟨t, _, rfl, SqT.of (s2 _ _ ht), rfl, _, _, rfl, _, _, rfl, rfl, hw _ _, _, hc p, rfl, _, rfl, ?_⟩
    rw [int_eq]
    by_cases z : p.1 = 0
    · rw [decide_eq_true z]
      refine iteT ⟨_, hc p, _, h2, small1000 (Nat.le_trans (by rw [List.length_map, List.length_map]; exact List.length_filter_le _ _) (by rw [List.length_take]; omega)), same_set s2 hD, ?_⟩
      rw [upd_same, take_more e1, List.filter_append, List.map_append, List.map_append]
      simp [z]
    · rw [decide_eq_false z]
      refine iteF ⟨s2, ?_⟩
      rw [h2, take_more e1, List.filter_append]
      simp [z]
  · rintro H2 ⟨s2, h2⟩
    rw [hp.len, List.take_length] at h2
    exact q D H2 s2 h2
theorem spread_of {r : List (Int × Int)} {a b : Int} (h1 : a ∈ r.map (·.1)) (h2 : ∀ y ∈ r.map (·.1), a ≤ y) (h3 : b ∈ r.map (·.2)) (h4 : ∀ y ∈ r.map (·.2), y ≤ b) : spread r = some (a, b) := by
  unfold spread
  rw [List.min?_eq_some_iff.mpr ⟨h1, h2⟩, List.max?_eq_some_iff.mpr ⟨h3, h4⟩]
section
variable {P : Program} {w : World} {K : PySem.W.Frag} {mg : Str → Option Value} {base : Heap} {f C : Addr} {fd : FuncData}
theorem scRepeat : FnScope ["item", "visible", "fewest", "most", "least", "greatest"] ["item", "visible"] (defScope sRepeat) := ⟨rfl, rfl, rfl, by decide +kernel, rfl, by decide +kernel, by decide +kernel⟩
theorem ok_repeat {n k : Nat} (hk : 2 ≤ k) (F : Fun K "repeat_lengths" "repeat_lengths" sRepeat f fd) (gR : Cal P w K mg base (L2.CX P w) 1 "require" ["holds", "words"] (spRequire C)) (gA : Cal P w K mg base (L2.CX P w) 2 "amount_bounds" ["amount", "visible", "most"] (spAmount C))
    (gN : GInt mg "GREATEST_COUNT" 16) (gL : Cal P w K mg base (L2.CX P w) k "list_lengths" ["items", "visible"] (spSub (spLensList C) n)) : FnOk P w K mg base (L2.CX P w) (k + 1) f fd ["item", "visible"] (spLens C "repeat" n) := by
  refine F.okX scRepeat (fun vs H Q E h => ?_) (fun cdv A outer s H vs Q E hr h => ?_)
  · obtain ⟨v, dv, x, g, m, d, rfl, _⟩ := h
    rfl
  · obtain ⟨v, dv, x, g, m, d, rfl, hk2, hd, ok, ht, hat, hv, hm, q1, q2⟩ := h
    have tk : Takes (cxOf (L2.CX P w) P w K mg base ["item", "visible", "fewest", "most", "least", "greatest"] "repeat_lengths" (defScope sRepeat) f cdv A outer s H E) (fun cls d _ H => E cls d H) := takes_of rfl rfl rfl rfl
    have hx := passes_call tk (E := E) fun _ _ _ _ h => h
    cases x with
    | rep nm amt b =>
      simp only [It.tame] at ht
      obtain ⟨_, ⟨i, rfl⟩, htb⟩ := ht
      simp only [It.At] at hat
      obtain ⟨p, q, xs, rfl, hp, hrow, hb⟩ := hat
      have hp : H p = some (.tup [.str "repeat", .str nm, .int i, .ref q]) := hp
      have hq : H q = some (.tup xs) := hrow.elim id fun z => by cases z.1
      rw [It.ok, Bool.and_eq_true, Bool.and_eq_true, Bool.and_eq_true] at ok
      have d2 : d ≤ 2 := of_decide_eq_true ok.2.1
      have okb := ok.2.2.2
      have l12 : b.len ≤ 12 := of_decide_eq_true ok.2.2.1
      cases n with
      | zero => exfalso; omega
      | succ n =>
        refine ⟨_, pss_cons (ps_asg (pe_cal gA (hr.mono hk) hx (pa_cons (pe_ix ix_tup (pv 0) pe_int (fun _ _ => rfl)) (pa_cons (pv 1) (pa_cons (pe_gint gN rfl) pa_nil)))) (pg_tup rfl (pgs_cons (pg_name (i := 2) scRepeat.nd rfl (.inl rfl)) (pgs_cons (pg_name (i := 3) scRepeat.nd rfl (.inl rfl)) pgs_nil))))
          (pss_cons (ps_asg (pe_cal gL hr hx (pa_cons (pe_ix ix_tup (pv 0) pe_int (fun _ _ => rfl)) (pa_cons (pv 1) pa_nil))) (pg_tup rfl (pgs_cons (pg_name (i := 4) scRepeat.nd rfl (.inl rfl)) (pgs_cons (pg_name (i := 5) scRepeat.nd rfl (.inl rfl)) pgs_nil))))
          (pss_cons (ps_expr (pe_cal gR (hr.mono (by omega)) hx (pa_cons (pe_cmpR op_ge (pv 4) pe_int (nomark _)) (pa_cons pe_str pa_nil))))
          (pss_one (ps_ret (pe_tup (pa_cons (pe_op op_mul (pv 2) (pv 4)) (pa_cons (pe_op op_mul (pv 3) (pv 5)) pa_nil))))))), ?_⟩
        have ea : ∀ f : Env, amount f 16 (.inl i) = amount (fun _ => none) 16 (.inl i) := fun _ => rfl
        refine ⟨_, rfl, p, _, 2, _, rfl, rfl, SqT.of hp, atI_nat (j := 2) rfl, _, rfl, i, 16, .ref dv, rfl, .inr rfl, fun l e1 t H1 s1 h1 => ?_, fun e1 H1 s1 => q2 (by simp only [It.lens]; rw [ea, e1]) H1 s1⟩
        have hi : 0 ≤ i ∧ i ≤ 16 ∧ l = (i, i) := by
          simp only [amount] at e1
          by_cases z : 0 ≤ i ∧ i ≤ 16
          · rw [if_pos z] at e1; exact ⟨z.1, z.2, (Option.some.inj e1).symm⟩
          · rw [if_neg z] at e1; cases e1
        obtain ⟨i0, i16, rfl⟩ := hi
        refine ⟨t, _, rfl, SqT.of h1, rfl, _, _, rfl, _, _, rfl, rfl, ?_⟩
        refine ⟨_, rfl, p, _, 3, _, rfl, rfl, SqT.of (s1 _ _ hp), atI_nat (j := 3) rfl, _, rfl, q, dv, b, xs, g, m, d + 1, rfl, by omega, okb, l12, htb, s1 _ _ hq, hb.same s1, hv.same s1, by omega, fun l2 e2 t2 H2 s2 h2 => ?_, fun e2 H2 s2 => q2 (by simp only [It.lens]; rw [ea, e1, e2]) H2 (s1.trans s2)⟩
        refine ⟨t2, _, rfl, SqT.of h2, rfl, _, _, rfl, _, _, rfl, rfl, ?_⟩
        refine ⟨_, rfl, _, _, rfl, rfl, _, _, rfl, fun e3 => ?_, fun e3 => q2 (by simp only [It.lens]; rw [ea, e1, e2]; simp only; rw [if_neg (of_decide_eq_false e3)]) H2 (s1.trans s2)⟩
        have e3 : 1 ≤ l2.1 := of_decide_eq_true e3
        refine ⟨_, rfl, _, rfl, i, l2.1, rfl, rfl, .inl ⟨by omega, by omega⟩, _, rfl, _, rfl, i, l2.2, rfl, rfl, .inl ⟨by omega, by omega⟩, (by show 2 ≤ sizeLine; decide), fun t3 ht3 => ?_⟩
        exact q1 (i * l2.1, i * l2.2) (by simp only [It.lens]; rw [ea, e1, e2]; simp only; rw [if_pos e3]) t3 _ (s1.trans (s2.trans (same_new ht3 _))) upd_same
    | _ => exact absurd hk2 (by simp only [It.kind]; decide +kernel)
theorem scEither : FnScope ["item", "visible", "told", "block", "empty", "least", "_", "greatest"] ["item", "visible"] (defScope sEither) := ⟨rfl, rfl, rfl, by decide +kernel, rfl, by decide +kernel, by decide +kernel⟩
theorem ok_either {n k : Nat} (hk : 2 ≤ k) (F : Fun K "either_lengths" "either_lengths" sEither f fd) (gR : Cal P w K mg base (L2.CX P w) 1 "require" ["holds", "words"] (spRequire C)) (ml : mg "len" = none) (mmin : mg "min" = none) (mmax : mg "max" = none)
    (gL : Cal P w K mg base (L2.CX P w) k "list_lengths" ["items", "visible"] (spSub (spLensList C) n)) : FnOk P w K mg base (L2.CX P w) (k + 1) f fd ["item", "visible"] (spLens C "either" n) := by
  refine F.okX scEither (fun vs H Q E h => ?_) (fun cdv A outer s H vs Q E hr h => ?_)
  · obtain ⟨v, dv, x, g, m, d, rfl, _⟩ := h
    rfl
  · obtain ⟨v, dv, x, g, m, d, rfl, hk2, hd, ok, ht, hat, hv, hm, q1, q2⟩ := h
    have tk : Takes (cxOf (L2.CX P w) P w K mg base ["item", "visible", "told", "block", "empty", "least", "_", "greatest"] "either_lengths" (defScope sEither) f cdv A outer s H E) (fun cls d _ H => E cls d H) := takes_of rfl rfl rfl rfl
    have hx := passes_call tk (E := E) fun _ _ _ _ h => h
    cases x with
    | eit nm bs =>
      simp only [It.tame] at ht
      simp only [It.At] at hat
      obtain ⟨p, q, xs, rfl, hp, hrow, hb⟩ := hat
      have hq : H q = some (.tup xs) := hrow.elim id fun z => by cases z.1
      rw [It.ok, Bool.and_eq_true, Bool.and_eq_true, Bool.and_eq_true] at ok
      have d2 : d ≤ 2 := of_decide_eq_true ok.2.1
      have okb := ok.2.2.2
      have l24 : 2 ≤ bs.len ∧ bs.len ≤ 4 := of_decide_eq_true ok.2.2.1
      have el := hb.len
      cases n with
      | zero => exfalso; omega
      | succ n =>
        refine ⟨_, pss_cons (Rj.ps_setLcx (Ex := E) (i := 2) (own := [("block", 3)]) (g := gName 3) rfl rfl tk rfl scEither.nd rfl rfl (sw_true rfl rfl rfl (by decide +kernel)) (pi_row (pe_ix ix_tup (pv 0) pe_int (fun _ _ => rfl)))
            (blkOk_by (own := [("block", 3)]) (N := ["item", "visible", "told", "block", "empty", "least", "_", "greatest"]) (sc := defScope sEither) (by decide +kernel)) (fun _ _ _ _ _ => pg_name (i := 3) scEither.nd rfl (Or.inl rfl)) (fun _ _ _ _ _ => pe_cal gL hr Rj.fell_passes (pa_cons (pv 3) (pa_cons (pv 1) pa_nil))))
          (pss_cons (ps_setLc (i := 4) (own := [("least", 5), ("_", 6)]) (g := gTup K 2 (gCons (gName 5) (gCons (gName 6) gNil))) rfl scEither.nd rfl rfl (sw_true rfl rfl rfl (by decide +kernel)) (pi_list (pv 2))
            (blkOk_by (own := [("least", 5), ("_", 6)]) (N := ["item", "visible", "told", "block", "empty", "least", "_", "greatest"]) (sc := defScope sEither) (by decide +kernel)) (fun _ _ _ _ _ => pg_tup rfl (pgs_cons (pg_name (i := 5) scEither.nd rfl (Or.inl rfl)) (pgs_cons (pg_name (i := 6) scEither.nd rfl (Or.inl rfl)) pgs_nil)))
            (fun _ _ _ _ _ => pts_one (pt_cmpR op_eq (pv 5) pe_int (nomark _))) (fun _ _ _ _ _ => pv 5))
          (pss_cons (ps_expr (pe_cal gR (hr.mono (by omega)) hx (pa_cons (pe_cmpR op_le (pe_callB call_len (by rfl) ml boot_len (pa_cons (pv 4) pa_nil)) pe_int (nomark _)) (pa_cons pe_str pa_nil))))
          (pss_one (ps_ret (pe_tup (pa_cons (pe_callB (cr_min rfl) (by rfl) mmin (by decide +kernel) (pa_cons (pe_lc (own := [("least", 5), ("_", 6)]) (g := gTup K 2 (gCons (gName 5) (gCons (gName 6) gNil))) (tt := tYes) rfl scEither.nd (pi_list (pv 2))
            (blkOk_by (own := [("least", 5), ("_", 6)]) (N := ["item", "visible", "told", "block", "empty", "least", "_", "greatest"]) (sc := defScope sEither) (by decide +kernel)) (fun _ _ _ _ _ => pg_tup rfl (pgs_cons (pg_name (i := 5) scEither.nd rfl (Or.inl rfl)) (pgs_cons (pg_name (i := 6) scEither.nd rfl (Or.inl rfl)) pgs_nil)))
            (fun _ _ _ _ _ => pts_nil) (fun _ _ _ _ _ => pv 5)) pa_nil))
            (pa_cons (pe_callB (cr_max rfl) (by rfl) mmax (by decide +kernel) (pa_cons (pe_lc (own := [("_", 6), ("greatest", 7)]) (g := gTup K 2 (gCons (gName 6) (gCons (gName 7) gNil))) (tt := tYes) rfl scEither.nd (pi_list (pv 2))
            (blkOk_by (own := [("_", 6), ("greatest", 7)]) (N := ["item", "visible", "told", "block", "empty", "least", "_", "greatest"]) (sc := defScope sEither) (by decide +kernel)) (fun _ _ _ _ _ => pg_tup rfl (pgs_cons (pg_name (i := 6) scEither.nd rfl (Or.inl rfl)) (pgs_cons (pg_name (i := 7) scEither.nd rfl (Or.inl rfl)) pgs_nil)))
            (fun _ _ _ _ _ => pts_nil) (fun _ _ _ _ _ => pv 7)) pa_nil)) pa_nil))))))), ?_⟩
        refine ⟨_, rfl, p, _, 2, _, rfl, rfl, SqT.of hp, atI_nat (j := 2) rfl, q, rfl, ?_⟩
        refine row_go (H := H) (.inl hq) (fun J wk => ?_)
        intro D hD
        refine lc_it wk (fun i H' => Same H H' ∧ ∃ acc rs, H' D = some (.lst acc) ∧ PairsAt H' acc rs ∧ rs.length = i ∧ bs.lens g = ((bs.drop i).lens g).map (rs ++ ·))
          ⟨same_new hD _, [], [], upd_same, .nil, rfl, by show bs.lens g = (bs.lens g).map _; cases bs.lens g <;> rfl⟩ (fun _ _ _ h => h.1) ?_ ?_
        · rintro i v H2 H3 hi ⟨s2, acc, rs, hacc, hpa, hrs, el2⟩ ⟨e3, hv3⟩
          subst e3
          obtain ⟨c, b, qb, zs, gb, rfl, hrw, hbb⟩ := AtE_item (hb.same s2) hv3
          have hqb : H3 qb = some (.tup zs) := hrw.elim id fun z => by cases z.1
          rw [dropB_get gb, lensB_cons] at el2
          obtain ⟨b12, bok⟩ := getB_okd okb gb
          refine ⟨rfl, yes_go ?_⟩
          refine ⟨_, rfl, _, rfl, qb, dv, b, zs, g, m, d + 1, rfl, by omega, bok, b12, getB_tame ht.2 gb, hqb, hbb, hv.same s2, by omega, fun l e2 t2 H4 s4 h4 => ?_, fun e2 H4 s4 => q2 (by simp only [It.lens]; rw [el2, e2]; rfl) H4 (s2.trans s4)⟩
          have hacc4 := s4 _ _ hacc
          have ka : ∀ b xs, H4 b = some (.tup xs) → upd H4 D (.lst (acc ++ [.ref t2])) b = some (.tup xs) := fun b xs e => by rw [upd_ne (ne_of e hacc4 (by intro z; cases z))]; exact e
          refine ⟨acc, hacc4, small1000 (by rw [hpa.len]; omega), same_set (s2.trans s4) hD, acc ++ [.ref t2], rs ++ [l], upd_same, (PairsAt.app ⟨t2, rfl, h4⟩ (hpa.kp fun b xs h => s4 _ _ h)).kp ka, by simp [hrs], ?_⟩
          rw [el2, e2]
          cases (bs.drop (i + 1)).lens g <;> simp
        · rintro H2 ⟨s2, acc, rs, hacc, hpa, hrs, el2⟩
          rw [el, dropB_all] at el2
          have el2 : bs.lens g = some rs := by rw [el2]; simp [Blks.lens]
          have rl : rs.length ≤ 100 := by omega
          have hpos : 0 < rs.length := by rw [lensB_len el2]; omega
          refine g_nx ?_
          dsimp only
          refine seq_asg ?_
          refine zero_lc (j := 2) (a := 5) (b := 6) (vs := [5, 6]) (σ := [some (.ref p), some (.ref dv), some (.ref D), none, none, none, none, none]) rfl hacc hpa rl (fun _ _ => rfl) (fun _ => rfl) (fun D2 H3 s3 h3 => ?_)
          have ez : (((rs.filter fun p => decide (p.1 = 0)).map (·.1)).map V.int).length = (rs.filter fun p => decide (p.1 = 0)).length := by rw [List.length_map, List.length_map]
          refine ⟨_, rfl, V.ref D2, _, rfl, .inl ⟨_, SqL.of h3, rfl⟩, _, _, rfl, rfl, _, _, rfl, fun e => ?_, fun e => q2 (by simp only [It.lens]; rw [el2]; simp only; rw [if_neg (fun z => of_decide_eq_false e (by rw [ez]; omega))]) H3 (s2.trans s3)⟩
          have e : (rs.filter fun p => decide (p.1 = 0)).length ≤ 1 := by have e := of_decide_eq_true e; rw [ez] at e; omega
          have hacc3 := s3 _ _ hacc
          dsimp only
          refine ret_cb ?_
          refine proj_lc (j := 2) (a := 5) (b := 6) (c := 5) (vs := [5, 6]) (σ := [some (.ref p), some (.ref dv), some (.ref D), none, some (.ref D2), none, none, none]) (·.1) rfl hacc3 (hpa.kp fun b xs h => s3 _ _ h) rl (fun _ _ => rfl) (fun _ => rfl) (fun D3 H4 s4 h4 => ?_)
          refine ⟨D3, _, rfl, SqL.of h4, by rw [List.length_map]; exact hpos, fun mn hmn hle => ?_⟩
          have s34 := s3.trans s4
          dsimp only
          refine cons_cb ?_
          refine proj_lc (j := 2) (a := 6) (b := 7) (c := 7) (vs := [6, 7]) (σ := [some (.ref p), some (.ref dv), some (.ref D), none, some (.ref D2), none, none, none]) (·.2) rfl (s4 _ _ hacc3) (hpa.kp fun b xs h => s34 _ _ h) rl (fun _ _ => rfl) (fun _ => rfl) (fun D5 H5 s5 h5 => ?_)
          refine ⟨D5, _, rfl, SqL.of h5, by rw [List.length_map]; exact hpos, fun mx hmx hge => ?_⟩
          refine ⟨(by show 2 ≤ sizeLine; decide), fun t ht4 => ?_⟩
          exact q1 (mn, mx) (by simp only [It.lens]; rw [el2]; simp only; rw [if_pos e]; exact spread_of hmn hle hmx hge) t _ (s2.trans (s34.trans (s5.trans (same_new ht4 _)))) upd_same
    | _ => exact absurd hk2 (by simp only [It.kind]; decide +kernel)
end
end Bs

set_option Elab.async false
set_option linter.all false
set_option maxRecDepth 100000
set_option maxHeartbeats 4000000
namespace Bs
open PySem L2
theorem vals_get : ∀ {x : Blks} {i : Nat} {c : Int} {b : Its}, x.get i = some (c, b) → x.vals[i]? = some c
  | .nil, _, _, _, e => by simp [Blks.get] at e
  | .cons v b r, 0, _, _, e => by simp only [Blks.get, Option.some.injEq, Prod.mk.injEq] at e; obtain ⟨rfl, rfl⟩ := e; rfl
  | .cons v b r, i + 1, _, _, e => vals_get (x := r) e
theorem vals_len : ∀ (x : Blks), x.vals.length = x.len
  | .nil => rfl
  | .cons v b r => by simp [Blks.vals, Blks.len, vals_len r]
section
variable {P : Program} {w : World} {K : PySem.W.Frag} {mg : Str → Option Value} {base : Heap} {f C : Addr} {fd : FuncData}
abbrev nSwitch : List Str := ["item", "visible", "tag", "values", "value", "_", "told", "block", "least", "greatest"]
theorem scSwitch : FnScope nSwitch ["item", "visible"] (defScope sSwitch) := ⟨rfl, rfl, rfl, by decide +kernel, rfl, by decide +kernel, by decide +kernel⟩
theorem ok_switch {n k : Nat} (hk : 2 ≤ k) (F : Fun K "switch_lengths" "switch_lengths" sSwitch f fd) (gR : Cal P w K mg base (L2.CX P w) 1 "require" ["holds", "words"] (spRequire C)) (gI : Cal P w K mg base CX0 1 "is_integer" ["value", "low", "high"] spIsInt) (gP : GInt mg "GREATEST_PAIR" 65535)
    (ml : mg "len" = none) (mmin : mg "min" = none) (mmax : mg "max" = none) (mset : mg "set" = none) (mi : mg "isinstance" = none) (ms : mg "str" = none)
    (gL : Cal P w K mg base (L2.CX P w) k "list_lengths" ["items", "visible"] (spSub (spLensList C) n)) : FnOk P w K mg base (L2.CX P w) (k + 1) f fd ["item", "visible"] (spLens C "switch" n) := by
  refine F.okX scSwitch (fun vs H Q E h => ?_) (fun cdv A outer s H vs Q E hr h => ?_)
  · obtain ⟨v, dv, x, g, m, d, rfl, _⟩ := h
    rfl
  · obtain ⟨v, dv, x, g, m, d, rfl, hk2, hd, ok, ht, hat, hv, hm, q1, q2⟩ := h
    have tk : Takes (cxOf (L2.CX P w) P w K mg base nSwitch "switch_lengths" (defScope sSwitch) f cdv A outer s H E) (fun cls d _ H => E cls d H) := takes_of rfl rfl rfl rfl
    have hx := passes_call tk (E := E) fun _ _ _ _ h => h
    have hu := hu_of hr
    have hr1 : Room 1 _ := hr.mono (by omega)
    cases x with
    | swi nm tag bs =>
      simp only [It.tame] at ht
      simp only [It.At] at hat
      obtain ⟨p, q, xs, rfl, hp, hrow, hb⟩ := hat
      have hq : H q = some (.tup xs) := hrow.elim id fun z => by cases z.1
      rw [It.ok, Bool.and_eq_true, Bool.and_eq_true, Bool.and_eq_true] at ok
      have d2 : d ≤ 2 := of_decide_eq_true ok.2.1
      have okb := ok.2.2.2
      have l18 : 1 ≤ bs.len ∧ bs.len ≤ 8 := of_decide_eq_true ok.2.2.1
      have el := hb.len
      cases n with
      | zero => exfalso; omega
      | succ n =>
        refine ⟨_, pss_cons (ps_set (i := 2) scSwitch.nd rfl (.inl rfl) (pe_ix ix_tup (pv 0) pe_int (fun _ _ => rfl)))
          (pss_cons (ps_expr (pe_cal gR hr1 hx (pa_cons (pe_and (pe_callB call_isi (by rfl) mi (by decide +kernel) (pa_cons (pv 2) (pa_cons (pe_bltn (v := .ty "str") (by rfl) ms (by decide +kernel) rfl) pa_nil))) (pe_one (pe_cmp (pc_din hu (pv 2) (pv 1)) (by rfl)))) (pa_cons pe_str pa_nil))))
          (pss_cons (ps_setLc (i := 3) (own := [("value", 4), ("_", 5)]) (g := gTup K 2 (gCons (gName 4) (gCons (gName 5) gNil))) (tt := tYes) rfl scSwitch.nd rfl rfl (sw_true rfl rfl rfl (by decide +kernel)) (pi_tup (pe_ix ix_tup (pv 0) pe_int (fun _ _ => rfl)))
            (blkOk_by (own := [("value", 4), ("_", 5)]) (N := nSwitch) (sc := defScope sSwitch) (by decide +kernel)) (fun _ _ _ _ _ => pg_tup rfl (pgs_cons (pg_name (i := 4) scSwitch.nd rfl (Or.inl rfl)) (pgs_cons (pg_name (i := 5) scSwitch.nd rfl (Or.inl rfl)) pgs_nil)))
            (fun _ _ _ _ _ => pts_nil) (fun _ _ _ _ _ => pv 4))
          (pss_cons (ps_for (passes_of rfl) rfl (pi_list (pv 3)) (pg_name (i := 4) scSwitch.nd rfl (.inl rfl)) (pss_one (ps_expr (pe_cal gR hr1 hx (pa_cons (pe_cal gI hr1 pass0 (pa_cons (pv 4) (pa_cons pe_int (pa_cons (pe_gint gP rfl) pa_nil)))) (pa_cons (pe_joined (.cons pe_str (.cons (pe_fmt (pe_gint gP rfl)) .nil))) pa_nil))))))
          (pss_cons (ps_expr (pe_cal gR hr1 hx (pa_cons (pe_cmpR op_eq (RZ.pe_lenSetI (by rfl) ml (by rfl) mset (pv 3)) (pe_callB call_len (by rfl) ml boot_len (pa_cons (pv 3) pa_nil)) (nomark _)) (pa_cons pe_str pa_nil))))
          (pss_cons (Rj.ps_setLcx (Ex := E) (i := 6) (own := [("_", 5), ("block", 7)]) (g := gTup K 2 (gCons (gName 5) (gCons (gName 7) gNil))) rfl rfl tk rfl scSwitch.nd rfl rfl (sw_true rfl rfl rfl (by decide +kernel)) (pi_tup (pe_ix ix_tup (pv 0) pe_int (fun _ _ => rfl)))
            (blkOk_by (own := [("_", 5), ("block", 7)]) (N := nSwitch) (sc := defScope sSwitch) (by decide +kernel)) (fun _ _ _ _ _ => pg_tup rfl (pgs_cons (pg_name (i := 5) scSwitch.nd rfl (Or.inl rfl)) (pgs_cons (pg_name (i := 7) scSwitch.nd rfl (Or.inl rfl)) pgs_nil))) (fun _ _ _ _ _ => pe_cal gL hr Rj.fell_passes (pa_cons (pv 7) (pa_cons (pv 1) pa_nil))))
          (pss_one (ps_ret (pe_tup (pa_cons (pe_callB (cr_min rfl) (by rfl) mmin (by decide +kernel) (pa_cons (pe_lc (own := [("least", 8), ("_", 5)]) (g := gTup K 2 (gCons (gName 8) (gCons (gName 5) gNil))) (tt := tYes) rfl scSwitch.nd (pi_list (pv 6))
            (blkOk_by (own := [("least", 8), ("_", 5)]) (N := nSwitch) (sc := defScope sSwitch) (by decide +kernel)) (fun _ _ _ _ _ => pg_tup rfl (pgs_cons (pg_name (i := 8) scSwitch.nd rfl (Or.inl rfl)) (pgs_cons (pg_name (i := 5) scSwitch.nd rfl (Or.inl rfl)) pgs_nil)))
            (fun _ _ _ _ _ => pts_nil) (fun _ _ _ _ _ => pv 8)) pa_nil))
            (pa_cons (pe_callB (cr_max rfl) (by rfl) mmax (by decide +kernel) (pa_cons (pe_lc (own := [("_", 5), ("greatest", 9)]) (g := gTup K 2 (gCons (gName 5) (gCons (gName 9) gNil))) (tt := tYes) rfl scSwitch.nd (pi_list (pv 6))
            (blkOk_by (own := [("_", 5), ("greatest", 9)]) (N := nSwitch) (sc := defScope sSwitch) (by decide +kernel)) (fun _ _ _ _ _ => pg_tup rfl (pgs_cons (pg_name (i := 5) scSwitch.nd rfl (Or.inl rfl)) (pgs_cons (pg_name (i := 9) scSwitch.nd rfl (Or.inl rfl)) pgs_nil)))
            (fun _ _ _ _ _ => pts_nil) (fun _ _ _ _ _ => pv 9)) pa_nil)) pa_nil)))))))))), ?_⟩
        have no : ¬ ((g tag).isSome = true ∧ (∀ v ∈ bs.vals, 0 ≤ v ∧ v ≤ 65535) ∧ bs.vals.Nodup) → ∀ H', Same H H' → E (.ref C) none H' := fun e => q2 (by simp only [It.lens]; rw [if_neg e])
        obtain ⟨kvs, v1, v2, v3⟩ := id hv
        have et : (valV kvs (.inr tag)).isSome = (g tag).isSome := by
          have z := v3 tag
          revert z
          cases g tag with
          | none => intro z; rw [show valV kvs (.inr tag) = none from z]; rfl
          | some y => rintro ⟨b, z1, _⟩; rw [z1]; rfl
        refine ⟨_, rfl, p, _, 2, _, rfl, rfl, SqT.of hp, atI_nat (j := 2) rfl, ?_⟩
        refine ⟨_, rfl, _, _, _, _, true, rfl, .ty _, .base (.str _), kit_ty (by decide +kernel), _, rfl, iteT ?_⟩
        refine ⟨_, rfl, _, rfl, dv, _, rfl, DGet.k (k := .inr tag) v1, _, _, rfl, fun e => ?_, fun e => no (fun z => by rw [et, z.1] at e; cases e) _ (Same.refl H)⟩
        rw [et] at e
        dsimp only
        refine seq_asg ?_
        refine ⟨_, rfl, p, _, 3, _, rfl, rfl, SqT.of hp, atI_nat (j := 3) rfl, q, rfl, ⟨_, SqT.of hq⟩, fun D hD => lc_tup (K := K) (a := q) (xs := xs) (fun i H' => Same H H' ∧ H' D = some (.lst ((bs.vals.take i).map V.int))) ⟨same_new hD _, upd_same⟩ (fun i H' _ z => SqT.of (z.1 _ _ hq)) ?_ ?_⟩
        · rintro i v H2 hi ⟨s2, h2⟩
          obtain ⟨c, b, pc, qb, zs, gb, rfl, hpc, _⟩ := AtS_item (hb.same s2) hi
          refine ⟨pc, _, rfl, SqT.of hpc, rfl, _, _, rfl, _, _, rfl, rfl, rfl, yes_go ⟨_, rfl, _, h2, small1000 (by rw [List.length_map, List.length_take, vals_len]; omega), same_set s2 hD, ?_⟩⟩
          rw [upd_same, take_more (vals_get gb), List.map_append]
          rfl
        rintro H2 ⟨s2, h2⟩
        have evl : xs.length = bs.vals.length := by rw [vals_len, el]
        rw [evl, List.take_length] at h2
        -- each value
        refine ⟨_, rfl, D, rfl, ⟨_, SqL.of h2⟩, for_list (K := K) (a := D) (xs := bs.vals.map V.int) (fun i σ H' => ∃ s4, σ = [some (.ref p), some (.ref dv), some (.str tag), some (.ref D), s4, none, none, none, none, none] ∧ H' = H2 ∧ ∀ v ∈ bs.vals.take i, 0 ≤ v ∧ v ≤ 65535)
          ⟨none, rfl, rfl, fun _ z => by simp at z⟩ (fun i σ H' _ z => by obtain ⟨_, _, z, _⟩ := z; rw [z]; exact SqL.of h2) ?_ ?_⟩
        · rintro i y σ H3 hi ⟨s4, rfl, rfl, hall⟩
          obtain ⟨z, hz, rfl⟩ : ∃ z, bs.vals[i]? = some z ∧ y = V.int z := by
            rw [List.getElem?_map] at hi
            cases e9 : bs.vals[i]? with
            | none => rw [e9] at hi; cases hi
            | some z => rw [e9] at hi; exact ⟨z, rfl, (Option.some.inj hi).symm⟩
          refine ⟨_, rfl, z, 0, 65535, rfl, ?_⟩
          refine ⟨_, rfl, by decide +kernel, .inr ⟨65535, rfl, by decide +kernel, _, rfl, by decide +kernel, _, _, rfl, fun e2 => ?_, fun e2 => no (fun w => of_decide_eq_false e2 (w.2.1 z (List.mem_of_getElem? hz))) _ s2⟩⟩
          refine ⟨_, rfl, rfl, fun v hv => ?_⟩
          rw [take_more hz, List.mem_append] at hv
          rcases hv with hv | hv
          · exact hall v hv
          · have : v = z := by simpa using hv
            rw [this]
            exact of_decide_eq_true e2
        rintro σ H3 ⟨s4, rfl, rfl, hall⟩
        rw [List.length_map, List.take_length] at hall
        -- all different
        refine ⟨_, rfl, D, bs.vals, rfl, SqL.of h2, ht.2.1, by rw [vals_len]; omega, _, rfl, V.ref D, _, rfl, .inl ⟨_, SqL.of h2, rfl⟩, rfl, _, _, rfl, fun _ => ?_, fun e2 => absurd (by rw [List.length_map]) (of_decide_eq_false e2)⟩
        dsimp only
        refine seq_asg ?_
        refine ⟨_, rfl, p, _, 3, _, rfl, rfl, SqT.of (s2 _ _ hp), atI_nat (j := 3) rfl, q, rfl, ⟨_, SqT.of (s2 _ _ hq)⟩, fun D6 hD6 => lc_tup (K := K) (a := q) (xs := xs) (fun i H' => Same H3 H' ∧ ∃ acc rs, H' D6 = some (.lst acc) ∧ PairsAt H' acc rs ∧ rs.length = i ∧ bs.lens g = ((bs.drop i).lens g).map (rs ++ ·))
          ⟨same_new hD6 _, [], [], upd_same, .nil, rfl, by show bs.lens g = (bs.lens g).map _; cases bs.lens g <;> rfl⟩ (fun i H' _ z => SqT.of ((s2.trans z.1) _ _ hq)) ?_ ?_⟩
        · rintro i v H4 hi ⟨s4', acc, rs, hacc, hpa, hrs, el2⟩
          have s24 := s2.trans s4'
          obtain ⟨c, b, pc, qb, zs, gb, rfl, hpc, hrw, hbb⟩ := AtS_item (hb.same s24) hi
          have hqb : H4 qb = some (.tup zs) := hrw.elim id fun z => by cases z.1
          rw [dropB_get gb, lensB_cons] at el2
          obtain ⟨b12, bok⟩ := getB_okd okb gb
          have hlt := getB_lt gb
          refine ⟨pc, _, rfl, SqT.of hpc, rfl, _, _, rfl, _, _, rfl, rfl, rfl, yes_go ?_⟩
          refine ⟨_, rfl, _, rfl, qb, dv, b, zs, g, m, d + 1, rfl, by omega, bok, b12, getB_tame ht.2.2 gb, hqb, hbb, hv.same s24, by omega, fun l e2 t2 H5 s5 h5 => ?_, fun e2 H5 s5 => q2 (by simp only [It.lens]; rw [el2, e2]; simp) H5 (s24.trans s5)⟩
          have hacc4 := s5 _ _ hacc
          have ka : ∀ b xs, H5 b = some (.tup xs) → upd H5 D6 (.lst (acc ++ [.ref t2])) b = some (.tup xs) := fun b xs e => by rw [upd_ne (ne_of e hacc4 (by intro z; cases z))]; exact e
          refine ⟨acc, hacc4, small1000 (by rw [hpa.len]; omega), same_set (s4'.trans s5) hD6, acc ++ [.ref t2], rs ++ [l], upd_same, (PairsAt.app ⟨t2, rfl, h5⟩ (hpa.kp fun b xs h => s5 _ _ h)).kp ka, by simp [hrs], ?_⟩
          rw [el2, e2]
          cases (bs.drop (i + 1)).lens g <;> simp
        rintro H4 ⟨s4', acc, rs, hacc, hpa, hrs, el2⟩
        rw [el, dropB_all] at el2
        have el2 : bs.lens g = some rs := by rw [el2]; simp [Blks.lens]
        have rl : rs.length ≤ 100 := by omega
        have hpos : 0 < rs.length := by rw [lensB_len el2]; omega
        refine g_nx ?_
        refine ret_cb ?_
        refine proj_lc (j := 6) (a := 8) (b := 5) (c := 8) (vs := [8, 5]) (σ := [some (.ref p), some (.ref dv), some (.str tag), some (.ref D), s4, none, some (.ref D6), none, none, none]) (·.1) rfl hacc hpa rl (fun _ _ => rfl) (fun _ => rfl) (fun D3 H5 s5 h5 => ?_)
        refine ⟨D3, _, rfl, SqL.of h5, by rw [List.length_map]; exact hpos, fun mn hmn hle => ?_⟩
        dsimp only
        refine cons_cb ?_
        refine proj_lc (j := 6) (a := 5) (b := 9) (c := 9) (vs := [5, 9]) (σ := [some (.ref p), some (.ref dv), some (.str tag), some (.ref D), s4, none, some (.ref D6), none, none, none]) (·.2) rfl (s5 _ _ hacc) (hpa.kp fun b xs h => s5 _ _ h) rl (fun _ _ => rfl) (fun _ => rfl) (fun D7 H6 s6 h6 => ?_)
        refine ⟨D7, _, rfl, SqL.of h6, by rw [List.length_map]; exact hpos, fun mx hmx hge => ?_⟩
        refine ⟨(by show 2 ≤ sizeLine; decide), fun t ht4 => ?_⟩
        exact q1 (mn, mx) (by simp only [It.lens]; rw [if_pos ⟨e, hall, ht.2.1⟩, el2]; exact spread_of hmn hle hmx hge) t _ (s2.trans (s4'.trans (s5.trans (s6.trans (same_new ht4 _))))) upd_same
    | _ => exact absurd hk2 (by simp only [It.kind]; decide +kernel)
end
end Bs

set_option Elab.async false
set_option linter.all false
set_option maxRecDepth 100000
set_option maxHeartbeats 8000000
/-! len(set(t)), t a tuple of texts, any number below 4000 -/
namespace Bs
open PySem PySem.Spec PyProof.Rows L2
/-- how many different ones stand among the first i -/
def met (xs : List Str) : Nat → Nat
  | 0 => 0
  | i + 1 => if (xs.take i).any (· == xs.getD i Str.empty) = true then met xs i else met xs i + 1
theorem met_le (xs : List Str) : ∀ i, met xs i ≤ i
  | 0 => Nat.le_refl 0
  | i + 1 => by
    unfold met
    have := met_le xs i
    split <;> omega
theorem met_nodup {xs : List Str} : ∀ i, i ≤ xs.length → (met xs i = i ↔ (xs.take i).Nodup)
  | 0, _ => by simp [met]
  | i + 1, hi => by
    have ih := met_nodup (xs := xs) i (by omega)
    have hx : xs[i]? = some (xs.getD i Str.empty) := by rw [List.getD_eq_getElem?_getD, List.getElem?_eq_getElem (by omega)]; rfl
    have et : xs.take (i + 1) = xs.take i ++ [xs.getD i Str.empty] := by rw [List.take_add_one, hx]; rfl
    have le := met_le xs i
    rw [et, List.nodup_append]
    unfold met
    by_cases c : (xs.take i).any (· == xs.getD i Str.empty) = true
    · rw [if_pos c]
      constructor
      · intro e; omega
      · rintro ⟨_, _, k⟩
        obtain ⟨y, hy, ey⟩ := List.any_eq_true.mp c
        have ey : y = xs.getD i Str.empty := eq_of_beq ey
        exact absurd ey (k y hy _ (by simp))
    · rw [if_neg c]
      constructor
      · intro e
        refine ⟨ih.mp (by omega), by simp, fun a ha b hb => ?_⟩
        have hb : b = xs.getD i Str.empty := by simpa using hb
        rintro rfl
        exact c (List.any_eq_true.mpr ⟨a, ha, by rw [hb]; exact beq_self_eq_true _⟩)
      · rintro ⟨k, _, _⟩
        rw [ih.mpr k]
section
variable {prog : Program} {w : World} {A : Around} {R : Result → Shared → Prop} {I : Addr} {fp wr : List Addr} {G : Array GenState → Array GenState → Prop} {n : Nat} {P : Nat → Value → Prop} {St : Nat → Shared → Prop}
theorem loop_strs (W : WalksS prog w A.in1 I fp wr G n P St) (S : Addr) (hSf : S ∉ fp) (xs : List Str) (hsz : xs.length = n) (hb : n + 1 < scanBound) (hval : ∀ i v, P i v → ∃ t, v = .str (xs.getD i Str.empty) t) :
    ∀ (k i : Nat) (s : Shared), n = i + k → St i s → s.heap.SetOf (PySem.strKind prog w) S (fun z => (xs.take i).any (· == z)) (met xs i) →
      (∀ s', Moved (S :: wr) G s s' → s'.heap.SetOf (PySem.strKind prog w) S (fun z => (xs.take n).any (· == z)) (met xs n) → R (.ok (.ret .none)) s') →
      codeAny (model prog w) A (.builtin "set.update.loop" ⟨[.ref S, .ref I], []⟩) R s := by
  have nw : S ∉ wr := fun h => hSf (W.sub _ h)
  have more : ∀ b ∈ wr, b ∈ S :: wr := fun b hb => List.mem_cons_of_mem _ hb
  have stays : ∀ {s s' : Shared} {f : Str → Bool} {c : Nat}, Moved wr G s s' → s.heap.SetOf (PySem.strKind prog w) S f c → s'.heap.SetOf (PySem.strKind prog w) S f c := fun {s s' f c} hm ⟨o, es, ep, t, ho, r⟩ => ⟨o, es, ep, t, hm.heap S _ nw ho, r⟩
  intro k
  induction k with
  | zero =>
    intro i s hk hst hS hR
    have e : i = n := by omega
    subst e
    refine codeAny_builtin PyProof.Rows.F.entry_set_update_loop ?_
    rw [Around.under_plainId PyProof.Rows.F.plain_set_update_loop _]
    refine wpAny_bind (W.done s _ _ hst fun s1 hm => wpAny_pure (hR s1 (hm.mono more) (stays hm hS)))
  | succ k ih =>
    intro i s hk hst hS hR
    have lt : i < n := by omega
    refine codeAny_builtin PyProof.Rows.F.entry_set_update_loop ?_
    rw [Around.under_plainId PyProof.Rows.F.plain_set_update_loop _]
    refine wpAny_bind (W.item i s _ _ lt hst fun v s1 hP hst1 hm => ?_)
    obtain ⟨t, rfl⟩ := hval i v hP
    have hS1 := stays hm hS
    generalize hx : xs.getD i Str.empty = x at *
    show wpAny _ A.in1 (holding [Value.str x t] (setAdd S (.str x t)) >>= _) _ _ s1
    refine wpAny_bind (wpAny_holding ?_)
    unfold setAdd
    refine wpAny_holding (wpAny_bind ((PySem.strKind prog w).pyHash (k := x) (strKind_is _ _ _ _) ?_))
    have le := met_le xs i
    refine wpAny_setAddHashed_of (knd := PySem.strKind prog w) (s := { s1 with toks := s1.toks + 1 }) (strKind_is _ _ _ _) rfl hS1 (by omega) fun h2 sb hS2 => ?_
    have hi : xs[i]? = some x := by rw [← hx, List.getD_eq_getElem?_getD, List.getElem?_eq_getElem (by omega)]; rfl
    have hS3 : h2.SetOf (PySem.strKind prog w) S (fun z => (xs.take (i + 1)).any (· == z)) (met xs (i + 1)) := by
      refine SetOf_congr hS2 (fun z => ?_) ?_
      · rw [List.take_add_one, hi]
        show ((xs.take i).any (· == z) || decide (z = x)) = (xs.take i ++ [x]).any (· == z)
        rw [List.any_append]
        congr 1
        by_cases e : z = x
        · subst e; simp
        · have : (x == z) = false := by simpa using fun h : x = z => e h.symm
          simp [e, this]
      · show _ = (if (xs.take i).any (· == xs.getD i Str.empty) = true then met xs i else met xs i + 1)
        rw [hx]
    refine wpAny_pure ⟨plainId_quiet PyProof.Rows.F.plain_set_update_loop _, ih (i + 1) _ (by omega) (W.frame _ s1 _ _ hst1 (Nat.le_succ _) fun b hb o e => ?_) hS3 fun s2 hm2 hS2 => ?_⟩
    · exact (sb.2 b fun q => hSf (q ▸ hb)).trans e
    · exact hR s2 (Moved.trans W.gtrans ((hm.mono more).then_heap (Nat.le_succ _) fun b o hb e => (sb.2 b fun q => hb (q ▸ List.mem_cons_self)).trans e) hm2) hS2
end
section
variable {prog : Program} {w : World} {A : Around} {E : Value → Shared → Prop} {s : Shared}
abbrev newSet (lg : Bool) : Obj := { cls := .type "set", dict := none, data := .set #[] 0 (.fresh 0 0 lg) }
theorem set_of_texts {l : Addr} {items : Array Value} {xs : List Str} {Q : Value → Shared → Prop} (hh : A.handled = none) (ht : s.heap.IsTuple l items) (hx : PyProof.Rows.StrsAre items.toList xs) (hb : xs.length + 1 < scanBound)
    (hq : ∀ (g : Heap) (tk : Nat), g.SetOf (PySem.strKind prog w) s.heap.objs.size (fun z => (xs.take items.size).any (· == z)) (met xs items.size) → (∀ b o, b < s.heap.objs.size → s.heap.get? b = some o → g.get? b = some o) → Q (.ref s.heap.objs.size) { s with heap := g, toks := tk }) :
    wpAny (model prog w) A (call (.type "set") [.ref l]) Q E s := by
  obtain ⟨c0, t0, m0⟩ := PySem.F.called_set.mro
  have m1 := PySem.F.called_set.made
  have m2 := PySem.F.called_set.sub
  refine wpAny_call (codeAny_of_tree ?_)
  show wpAny _ _ (callAny (.type "set") _) _ _ _
  refine wpAny_pure ⟨Code.quiet_builtin _ (by decide +kernel), codeAny_builtin PySem.F.entry_type_call ?_⟩
  rw [Around.under_plain (weight_type_call_type "set" [.ref l] []) rfl]
  have m3 := PySem.F.called_set.notType
  have m4 := PySem.F.called_set.canCreate
  have m5 := PySem.F.typeCall_set_1 (.ref l)
  repeat (any_goals (first | assumption | wp_step))
  refine codeAny_mono (code_set_new_1 (.ref l) (E := E) (Q₁ := fun u s1 => ∃ lg : Bool, u = .ref s.heap.objs.size ∧ s1 = { s with heap := s.heap.push (newSet lg) }) fun lg => ⟨lg, rfl, rfl⟩) fun r s1 back => ?_
  cases r with
  | error e => exact back
  | ok fl =>
    cases fl with
    | ret u =>
      obtain ⟨lg, rfl, rfl⟩ := back
      have atS : (s.heap.push (newSet lg)).get? s.heap.objs.size = some (newSet lg) := Heap.get?_push_size _ rfl
      have isS : Shared.TypeIs { s with heap := s.heap.push (newSet lg) } (.ref s.heap.objs.size) "set" := ⟨_, atS, rfl⟩
      have n1 := PySem.F.called_set.init.lookup
      have n2 := PySem.F.called_set.init.bind (.ref s.heap.objs.size)
      repeat (any_goals (first | assumption | wp_step))
      refine codeAny_mono (codeAny_call_builtin (R := wants (fun r s2 => r = .none ∧ ∃ g tk, s2 = { s with heap := g, toks := tk } ∧ g.SetOf (PySem.strKind prog w) s.heap.objs.size (fun z => (xs.take items.size).any (· == z)) (met xs items.size) ∧
          (∀ b o, b < s.heap.objs.size → s.heap.get? b = some o → g.get? b = some o)) E) PySem.F.called_set.init.plain PySem.F.entry_set_init (check_set_init_1 isS ?_)) fun r2 s2 back2 => ?_
      · obtain ⟨⟨oc, od, odt, osl⟩, ho, hc, nl, hd⟩ := ht
        simp only at hc hd
        subst hc hd
        have ho2 : (s.heap.push (newSet lg)).get? l = some { cls := .type "tuple", dict := od, data := .seq items nl, slots := osl } := Heap.get?_push_of_some _ ho
        have u1 := PySem.F.sub_tuple_set
        have u2 := PySem.F.sub_tuple_frozenset
        have u3 : (Value.type "tuple" == Value.type "dict") = false := by decide
        have isT : (s.heap.push (newSet lg)).IsTuple l items := ⟨_, ho2, rfl, nl, rfl⟩
        unfold Builtin.«set.__init__» noKeywords Builtin.Frozenset.updateFrom
        generalize eP : pyIter = PI
        wp_walk
        subst eP
        refine wpAny_pyIter_tuple isT (wpAny_bind (wpAny_runValue ?_))
        have lt : l < s.heap.objs.size := Heap.lt_size ho
        have sz1 : (s.heap.push (newSet lg)).objs.size = s.heap.objs.size + 1 := Heap.size_push ..
        have a3 : A.in1.in1.in1.handled = none := by simp [hh]
        have neI : l ≠ (s.heap.push (newSet lg)).objs.size := Nat.ne_of_lt (by rw [sz1]; exact Nat.lt_succ_of_lt lt)
        have nS : s.heap.objs.size ∉ [(s.heap.push (newSet lg)).objs.size, l] := by
          rw [sz1]
          simp only [List.mem_cons, List.not_mem_nil, or_false, not_or]
          exact And.intro (Nat.ne_of_lt (Nat.lt_succ_self _)) (Nat.ne_of_gt lt)
        have len : xs.length = items.size := by rw [← StrsAre.len_eq hx, Array.length_toList]
        refine loop_strs ((Walks.tuple a3 _ l neI items).toS) s.heap.objs.size nS xs len (by rw [← len]; exact hb) (fun i v hv => SS.strs_at hx i v (by rw [Array.getElem?_toList]; exact hv)) items.size 0 _ (by omega) ⟨⟨_, Heap.get?_push_size _ rfl, rfl, rfl⟩, (isT.push _)⟩ ?start ?fin
        case start =>
          have z : ((s.heap.push (newSet lg)).push { cls := .type "tuple_iterator", data := .fields #[.ref l, .int 0 0] }).get? s.heap.objs.size = some (newSet lg) := Heap.get?_push_of_some _ atS
          exact PyProof.Rows.SetOf_congr ((PyProof.Rows.setObjOf_fresh (knd := PySem.strKind prog w) lg).setOf z (by unfold scanBound; omega)) (fun _ => rfl) rfl
        case fin =>
          rintro ⟨g, g2, d2, tk, o2⟩ hm hS
          obtain rfl : g2 = s.gens := hm.gens
          obtain rfl : d2 = s.drawn := hm.drawn
          obtain rfl : o2 = s.os := hm.os
          refine wpAny_pure (wpAny_pure ⟨rfl, g, tk, rfl, hS, fun b o hb2 e => hm.heap b o ?_ (Heap.get?_push_of_some _ (Heap.get?_push_of_some _ e))⟩)
          rw [sz1]
          simp only [List.mem_cons, List.not_mem_nil, or_false, not_or]
          exact And.intro (Nat.ne_of_lt hb2) (Nat.ne_of_lt (Nat.lt_succ_of_lt hb2))
      · cases r2 with
        | error e => exact back2
        | ok fl2 =>
          cases fl2 with
          | ret r =>
            obtain ⟨rfl, g, tk, rfl, k1, k2⟩ := back2
            repeat (any_goals (first | assumption | wp_step))
            exact hq _ _ k1 k2
          | _ => exact back2.elim
    | _ => exact back.elim
end
def tSetLen (K : PySem.W.Frag) (ta : TE) : TE := fun σ H Q => ta σ H fun x H1 => ∃ (l : Addr) (xs : List Str), x = .ref l ∧ SqT K H1 l (xs.map V.str) ∧ xs.length ≤ 4000 ∧ Q (.int (met xs xs.length : Nat)) H1
theorem pe_setLen {X : Cx} {a : Expr} {ta : TE} {p p2 q pos : Pos} (hc : X.calm = true) (hg : Gl X "len") (hm : X.mg "len" = none) (hg2 : Gl X "set") (hm2 : X.mg "set" = none) (ha : PE X a ta)
    (na : starEach [a] X.env = (false, eval a X.env) :: starEach [] X.env := by rfl) : PE X (.Call (.Name "len" p) [.Call (.Name "set" p2) [a] [] q] [] pos) (tSetLen X.K ta) := by
  refine ⟨fun pins s σ H Q I h => Call_ (ld_blt I hg hm boot_len (PyProof.Rows.callWith_builtin1 (PyProof.Rows.args_cons ?_ rfl) rfl rfl))⟩
  refine Call_ (ld_blt I hg2 hm2 boot_set (PyProof.Rows.callWith_type1 (PyProof.Rows.args_cons (thn (ha.run pins s σ H _ I h) fun v s1 ⟨x, H1, I1, r1, q1⟩ => PyProof.Rows.args_nil ?_) na) na rfl))
  obtain ⟨l, xs, rfl, ht, hz, q1⟩ := q1
  cases r1
  obtain ⟨its, r, pl, _⟩ := I1.tuple ht
  have len : its.toArray.size = xs.length := by rw [List.size_toArray, ← r.length, List.length_map]
  refine set_of_texts (I1.ok.hd hc) pl (by simpa using strsAre_of r) (by unfold scanBound; omega) fun g tk hS hk => PyProof.Rows.args_nil ?_
  rw [len] at hS
  obtain ⟨o, es, ep, t, ho, hex, hd, _, _, hbnd, hf, hn⟩ := hS
  have I2 : Inv X pins σ H1 { s1 with heap := g, toks := tk } := I1.kept fun b o e => hk b o (Heap.lt_size e) e
  have := met_le xs xs.length
  exact call_len_set ho hex hd hf (by rw [hn]; omega) ⟨.int (met xs xs.length : Nat), H1, I2.tok _, ⟨_, by rw [hn]⟩, q1⟩
end Bs

set_option Elab.async false
set_option linter.all false
set_option maxRecDepth 100000
set_option maxHeartbeats 4000000
namespace Bs
open PySem L2
/-! ### the items in their order -/
def Blks.list : Blks → List Its
  | .nil => []
  | .cons _ b r => b :: r.list
def It.blocks : It → List Its
  | .rep _ _ b => [b]
  | .eit _ bs => bs.list
  | .swi _ _ bs => bs.list
  | _ => []
theorem walkB_list : ∀ (bs : Blks) (d : Int), bs.walk d = bs.list.flatMap (·.walk d)
  | .nil, d => by simp [Blks.walk, Blks.list]
  | .cons v b r, d => by simp [Blks.walk, Blks.list, walkB_list r]
theorem walk_it (x : It) (d : Int) : x.walk d = (d, x) :: x.blocks.flatMap (·.walk (d + 1)) := by
  cases x <;> simp [It.walk, It.blocks, walkB_list]
theorem walk_take : ∀ {x : Its} {i : Nat} {y : It} {d : Int}, x.get i = some y → (x.take (i + 1)).walk d = (x.take i).walk d ++ y.walk d
  | .nil, _, _, _, e => by simp [Its.get] at e
  | .cons x r, 0, y, d, e => by simp [Its.get] at e; subst e; simp [Its.take, Its.walk]
  | .cons x r, i + 1, y, d, e => by
    show (Its.cons x (r.take (i + 1))).walk d = (Its.cons x (r.take i)).walk d ++ y.walk d
    simp only [Its.walk, walk_take (x := r) e, List.append_assoc]
theorem walk_len {x : Its} {i : Nat} {y : It} {d : Int} (h : x.get i = some y) : ((x.take i).walk d).length + (y.walk d).length ≤ (x.walk d).length := by
  have : ∀ {x : Its} {i : Nat}, ((x.take i).walk d).length ≤ (x.walk d).length := by
    intro x
    induction x using Its.rec (motive_1 := fun _ => True) (motive_3 := fun _ => True) <;> (try trivial)
    · intro i; cases i <;> simp [Its.take, Its.walk]
    · rename_i x r _ ih
      intro i
      cases i with
      | zero => simp [Its.take, Its.walk]
      | succ i => simp only [Its.take, Its.walk, List.length_append]; have := ih (i := i); omega
  have h2 := this (x := x) (i := i + 1)
  rw [walk_take h, List.length_append] at h2
  exact h2
/-- rows of items, frozen -/
abbrev RowsAt (H : Hp) : List V → List Its → Prop := Paired fun v b => ∃ q xs, v = .ref q ∧ H q = some (.tup xs) ∧ b.At true H xs
theorem RowsAt.kp {H H' : Hp} (s : Kp true H H') : ∀ {l : List V} {r : List Its}, RowsAt H l r → RowsAt H' l r
  | _, _, .nil => .nil
  | _, _, .cons ⟨q, xs, e, h, g⟩ t => .cons ⟨q, xs, e, s.t _ _ h, g.kp s⟩ (RowsAt.kp s t)
theorem RowsAt.len {H : Hp} : ∀ {l : List V} {r : List Its}, RowsAt H l r → l.length = r.length
  | _, _, .nil => rfl
  | _, _, .cons _ t => by simp [RowsAt.len t]
theorem RowsAt.get {H : Hp} : ∀ {l : List V} {r : List Its} {i : Nat} {v : V}, RowsAt H l r → l[i]? = some v → ∃ b q xs, r[i]? = some b ∧ v = .ref q ∧ H q = some (.tup xs) ∧ b.At true H xs
  | _, _, _, _, .nil, e => by simp at e
  | _, _, 0, _, .cons ⟨q, xs, e0, h, g⟩ _, e => by simp at e; subst e; exact ⟨_, q, xs, by simp, e0, h, g⟩
  | _, _, i + 1, _, .cons _ t, e => by obtain ⟨b, q, xs, h⟩ := RowsAt.get (i := i) t (by simpa using e); exact ⟨b, q, xs, by simpa using h.1, h.2⟩
theorem rows_E {H : Hp} : ∀ {bs : Blks} {l : List V}, bs.AtE true H l → RowsAt H l bs.list
  | .nil, _, h => by simp only [Blks.AtE] at h; subst h; exact .nil
  | .cons v b r, _, h => by
    simp only [Blks.AtE] at h
    obtain ⟨q, xs, l', rfl, h1, h2, h3⟩ := h
    exact .cons ⟨q, xs, rfl, (h1.elim id fun z => by cases z.1), h2⟩ (rows_E h3)
theorem listB_get : ∀ {x : Blks} {i : Nat} {c : Int} {b : Its}, x.get i = some (c, b) → x.list[i]? = some b
  | .nil, _, _, _, e => by simp [Blks.get] at e
  | .cons v b r, 0, _, _, e => by simp only [Blks.get, Option.some.injEq, Prod.mk.injEq] at e; obtain ⟨rfl, rfl⟩ := e; rfl
  | .cons v b r, i + 1, _, _, e => listB_get (x := r) e
theorem listB_len : ∀ (x : Blks), x.list.length = x.len
  | .nil => rfl
  | .cons v b r => by simp [Blks.list, Blks.len, listB_len r]
theorem RowsAt.app {H : Hp} {v : V} {p : Its} (h : ∃ q xs, v = .ref q ∧ H q = some (.tup xs) ∧ p.At true H xs) : ∀ {l : List V} {r : List Its}, RowsAt H l r → RowsAt H (l ++ [v]) (r ++ [p])
  | _, _, .nil => .cons h .nil
  | _, _, .cons q t => .cons q (RowsAt.app h t)
def spBlocks : Sp := fun vs H Q _ => ∃ (v : V) (x : It), vs = [v] ∧ x.At true H v ∧ x.blocks.length ≤ 100 ∧ ∀ r zs H', Same H H' → H' r = some (.tup zs) → RowsAt H' zs x.blocks → Q (.ref r) H'
section
variable {P : Program} {w : World} {K : PySem.W.Frag} {mg : Str → Option Value} {base : Heap} {f C : Addr} {fd : FuncData}
theorem scBlocksOf : FnScope ["item", "_", "block"] ["item"] (defScope sBlocksOf) := ⟨rfl, rfl, rfl, by decide +kernel, rfl, by decide +kernel, by decide +kernel⟩
theorem ok_blocks (F : Fun K "blocks_of" "blocks_of" sBlocksOf f fd) (mt : mg "tuple" = none) : FnOk P w K mg base CX0 1 f fd ["item"] spBlocks := by
  refine F.ok scBlocksOf (fun vs H Q E h => ?_) (fun cdv A outer s H vs Q E hr h => ?_)
  · obtain ⟨v, x, rfl, _⟩ := h
    rfl
  · obtain ⟨v, x, rfl, hat, hb, q⟩ := h
    obtain ⟨p, rest, rfl, hp, hlen⟩ := At_head hat
    have hT : SqT K H p _ := SqT.of hp
    refine ⟨_, pss_cons (ps_if (pt_cmpR op_eq (pe_ix ix_tup (pv 0) pe_int (fun _ _ => rfl)) pe_str (nomark _)) (pss_one (ps_ret (pe_tup (pa_cons (pe_ix ix_tup (pv 0) pe_int (fun _ _ => rfl)) pa_nil)))) pss_nil)
      (pss_cons (ps_if (pt_cmpR op_eq (pe_ix ix_tup (pv 0) pe_int (fun _ _ => rfl)) pe_str (nomark _)) (pss_one (ps_ret (pe_ix ix_tup (pv 0) pe_int (fun _ _ => rfl)))) pss_nil)
      (pss_cons (ps_if (pt_cmpR op_eq (pe_ix ix_tup (pv 0) pe_int (fun _ _ => rfl)) pe_str (nomark _)) (pss_one (ps_ret (pe_tupleOf rfl mt (pe_lc (own := [("_", 1), ("block", 2)]) (g := gTup K 2 (gCons (gName 1) (gCons (gName 2) gNil))) (tt := tYes) rfl scBlocksOf.nd (pi_tup (pe_ix ix_tup (pv 0) pe_int (fun _ _ => rfl)))
            (blkOk_by (own := [("_", 1), ("block", 2)]) (N := ["item", "_", "block"]) (sc := defScope sBlocksOf) (by decide +kernel)) (fun _ _ _ _ _ => pg_tup rfl (pgs_cons (pg_name (i := 1) scBlocksOf.nd rfl (Or.inl rfl)) (pgs_cons (pg_name (i := 2) scBlocksOf.nd rfl (Or.inl rfl)) pgs_nil)))
            (fun _ _ _ _ _ => pts_nil) (fun _ _ _ _ _ => pv 2))))) pss_nil)
      (pss_one (ps_ret (pe_tup pa_nil))))), ?_⟩
    refine ⟨_, rfl, p, _, 0, _, rfl, rfl, hT, atI_nat (j := 0) rfl, rfl, _, rfl, ?_⟩
    cases x with
    | rep n amt b =>
      simp only [It.At] at hat
      obtain ⟨p', q2, xs, e1, h1, hrow, hbb⟩ := hat
      cases e1
      refine ite2 (fun _ => ?_) (fun z => (z (decide_eq_true rfl)).elim)
      refine ⟨_, rfl, p, _, 3, _, rfl, rfl, SqT.of h1, atI_nat (j := 3) rfl, (by show 1 ≤ sizeLine; decide), fun t ht4 => ?_⟩
      have s1 := same_new ht4 (.tup [.ref q2])
      exact q t _ _ s1 upd_same (.cons ⟨q2, xs, rfl, s1 _ _ (hrow.elim id fun z => by cases z.1), hbb.same s1⟩ .nil)
    | eit n bs =>
      simp only [It.At] at hat
      obtain ⟨p', q2, xs, e1, h1, hrow, hbb⟩ := hat
      cases e1
      refine ite2 (fun z => absurd (of_decide_eq_true z) (kne (by simp only [It.kind]; decide +kernel))) (fun _ => ?_)
      refine ⟨_, rfl, p, _, 0, _, rfl, rfl, hT, atI_nat (j := 0) rfl, rfl, _, rfl, ite2 (fun _ => ?_) (fun z => (z (decide_eq_true rfl)).elim)⟩
      refine ⟨_, rfl, p, _, 2, _, rfl, rfl, SqT.of h1, atI_nat (j := 2) rfl, ?_⟩
      exact q q2 xs H (Same.refl H) (hrow.elim id fun z => by cases z.1) (rows_E hbb)
    | swi n tag bs =>
      simp only [It.At] at hat
      obtain ⟨p', q2, xs, e1, h1, hrow, hbb⟩ := hat
      cases e1
      have hq : H q2 = some (.tup xs) := hrow.elim id fun z => by cases z.1
      refine ite2 (fun z => absurd (of_decide_eq_true z) (kne (by simp only [It.kind]; decide +kernel))) (fun _ => ?_)
      refine ⟨_, rfl, p, _, 0, _, rfl, rfl, hT, atI_nat (j := 0) rfl, rfl, _, rfl, ite2 (fun z => absurd (of_decide_eq_true z) (kne (by simp only [It.kind]; decide +kernel))) (fun _ => ?_)⟩
      refine ⟨_, rfl, p, _, 0, _, rfl, rfl, hT, atI_nat (j := 0) rfl, rfl, _, rfl, ite2 (fun _ => ?_) (fun z => (z (decide_eq_true rfl)).elim)⟩
      have el := hbb.len
      have hb : bs.list.length ≤ 100 := hb
      refine ⟨_, rfl, p, _, 3, _, rfl, rfl, SqT.of h1, atI_nat (j := 3) rfl, q2, rfl, ⟨_, SqT.of hq⟩, fun D hD => lc_tup (K := K) (a := q2) (xs := xs) (fun i H' => Same H H' ∧ ∃ acc, H' D = some (.lst acc) ∧ RowsAt H' acc (bs.list.take i)) ⟨same_new hD _, [], upd_same, .nil⟩ (fun i H' _ z => SqT.of (z.1 _ _ hq)) ?_ ?_⟩
      · rintro i v H2 hi ⟨s2, acc, hacc, hra⟩
        obtain ⟨c, b, pc, qb, zs, gb, rfl, hpc, hrw, hb2⟩ := AtS_item (hbb.same s2) hi
        refine ⟨pc, _, rfl, SqT.of hpc, rfl, _, _, rfl, _, _, rfl, rfl, rfl, yes_go ⟨_, rfl, acc, hacc, small1000 (by rw [hra.len, List.length_take]; omega), same_set s2 hD, acc ++ [.ref qb], upd_same, ?_⟩⟩
        rw [take_more (listB_get gb)]
        exact (RowsAt.app ⟨qb, zs, rfl, (hrw.elim id fun z => by cases z.1), hb2⟩ hra).kp (.wr hacc)
      · rintro H2 ⟨s2, acc, hacc, hra⟩
        rw [el, ← listB_len, List.take_length] at hra
        refine .inl ⟨D, acc, rfl, SqL.of hacc, fun r hr2 => ?_⟩
        have s3 := same_new hr2 (.tup acc)
        exact q r acc _ (s2.trans s3) upd_same (hra.kp (.of s3))
    | _ =>
      refine ite2 (fun z => absurd (of_decide_eq_true z) (kne (by simp only [It.kind]; decide +kernel))) (fun _ => ?_)
      refine ⟨_, rfl, p, _, 0, _, rfl, rfl, hT, atI_nat (j := 0) rfl, rfl, _, rfl, ite2 (fun z => absurd (of_decide_eq_true z) (kne (by simp only [It.kind]; decide +kernel))) (fun _ => ?_)⟩
      refine ⟨_, rfl, p, _, 0, _, rfl, rfl, hT, atI_nat (j := 0) rfl, rfl, _, rfl, ite2 (fun z => absurd (of_decide_eq_true z) (kne (by simp only [It.kind]; decide +kernel))) (fun _ => ?_)⟩
      refine ⟨(by show 0 ≤ sizeLine; decide), fun r hr2 => ?_⟩
      exact q r [] _ (same_new hr2 _) upd_same .nil
/-- the rows of listed -/
abbrev WalkAt (H : Hp) : List V → List (Int × It) → Prop := Paired fun v p => ∃ t u, v = .ref t ∧ H t = some (.tup [.int p.1, u]) ∧ p.2.At true H u
theorem WalkAt.kp {H H' : Hp} (s : Kp true H H') : ∀ {l : List V} {r : List (Int × It)}, WalkAt H l r → WalkAt H' l r
  | _, _, .nil => .nil
  | _, _, .cons ⟨t, u, e, h, g⟩ r => .cons ⟨t, u, e, s.t _ _ h, g.kp s⟩ (WalkAt.kp s r)
theorem WalkAt.len {H : Hp} : ∀ {l : List V} {r : List (Int × It)}, WalkAt H l r → l.length = r.length
  | _, _, .nil => rfl
  | _, _, .cons _ t => by simp [WalkAt.len t]
theorem WalkAt.cat {H : Hp} : ∀ {l m : List V} {r q : List (Int × It)}, WalkAt H l r → WalkAt H m q → WalkAt H (l ++ m) (r ++ q)
  | _, _, _, _, .nil, h => h
  | _, _, _, _, .cons a t, h => .cons a (WalkAt.cat t h)
def spListed (n : Nat) : Sp := fun vs H Q _ => ∃ (a : Addr) (x : Its) (xs : List V) (d : Int), vs = [.ref a, .int d] ∧ d + n = 3 ∧ x.ok d = true ∧ H a = some (.tup xs) ∧ x.At true H xs ∧ (x.walk d).length ≤ 1000 ∧
  ∀ r rows H', Same H H' → H' r = some (.lst rows) → WalkAt H' rows (x.walk d) → Q (.ref r) H'
theorem bl_ok : ∀ {bs : Blks} {d : Int}, bs.ok d = true → ∀ b ∈ bs.list, b.ok d = true
  | .nil, _, _, _, h => by simp [Blks.list] at h
  | .cons v b r, d, h, c, hc => by
    rw [Blks.ok, Bool.and_eq_true, Bool.and_eq_true] at h
    rcases List.mem_cons.mp hc with e | hc
    · rw [e]; exact h.1.2
    · exact bl_ok h.2 c hc
theorem blocks_ok {x : It} {d : Int} (h : x.ok d = true) : x.blocks.length ≤ 8 ∧ ∀ b ∈ x.blocks, d ≤ 2 ∧ b.ok (d + 1) = true := by
  cases x with
  | rep n a b =>
    rw [It.ok, Bool.and_eq_true, Bool.and_eq_true, Bool.and_eq_true] at h
    refine ⟨by simp [It.blocks], fun c hc => ?_⟩
    have : c = b := by simpa [It.blocks] using hc
    rw [this]
    exact ⟨of_decide_eq_true h.2.1, h.2.2.2⟩
  | eit n bs =>
    rw [It.ok, Bool.and_eq_true, Bool.and_eq_true, Bool.and_eq_true] at h
    have := of_decide_eq_true h.2.2.1
    exact ⟨by show bs.list.length ≤ 8; rw [listB_len]; omega, fun c hc => ⟨of_decide_eq_true h.2.1, bl_ok h.2.2.2 c hc⟩⟩
  | swi n t bs =>
    rw [It.ok, Bool.and_eq_true, Bool.and_eq_true, Bool.and_eq_true] at h
    have := of_decide_eq_true h.2.2.1
    exact ⟨by show bs.list.length ≤ 8; rw [listB_len]; omega, fun c hc => ⟨of_decide_eq_true h.2.1, bl_ok h.2.2.2 c hc⟩⟩
  | _ => exact ⟨by simp [It.blocks], fun c hc => by simp [It.blocks] at hc⟩
theorem scListed : FnScope ["items", "depth", "found", "item", "block"] ["items", "depth"] (defScope sListed) := ⟨rfl, rfl, rfl, by decide +kernel, rfl, by decide +kernel, by decide +kernel⟩
theorem flat_len {l : List Its} {j : Nat} {b : Its} {d : Int} (h : l[j]? = some b) : ((l.take j).flatMap (·.walk d)).length + (b.walk d).length ≤ (l.flatMap (·.walk d)).length := by
  have e : l = l.take j ++ b :: l.drop (j + 1) := by
    have hj : j < l.length := (List.getElem?_eq_some_iff.mp h).1
    have hb : l[j] = b := (List.getElem?_eq_some_iff.mp h).2
    rw [← hb, ← List.drop_eq_getElem_cons hj, List.take_append_drop]
  have e2 : (l.flatMap (·.walk d)).length = ((l.take j ++ b :: l.drop (j + 1)).flatMap (·.walk d)).length := by rw [← e]
  rw [e2]
  simp only [List.flatMap_append, List.flatMap_cons, List.length_append]
  omega
theorem ok_listed {n k : Nat} (hk : 1 ≤ k) (F : Fun K "listed" "listed" sListed f fd) (gB : Cal P w K mg base CX0 1 "blocks_of" ["item"] spBlocks) (gS : Cal P w K mg base CX0 k "listed" ["items", "depth"] (spSub spListed n)) :
    FnOk P w K mg base CX0 (k + 1) f fd ["items", "depth"] (spListed n) := by
  refine F.ok scListed (fun vs H Q E h => ?_) (fun cdv A outer s H vs Q E hr h => ?_)
  · obtain ⟨a, x, xs, d, rfl, _⟩ := h
    rfl
  · obtain ⟨a, x, xs, d, rfl, hd, ok, ha, hat, hw, q⟩ := h
    refine ⟨_, pss_cons (ps_set (i := 2) scListed.nd rfl (.inl rfl) (pe_lst pa_nil))
      (pss_cons (ps_for PassesOwn.never rfl (pi_tup (pv 0)) (pg_name (i := 3) scListed.nd rfl (.inl rfl))
        (pss_cons (ps_expr (pe_bm PySem.F.plainAttrs_list PySem.F.slot_list_append PySem.F.type_list_append mt_append (pv 2) (pa_cons (pe_tup (pa_cons (pv 1) (pa_cons (pv 3) pa_nil))) pa_nil)))
        (pss_one (ps_for PassesOwn.never rfl (pi_tup (pe_cal gB (hr.mono hk) pass0 (pa_cons (pv 3) pa_nil))) (pg_name (i := 4) scListed.nd rfl (.inl rfl))
          (pss_one (ps_expr (pe_bm PySem.F.plainAttrs_list PySem.F.slot_list_extend PySem.F.type_list_extend mt_extend (pv 2) (pa_cons (pe_cal gS hr pass0 (pa_cons (pv 4) (pa_cons (pe_op op_add (pv 1) pe_int) pa_nil))) pa_nil))))))))
      (pss_one (ps_ret (pv 2)))), ?_⟩
    refine ⟨(by show 0 ≤ sizeLine; decide), fun D hD => ?_⟩
    have s0 := same_new hD (.lst [])
    have el := hat.len
    refine ⟨_, rfl, a, rfl, ⟨_, SqT.of (s0 _ _ ha)⟩, for_tup (K := K) (a := a) (xs := xs) (fun i σ H' => ∃ i3 i4, σ = [some (.ref a), some (.int d), some (.ref D), i3, i4] ∧ Same H H' ∧ ∃ acc, H' D = some (.lst acc) ∧ WalkAt H' acc ((x.take i).walk d))
      ⟨none, none, rfl, s0, [], upd_same, by simp [Its.take, Its.walk]; exact .nil⟩ (fun i σ H' _ z => by obtain ⟨_, _, _, z, _⟩ := z; exact SqT.of (z _ _ ha)) ?_ ?_⟩
    · rintro i v σ H2 hi ⟨i3, i4, rfl, s2, acc, hacc, hwa⟩
      obtain ⟨y, gy, ay⟩ := At_item (hat.same s2) hi
      obtain ⟨b8, bok⟩ := blocks_ok (get_okd ok gy)
      have wl := walk_len (d := d) gy
      have wy := walk_it y d
      have hal := hwa.len
      refine ⟨_, rfl, .inl ⟨rfl, _, SqL.of hacc⟩, _, rfl, _, rfl, (by show 2 ≤ sizeLine; decide), fun t ht4 => ?_⟩
      have s3 := same_new ht4 (.tup [.int d, v])
      have hacc3 := s3 _ _ hacc
      refine ⟨D, acc, .ref t, rfl, rfl, hacc3, small1000 (by omega), ?_⟩
      have k3 : Kp true H2 (upd (upd H2 t (.tup [.int d, v])) D (.lst (acc ++ [.ref t]))) := (Kp.of s3).trans (.wr hacc3)
      have hS3 : Same H (upd (upd H2 t (.tup [.int d, v])) D (.lst (acc ++ [.ref t]))) := same_set (s2.trans s3) hD
      have hw3 : WalkAt (upd (upd H2 t (.tup [.int d, v])) D (.lst (acc ++ [.ref t]))) (acc ++ [.ref t]) ((x.take i).walk d ++ [(d, y)]) := by
        refine (hwa.kp k3).cat (.cons ⟨t, v, rfl, ?_, ay.kp k3⟩ .nil)
        rw [upd_ne (ne_of upd_same hacc3 (by intro z; cases z)), upd_same]
      generalize hH3 : upd (upd H2 t (.tup [.int d, v])) D (.lst (acc ++ [.ref t])) = H3 at k3 hS3 hw3
      have hD3 : H3 D = some (.lst (acc ++ [.ref t])) := by rw [← hH3]; exact upd_same
      refine ⟨_, rfl, v, y, rfl, ay.kp k3, by omega, fun r zs H4 s4 hr4 hrows => ?_⟩
      refine ⟨r, rfl, ⟨_, SqT.of hr4⟩, for_tup (K := K) (a := r) (xs := zs) (fun j σ H' => ∃ i4, σ = [some (.ref a), some (.int d), some (.ref D), some v, i4] ∧ Same H H' ∧ H' r = some (.tup zs) ∧ RowsAt H' zs y.blocks ∧ ∃ acc', H' D = some (.lst acc') ∧ WalkAt H' acc' ((x.take i).walk d ++ [(d, y)] ++ (y.blocks.take j).flatMap (·.walk (d + 1))))
        ⟨_, rfl, hS3.trans s4, hr4, hrows, _, s4 _ _ hD3, by simpa using hw3.kp (.of s4)⟩ (fun j σ H' _ z => by obtain ⟨_, _, _, z, _⟩ := z; exact SqT.of z) ?_ ?_⟩
      · rintro j z σ H5 hj ⟨i4, rfl, s5, hr5, hrows5, acc', hacc', hwa'⟩
        obtain ⟨b, qb, xb, gb, rfl, hqb, hbb⟩ := hrows5.get hj
        obtain ⟨d2, bk⟩ := bok b (List.mem_of_getElem? gb)
        have fl := flat_len (d := d + 1) gb
        have yl : (y.walk d).length = 1 + (y.blocks.flatMap (·.walk (d + 1))).length := by rw [wy, List.length_cons]; omega
        have hal' := hwa'.len
        rw [List.length_append, List.length_append, List.length_singleton] at hal'
        cases n with
        | zero => exfalso; omega
        | succ m =>
          refine ⟨_, rfl, .inl ⟨rfl, _, SqL.of hacc'⟩, _, rfl, _, rfl, d, 1, rfl, rfl, qb, b, xb, d + 1, rfl, by omega, bk, hqb, hbb, by omega, fun r6 rows H6 s6 h6 w6 => ?_⟩
          have hacc6 := s6 _ _ hacc'
          refine ⟨D, r6, acc', rows, rfl, rfl, hacc6, h6, le_line (by rw [w6.len]; omega), ?_⟩
          have k6 : Kp true H6 (upd H6 D (.lst (acc' ++ rows))) := .wr hacc6
          refine ⟨_, rfl, same_set (s5.trans s6) hD, k6.t _ _ (s6 _ _ hr5), (hrows5.kp (.of s6)).kp k6, acc' ++ rows, upd_same, ?_⟩
          rw [take_more gb, List.flatMap_append, ← List.append_assoc]
          simp only [List.flatMap_cons, List.flatMap_nil, List.append_nil]
          exact ((hwa'.kp (.of s6)).cat w6).kp k6
      · rintro σ H5 ⟨i4, rfl, s5, hr5, hrows5, acc', hacc', hwa'⟩
        rw [hrows5.len, List.take_length] at hwa'
        refine ⟨_, _, rfl, s5, acc', hacc', ?_⟩
        rw [walk_take gy, wy]
        simpa using hwa'
    · rintro σ H2 ⟨i3, i4, rfl, s2, acc, hacc, hwa⟩
      rw [el, take_all] at hwa
      exact ⟨_, rfl, q D acc H2 s2 hacc hwa⟩
end
end Bs

set_option Elab.async false
set_option linter.all false
set_option maxRecDepth 100000
set_option maxHeartbeats 4000000
namespace Bs
open PySem L2
/-! ### Shape -/
def gFld (K : PySem.W.Frag) (ta : TE) (f : Str) : TG := fun v σ H Q => ta σ H fun x H2 => ∃ a C dx fs, x = .ref a ∧ H2 a = some (.ins C dx fs) ∧ Cls K C ∧ NoAttr K C f ∧ fs.length < 1000 ∧ Q σ (upd H2 a (.ins C dx (putF f v fs)))
theorem pg_fld {X : Cx} {o : Expr} {f : Str} {pos : Pos} {ta : TE} (ha : PE X o ta) : PG X (.Attribute o f pos) (gFld X.K ta f) := by
  refine ⟨fun pins s σ H v u Q I r h => PySem.W.kas_attr (thn (ha.run pins s σ H _ I h) fun ov s2 ⟨x, H2, I2, rx, a, C, dx, fs, ex, ea, c, n, l, q⟩ => ?_)⟩
  subst ex
  obtain rfl : ov = Value.ref a := rx
  exact setattr_ok I2 ea c n l r fun s3 I3 => ⟨σ, _, I3, q⟩
theorem putF_len (f : Str) (v : V) : ∀ fs : List (Str × V), (putF f v fs).length ≤ fs.length + 1
  | [] => by simp [putF]
  | (g, x) :: r => by
    unfold putF
    split
    · simp
    · have := putF_len f v r
      simp only [List.length_cons]
      omega
/-- all but o is as it was -/
def Off (o : Addr) (H H' : Hp) : Prop := ∀ b u, b ≠ o → H b = some u → H' b = some u
theorem Off.refl (o : Addr) (H : Hp) : Off o H H := fun _ _ _ h => h
theorem Off.trans {o : Addr} {H H1 H2 : Hp} (a : Off o H H1) (b : Off o H1 H2) : Off o H H2 := fun c u n h => b c u n (a c u n h)
theorem Off.of {o : Addr} {H H' : Hp} (s : Same H H') : Off o H H' := fun b u _ h => s b u h
theorem Off.wr {o : Addr} {H : Hp} {u : HO} : Off o H (upd H o u) := fun b v n h => by rw [upd_ne n]; exact h
theorem Off.kp {o : Addr} {fz : Bool} {H H' : Hp} {C dx : Addr} {fs : List (Str × V)} (h : H o = some (.ins C dx fs)) (f : Off o H H') : Kp fz H H' :=
  ⟨fun b xs e => f b _ (ne_of e h (by intro z; cases z)) e, fun _ b xs e => f b _ (ne_of e h (by intro z; cases z)) e⟩
structure ShapeC (K : PySem.W.Frag) (C : Addr) : Prop where
  cl : Cls K C
  n1 : NoAttr K C "parts"
  n2 : NoAttr K C "_rows"
  n3 : NoAttr K C "names"
  n4 : NoAttr K C "_least"
  n5 : NoAttr K C "_greatest"
  n6 : NoAttr K C "_row_of"
/-- the shape in the making: o its instance, p its parts -/
structure Mk0 (o CS dx p : Addr) (x : Its) (ys : List V) (H0 H : Hp) (fs : List (Str × V)) : Prop where
  off : Off o H0 H
  ho : H o = some (.ins CS dx fs)
  hp : H p = some (.tup ys)
  at' : x.At true H ys
theorem Mk0.same {o CS dx p : Addr} {x : Its} {ys : List V} {H0 H H' : Hp} {fs : List (Str × V)} (m : Mk0 o CS dx p x ys H0 H fs) (s : Same H H') : Mk0 o CS dx p x ys H0 H' fs :=
  ⟨m.off.trans (.of s), s _ _ m.ho, s _ _ m.hp, m.at'.same s⟩
theorem Mk0.put {o CS dx p : Addr} {x : Its} {ys : List V} {H0 H : Hp} {fs gs : List (Str × V)} (m : Mk0 o CS dx p x ys H0 H fs) : Mk0 o CS dx p x ys H0 (upd H o (.ins CS dx gs)) gs :=
  ⟨m.off.trans .wr, upd_same, by rw [upd_ne (ne_of m.hp m.ho (by intro z; cases z))]; exact m.hp, m.at'.kp (Off.kp m.ho .wr)⟩
theorem WalkAt.get {H : Hp} : ∀ {l : List V} {r : List (Int × It)} {i : Nat} {v : V}, WalkAt H l r → l[i]? = some v → ∃ d y t u, r[i]? = some (d, y) ∧ v = .ref t ∧ H t = some (.tup [.int d, u]) ∧ y.At true H u
  | _, _, _, _, .nil, e => by simp at e
  | _, _, 0, _, .cons (b := (d, y)) ⟨t, u, e0, h, g⟩ _, e => by simp at e; subst e; exact ⟨d, y, t, u, by simp, e0, h, g⟩
  | _, _, i + 1, _, .cons _ t, e => by obtain ⟨d, y, t, u, h⟩ := WalkAt.get (i := i) t (by simpa using e); exact ⟨d, y, t, u, by simpa using h.1, h.2⟩
def spInit (CE CS : Addr) : Sp := fun vs H Q E => ∃ (o a dx : Addr) (x : Its) (xs : List V), vs = [.ref o, .ref a] ∧ H o = some (.ins CS dx []) ∧ RowAt false H a xs ∧ x.At false H xs ∧ x.tame ∧ (x.walk 0).length ≤ 1000 ∧
  (x.shape = true → ∀ H' p ys fs, Off o H H' → H' o = some (.ins CS dx fs) → fs.lookup ("parts" : Str) = some (.ref p) → H' p = some (.tup ys) → x.At true H' ys → Q .non H') ∧ (x.shape = false → ∀ H', Off o H H' → E (.ref CE) none H')
section
variable {P : Program} {w : World} {K : PySem.W.Frag} {mg : Str → Option Value} {base : Heap} {f C CS : Addr} {fd : FuncData}
abbrev nInit : List Str := ["self", "items", "_", "item", "checks", "row"]
theorem scInit : FnScope nInit ["self", "items"] (defScope sInit) := ⟨rfl, rfl, rfl, by decide +kernel, rfl, by decide +kernel, by decide +kernel⟩
theorem ok_init {k : Nat} (hk : 2 ≤ k) (F : Fun K "__init__" "Shape.__init__" sInit f fd) (T : ShapeC K CS) (gR : Cal P w K mg base (L2.CX P w) 1 "require" ["holds", "words"] (spRequire C)) (gC : Cal P w K mg base (L2.CX P w) k "copied_list" ["items", "depth"] (spCopList C 3))
    (gW : Cal P w K mg base CX0 k "listed" ["items", "depth"] (spListed 3)) (gL : Cal P w K mg base (L2.CX P w) k "list_lengths" ["items", "visible"] (spLensList C 3)) (ml : mg "len" = none) (mt : mg "tuple" = none) (mset : mg "set" = none) (gM : GInt mg "MOST_ITEMS" 30) :
    FnOk P w K mg base (L2.CX P w) (k + 1) f fd ["self", "items"] (spInit C CS) := by
  refine F.okX scInit (fun vs H Q E h => ?_) (fun cdv A outer s H vs Q E hr h => ?_)
  · obtain ⟨o, a, dx, x, xs, rfl, _⟩ := h
    rfl
  · obtain ⟨o, a, dx, x, xs, rfl, ho, hrow, hat, ht, hw, q1, q2⟩ := h
    have tk : Takes (cxOf (L2.CX P w) P w K mg base nInit "Shape.__init__" (defScope sInit) f cdv A outer s H E) (fun cls d _ H => E cls d H) := takes_of rfl rfl rfl rfl
    have hx := passes_call tk (E := E) fun _ _ _ _ h => h
    have hr1 : Room 1 _ := hr.mono (by omega)
    refine ⟨_, pss_cons (ps_fld (pv 0) (pe_cal gC hr hx (pa_cons (pv 1) (pa_cons pe_int pa_nil))) rfl)
      (pss_cons (ps_expr (pe_cal gR hr1 hx (pa_cons (pe_cmpR op_ge (pe_callB call_len (by rfl) ml boot_len (pa_cons (pe_fld (pv 0) rfl) pa_nil)) pe_int (nomark _)) (pa_cons pe_str pa_nil))))
      (pss_cons (ps_fld (pv 0) (pe_tupleOf (by rfl) mt (pe_cal gW hr pass0 (pa_cons (pe_fld (pv 0) rfl) (pa_cons pe_int pa_nil)))) rfl)
      (pss_cons (ps_fld (pv 0) (pe_tupleOf (by rfl) mt (pe_lc (own := [("_", 2), ("item", 3)]) (g := gTup K 2 (gCons (gName 2) (gCons (gName 3) gNil))) (tt := tYes) rfl scInit.nd (pi_tup (pe_fld (pv 0) rfl))
            (blkOk_by (own := [("_", 2), ("item", 3)]) (N := nInit) (sc := defScope sInit) (by decide +kernel)) (fun _ _ _ _ _ => pg_tup rfl (pgs_cons (pg_name (i := 2) scInit.nd rfl (Or.inl rfl)) (pgs_cons (pg_name (i := 3) scInit.nd rfl (Or.inl rfl)) pgs_nil)))
            (fun _ _ _ _ _ => pts_nil) (fun _ _ _ _ _ => pe_ix (r := rIxT K) ix_tup (pv 3) pe_int (fun _ _ => rfl)))) rfl)
      (pss_cons (ps_expr (pe_cal gR hr1 hx (pa_cons (pe_cmpR op_le (pe_callB call_len (by rfl) ml boot_len (pa_cons (pe_fld (pv 0) rfl) pa_nil)) (pe_gint gM rfl) (nomark _)) (pa_cons (pe_joined (.cons pe_str (.cons (pe_fmt (pe_gint gM rfl)) (.cons pe_str .nil)))) pa_nil))))
      (pss_cons (ps_expr (pe_cal gR hr1 hx (pa_cons (pe_cmpR op_eq (pe_setLen rfl (by rfl) ml (by rfl) mset (pe_fld (pv 0) rfl)) (pe_callB call_len (by rfl) ml boot_len (pa_cons (pe_fld (pv 0) rfl) pa_nil)) (nomark _)) (pa_cons pe_str pa_nil))))
      (pss_cons (ps_setLc (i := 4) (own := [("_", 2), ("item", 3)]) (g := gTup K 2 (gCons (gName 2) (gCons (gName 3) gNil))) rfl scInit.nd rfl rfl (sw_true rfl rfl rfl (by decide +kernel)) (pi_tup (pe_fld (pv 0) rfl))
            (blkOk_by (own := [("_", 2), ("item", 3)]) (N := nInit) (sc := defScope sInit) (by decide +kernel)) (fun _ _ _ _ _ => pg_tup rfl (pgs_cons (pg_name (i := 2) scInit.nd rfl (Or.inl rfl)) (pgs_cons (pg_name (i := 3) scInit.nd rfl (Or.inl rfl)) pgs_nil)))
            (fun _ _ _ _ _ => pts_one (pt_cmpR op_eq (pe_ix (r := rIxT K) ix_tup (pv 3) pe_int (fun _ _ => rfl)) pe_str (nomark _))) (fun _ _ _ _ _ => pv 3))
      (pss_cons (ps_expr (pe_cal gR hr1 hx (pa_cons (pe_cmpR op_le (pe_callB call_len (by rfl) ml boot_len (pa_cons (pv 4) pa_nil)) pe_int (nomark _)) (pa_cons pe_str pa_nil))))
      (pss_cons (ps_asg (pe_cal gL hr hx (pa_cons (pe_fld (pv 0) rfl) (pa_cons pe_dnewK pa_nil))) (pg_tup rfl (pgs_cons (pg_fld (pv 0)) (pgs_cons (pg_fld (pv 0)) pgs_nil))))
      (pss_one (ps_fld (pv 0) (pe_dc (own := [("row", 5)]) (g := gName 5) (tt := tYes) rfl scInit.nd (pi_tup (pe_fld (pv 0) rfl)) (blkOk_by (own := [("row", 5)]) (N := nInit) (sc := defScope sInit) (by decide +kernel))
            (fun _ _ _ _ _ => pg_name (i := 5) scInit.nd rfl (Or.inl rfl)) (fun _ _ _ _ _ => pts_nil) (fun _ _ _ _ _ => pe_ix (r := rIxT K) ix_tup (pe_ix (r := rIxT K) ix_tup (pv 5) pe_int (fun _ _ => rfl)) pe_int (fun _ _ => rfl)) (fun _ _ _ _ _ => pv 5)) rfl)))))))))), ?_⟩
    unfold Its.shape at q1 q2
    refine ⟨_, rfl, a, x, xs, 0, rfl, rfl, hrow, hat, ht, fun c1 p ys H1 s1 hp hy => ?_, fun c1 H1 s1 => q2 (by rw [c1, Bool.false_and]) H1 (.of s1)⟩
    have hx12 : x.len ≤ 12 := of_decide_eq_true (Bool.and_eq_true _ _ ▸ c1).1
    have hok : x.ok 0 = true := (Bool.and_eq_true _ _ ▸ c1).2
    rw [c1, Bool.true_and] at q1 q2
    have hl := hy.len
    have m1 : Mk0 o CS dx p x ys H H1 [] := ⟨.of s1, s1 _ _ ho, hp, hy⟩
    refine ⟨_, rfl, o, CS, dx, [], rfl, m1.ho, T.cl, T.n1, by simp, ?_⟩
    have m2 := m1.put (gs := putF "parts" (.ref p) [])
    have lk2 : (putF "parts" (.ref p) []).lookup ("parts" : Str) = some (.ref p) := by rw [lookup_putF, if_pos rfl]
    generalize upd H1 o _ = H2 at m2 ⊢
    refine ⟨_, rfl, o, CS, dx, _, _, rfl, m2.ho, T.cl, T.n1, lk2, _, _, rfl, .inr ⟨_, SqT.of m2.hp, rfl⟩, _, _, rfl, rfl, ?_⟩
    refine ⟨_, _, rfl, fun e => ?_, fun e => ?_⟩
    rotate_left
    · have e := of_decide_eq_false e
      exact q2 (by rw [decide_eq_false (by omega), Bool.false_and]) _ m2.off
    have e := of_decide_eq_true e
    rw [decide_eq_true (by omega), Bool.true_and] at q1 q2
    refine ⟨_, rfl, o, CS, dx, _, _, rfl, m2.ho, T.cl, T.n1, lk2, p, x, ys, 0, rfl, rfl, hok, m2.hp, m2.at', hw, fun r rows H3 s3 hr3 wa3 => ?_⟩
    refine .inl ⟨r, rows, rfl, SqL.of hr3, fun r2 hr2 => ?_⟩
    have s4 := same_new hr2 (.tup rows)
    have m4 := m2.same (s3.trans s4)
    have wa4 := wa3.kp (.of s4)
    have h4 : upd H3 r2 (.tup rows) r2 = some (.tup rows) := upd_same
    generalize upd H3 r2 _ = H4 at m4 wa4 h4 ⊢
    refine ⟨_, rfl, o, CS, dx, _, rfl, m4.ho, T.cl, T.n2, by simp [putF], ?_⟩
    have m5 := m4.put (gs := putF "_rows" (.ref r2) (putF "parts" (.ref p) []))
    have k5 : Kp true H4 (upd H4 o (.ins CS dx (putF "_rows" (.ref r2) (putF "parts" (.ref p) [])))) := Off.kp m4.ho .wr
    have wa5 := wa4.kp k5
    have h5 := k5.t _ _ h4
    have lk5 : (putF "_rows" (.ref r2) (putF "parts" (.ref p) [])).lookup ("_rows" : Str) = some (.ref r2) := by rw [lookup_putF, if_pos rfl]
    generalize upd H4 o _ = H5 at m5 wa5 h5 ⊢
    have rl := wa5.len
    refine ⟨_, rfl, o, CS, dx, _, _, rfl, m5.ho, T.cl, T.n2, lk5, r2, rfl, ⟨_, SqT.of h5⟩, fun D hD => lc_tup (K := K) (a := r2) (xs := rows) (fun i H' => Same H5 H' ∧ H' D = some (.lst (((x.walk 0).take i).map fun z => V.str z.2.name))) ⟨same_new hD _, upd_same⟩ (fun i H' _ z => SqT.of (z.1 _ _ h5)) ?_ ?_⟩
    · rintro i v H6 hi ⟨s6, hacc⟩
      obtain ⟨d, y, t, u, gy, rfl, ht6, ay⟩ := (wa5.kp (.of s6)).get hi
      obtain ⟨pu, rest, rfl, hpu, _⟩ := At_head ay
      refine ⟨t, _, rfl, SqT.of ht6, rfl, _, _, rfl, _, _, rfl, rfl, rfl, yes_go ⟨_, rfl, pu, _, 1, _, rfl, rfl, SqT.of hpu, atI_nat (j := 1) rfl, _, hacc, small1000 (by rw [List.length_map, List.length_take]; omega), same_set s6 hD, ?_⟩⟩
      rw [upd_same, take_more gy, List.map_append]
      rfl
    rintro H6 ⟨s6, hacc⟩
    rw [rl, List.take_length] at hacc
    refine .inl ⟨D, _, rfl, SqL.of hacc, fun nt hnt => ?_⟩
    have hmap : ((x.walk 0).map fun z => V.str z.2.name) = x.names.map V.str := by rw [Its.names, List.map_map]; rfl
    rw [hmap] at hacc ⊢
    have nl : x.names.length = (x.walk 0).length := by rw [Its.names, List.length_map]
    have s7 := same_new hnt (.tup (x.names.map V.str))
    have m7 := m5.same (s6.trans s7)
    have wa7 := wa5.kp (.of (s6.trans s7))
    have h7 := (s6.trans s7) _ _ h5
    have n7 : upd H6 nt (.tup (x.names.map V.str)) nt = some (.tup (x.names.map V.str)) := upd_same
    generalize upd H6 nt _ = H7 at m7 wa7 h7 n7 ⊢
    refine ⟨_, rfl, o, CS, dx, _, rfl, m7.ho, T.cl, T.n3, Nat.lt_of_le_of_lt (Nat.le_trans (putF_len _ _ _) (Nat.succ_le_succ (putF_len _ _ _))) (by decide), ?_⟩
    generalize hfs8 : putF ("names" : Str) (.ref nt) (putF "_rows" (.ref r2) (putF "parts" (.ref p) [])) = fs8
    have m8 := m7.put (gs := fs8)
    have k8 : Kp true H7 (upd H7 o (.ins CS dx fs8)) := Off.kp m7.ho .wr
    have wa8 := wa7.kp k8
    have h8 := k8.t _ _ h7
    have n8 := k8.t _ _ n7
    have lkP : fs8.lookup ("parts" : Str) = some (.ref p) := by rw [← hfs8, lookup_putF, if_neg (by decide +kernel), lookup_putF, if_neg (by decide +kernel), lk2]
    have lkR : fs8.lookup ("_rows" : Str) = some (.ref r2) := by rw [← hfs8, lookup_putF, if_neg (by decide +kernel), lk5]
    have lkN : fs8.lookup ("names" : Str) = some (.ref nt) := by rw [← hfs8, lookup_putF, if_pos rfl]
    have fl8 : fs8.length ≤ 3 := by rw [← hfs8]; exact Nat.le_trans (putF_len _ _ _) (Nat.succ_le_succ (Nat.le_trans (putF_len _ _ _) (Nat.succ_le_succ (putF_len _ _ _))))
    generalize upd H7 o _ = H8 at m8 wa8 h8 n8 ⊢
    -- at most 30
    refine ⟨_, rfl, o, CS, dx, _, _, rfl, m8.ho, T.cl, T.n2, lkR, _, _, rfl, .inr ⟨_, SqT.of h8, rfl⟩, _, _, rfl, rfl, _, rfl, by decide +kernel, .inr ⟨30, rfl, by decide +kernel, _, rfl, by decide +kernel, _, rfl, by decide +kernel, ?_⟩⟩
    refine ⟨_, _, rfl, fun e => ?_, fun e => ?_⟩
    rotate_left
    · have e := of_decide_eq_false e
      exact q2 (by rw [decide_eq_false (by omega), Bool.false_and]) _ m8.off
    have e := of_decide_eq_true e
    have h30 : (x.walk 0).length ≤ 30 := by omega
    rw [decide_eq_true h30, Bool.true_and] at q1 q2
    -- no name twice
    refine ⟨_, rfl, o, CS, dx, _, _, rfl, m8.ho, T.cl, T.n3, lkN, nt, x.names, rfl, SqT.of n8, by omega, _, rfl, o, CS, dx, _, _, rfl, m8.ho, T.cl, T.n3, lkN, _, _, rfl, .inr ⟨_, SqT.of n8, rfl⟩, rfl, ?_⟩
    rw [int_eq, List.length_map]
    have mn := met_nodup (xs := x.names) x.names.length (Nat.le_refl _)
    rw [List.take_length] at mn
    refine ⟨_, _, rfl, fun e => ?_, fun e => ?_⟩
    rotate_left
    · have e := of_decide_eq_false e
      exact q2 (by rw [decide_eq_false (fun z => e (by rw [mn.mpr z])), Bool.false_and]) _ m8.off
    have e := of_decide_eq_true e
    have hnd : x.names.Nodup := mn.mp (by omega)
    rw [decide_eq_true hnd, Bool.true_and] at q1 q2
    have rl8 := wa8.len
    -- the checks
    refine ⟨_, rfl, o, CS, dx, _, _, rfl, m8.ho, T.cl, T.n2, lkR, r2, rfl, ⟨_, SqT.of h8⟩, fun D2 hD2 => lc_tup (K := K) (a := r2) (xs := rows) (fun i H' => Same H8 H' ∧ ∃ acc, H' D2 = some (.lst acc) ∧ acc.length = (((x.walk 0).take i).filter (·.2.isChk)).length) ⟨same_new hD2 _, [], upd_same, rfl⟩ (fun i H' _ z => SqT.of (z.1 _ _ h8)) ?_ ?_⟩
    · rintro i v H9 hi ⟨s9, acc, hacc, hlen⟩
      obtain ⟨d, y, t, u, gy, rfl, ht9, ay⟩ := (wa8.kp (.of s9)).get hi
      obtain ⟨pu, rest, rfl, hpu, _⟩ := At_head ay
      refine ⟨t, _, rfl, SqT.of ht9, rfl, _, _, rfl, _, _, rfl, rfl, rfl, _, rfl, pu, _, 0, _, rfl, rfl, SqT.of hpu, atI_nat (j := 0) rfl, rfl, _, rfl, ?_⟩
      have fl : (((x.walk 0).take (i + 1)).filter (·.2.isChk)).length = (((x.walk 0).take i).filter (·.2.isChk)).length + if y.isChk = true then 1 else 0 := by
        rw [take_more gy, List.filter_append, List.length_append]
        cases hy2 : y.isChk <;> simp [hy2]
      have le9 : (((x.walk 0).take i).filter (·.2.isChk)).length ≤ 30 := Nat.le_trans (List.length_filter_le _ _) (by rw [List.length_take]; omega)
      have ek : decide (V.str y.kind = V.str "check") = y.isChk := by
        cases y with
        | chk => exact decide_eq_true rfl
        | _ => exact decide_eq_false (kne (by simp only [It.kind]; decide +kernel))
      show (fun b H3 => if b = true then _ else _) (decide (V.str y.kind = V.str "check")) H9
      rw [ek]
      cases hc : y.isChk with
      | true =>
        rw [hc, if_pos rfl] at fl
        refine iteT ⟨_, rfl, acc, hacc, small1000 (by omega), same_set s9 hD2, _, upd_same, ?_⟩
        rw [List.length_append, List.length_singleton, hlen, fl]
      | false =>
        rw [hc, if_neg (by decide)] at fl
        exact iteF ⟨s9, acc, hacc, by omega⟩
    rintro H9 ⟨s9, acc, hacc, hlen⟩
    rw [rl8, List.take_length] at hlen
    have m9 := m8.same s9
    have wa9 := wa8.kp (.of s9)
    have h9 := s9 _ _ h8
    -- at most one
    refine ⟨_, rfl, _, _, rfl, .inl ⟨acc, SqL.of hacc, rfl⟩, _, _, rfl, rfl, ?_⟩
    refine ⟨_, _, rfl, fun e => ?_, fun e => ?_⟩
    rotate_left
    · have e := of_decide_eq_false e
      exact q2 (by rw [decide_eq_false (by omega), Bool.false_and]) _ m9.off
    have e := of_decide_eq_true e
    rw [decide_eq_true (by omega), Bool.true_and] at q1 q2
    -- the lengths
    refine ⟨_, rfl, o, CS, dx, _, _, rfl, m9.ho, T.cl, T.n1, lkP, fun dv hdv => ?_⟩
    have s10 := same_new hdv (.dK [])
    have m10 := m9.same s10
    refine ⟨p, dv, x, ys, fun _ => none, 0, 0, rfl, rfl, hok, hx12, ht, m10.hp, m10.at', ⟨[], upd_same, by simp, fun z => rfl⟩, by decide, fun l el lt H11 s11 hlt => ?_, fun el H11 s11 => q2 (by rw [el]; rfl) H11 (m10.same s11).off⟩
    rw [el] at q1
    have q1 := q1 rfl
    have m11 := m10.same s11
    have wa11 := wa9.kp (.of (s10.trans s11))
    have h11 := (s10.trans s11) _ _ h9
    refine ⟨lt, _, rfl, SqT.of hlt, rfl, _, _, rfl, ?_⟩
    refine ⟨_, rfl, o, CS, dx, _, rfl, m11.ho, T.cl, T.n4, by omega, ?_⟩
    generalize hfs12 : putF ("_least" : Str) (.int l.1) fs8 = fs12
    have lkP2 : fs12.lookup ("parts" : Str) = some (.ref p) := by rw [← hfs12, lookup_putF, if_neg (by decide +kernel), lkP]
    have lkR2 : fs12.lookup ("_rows" : Str) = some (.ref r2) := by rw [← hfs12, lookup_putF, if_neg (by decide +kernel), lkR]
    have fl12 : fs12.length ≤ 4 := by rw [← hfs12]; exact Nat.le_trans (putF_len _ _ _) (Nat.succ_le_succ fl8)
    have m12 := m11.put (gs := fs12)
    have k12 : Kp true H11 (upd H11 o (.ins CS dx fs12)) := Off.kp m11.ho .wr
    have wa12 := wa11.kp k12
    have h12 := k12.t _ _ h11
    generalize upd H11 o _ = H12 at m12 wa12 h12 ⊢
    refine ⟨_, _, rfl, _, rfl, o, CS, dx, _, rfl, m12.ho, T.cl, T.n5, by omega, ?_⟩
    generalize hfs13 : putF ("_greatest" : Str) (.int l.2) fs12 = fs13
    have lkP3 : fs13.lookup ("parts" : Str) = some (.ref p) := by rw [← hfs13, lookup_putF, if_neg (by decide +kernel), lkP2]
    have lkR3 : fs13.lookup ("_rows" : Str) = some (.ref r2) := by rw [← hfs13, lookup_putF, if_neg (by decide +kernel), lkR2]
    have fl13 : fs13.length ≤ 5 := by rw [← hfs13]; exact Nat.le_trans (putF_len _ _ _) (Nat.succ_le_succ fl12)
    have m13 := m12.put (gs := fs13)
    have k13 : Kp true H12 (upd H12 o (.ins CS dx fs13)) := Off.kp m12.ho .wr
    have wa13 := wa12.kp k13
    have h13 := k13.t _ _ h12
    generalize upd H12 o _ = H13 at m13 wa13 h13 ⊢
    refine ⟨rfl, ?_⟩
    have rl13 := wa13.len
    -- the rows by their names
    refine ⟨_, rfl, o, CS, dx, _, _, rfl, m13.ho, T.cl, T.n2, lkR3, r2, rfl, ⟨_, SqT.of h13⟩, fun D3 hD3 => dc_tup (K := K) (a := r2) (xs := rows) (fun i H' => Same H13 H' ∧ ∃ kvs, H' D3 = some (.dK kvs) ∧ kvs.length ≤ i) ⟨same_new hD3 _, [], upd_same, Nat.le_refl 0⟩ (fun i H' _ z => SqT.of (z.1 _ _ h13)) ?_ ?_⟩
    · rintro i v H14 hi ⟨s14, kvs, hkvs, hlen⟩
      have il : i < rows.length := (List.getElem?_eq_some_iff.mp hi).1
      obtain ⟨d, y, t, u, gy, rfl, ht14, ay⟩ := (wa13.kp (.of s14)).get hi
      obtain ⟨pu, rest, rfl, hpu, _⟩ := At_head ay
      refine ⟨rfl, yes_go ?_⟩
      refine ⟨_, rfl, t, _, 1, _, rfl, rfl, SqT.of ht14, atI_nat (j := 1) rfl, pu, _, 1, _, rfl, rfl, SqT.of hpu, atI_nat (j := 1) rfl, _, rfl, kvs, .inr y.name, rfl, hkvs, small1000 (by omega), same_set s14 hD3, _, upd_same, ?_⟩
      have := length_putK kvs (.inr y.name) (.ref t)
      omega
    rintro H14 ⟨s14, _⟩
    have m14 := m13.same s14
    refine ⟨_, rfl, o, CS, dx, _, rfl, m14.ho, T.cl, T.n6, by omega, ?_⟩
    have m15 := m14.put (gs := putF ("_row_of" : Str) (.ref D3) fs13)
    exact q1 _ p ys _ m15.off m15.ho (by rw [lookup_putF, if_neg (by decide +kernel), lkP3]) m15.hp m15.at'
end
end Bs

set_option Elab.async false
set_option linter.all false
set_option maxRecDepth 100000
set_option maxHeartbeats 4000000
namespace Bs
open PySem L2
/-! ### the law's own numbers -/
/-- ints of any size come back, so many -/
def spRow : Sp := fun vs H Q _ => ∃ c m : Int, vs = [.int c, .int m] ∧ 0 ≤ m ∧ m ≤ 100 ∧ ∀ p (ns : List Int) H', Same H H' → H p = none → H' p = some (.lst (ns.map V.int)) → ns.length = m.toNat → Q (.ref p) H'
def spNums (K : PySem.W.Frag) : Sp := fun vs H Q _ => ∃ (a : Addr) (ns : List Int), vs = [.ref a, .int 24] ∧ SqL K H a (ns.map V.int) ∧ ns.length ≤ 63 ∧ ∀ p (rs : List Int) H', Same H H' → H' p = some (.lst (rs.map V.int)) → rs.length = 24 → Q (.ref p) H'
section
variable {P : Program} {w : World} {K : PySem.W.Frag} {mg : Str → Option Value} {base : Heap} {f C : Addr} {fd : FuncData}
abbrev nLawRow : List Str := ["cell", "many", "row", "rest", "mixed", "k"]
theorem scLawRow : FnScope nLawRow ["cell", "many"] (defScope sLawRow) := ⟨rfl, rfl, rfl, by decide +kernel, rfl, by decide +kernel, by decide +kernel⟩
theorem map_snoc (ns : List Int) (i : Int) : ns.map V.int ++ [V.int i] = (ns ++ [i]).map V.int := by rw [List.map_append]; rfl
theorem ok_lawrow (F : Fun K "_law_row" "_law_row" sLawRow f fd) (mabs : mg "abs" = none) (mint : mg "int" = none) (mr : mg "range" = none) : FnOk P w K mg base CX0 1 f fd ["cell", "many"] spRow := by
  refine F.ok scLawRow (fun vs H Q E h => ?_) (fun cdv A outer s H vs Q E hr h => ?_)
  · obtain ⟨c, m, rfl, _⟩ := h
    rfl
  · obtain ⟨c, m, rfl, h0, h1, q⟩ := h
    refine ⟨_, pss_cons (ps_set (i := 2) scLawRow.nd rfl (.inl rfl) (pe_lst pa_nil))
      (pss_cons (ps_set (i := 3) scLawRow.nd rfl (.inl rfl) (pe_callB call_abs (by rfl) mabs (by decide +kernel) (pa_cons (pv 0) pa_nil)))
      (pss_cons (ps_set (i := 4) scLawRow.nd rfl (.inl rfl) (pe_op op_mod (pe_callTy call_int1 (by rfl) mint (by decide +kernel) (pa_cons (pe_op op_add (pe_op op_mul (pv 3) pe_int) pe_int) pa_nil)) pe_int))
      (pss_cons (ps_for PassesOwn.never rfl (pi_range1 (by rfl) mr (pa_cons (pv 1) pa_nil)) (pg_name (i := 5) scLawRow.nd rfl (.inl rfl))
        (pss_cons (ps_set (i := 4) scLawRow.nd rfl (.inl rfl) (pe_op op_mod (pe_callTy call_int1 (by rfl) mint (by decide +kernel) (pa_cons (pe_op op_add (pe_op op_mul (pv 4) pe_int) (pe_op op_mul pe_int (pe_op op_add (pv 5) pe_int))) pa_nil)) pe_int))
        (pss_one (ps_if (pt_cmpR op_ge (pe_callB call_abs (by rfl) mabs (by decide +kernel) (pa_cons (pv 0) pa_nil)) (pe_op op_pow pe_int pe_int) (nomark _))
          (pss_cons (ps_expr (pe_bm PySem.F.plainAttrs_list PySem.F.slot_list_append PySem.F.type_list_append mt_append (pv 2) (pa_cons (pe_op op_mod (pe_callTy call_int1 (by rfl) mint (by decide +kernel) (pa_cons (pv 3) pa_nil)) pe_int) pa_nil)))
            (pss_one (ps_set (i := 3) scLawRow.nd rfl (.inl rfl) (pe_op op_fdiv (pv 3) pe_int))))
          (pss_one (ps_expr (pe_bm PySem.F.plainAttrs_list PySem.F.slot_list_append PySem.F.type_list_append mt_append (pv 2) (pa_cons (pe_op op_mod (pe_callTy call_int1 (by rfl) mint (by decide +kernel) (pa_cons (pe_op op_fdiv (pv 4) pe_int) pa_nil)) pe_int) pa_nil))))))))
      (pss_one (ps_ret (pv 2)))))), ?_⟩
    refine ⟨(by show 0 ≤ sizeLine; decide), fun D hD => ?_⟩
    refine ⟨_, rfl, _, rfl, _, rfl, _, _, rfl, rfl, .inr ⟨by decide, by decide⟩, _, _, rfl, rfl, .inl ⟨_, rfl, _, _, rfl, rfl, (by show (0 : Int) < 2147483647; decide), ?_⟩⟩
    refine ⟨_, rfl, m, rfl, by omega, by omega, for_range (lo := 0) (n := m.toNat) (fun i σ H' => ∃ rest mixed k5, σ = [some (.int c), some (.int m), some (.ref D), some (.int rest), some (.int mixed), k5] ∧ Same H H' ∧ ∃ ns : List Int, ns.length = i ∧ H' D = some (.lst (ns.map V.int)))
      ⟨_, _, none, rfl, same_new hD _, [], rfl, upd_same⟩ ?_ ?_⟩
    · rintro i σ H2 hi ⟨rest, mixed, k5, rfl, s2, ns, hn, hD2⟩
      refine ⟨_, rfl, _, _, rfl, rfl, .inr ⟨by decide, by decide⟩, _, rfl, _, _, rfl, rfl, _, _, rfl, rfl, .inl ⟨by decide, by decide⟩, _, _, rfl, rfl, .inl ⟨_, rfl, _, _, rfl, rfl, (by show (0 : Int) < 2147483629; decide), ?_⟩⟩
      have hz : (ns.map V.int).length < sizeLine := small1000 (by rw [List.length_map]; omega)
      refine ⟨_, rfl, _, rfl, _, _, rfl, rfl, ⟨by decide, by decide, by decide⟩, _, _, rfl, rfl, _, rfl, ite2 (fun _ => ?_) (fun _ => ?_)⟩
      · refine ⟨_, rfl, .inl ⟨rfl, _, SqL.of hD2⟩, _, rfl, .inl ⟨_, rfl, _, _, rfl, rfl, (by show (0 : Int) < 1009; decide), D, _, _, rfl, rfl, hD2, hz, ?_⟩⟩
        rw [map_snoc]
        refine ⟨_, rfl, _, _, rfl, rfl, ⟨by decide, by decide⟩, ?_⟩
        exact ⟨_, _, _, rfl, same_set s2 hD, _, by rw [List.length_append, hn]; rfl, upd_same⟩
      · refine ⟨_, rfl, .inl ⟨rfl, _, SqL.of hD2⟩, _, rfl, _, _, rfl, rfl, ⟨by decide, by decide⟩, .inl ⟨_, rfl, _, _, rfl, rfl, (by show (0 : Int) < 1009; decide), D, _, _, rfl, rfl, hD2, hz, ?_⟩⟩
        rw [map_snoc]
        exact ⟨_, _, _, rfl, same_set s2 hD, _, by rw [List.length_append, hn]; rfl, upd_same⟩
    · rintro σ H2 ⟨rest, mixed, k5, rfl, s2, ns, hn, hD2⟩
      exact ⟨_, rfl, q D ns H2 s2 hD hD2 hn⟩
theorem cut_ints (ns : List Int) (h : Nat) : cutV (ns.map V.int) none (some (h : Int)) = (ns.take h).map V.int := by
  unfold cutV
  rw [HT.sIx_none, HT.sIx_nat, List.drop_zero, Nat.sub_zero, List.map_take]
  by_cases hh : h ≤ (ns.map V.int).length
  · rw [Nat.min_eq_left hh]
  · rw [Nat.min_eq_right (by omega), List.take_length, List.take_of_length_le (by omega)]
abbrev nLawNums : List Str := ["script", "many", "cells", "each", "numbers", "cell", "number"]
theorem scLawNums : FnScope nLawNums ["script", "many"] (defScope sLawNumbers) := ⟨rfl, rfl, rfl, by decide +kernel, rfl, by decide +kernel, by decide +kernel⟩
theorem ok_lawnums {k : Nat} (hk : 1 ≤ k) (F : Fun K "_law_numbers" "_law_numbers" sLawNumbers f fd) (gR : Cal P w K mg base CX0 1 "_law_row" ["cell", "many"] spRow) (mmax : mg "max" = none) (ml : mg "len" = none) : FnOk P w K mg base CX0 2 f fd ["script", "many"] (spNums K) := by
  refine F.ok scLawNums (fun vs H Q E h => ?_) (fun cdv A outer s H vs Q E hr h => ?_)
  · obtain ⟨a, ns, rfl, _⟩ := h
    rfl
  · obtain ⟨a, ns, rfl, ha, hlen, q⟩ := h
    refine ⟨_, pss_cons (ps_set (i := 2) scLawNums.nd rfl (.inl rfl) (pe_slice sl_list (pv 0) po_none (po_some pe_int)))
      (pss_cons (ps_set (i := 3) scLawNums.nd rfl (.inl rfl) (pe_op op_add pe_int (pe_op op_fdiv (pv 1) (pe_callB (call_max2 rfl) (by rfl) mmax (by decide +kernel) (pa_cons pe_int (pa_cons (pe_callB call_len (by rfl) ml boot_len (pa_cons (pv 2) pa_nil)) pa_nil))))))
      (pss_cons (ps_set (i := 4) scLawNums.nd rfl (.inl rfl) (pe_lst pa_nil))
      (pss_cons (ps_for PassesOwn.never rfl (pi_list (pv 2)) (pg_name (i := 5) scLawNums.nd rfl (.inl rfl))
        (pss_one (ps_for PassesOwn.never rfl (pi_list (pe_cal gR (hr.mono (by decide)) pass0 (pa_cons (pv 5) (pa_cons (pv 3) pa_nil)))) (pg_name (i := 6) scLawNums.nd rfl (.inl rfl))
          (pss_one (ps_expr (pe_bm PySem.F.plainAttrs_list PySem.F.slot_list_append PySem.F.type_list_append mt_append (pv 4) (pa_cons (pv 6) pa_nil)))))))
      (pss_cons (ps_while PassesOwn.never (pt_cmpR op_lt (pe_callB call_len (by rfl) ml boot_len (pa_cons (pv 4) pa_nil)) (pv 1) (nomark _))
        (pss_one (ps_expr (pe_bm PySem.F.plainAttrs_list PySem.F.slot_list_append PySem.F.type_list_append mt_append (pv 4) (pa_cons pe_int pa_nil)))))
      (pss_one (ps_ret (pe_slice sl_list (pv 4) po_none (po_some (pv 1))))))))), ?_⟩
    refine ⟨_, rfl, 63, rfl, a, _, rfl, ha, fun pc hpc => ?_⟩
    rw [show ((63 : Int) = ((63 : Nat) : Int)) from rfl, cut_ints]
    have lc : (ns.take 63).length ≤ 63 := by rw [List.length_take]; omega
    generalize hcs : ns.take 63 = cs at lc ⊢
    have s1 := same_new hpc (.lst (cs.map V.int))
    have hc1 : upd H pc (.lst (cs.map V.int)) pc = some (.lst (cs.map V.int)) := upd_same
    generalize upd H pc _ = H1 at s1 hc1 ⊢
    refine ⟨_, rfl, _, rfl, _, _, rfl, .inl ⟨_, SqL.of hc1, rfl⟩, _, _, rfl, ?_⟩
    rw [List.length_map]
    have hmx : (1 : Int) ≤ (if (cs.length : Int) > 1 then (cs.length : Int) else 1) ∧ (if (cs.length : Int) > 1 then (cs.length : Int) else 1) ≤ 63 := by split <;> omega
    generalize hmm : (if (cs.length : Int) > 1 then (cs.length : Int) else 1) = mx at hmx
    have he : (1 : Int) ≤ 1 + 24 / mx ∧ 1 + 24 / mx ≤ 25 := by
      have h1 : (0 : Int) ≤ 24 / mx := Int.ediv_nonneg (by decide) (by omega)
      have h2 : (24 : Int) / mx ≤ 24 := Int.ediv_le_self _ (by decide)
      omega
    refine ⟨_, _, rfl, rfl, ⟨by omega, by omega⟩, _, _, rfl, rfl, ?_⟩
    refine ⟨(by show 0 ≤ sizeLine; decide), fun D hD => ?_⟩
    have zz : ∀ n : Nat, n ≤ 2000 → n < sizeLine := fun n h => Nat.lt_of_le_of_lt h (by decide)
    refine ⟨_, rfl, pc, rfl, ⟨_, SqL.of (same_new hD (.lst []) _ _ hc1)⟩, for_list (K := K) (a := pc) (xs := cs.map V.int) (fun i σ H' => ∃ i5 i6, σ = [some (.ref a), some (.int 24), some (.ref pc), some (.int (1 + 24 / mx)), some (.ref D), i5, i6] ∧ Same H1 H' ∧ ∃ ms : List Int, ms.length ≤ i * 25 ∧ H' D = some (.lst (ms.map V.int)))
      ⟨none, none, rfl, same_new hD _, [], Nat.le_refl _, upd_same⟩ (fun i σ H' _ z => by obtain ⟨_, _, _, z, _⟩ := z; exact SqL.of (z _ _ hc1)) ?_ ?_⟩
    · rintro i v σ H2 hi ⟨i5, i6, rfl, s2, ms, hm, hD2⟩
      have hil : i < (cs.map V.int).length := (List.getElem?_eq_some_iff.mp hi).1
      rw [List.length_map] at hil
      obtain ⟨z, rfl⟩ : ∃ z, v = V.int z := by
        rw [List.getElem?_map] at hi
        cases e : cs[i]? with
        | none => rw [e] at hi; cases hi
        | some z => rw [e] at hi; exact ⟨z, (Option.some.inj hi).symm⟩
      refine ⟨_, rfl, _, rfl, z, _, rfl, by omega, by omega, fun pr rs H3 s3 hnew hr3 hrl => ?_⟩
      refine ⟨pr, rfl, ⟨_, SqL.of hr3⟩, for_list (K := K) (a := pr) (xs := rs.map V.int) (fun j σ H' => ∃ i6, σ = [some (.ref a), some (.int 24), some (.ref pc), some (.int (1 + 24 / mx)), some (.ref D), some (.int z), i6] ∧ Same H1 H' ∧ H' pr = some (.lst (rs.map V.int)) ∧ pr ≠ D ∧ ∃ ms : List Int, ms.length ≤ i * 25 + j ∧ H' D = some (.lst (ms.map V.int)))
        ⟨_, rfl, s2.trans s3, hr3, ?_, ms, by omega, s3 _ _ hD2⟩ (fun j σ H' _ z => by obtain ⟨_, _, _, z, _⟩ := z; exact SqL.of z) ?_ ?_⟩
      · exact fun z => ne_of_none hD2 hnew z.symm
      · rintro j v σ H4 hj ⟨i6, rfl, s4, hr4, ne, ms', hm', hD4⟩
        have hjl : j < (rs.map V.int).length := (List.getElem?_eq_some_iff.mp hj).1
        rw [List.length_map] at hjl
        obtain ⟨y, rfl⟩ : ∃ z, v = V.int z := by
          rw [List.getElem?_map] at hj
          cases e : rs[j]? with
          | none => rw [e] at hj; cases hj
          | some z => rw [e] at hj; exact ⟨z, (Option.some.inj hj).symm⟩
        refine ⟨_, rfl, .inl ⟨rfl, _, SqL.of hD4⟩, _, rfl, D, _, _, rfl, rfl, hD4, zz _ (by rw [List.length_map]; omega), ?_⟩
        rw [map_snoc]
        exact ⟨_, rfl, same_set s4 hD, by rw [upd_ne ne]; exact hr4, ne, _, by rw [List.length_append]; simp; omega, upd_same⟩
      · rintro σ H4 ⟨i6, rfl, s4, hr4, ne, ms', hm', hD4⟩
        rw [List.length_map] at hm'
        exact ⟨_, _, rfl, s4, ms', by omega, hD4⟩
    · rintro σ H2 ⟨i5, i6, rfl, s2, ms, hm, hD2⟩
      rw [List.length_map] at hm
      refine ⟨fun m σ H' => σ = [some (.ref a), some (.int 24), some (.ref pc), some (.int (1 + 24 / mx)), some (.ref D), i5, i6] ∧ Same H1 H' ∧ ∃ ms : List Int, ms.length ≤ 1600 ∧ m = 24 - ms.length ∧ H' D = some (.lst (ms.map V.int)), ⟨_, rfl, s2, ms, by omega, rfl, hD2⟩, ?_⟩
      rintro m σ H3 ⟨rfl, s3, ms', hm', rfl, hD3⟩
      refine ⟨_, rfl, _, _, rfl, .inl ⟨_, SqL.of hD3, rfl⟩, _, rfl, _, _, rfl, rfl, _, rfl, ite2 (fun e => ?_) (fun e => ?_)⟩
      · have e := of_decide_eq_true e
        rw [List.length_map] at e
        refine ⟨_, fun σ' H' z => z, ?_⟩
        refine ⟨_, rfl, .inl ⟨rfl, _, SqL.of hD3⟩, D, _, _, rfl, rfl, hD3, zz _ (by rw [List.length_map]; omega), ?_⟩
        rw [show ms'.map V.int ++ [V.int 0] = (ms' ++ [0]).map V.int from map_snoc _ _]
        exact ⟨24 - (ms' ++ [0]).length, by rw [List.length_append]; simp; omega, rfl, same_set s3 hD, _, by rw [List.length_append]; simp; omega, rfl, upd_same⟩
      · have e : ¬ _ := fun z => e (decide_eq_true z)
        rw [List.length_map] at e
        refine ⟨_, rfl, _, rfl, 24, rfl, D, _, rfl, SqL.of hD3, fun r hr4 => ?_⟩
        rw [show ((24 : Int) = ((24 : Nat) : Int)) from rfl, cut_ints]
        exact q r (ms'.take 24) _ (s1.trans (s3.trans (same_new hr4 _))) upd_same (by rw [List.length_take]; omega)
end
end Bs

set_option Elab.async false
set_option linter.all false
set_option maxRecDepth 100000
set_option maxHeartbeats 4000000
namespace Bs
open PySem L2
/-! ### taken or refused -/
def spTaken : Sp := fun vs H Q _ => ∃ (p : Addr) (x : Its) (xs : List V), vs = [.ref p] ∧ H p = some (.lst xs) ∧ x.At false H xs ∧ x.tame ∧ (x.walk 0).length ≤ 1000 ∧ 1 ≤ x.len ∧
  ∀ H', Same H H' → Q (.str (if x.shape = true then "taken" else "refused")) H'
def rInt : List V → Hp → VK → Prop := fun xs H Q => (∃ i, xs = [.int i] ∧ Q (.int i) H) ∨ ∃ k, xs = [.bl k] ∧ Q (.int (if k then 1 else 0)) H
def tSuite (K : PySem.W.Frag) (C CB a : Addr) : TS := tRet (tOp (rIxL K) (tLst (tCons (tC (.str "odd")) (tCons (tC (.str "refused")) tNil)))
  (tCB rInt (tCons (tAndV (tCB (rIsE K C a) (tCons (tVar 2) (tCons (tC (.ref CB)) tNil))) (tCB (rIsE K C a) (tCons (tVar 2) (tCons (tC (.ty "ValueError")) tNil)))) tNil)))
theorem atI_nat' {xs : List V} {i : Int} {j : Nat} {v : V} (e : i = (j : Int)) (h : xs[j]? = some v) : atI xs i = some v := by rw [e]; exact atI_nat h
theorem pss_of {X : Cx} {b : List Stmt} {t : TS} {p q : Prop} (h : p → q → PSs X b t) : PSs X b (fun D σ H => p ∧ q ∧ t D σ H) :=
  ⟨fun pins s σ H D I ⟨e1, e2, z⟩ => (h e1 e2).run pins s σ H D I z⟩
section
variable {P : Program} {w : World} {K : PySem.W.Frag} {mg : Str → Option Value} {base : Heap} {f fI C CB CS : Addr} {fd fdI : FuncData}
abbrev nTaken : List Str := ["row", "shape", "e"]
theorem scTaken : FnScope nTaken ["row"] (defScope sLawTaken) := ⟨rfl, rfl, rfl, by decide +kernel, rfl, by decide +kernel, by decide +kernel⟩
theorem ok_taken {k : Nat} (F : Fun K "_law_taken" "_law_taken" sLawTaken f fd) (T : ShapeC K CS) (M : Mk K CS fI) (GI : FnOk P w K mg base (L2.CX P w) k fI fdI ["self", "items"] (spInit C CS)) (bI : Binds K fdI ["self", "items"] [])
    (gS : mg "Shape" = some (.ref CS)) (gC : mg "InvalidShape" = some (.ref C)) (gB : mg "ByteshapeError" = some (.ref CB)) (EC : ExcC K C) (me : PySem.W.exmOne K (.ref C) (.ref C) = some true)
    (kB : PySem.W.kitOne K (.ref C) (.ref CB) = some true) (kV : PySem.W.kitOne K (.ref C) (.type "ValueError") = some true)
    (mV : mg "ValueError" = none) (mi : mg "isinstance" = none) (mint : mg "int" = none) (ml : mg "len" = none) : FnOk P w K mg base CX0 (k + 2) f fd ["row"] spTaken := by
  refine F.ok scTaken (fun vs H Q E h => ?_) (fun cdv A outer s H vs Q E hr h => ?_)
  · obtain ⟨p, x, xs, rfl, _⟩ := h
    rfl
  · obtain ⟨p, x, xs, rfl, hp, hat, ht, hw, h1, q⟩ := h
    refine ⟨_, pss_cons (ps_try_as (i := 2) (tb := fun W => tAsg (tMake CS (spInit C CS) [] (fun cls d H => ∀ σ : L2.St, σ.length = 3 → W cls d σ H) (tCons (tVar 0) tNil)) (gName 1)) (ts := fun a cls d => fun D σ H => cls = .ref C ∧ d = none ∧ tSuite K C CB a D σ H) (Wout := fun _ _ _ _ => False) rfl rfl scTaken.nd rfl rfl ⟨rfl, by decide, Or.inl gC⟩ takes0
          (fun W pn xe tk _ => pss_one (ps_set (i := 1) scTaken.nd rfl (Or.inl rfl) (by exact (pe_make M GI hr rfl gS bI .nil (fun pins σ H s e s' I c => tk e s' (XE.of_call I (fun cls d H' h => h σ I.len) c)) (pa_cons (pv 0) pa_nil)))))
          (fun a oe cls d pn hz hf => pss_of fun e1 e2 => by
            subst e1 e2
            exact pss_one (ps_ret (pe_ix ix_list (pe_lst (pa_cons pe_str (pa_cons pe_str pa_nil))) (pe_callTy (r := rInt) call_int1 (by rfl) mint (by decide +kernel) (pa_cons (pe_and (pe_callB (call_isE EC hz hf) (by rfl) mi (by decide +kernel) (pa_cons (pv 2) (pa_cons (pe_glob (v := .ref CB) (by rfl) gB rfl) pa_nil)))
              (pe_one (pe_callB (call_isE EC hz hf) (by rfl) mi (by decide +kernel) (pa_cons (pv 2) (pa_cons (pe_bltn (v := .ty "ValueError") (by rfl) mV (by decide +kernel) rfl) pa_nil))))) pa_nil)) (fun _ _ => rfl)))))
      (pss_one (ps_ret (pe_ix ix_list (pe_lst (pa_cons pe_str (pa_cons pe_str pa_nil))) (pe_callTy (r := rInt) call_int1 (by rfl) mint (by decide +kernel) (pa_cons (pe_cmpR op_eq
        (pe_ix ix_tup (pe_ix ix_tup (pe_fld (pv 1) rfl) (pe_op op_sub (pe_callB call_len (by rfl) ml boot_len (pa_cons (pv 0) pa_nil)) pe_int) (fun _ _ => rfl)) pe_int (fun _ _ => rfl))
        (pe_ix ix_tup (pe_ix ix_list (pv 0) (pe_op op_sub (pe_callB call_len (by rfl) ml boot_len (pa_cons (pv 0) pa_nil)) pe_int) (fun _ _ => rfl)) pe_int (fun _ _ => rfl)) (nomark _)) pa_nil)) (fun _ _ => rfl)))), ?_⟩
    refine ⟨_, rfl, fun o dx no ndx nex => ?_⟩
    have s1 : Same H (upd (upd H dx (.own o)) o (.ins CS dx [])) := fun b u e => by
      rw [upd_ne (ne_of_none e no), upd_ne (ne_of_none e ndx)]
      exact e
    have z1 : ∀ H', Off o (upd (upd H dx (.own o)) o (.ins CS dx [])) H' → Same H H' := fun H' off b u e => off b u (ne_of_none e no) (s1 b u e)
    refine ⟨o, p, dx, x, xs, rfl, upd_same, .inr ⟨rfl, s1 _ _ hp⟩, hat.same s1, ht, hw, fun sh H' p2 ys fs off ho lk hp2 hy => ⟨rfl, ?_⟩, fun sh H' off σ hσ => ⟨true, me, fun _ a ha => ⟨rfl, rfl, ?_⟩, fun z => by cases z⟩⟩
    · have s2 := z1 H' off
      rw [if_pos sh] at q
      have el := hy.len
      have el2 := hat.len
      have hlx : x.len - 1 < ys.length := by omega
      have e1 : ys[x.len - 1]? = some ys[x.len - 1] := List.getElem?_eq_getElem hlx
      have e2 : xs[x.len - 1]? = some xs[x.len - 1] := List.getElem?_eq_getElem (by omega)
      obtain ⟨y1, g1, a1⟩ := At_item hy e1
      obtain ⟨y2, g2, a2⟩ := At_item (hat.same s2) e2
      rw [g1] at g2
      cases g2
      obtain ⟨p3, r3, e3, h3, _⟩ := At_head a1
      obtain ⟨p4, r4, e4, h4, _⟩ := At_head a2
      rw [e3] at e1
      rw [e4] at e2
      have hi : ∀ n : Nat, n = x.len → ((n : Int) - 1) = ((x.len - 1 : Nat) : Int) := fun n e => by omega
      refine ⟨(by show 2 ≤ sizeLine; decide), fun l hl => ?_⟩
      have s3 := same_new hl (.lst [.str "odd", .str "taken"])
      refine ⟨_, rfl, o, CS, dx, fs, _, rfl, s3 _ _ ho, T.cl, T.n1, lk, _, rfl, _, _, rfl, .inl ⟨_, SqL.of (s3 _ _ (s2 _ _ hp)), rfl⟩, _, _, rfl, rfl, p2, ys, _, _, rfl, rfl, SqT.of (s3 _ _ hp2), atI_nat' (hi _ el2) e1, ?_⟩
      refine ⟨p3, _, 1, _, rfl, rfl, SqT.of (s3 _ _ h3), atI_nat (j := 1) rfl, ?_⟩
      refine ⟨_, rfl, _, rfl, _, _, rfl, .inl ⟨_, SqL.of (s3 _ _ (s2 _ _ hp)), rfl⟩, _, _, rfl, rfl, p, xs, _, _, rfl, rfl, SqL.of (s3 _ _ (s2 _ _ hp)), atI_nat' (hi _ el2) e2, p4, _, 1, _, rfl, rfl, SqT.of (s3 _ _ h4), atI_nat (j := 1) rfl, rfl, .inr ⟨_, rfl, ?_⟩⟩
      rw [decide_eq_true rfl]
      exact ⟨l, _, 1, _, rfl, rfl, SqL.of upd_same, atI_nat (j := 1) rfl, q _ (s2.trans s3)⟩
    · have s2 := z1 H' off
      rw [if_neg (by rw [sh]; decide)] at q
      have h2 : (σ.set 2 (some (.ref a)))[2]? = some (some (.ref a)) := by rw [List.getElem?_set]; simp [hσ]
      refine ⟨(by show 2 ≤ sizeLine; decide), fun l hl => ?_⟩
      have s3 := same_new hl (.lst [.str "odd", .str "refused"])
      refine ⟨_, h2, .ref CB, _, true, rfl, fun u hu => hu, kB, true, rfl, iteT ?_⟩
      refine ⟨_, h2, .ty "ValueError", _, true, rfl, fun u hu => hu, kV, .inr ⟨true, rfl, ?_⟩⟩
      exact ⟨l, _, 1, _, rfl, rfl, SqL.of upd_same, atI_nat (j := 1) rfl, q _ (s2.trans s3)⟩
end
end Bs

set_option Elab.async false
set_option linter.all false
set_option maxRecDepth 100000
set_option maxHeartbeats 4000000
namespace Bs
open PySem L2
/-! ### the law's shapes -/
def J1 (n : Str) : It := .num n 1 "big" 0 255
def J2 (n : Str) : It := .byt n (.inl 3)
def J3 (n : Str) : It := .txt n 0 4
def J4 (n : Str) : It := .chk n 7
def J5 (n : Str) : It := .pad n 4 1
def J6 (n a : Str) : It := .eit n (.cons 0 .nil (.cons 0 (.cons (.byt a (.inl 1)) .nil) .nil))
def J7 (n a : Str) : It := .rep n (.inl 2) (.cons (.byt a (.inl 1)) .nil)
def J8 (n o : Str) : Its := .cons (.num o 1 "big" 0 3) (.cons (.swi n o (.cons 0 .nil .nil)) .nil)
def one (x : It) : Its := .cons x .nil
theorem sh1 (n : Str) : (one (J1 n)).shape = isName n := by
  simp [one, J1, Its.shape, Its.len, Its.ok, It.ok, It.name, Its.walk, It.walk, Its.names, It.isChk, Its.lens, It.lens, numOk]
  try decide +kernel
theorem sh2 (n : Str) : (one (J2 n)).shape = isName n := by
  simp [one, J2, Its.shape, Its.len, Its.ok, It.ok, It.name, Its.walk, It.walk, Its.names, It.isChk, Its.lens, It.lens, amount]
theorem sh3 (n : Str) : (one (J3 n)).shape = isName n := by
  simp [one, J3, Its.shape, Its.len, Its.ok, It.ok, It.name, Its.walk, It.walk, Its.names, It.isChk, Its.lens, It.lens]
theorem sh4 (n : Str) : (one (J4 n)).shape = isName n := by
  simp [one, J4, Its.shape, Its.len, Its.ok, It.ok, It.name, Its.walk, It.walk, Its.names, It.isChk, Its.lens, It.lens]
theorem sh5 (n : Str) : (one (J5 n)).shape = isName n := by
  simp [one, J5, Its.shape, Its.len, Its.ok, It.ok, It.name, Its.walk, It.walk, Its.names, It.isChk, Its.lens, It.lens]
theorem str_app (z y : Str) : (z ++ y).cps.toList = z.cps.toList ++ y.cps.toList := by
  show (z.cps ++ y.cps).toList = _
  simp
theorem name_a {n : Str} (h : n.length < 12) (hn : isName n = true) : isName (n ++ ("a" : Str)) = true := by
  have hl : n.length = n.cps.toList.length := by simp [Str.length]
  unfold isName at hn ⊢
  rw [str_app]
  rw [hl] at h
  cases e : n.cps.toList with
  | nil => rw [e] at hn; cases hn
  | cons c r =>
    rw [e] at hn h
    rw [nameOk, Bool.and_eq_true, Bool.and_eq_true] at hn
    have ha : (("a" : Str).cps.toList) = [97] := by decide +kernel
    rw [ha, List.cons_append, nameOk, hn.2.1, ← List.cons_append, List.all_append, hn.2.2]
    have : isSign 97 = true := by decide +kernel
    simp [this]
    simp at h
    omega
theorem ne_a (n : Str) : n ≠ n ++ ("a" : Str) := fun h => by
  have := congrArg (fun z : Str => z.cps.toList.length) h
  rw [str_app] at this
  have ha : (("a" : Str).cps.toList) = [97] := by decide +kernel
  rw [ha] at this
  simp at this
theorem sh6 {n : Str} (h : n.length < 12) : (one (J6 n (n ++ ("a" : Str)))).shape = isName n := by
  have e1 := ne_a n
  cases hn : isName n with
  | false => simp [one, J6, Its.shape, Its.ok, It.ok, hn]
  | true =>
    have e2 := name_a h hn
    simp [one, J6, Its.shape, Its.len, Its.ok, It.ok, It.name, Blks.ok, Blks.len, Its.walk, It.walk, Blks.walk, Its.names, It.isChk, Its.lens, It.lens, Blks.lens, amount, spread, hn, e1, e2]
    try decide +kernel
theorem sh7 {n : Str} (h : n.length < 12) : (one (J7 n (n ++ ("a" : Str)))).shape = isName n := by
  have e1 := ne_a n
  cases hn : isName n with
  | false => simp [one, J7, Its.shape, Its.ok, It.ok, hn]
  | true =>
    have e2 := name_a h hn
    simp [one, J7, Its.shape, Its.len, Its.ok, It.ok, It.name, Its.walk, It.walk, Its.names, It.isChk, Its.lens, It.lens, amount, hn, e1, e2]
theorem sh8 {n o : Str} (ho : isName o = true) (hne : o ≠ n) : (J8 n o).shape = isName n := by
  simp [J8, Its.shape, Its.len, Its.ok, It.ok, It.name, Blks.ok, Blks.len, Its.walk, It.walk, Blks.walk, Its.names, It.isChk, Its.lens, It.lens, Blks.lens, Blks.vals, spread, numOk, Env.put, ho, hne]
  try decide +kernel
/-- all a law's item must say -/
def Good (n : Str) (H : Hp) (v : V) : Prop := ∃ y : It, y.At false H v ∧ y.tame ∧ ((one y).walk 0).length ≤ 1000 ∧ (one y).shape = isName n
theorem Good.same {n : Str} {H H' : Hp} {v : V} (s : Same H H') : Good n H v → Good n H' v := fun ⟨y, a, b⟩ => ⟨y, a.same s, b⟩
/-! ### what is due -/
def goods : Str := "abcdefghijklmnopqrstuvwxyz0123456789"
theorem good_sign (c : Nat) : decide (c ∈ ("abcdefghijklmnopqrstuvwxyz0123456789" : Str).cps.toList) = isSign c := by
  have e : ("abcdefghijklmnopqrstuvwxyz0123456789" : Str).cps.toList = letters.cps.toList ++ digits.cps.toList := by decide +kernel
  rw [e, isSign, isLetter, isDigit]
  simp only [List.mem_append]
  by_cases h1 : c ∈ letters.cps.toList <;> by_cases h2 : c ∈ digits.cps.toList <;> simp [h1, h2]
theorem digit_no (c : Nat) : c ∈ letters.cps.toList → ¬ c ∈ digits.cps.toList := by
  have : ∀ c ∈ letters.cps.toList, ¬ c ∈ digits.cps.toList := by decide +kernel
  exact this c
theorem due_is {c : Nat} {r : List Nat} : nameOk (c :: r) = (decide (r.length < 12) && ((!decide (c ∈ digits.cps.toList)) && (c :: r).all isSign)) := by
  rw [nameOk]
  congr 1
  rw [List.all_cons, isSign]
  have : isLetter c = decide (c ∈ letters.cps.toList) := rfl
  have h2 : isDigit c = decide (c ∈ digits.cps.toList) := rfl
  rw [this, h2]
  have := digit_no c
  by_cases h1 : c ∈ letters.cps.toList <;> by_cases h2 : c ∈ digits.cps.toList <;> simp [h1, h2] <;> exact absurd h2 (this h1)
end Bs

set_option Elab.async false
set_option linter.all false
set_option maxRecDepth 100000
set_option maxHeartbeats 4000000
namespace Bs
open PySem L2
theorem with_rest {t u : TS} {D : Ends} {σ : L2.St} {H : Hp} (Pv : L2.St → Hp → Prop) (h2 : ∀ σ' H', Pv σ' H' → u D σ' H') (h1 : (∀ σ' H', Pv σ' H' → u D σ' H') → tSeq t u D σ H) : tSeq t u D σ H := h1 h2
theorem at_some (l : List Nat) (i : Int) (h0 : 0 ≤ i) (h1 : i < (l.length : Int)) : ∃ c, atI l i = some c := by
  obtain ⟨n, rfl⟩ := Int.eq_ofNat_of_zero_le h0
  exact ⟨l[n]'(by omega), atI_nat (List.getElem?_eq_getElem _)⟩
theorem slen (x y : Str) : (x ++ y).length = x.length + y.length := by
  have h : ∀ z : Str, z.length = z.cps.toList.length := fun z => by simp [Str.length]
  rw [h, h, h, str_app, List.length_append]
theorem cutS_to (z : Str) (p : Nat) : (cutS z none (some (p : Int))).length = min p z.length := by
  have h : ∀ z : Str, z.length = z.cps.toList.length := fun z => by simp [Str.length]
  unfold cutS
  rw [HT.sIx_none, HT.sIx_nat, h]
  simp [Str.length]
theorem cutS_from (z : Str) (p : Nat) : (cutS z (some (p : Int)) none).length = z.length - min p z.length := by
  have h : ∀ z : Str, z.length = z.cps.toList.length := fun z => by simp [Str.length]
  unfold cutS
  rw [HT.sIx_none, HT.sIx_nat, h]
  simp [Str.length]
theorem cutS_one {z : Str} {c : Nat} {r : List Nat} (h : z.cps.toList = c :: r) : cutS z none (some 1) = ⟨#[c]⟩ := by
  have hl : z.length = r.length + 1 := by rw [show z.length = z.cps.toList.length by simp [Str.length], h]; rfl
  unfold cutS
  rw [HT.sIx_none, show (1 : Int) = ((1 : Nat) : Int) from rfl, HT.sIx_nat, h, hl]
  simp
def due0 (z : Str) : Bool := match z.cps.toList with
  | [] => false
  | c :: r => decide (r.length < 12) && !decide (c ∈ digits.cps.toList)
theorem due_all (z : Str) : (due0 z && z.cps.toList.all isSign) = isName z := by
  unfold due0 isName
  cases h : z.cps.toList with
  | nil => rfl
  | cons c r => rw [due_is, Bool.and_assoc]
theorem good1 {z : Str} {H : Hp} {t : Addr} (hz : z.length ≤ 1000) (h : H t = some (.tup [.str "number", .str z, .int 1, .str "big", .int 0, .int 255])) : Good z H (.ref t) :=
  ⟨J1 z, by simp only [J1, It.At]; exact ⟨t, rfl, h⟩, hz, by simp [one, J1, Its.walk, It.walk], sh1 z⟩
theorem good2 {z : Str} {H : Hp} {t : Addr} (hz : z.length ≤ 1000) (h : H t = some (.tup [.str "bytes", .str z, .int 3])) : Good z H (.ref t) :=
  ⟨J2 z, by simp only [J2, It.At]; exact ⟨t, rfl, h⟩, ⟨hz, _, rfl⟩, by simp [one, J2, Its.walk, It.walk], sh2 z⟩
theorem good3 {z : Str} {H : Hp} {t : Addr} (hz : z.length ≤ 1000) (h : H t = some (.tup [.str "text", .str z, .int 0, .int 4])) : Good z H (.ref t) :=
  ⟨J3 z, by simp only [J3, It.At]; exact ⟨t, rfl, h⟩, hz, by simp [one, J3, Its.walk, It.walk], sh3 z⟩
theorem good4 {z : Str} {H : Hp} {t : Addr} (hz : z.length ≤ 1000) (h : H t = some (.tup [.str "check", .str z, .int 7])) : Good z H (.ref t) :=
  ⟨J4 z, by simp only [J4, It.At]; exact ⟨t, rfl, h⟩, hz, by simp [one, J4, Its.walk, It.walk], sh4 z⟩
theorem good5 {z : Str} {H : Hp} {t : Addr} (hz : z.length ≤ 1000) (h : H t = some (.tup [.str "pad", .str z, .int 4, .int 1])) : Good z H (.ref t) :=
  ⟨J5 z, by simp only [J5, It.At]; exact ⟨t, rfl, h⟩, hz, by simp [one, J5, Its.walk, It.walk], sh5 z⟩
theorem good6 {z : Str} {H : Hp} {t q b c d : Addr} (hz : z.length < 12) (h : H t = some (.tup [.str "either", .str z, .ref q])) (hq : H q = some (.lst [.ref b, .ref c])) (hb : H b = some (.lst [])) (hc : H c = some (.lst [.ref d])) (hd : H d = some (.tup [.str "bytes", .str (z ++ ("a" : Str)), .int 1])) : Good z H (.ref t) := by
  have la : (z ++ ("a" : Str)).length ≤ 1000 := by rw [slen]; show z.length + 1 ≤ 1000; omega
  refine ⟨J6 z (z ++ ("a" : Str)), ?_, ⟨by omega, trivial, ⟨⟨la, _, rfl⟩, trivial⟩, trivial⟩, by simp [one, J6, Its.walk, It.walk, Blks.walk], sh6 hz⟩
  simp only [J6, It.At, Blks.AtE, Its.At]
  exact ⟨t, q, _, rfl, h, .inr ⟨rfl, hq⟩, b, [], _, rfl, .inr ⟨rfl, hb⟩, rfl, c, _, [], rfl, .inr ⟨rfl, hc⟩, ⟨_, _, rfl, ⟨d, rfl, hd⟩, rfl⟩, rfl⟩
theorem good7 {z : Str} {H : Hp} {t q d : Addr} (hz : z.length < 12) (h : H t = some (.tup [.str "repeat", .str z, .int 2, .ref q])) (hq : H q = some (.lst [.ref d])) (hd : H d = some (.tup [.str "bytes", .str (z ++ ("a" : Str)), .int 1])) : Good z H (.ref t) := by
  have la : (z ++ ("a" : Str)).length ≤ 1000 := by rw [slen]; show z.length + 1 ≤ 1000; omega
  refine ⟨J7 z (z ++ ("a" : Str)), ?_, ⟨by omega, ⟨_, rfl⟩, ⟨⟨la, _, rfl⟩, trivial⟩⟩, by simp [one, J7, Its.walk, It.walk], sh7 hz⟩
  simp only [J7, It.At, Its.At]
  exact ⟨t, q, _, rfl, h, .inr ⟨rfl, hq⟩, ⟨_, _, rfl, ⟨d, rfl, hd⟩, rfl⟩⟩
def spLaw (K : PySem.W.Frag) : Sp := fun vs H Q _ => ∃ (a : Addr) (ns : List Int), vs = [.ref a] ∧ SqL K H a (ns.map V.int) ∧ ns.length ≤ 63 ∧ ∀ H', Q (.bl true) H'
section
variable {P : Program} {w : World} {K : PySem.W.Frag} {mg : Str → Option Value} {base : Heap} {f : Addr} {fd : FuncData}
abbrev nLaw : List Str := ["script", "numbers", "good", "all_chars", "text", "k", "place", "due", "char", "told", "items", "item", "other", "row"]
theorem scLaw : FnScope nLaw ["script"] (defScope sLaw) := ⟨rfl, rfl, rfl, by decide +kernel, rfl, by decide +kernel, by decide +kernel⟩
theorem ok_law {k : Nat} (hk : 2 ≤ k) (F : Fun K "law" "law" sLaw f fd) (gN : Cal P w K mg base CX0 2 "_law_numbers" ["script", "many"] (spNums K)) (gI : Cal P w K mg base CX0 1 "is_name" ["text"] spIsName) (gT : Cal P w K mg base CX0 k "_law_taken" ["row"] spTaken)
    (mr : mg "range" = none) (mint : mg "int" = none) (ml : mg "len" = none) (mi : mg "isinstance" = none) (mb : mg "bool" = none) : FnOk P w K mg base CX0 (k + 1) f fd ["script"] (spLaw K) := by
  refine F.ok scLaw (fun vs H Q E h => ?_) (fun cdv A outer s H vs Q E hr h => ?_)
  · obtain ⟨a, ns, rfl, _⟩ := h
    rfl
  · obtain ⟨a, ns, rfl, ha, hlen, q⟩ := h
    refine ⟨_, pss_cons (ps_set (i := 1) scLaw.nd rfl (.inl rfl) (pe_cal gN (hr.mono hk) pass0 (pa_cons (pv 0) (pa_cons pe_int pa_nil))))
      (pss_cons (ps_set (i := 2) scLaw.nd rfl (.inl rfl) pe_str)
      (pss_cons (ps_set (i := 3) scLaw.nd rfl (.inl rfl) pe_str)
      (pss_cons (ps_set (i := 3) scLaw.nd rfl (.inl rfl) (pe_op op_add_str (pv 3) pe_str))
      (pss_cons (ps_set (i := 4) scLaw.nd rfl (.inl rfl) pe_str)
      (pss_cons (ps_for PassesOwn.never rfl (pi_range1 (by rfl) mr (pa_cons (pe_op op_mod (pe_callTy (r := rInt) call_int1 (by rfl) mint (by decide +kernel) (pa_cons (pe_ix ix_list (pv 1) pe_int (fun _ _ => rfl)) pa_nil)) pe_int) pa_nil)) (pg_name (i := 5) scLaw.nd rfl (.inl rfl))
        (pss_one (ps_set (i := 4) scLaw.nd rfl (.inl rfl) (pe_op op_add_str (pv 4) (pe_ix ix_str (pv 2) (pe_op op_mod (pe_callTy (r := rInt) call_int1 (by rfl) mint (by decide +kernel) (pa_cons (pe_ix ix_list (pv 1) (pe_op op_add pe_int (pv 5)) (fun _ _ => rfl)) pa_nil)) pe_int) (fun _ _ => rfl))))))
      (pss_cons (ps_if (PW.pt (pw_and (pt_cmpR op_gt (pe_op op_mod (pe_callTy (r := rInt) call_int1 (by rfl) mint (by decide +kernel) (pa_cons (pe_ix ix_list (pv 1) pe_int (fun _ _ => rfl)) pa_nil)) pe_int) pe_int (nomark _)) (pw_and1 (pt_cmpR op_gt (pe_callB call_len_str (by rfl) ml boot_len (pa_cons (pv 4) pa_nil)) pe_int (nomark _)))))
        (pss_one (ps_set (i := 4) scLaw.nd rfl (.inl rfl) (pe_op op_add_str (pe_ix ix_str (pv 2) (pe_op op_mod (pe_callTy (r := rInt) call_int1 (by rfl) mint (by decide +kernel) (pa_cons (pe_ix ix_list (pv 1) pe_int (fun _ _ => rfl)) pa_nil)) pe_int) (fun _ _ => rfl)) (pe_slice sl_str (pv 4) (po_some pe_int) po_none)))) pss_nil)
      (pss_cons (ps_if (PW.pt (pw_and (pt_cmpR op_eq (pe_op op_mod (pe_callTy (r := rInt) call_int1 (by rfl) mint (by decide +kernel) (pa_cons (pe_ix ix_list (pv 1) pe_int (fun _ _ => rfl)) pa_nil)) pe_int) pe_int (nomark _)) (pw_and1 (pt_cmpR op_gt (pe_callB call_len_str (by rfl) ml boot_len (pa_cons (pv 4) pa_nil)) pe_int (nomark _)))))
        (pss_cons (ps_set (i := 6) scLaw.nd rfl (.inl rfl) (pe_op op_mod (pe_callTy (r := rInt) call_int1 (by rfl) mint (by decide +kernel) (pa_cons (pe_ix ix_list (pv 1) pe_int (fun _ _ => rfl)) pa_nil)) (pe_callB call_len_str (by rfl) ml boot_len (pa_cons (pv 4) pa_nil))))
          (pss_one (ps_set (i := 4) scLaw.nd rfl (.inl rfl) (pe_op op_add_str (pe_op op_add_str (pe_slice sl_str (pv 4) po_none (po_some (pv 6)))
            (pe_ix ix_str (pv 3) (pe_op op_mod (pe_callTy (r := rInt) call_int1 (by rfl) mint (by decide +kernel) (pa_cons (pe_ix ix_list (pv 1) pe_int (fun _ _ => rfl)) pa_nil)) (pe_callB call_len_str (by rfl) ml boot_len (pa_cons (pv 3) pa_nil))) (fun _ _ => rfl))) (pe_slice sl_str (pv 4) (po_some (pe_op op_add (pv 6) pe_int)) po_none))))) pss_nil)
      (pss_cons (ps_set (i := 7) scLaw.nd rfl (.inl rfl) (pe_and (pe_chain op_le op_le pe_int (pe_callB call_len_str (by rfl) ml boot_len (pa_cons (pv 4) pa_nil)) pe_int) (pe_one (pe_cmpR op_notIn_sign (pe_slice sl_str (pv 4) po_none (po_some pe_int)) pe_str rfl))))
      (pss_cons (ps_for PassesOwn.never rfl (pi_str (pv 4)) (pg_name (i := 8) scLaw.nd rfl (.inl rfl)) (pss_one (ps_if (pt_cmpR op_notIn_sign (pv 8) (pv 2) (by rfl)) (pss_one (ps_set (i := 7) scLaw.nd rfl (.inl rfl) pe_bl)) pss_nil)))
      (pss_cons (ps_set (i := 9) scLaw.nd rfl (.inl rfl) (pe_cal gI (hr.mono (by omega)) pass0 (pa_cons (pv 4) pa_nil)))
      (pss_cons (ps_if (PW.pt (pw_or (pt_not (pt_val (pe_callB call_isi (by rfl) mi (by decide +kernel) (pa_cons (pv 9) (pa_cons (pe_bltn (v := .ty "bool") (by rfl) mb (by decide +kernel) rfl) pa_nil))))) (pw_or1 (pt_cmpR op_ne (pv 9) (pv 7) (nomark _))))) (pss_one (ps_ret pe_bl)) pss_nil)
      (pss_cons (ps_set (i := 10) scLaw.nd rfl (.inl rfl) (pe_lst (pa_cons (pe_tup (pa_cons pe_str (pa_cons (pv 4) (pa_cons pe_int (pa_cons pe_str (pa_cons pe_int (pa_cons pe_int pa_nil)))))))
        (pa_cons (pe_tup (pa_cons pe_str (pa_cons (pv 4) (pa_cons pe_int pa_nil)))) (pa_cons (pe_tup (pa_cons pe_str (pa_cons (pv 4) (pa_cons pe_int (pa_cons pe_int pa_nil)))))
        (pa_cons (pe_tup (pa_cons pe_str (pa_cons (pv 4) (pa_cons pe_int pa_nil)))) (pa_cons (pe_tup (pa_cons pe_str (pa_cons (pv 4) (pa_cons pe_int (pa_cons pe_int pa_nil))))) pa_nil)))))))
      (pss_cons (ps_set (i := 10) scLaw.nd rfl (.inl rfl) (pe_op op_cat (pv 10) (pe_lst (pa_cons (pe_tup (pa_cons pe_str (pa_cons (pv 4) (pa_cons (pe_lst (pa_cons (pe_lst pa_nil) (pa_cons (pe_lst (pa_cons (pe_tup (pa_cons pe_str (pa_cons (pe_op op_add_str (pv 4) pe_str) (pa_cons pe_int pa_nil)))) pa_nil)) pa_nil))) pa_nil))))
        (pa_cons (pe_tup (pa_cons pe_str (pa_cons (pv 4) (pa_cons pe_int (pa_cons (pe_lst (pa_cons (pe_tup (pa_cons pe_str (pa_cons (pe_op op_add_str (pv 4) pe_str) (pa_cons pe_int pa_nil)))) pa_nil)) pa_nil))))) pa_nil)))))
      (pss_cons (ps_for PassesOwn.never rfl (pi_list (pe_slice sl_list (pv 10) po_none (po_some (pe_op op_add pe_int (pe_op op_mul pe_int (pe_callTy (r := rInt) call_int1 (by rfl) mint (by decide +kernel) (pa_cons (pe_cmpR op_lt (pe_callB call_len_str (by rfl) ml boot_len (pa_cons (pv 4) pa_nil)) pe_int (nomark _)) pa_nil))))))) (pg_name (i := 11) scLaw.nd rfl (.inl rfl))
        (pss_one (ps_if (pt_cmpR op_ne (pe_cal gT hr pass0 (pa_cons (pe_lst (pa_cons (pv 11) pa_nil)) pa_nil)) (pe_ix ix_list (pe_lst (pa_cons pe_str (pa_cons pe_str pa_nil))) (pe_callTy (r := rInt) call_int1 (by rfl) mint (by decide +kernel) (pa_cons (pv 7) pa_nil)) (fun _ _ => rfl)) (nomark _)) (pss_one (ps_ret pe_bl)) pss_nil)))
      (pss_cons (ps_set (i := 12) scLaw.nd rfl (.inl rfl) (pe_ix ix_list (pe_lst (pa_cons pe_str (pa_cons pe_str pa_nil))) (pe_callTy (r := rInt) call_int1 (by rfl) mint (by decide +kernel) (pa_cons (pe_cmpR op_eq (pv 4) pe_str (nomark _)) pa_nil)) (fun _ _ => rfl)))
      (pss_cons (ps_set (i := 13) scLaw.nd rfl (.inl rfl) (pe_lst (pa_cons (pe_tup (pa_cons pe_str (pa_cons (pv 12) (pa_cons pe_int (pa_cons pe_str (pa_cons pe_int (pa_cons pe_int pa_nil)))))))
        (pa_cons (pe_tup (pa_cons pe_str (pa_cons (pv 4) (pa_cons (pv 12) (pa_cons (pe_lst (pa_cons (pe_tup (pa_cons pe_int (pa_cons (pe_lst pa_nil) pa_nil))) pa_nil)) pa_nil))))) pa_nil))))
      (pss_one (ps_ret (pe_cmpR op_eq (pe_cal gT hr pass0 (pa_cons (pv 13) pa_nil)) (pe_ix ix_list (pe_lst (pa_cons pe_str (pa_cons pe_str pa_nil))) (pe_callTy (r := rInt) call_int1 (by rfl) mint (by decide +kernel) (pa_cons (pv 7) pa_nil)) (fun _ _ => rfl)) (nomark _)))))))))))))))))))), ?_⟩
    refine ⟨_, rfl, a, ns, rfl, ha, hlen, fun pn rs H1 s1 hn hrl => ?_⟩
    have g : ∀ (j : Nat) (hj : j < 24), (rs.map V.int)[j]? = some (.int (rs[j]'(by omega))) := fun j hj => by rw [List.getElem?_map, List.getElem?_eq_getElem (by omega)]; rfl
    have hG : ("abcdefghijklmnopqrstuvwxyz0123456789" : Str).cps.toList.length = 36 := by decide +kernel
    have hpick : ∀ b : Bool, atI [V.str "refused", V.str "taken"] (if b = true then 1 else 0) = some (.str (if b = true then "taken" else "refused")) := fun b => by
      cases b
      · exact atI_nat (j := 0) rfl
      · exact atI_nat (j := 1) rfl
    have zz : ∀ n : Nat, n ≤ 2000 → n ≤ sizeLine := fun n h => Nat.le_trans h (by decide)
    refine ⟨_, rfl, _, _, rfl, rfl, by decide +kernel, ?_⟩
    obtain ⟨ac, hac⟩ : ∃ ac : Str, ac = ((" !\"#$&'()*+,-./0123456789:;<=>?@ABCDEFGHIJKLMNOPQRSTUVWXYZ[\\]^_`" : Str) ++ ("abcdefghijklmnopqrstuvwxyz{|}~\n\t" : Str)) := ⟨_, rfl⟩
    have hacl : 1 ≤ ac.cps.toList.length ∧ ac.length ≤ 1000 ∧ ac.length = ac.cps.toList.length := by rw [hac]; decide +kernel
    have r15 := Int.emod_nonneg (rs[0]'(by omega)) (show (15 : Int) ≠ 0 by decide)
    have s15 := Int.emod_lt_of_pos (rs[0]'(by omega)) (show (0 : Int) < 15 by decide)
    refine ⟨_, rfl, pn, _, 0, _, rfl, rfl, SqL.of hn, atI_nat (j := 0) (g 0 (by decide)), .inl ⟨_, rfl, _, _, rfl, rfl, (by show (0 : Int) < 15; decide), _, rfl, by omega, by omega, for_range (lo := 0) (n := (rs[0]'(by omega) % 15).toNat)
      (fun i σ H' => ∃ (k5 : Option V) (z : Str), σ = [some (.ref a), some (.ref pn), some (.str "abcdefghijklmnopqrstuvwxyz0123456789"), some (.str ac), some (.str z), k5, none, none, none, none, none, none, none, none] ∧ z.length = i ∧ H' = H1) ⟨none, _, by rw [hac]; rfl, rfl, rfl⟩ ?_ ?_⟩⟩
    · rintro i σ H' hi ⟨k5, z, rfl, hz, rfl⟩
      have hi24 : 1 + i < 24 := by omega
      obtain ⟨c, hc⟩ := at_some ("abcdefghijklmnopqrstuvwxyz0123456789" : Str).cps.toList (rs[1 + i]'(by omega) % 36) (Int.emod_nonneg _ (by decide)) (by rw [hG]; exact Int.emod_lt_of_pos _ (by decide))
      refine ⟨_, rfl, _, rfl, _, rfl, _, rfl, _, _, rfl, rfl, pn, _, _, _, rfl, rfl, SqL.of hn, atI_nat' (j := 1 + i) (by omega) (g (1 + i) hi24), .inl ⟨_, rfl, _, _, rfl, rfl, (by show (0 : Int) < 36; decide), _, _, c, rfl, rfl, by decide +kernel, hc, _, _, rfl, rfl, zz _ (by rw [hz]; show i + 1 ≤ 2000; omega), ?_⟩⟩
      exact ⟨_, _, rfl, by rw [slen, hz]; rfl, rfl⟩
    rintro σ H' ⟨k5, z, rfl, hz, rfl⟩
    have hz14 : z.length ≤ 14 := by omega
    clear hz
    dsimp only
    refine with_rest (fun σ' Hx => ∃ (k5 : Option V) (z : Str), σ' = [some (.ref a), some (.ref pn), some (.str "abcdefghijklmnopqrstuvwxyz0123456789"), some (.str ac), some (.str z), k5, none, none, none, none, none, none, none, none] ∧ z.length ≤ 14 ∧ Hx = H') ?_ fun rest => ?_
    rotate_left
    · obtain ⟨c, hc⟩ := at_some ("abcdefghijklmnopqrstuvwxyz0123456789" : Str).cps.toList (rs[19]'(by omega) % 26) (Int.emod_nonneg _ (by decide)) (by rw [hG]; have := Int.emod_lt_of_pos (rs[19]'(by omega)) (show (0 : Int) < 26 by decide); omega)
      refine ⟨_, rfl, pn, _, 16, _, rfl, rfl, SqL.of hn, atI_nat (j := 16) (g 16 (by decide)), .inl ⟨_, rfl, _, _, rfl, rfl, (by show (0 : Int) < 3; decide), _, _, rfl, rfl, _, rfl, ite2 (fun _ => ?_) (fun _ => iteF (rest _ _ ⟨_, _, rfl, hz14, rfl⟩))⟩⟩
      refine ⟨_, rfl, z, rfl, zz _ (by omega), _, _, rfl, rfl, _, rfl, ite2 (fun e => ?_) (fun _ => rest _ _ ⟨_, _, rfl, hz14, rfl⟩)⟩
      have e := of_decide_eq_true e
      have cl := cutS_from z 1
      refine ⟨_, rfl, _, rfl, pn, _, 19, _, rfl, rfl, SqL.of hn, atI_nat (j := 19) (g 19 (by decide)), .inl ⟨_, rfl, _, _, rfl, rfl, (by show (0 : Int) < 26; decide), _, _, c, rfl, rfl, by decide +kernel, hc, _, rfl, 1, rfl, z, rfl, zz _ (by omega), _, _, rfl, rfl, zz _ (by show 1 + (cutS z (some ((1 : Nat) : Int)) none).length ≤ 2000; omega), rest _ _ ⟨_, _, rfl, ?_, rfl⟩⟩⟩
      rw [slen]
      show 1 + (cutS z (some ((1 : Nat) : Int)) none).length ≤ 14
      omega
    clear hz14
    clear k5 z
    rintro σ Hx ⟨k5, z, rfl, hz14, rfl⟩
    refine with_rest (fun σ' Hy => ∃ (k5 k6 : Option V) (z : Str), σ' = [some (.ref a), some (.ref pn), some (.str "abcdefghijklmnopqrstuvwxyz0123456789"), some (.str ac), some (.str z), k5, k6, none, none, none, none, none, none, none] ∧ z.length ≤ 14 ∧ Hy = Hx) ?_ fun rest => ?_
    rotate_left
    · obtain ⟨c, hc⟩ := at_some ac.cps.toList (rs[18]'(by omega) % (ac.length : Int)) (Int.emod_nonneg _ (by omega)) (by rw [hacl.2.2]; exact Int.emod_lt_of_pos _ (by omega))
      refine ⟨_, rfl, pn, _, 16, _, rfl, rfl, SqL.of hn, atI_nat (j := 16) (g 16 (by decide)), .inl ⟨_, rfl, _, _, rfl, rfl, (by show (0 : Int) < 6; decide), rfl, _, rfl, ite2 (fun _ => ?_) (fun _ => iteF (rest _ _ ⟨_, _, _, rfl, hz14, rfl⟩))⟩⟩
      refine ⟨_, rfl, z, rfl, zz _ (by omega), _, _, rfl, rfl, _, rfl, ite2 (fun e => ?_) (fun _ => rest _ _ ⟨_, _, _, rfl, hz14, rfl⟩)⟩
      have e := of_decide_eq_true e
      obtain ⟨pl, hpl⟩ := Int.eq_ofNat_of_zero_le (Int.emod_nonneg (rs[17]'(by omega)) (show (z.length : Int) ≠ 0 by omega))
      have hlt := Int.emod_lt_of_pos (rs[17]'(by omega)) (show (0 : Int) < (z.length : Int) by omega)
      have c1 : (cutS z none (some (rs[17]'(by omega) % (z.length : Int)))).length = min pl z.length := by rw [hpl]; exact cutS_to z pl
      have c2 : (cutS z (some (rs[17]'(by omega) % (z.length : Int) + 1)) none).length = z.length - min (pl + 1) z.length := by rw [hpl]; exact cutS_from z (pl + 1)
      rw [hpl] at hlt
      have hlt' : pl < z.length := by omega
      refine ⟨_, rfl, pn, _, 17, _, rfl, rfl, SqL.of hn, atI_nat (j := 17) (g 17 (by decide)), .inl ⟨_, rfl, _, rfl, z, rfl, zz _ (by omega), _, _, rfl, rfl, (by show (0 : Int) < (z.length : Int); omega), ?_⟩⟩
      refine ⟨_, rfl, _, rfl, _, rfl, z, rfl, zz _ (by omega), _, rfl, _, rfl, pn, _, 18, _, rfl, rfl, SqL.of hn, atI_nat (j := 18) (g 18 (by decide)), .inl ⟨_, rfl, _, rfl, ac, rfl, zz _ (by omega), _, _, rfl, rfl, (by show (0 : Int) < (ac.length : Int); omega), _, _, c, rfl, rfl, zz _ (by omega), hc, _, _, rfl, rfl, zz _ (by rw [c1]; show min pl z.length + 1 ≤ 2000; omega),
        _, rfl, _, rfl, _, _, rfl, rfl, _, rfl, z, rfl, zz _ (by omega), _, _, rfl, rfl, zz _ ?_, rest _ _ ⟨_, _, _, rfl, ?_, rfl⟩⟩⟩
      · rw [slen, c1, c2]; show min pl z.length + 1 + _ ≤ 2000; omega
      · rw [slen, slen, c1, c2]; show min pl z.length + 1 + _ ≤ 14; omega
    clear hz14
    clear k5 z
    rintro σ Hy ⟨k5, k6, z, rfl, hz14, rfl⟩
    have hzl : z.length = z.cps.toList.length := by simp [Str.length]
    refine with_rest (fun σ' Hz => σ' = [some (.ref a), some (.ref pn), some (.str "abcdefghijklmnopqrstuvwxyz0123456789"), some (.str ac), some (.str z), k5, k6, some (.bl (due0 z)), none, none, none, none, none, none] ∧ Hz = Hy) ?_ fun rest => ?_
    rotate_left
    · refine ⟨_, rfl, z, rfl, zz _ (by omega), _, _, rfl, rfl, _, rfl, ?_⟩
      cases hz : z.cps.toList with
      | nil =>
        have hd : due0 z = false := by unfold due0; rw [hz]
        rw [hz] at hzl
        rw [hd] at rest
        refine ite2 (fun e => absurd (of_decide_eq_true e) (by rw [hzl]; decide)) (fun _ => ⟨false, rfl, iteF (rest _ _ ⟨rfl, rfl⟩)⟩)
      | cons c r =>
        have hd : due0 z = (decide (r.length < 12) && !decide (c ∈ digits.cps.toList)) := by unfold due0; rw [hz]
        rw [hz, List.length_cons] at hzl
        rw [hd] at rest
        refine ite2 (fun _ => ?_) (fun e => absurd (decide_eq_true (by omega)) e)
        refine ⟨_, _, rfl, rfl, _, rfl, ite2 (fun e => ?_) (fun e => ?_)⟩
        · have e := of_decide_eq_true e
          rw [decide_eq_true (show r.length < 12 by omega), Bool.true_and] at rest
          exact ⟨_, rfl, 1, rfl, z, rfl, zz _ (by omega), c, _, by rw [cutS_one hz], rfl, rest _ _ ⟨rfl, rfl⟩⟩
        · have e : ¬ _ := fun q => e (decide_eq_true q)
          rw [decide_eq_false (show ¬ r.length < 12 by omega), Bool.false_and] at rest
          exact rest _ _ ⟨rfl, rfl⟩
    rintro σ Hz ⟨rfl, rfl⟩
    -- for char in text
    refine ⟨_, rfl, z, rfl, for_it (walk_str (z := z)) (fun i σ' Hy' => ∃ k8 : Option V, σ' = [some (.ref a), some (.ref pn), some (.str "abcdefghijklmnopqrstuvwxyz0123456789"), some (.str ac), some (.str z), k5, k6, some (.bl (due0 z && (z.cps.toList.take i).all isSign)), k8, none, none, none, none, none] ∧ Hy' = Hz)
      ⟨none, by rw [List.take_zero, List.all_nil, Bool.and_true], rfl⟩ (fun _ _ _ _ _ => trivial) ?_ ?_⟩
    · rintro i x σ H2 H3 hi ⟨k8, rfl, rfl⟩ ⟨rfl, ch, hch, rfl⟩
      have hch' : z.cps.toList[i]? = some ch := by rw [Array.getElem?_toList]; exact hch
      have step : (z.cps.toList.take (i + 1)).all isSign = ((z.cps.toList.take i).all isSign && isSign ch) := by rw [take_more hch', List.all_append, List.all_cons, List.all_nil, Bool.and_true]
      refine ⟨_, rfl, _, rfl, ch, _, rfl, rfl, _, rfl, ?_⟩
      rw [good_sign]
      cases hs : isSign ch with
      | true => exact iteF ⟨_, by rw [step, hs, Bool.and_true]; rfl, rfl⟩
      | false => exact iteT ⟨_, by rw [step, hs, Bool.and_false, Bool.and_false]; rfl, rfl⟩
    rintro σ H2 ⟨k8, rfl, rfl⟩
    have hdue : (due0 z && (z.cps.toList.take z.cps.size).all isSign) = isName z := by rw [← due_all, List.take_of_length_le (by simp)]
    rw [hdue]
    refine ⟨_, rfl, z, rfl, zz _ (by omega), fun H3 s3 => ?_⟩
    refine ⟨_, rfl, _, _, _, _, true, rfl, .ty _, .base (.bl _), kit_ty (by decide +kernel), _, rfl, iteF ⟨_, rfl, _, rfl, rfl, _, rfl, ?_⟩⟩
    rw [decide_eq_true rfl]
    refine iteF ?_
    -- the items
    refine ⟨_, rfl, (by show 6 ≤ sizeLine; decide), fun t1 ht1 => ⟨_, rfl, (by show 3 ≤ sizeLine; decide), fun t2 ht2 => ⟨_, rfl, (by show 4 ≤ sizeLine; decide), fun t3 ht3 => ⟨_, rfl, (by show 3 ≤ sizeLine; decide), fun t4 ht4 => ⟨_, rfl, (by show 4 ≤ sizeLine; decide), fun t5 ht5 => ⟨(by show 5 ≤ sizeLine; decide), fun l1 hl1 => ?_⟩⟩⟩⟩⟩⟩
    have hz1 : z.length ≤ 1000 := by omega
    have hza : z.length + ("a" : Str).length ≤ sizeLine := zz _ (by show z.length + 1 ≤ 2000; omega)
    have a1 := same_new ht1 (.tup [.str "number", .str z, .int 1, .str "big", .int 0, .int 255])
    have a2 := same_new ht2 (.tup [.str "bytes", .str z, .int 3])
    have a3 := same_new ht3 (.tup [.str "text", .str z, .int 0, .int 4])
    have a4 := same_new ht4 (.tup [.str "check", .str z, .int 7])
    have a5 := same_new ht5 (.tup [.str "pad", .str z, .int 4, .int 1])
    have a6 := same_new hl1 (.lst [.ref t1, .ref t2, .ref t3, .ref t4, .ref t5])
    have G1 := (good1 hz1 (t := t1) (H := upd H3 t1 _) upd_same).same (a2.trans (a3.trans (a4.trans (a5.trans a6))))
    have G2 := (good2 hz1 (t := t2) (H := upd (upd H3 t1 _) t2 _) upd_same).same (a3.trans (a4.trans (a5.trans a6)))
    have G3 := (good3 hz1 (t := t3) (H := upd (upd (upd H3 t1 _) t2 _) t3 _) upd_same).same (a4.trans (a5.trans a6))
    have G4 := (good4 hz1 (t := t4) (H := upd (upd (upd (upd H3 t1 _) t2 _) t3 _) t4 _) upd_same).same (a5.trans a6)
    have G5 := (good5 hz1 (t := t5) (H := upd (upd (upd (upd (upd H3 t1 _) t2 _) t3 _) t4 _) t5 _) upd_same).same a6
    have L1 : upd (upd (upd (upd (upd (upd H3 t1 (.tup [.str "number", .str z, .int 1, .str "big", .int 0, .int 255])) t2 (.tup [.str "bytes", .str z, .int 3])) t3 (.tup [.str "text", .str z, .int 0, .int 4])) t4 (.tup [.str "check", .str z, .int 7])) t5 (.tup [.str "pad", .str z, .int 4, .int 1])) l1 (.lst [.ref t1, .ref t2, .ref t3, .ref t4, .ref t5]) l1 = some (.lst [.ref t1, .ref t2, .ref t3, .ref t4, .ref t5]) := upd_same
    generalize upd (upd (upd (upd (upd (upd H3 t1 _) t2 _) t3 _) t4 _) t5 _) l1 _ = H4 at G1 G2 G3 G4 G5 L1 ⊢
    clear a1 a2 a3 a4 a5 a6
    refine ⟨_, rfl, _, rfl, (by show 0 ≤ sizeLine; decide), fun b hb => ⟨_, rfl, _, _, rfl, rfl, hza, (by show 3 ≤ sizeLine; decide), fun d hd => ⟨(by show 1 ≤ sizeLine; decide), fun c hc => ⟨(by show 2 ≤ sizeLine; decide), fun u hu => ⟨(by show 3 ≤ sizeLine; decide), fun t6 ht6 =>
      ⟨_, rfl, _, rfl, _, _, rfl, rfl, hza, (by show 3 ≤ sizeLine; decide), fun d2 hd2 => ⟨(by show 1 ≤ sizeLine; decide), fun u2 hu2 => ⟨(by show 4 ≤ sizeLine; decide), fun t7 ht7 => ⟨(by show 2 ≤ sizeLine; decide), fun l2 hl2 => ?_⟩⟩⟩⟩⟩⟩⟩⟩⟩
    have b1 := same_new hb (.lst [])
    have b2 := same_new hd (.tup [.str "bytes", .str (z ++ ("a" : Str)), .int 1])
    have b3 := same_new hc (.lst [.ref d])
    have b4 := same_new hu (.lst [.ref b, .ref c])
    have b5 := same_new ht6 (.tup [.str "either", .str z, .ref u])
    have b6 := same_new hd2 (.tup [.str "bytes", .str (z ++ ("a" : Str)), .int 1])
    have b7 := same_new hu2 (.lst [.ref d2])
    have b8 := same_new ht7 (.tup [.str "repeat", .str z, .int 2, .ref u2])
    have b9 := same_new hl2 (.lst [.ref t6, .ref t7])
    have G6 : z.length < 12 → Good z (upd (upd (upd (upd (upd (upd (upd (upd (upd H4 b _) d _) c _) u _) t6 _) d2 _) u2 _) t7 _) l2 _) (.ref t6) := fun h12 =>
      (good6 h12 (t := t6) upd_same (b5 _ _ upd_same) (b5 _ _ (b4 _ _ (b3 _ _ (b2 _ _ upd_same)))) (b5 _ _ (b4 _ _ upd_same)) (b5 _ _ (b4 _ _ (b3 _ _ upd_same)))).same (b6.trans (b7.trans (b8.trans b9)))
    have G7 : z.length < 12 → Good z (upd (upd (upd (upd (upd (upd (upd (upd (upd H4 b _) d _) c _) u _) t6 _) d2 _) u2 _) t7 _) l2 _) (.ref t7) := fun h12 =>
      (good7 h12 (t := t7) upd_same (b8 _ _ upd_same) (b8 _ _ (b7 _ _ upd_same))).same b9
    have B := b1.trans (b2.trans (b3.trans (b4.trans (b5.trans (b6.trans (b7.trans (b8.trans b9)))))))
    have L2 : upd (upd (upd (upd (upd (upd (upd (upd (upd H4 b (.lst [])) d (.tup [.str "bytes", .str (z ++ ("a" : Str)), .int 1])) c (.lst [.ref d])) u (.lst [.ref b, .ref c])) t6 (.tup [.str "either", .str z, .ref u])) d2 (.tup [.str "bytes", .str (z ++ ("a" : Str)), .int 1])) u2 (.lst [.ref d2])) t7 (.tup [.str "repeat", .str z, .int 2, .ref u2])) l2 (.lst [.ref t6, .ref t7]) l2 = some (.lst [.ref t6, .ref t7]) := upd_same
    generalize upd (upd (upd (upd (upd (upd (upd (upd (upd H4 b _) d _) c _) u _) t6 _) d2 _) u2 _) t7 _) l2 _ = H5 at G6 G7 B L2 ⊢
    clear b1 b2 b3 b4 b5 b6 b7 b8 b9
    refine ⟨l1, l2, _, _, rfl, rfl, B _ _ L1, L2, (by show 7 ≤ sizeLine; decide), fun l3 hl3 => ?_⟩
    have hg : ∀ v ∈ cutV ([V.ref t1, .ref t2, .ref t3, .ref t4, .ref t5] ++ [V.ref t6, .ref t7]) none (some (5 + 2 * (if decide ((z.length : Int) < 12) = true then 1 else 0))), Good z H5 v := by
      have G1 := G1.same B
      have G2 := G2.same B
      have G3 := G3.same B
      have G4 := G4.same B
      have G5 := G5.same B
      by_cases h12 : z.length < 12
      · rw [decide_eq_true (by omega)]
        intro v hv
        have hv : v ∈ [V.ref t1, .ref t2, .ref t3, .ref t4, .ref t5, .ref t6, .ref t7] := hv
        simp only [List.mem_cons, List.not_mem_nil, or_false] at hv
        rcases hv with rfl | rfl | rfl | rfl | rfl | rfl | rfl
        · exact G1
        · exact G2
        · exact G3
        · exact G4
        · exact G5
        · exact G6 h12
        · exact G7 h12
      · rw [decide_eq_false (by omega)]
        intro v hv
        have hv : v ∈ [V.ref t1, .ref t2, .ref t3, .ref t4, .ref t5] := hv
        simp only [List.mem_cons, List.not_mem_nil, or_false] at hv
        rcases hv with rfl | rfl | rfl | rfl | rfl
        · exact G1
        · exact G2
        · exact G3
        · exact G4
        · exact G5
    have c1 := same_new hl3 (.lst ([V.ref t1, .ref t2, .ref t3, .ref t4, .ref t5] ++ [V.ref t6, .ref t7]))
    have L3 : upd H5 l3 (.lst ([V.ref t1, .ref t2, .ref t3, .ref t4, .ref t5] ++ [V.ref t6, .ref t7])) l3 = some (.lst ([V.ref t1, .ref t2, .ref t3, .ref t4, .ref t5] ++ [V.ref t6, .ref t7])) := upd_same
    generalize upd H5 l3 _ = H6 at c1 L3 ⊢
    refine ⟨_, rfl, _, rfl, z, rfl, zz _ (by omega), _, _, rfl, rfl, .inr ⟨_, rfl, _, _, rfl, rfl, .inl ⟨by decide, by decide⟩, _, _, rfl, rfl, _, rfl, l3, _, rfl, SqL.of L3, fun l4 hl4 => ?_⟩⟩
    have c2 := same_new hl4 (.lst (cutV ([V.ref t1, .ref t2, .ref t3, .ref t4, .ref t5] ++ [V.ref t6, .ref t7]) none (some (5 + 2 * (if decide ((z.length : Int) < 12) = true then 1 else 0)))))
    have L4 : upd H6 l4 (.lst (cutV ([V.ref t1, .ref t2, .ref t3, .ref t4, .ref t5] ++ [V.ref t6, .ref t7]) none (some (5 + 2 * (if decide ((z.length : Int) < 12) = true then 1 else 0))))) l4 = some (.lst (cutV ([V.ref t1, .ref t2, .ref t3, .ref t4, .ref t5] ++ [V.ref t6, .ref t7]) none (some (5 + 2 * (if decide ((z.length : Int) < 12) = true then 1 else 0))))) := upd_same
    have hg := fun v hv => (hg v hv).same (c1.trans c2)
    generalize cutV ([V.ref t1, .ref t2, .ref t3, .ref t4, .ref t5] ++ [V.ref t6, .ref t7]) none (some (5 + 2 * (if decide ((z.length : Int) < 12) = true then 1 else 0))) = its at hg c2 L4 ⊢
    generalize upd H6 l4 _ = H7 at hg c2 L4 ⊢
    refine ⟨l4, rfl, ⟨_, SqL.of L4⟩, for_list (K := K) (a := l4) (xs := its) (fun i σ' H' => ∃ i11, σ' = [some (.ref a), some (.ref pn), some (.str "abcdefghijklmnopqrstuvwxyz0123456789"), some (.str ac), some (.str z), k5, k6, some (.bl (isName z)), k8, some (.bl (isName z)), some (.ref l3), i11, none, none] ∧ Same H7 H')
      ⟨none, rfl, Same.refl _⟩ (fun i σ' H' _ zz => by obtain ⟨_, _, zz⟩ := zz; exact SqL.of (zz _ _ L4)) ?_ ?_⟩
    · rintro i v σ H8 hi ⟨i11, rfl, s8⟩
      obtain ⟨y, ay, ty, wy, shy⟩ := (hg v (List.mem_of_getElem? hi)).same s8
      refine ⟨_, rfl, (by show 1 ≤ sizeLine; decide), fun lr hlr => ⟨lr, one y, [v], rfl, upd_same, ?_, ⟨ty, trivial⟩, wy, Nat.le_refl 1, fun H9 s9 => ?_⟩⟩
      · simp only [one, Its.At]
        exact ⟨v, [], rfl, ay.same (same_new hlr _), rfl⟩
      rw [shy]
      refine ⟨(by show 2 ≤ sizeLine; decide), fun lq hlq => ⟨_, rfl, .inr ⟨_, rfl, lq, _, _, _, rfl, rfl, SqL.of upd_same, hpick _, rfl, _, rfl, ?_⟩⟩⟩
      rw [decide_eq_true rfl]
      exact iteF ⟨_, rfl, s8.trans ((same_new hlr _).trans (s9.trans (same_new hlq _)))⟩
    rintro σ H8 ⟨i11, rfl, s8⟩
    obtain ⟨o, ho1, ho2, hol, hat⟩ : ∃ o : Str, isName o = true ∧ o ≠ z ∧ o.length ≤ 1000 ∧ atI [V.str "nn", V.str "mm"] (if decide (V.str z = V.str "nn") = true then 1 else 0) = some (.str o) := by
      by_cases hnn : z = "nn"
      · rw [decide_eq_true (by rw [hnn])]
        exact ⟨"mm", by decide +kernel, fun e => by rw [hnn] at e; exact absurd e (by decide +kernel), by decide +kernel, atI_nat (j := 1) rfl⟩
      · rw [decide_eq_false (fun e => hnn (V.str.inj e))]
        exact ⟨"nn", by decide +kernel, fun e => hnn e.symm, by decide +kernel, atI_nat (j := 0) rfl⟩
    refine ⟨(by show 2 ≤ sizeLine; decide), fun lo hlo => ⟨_, rfl, rfl, .inr ⟨_, rfl, lo, _, _, _, rfl, rfl, SqL.of upd_same, hat, ?_⟩⟩⟩
    refine ⟨_, rfl, (by show 6 ≤ sizeLine; decide), fun r1 hr1 => ⟨_, rfl, _, rfl, (by show 0 ≤ sizeLine; decide), fun e0 he0 => ⟨(by show 2 ≤ sizeLine; decide), fun cs hcs => ⟨(by show 1 ≤ sizeLine; decide), fun cl hcl => ⟨(by show 4 ≤ sizeLine; decide), fun r2 hr2 => ⟨(by show 2 ≤ sizeLine; decide), fun row hrow => ?_⟩⟩⟩⟩⟩⟩
    have d1 := same_new he0 (.lst [])
    have d2 := same_new hcs (.tup [.int 0, .ref e0])
    have d3 := same_new hcl (.lst [.ref cs])
    have d4 := same_new hr2 (.tup [.str "switch", .str z, .str o, .ref cl])
    have d5 := same_new hrow (.lst [.ref r1, .ref r2])
    refine ⟨_, rfl, row, J8 z o, _, rfl, upd_same, ?_, ⟨hol, ⟨hz1, by simp [Blks.vals], trivial, trivial⟩, trivial⟩, by simp [J8, Its.walk, It.walk, Blks.walk], (by show 1 ≤ 2; decide), fun H9 s9 => ?_⟩
    · simp only [J8, It.At, Its.At, Blks.AtS]
      exact ⟨_, _, rfl, ⟨r1, rfl, d5 _ _ (d4 _ _ (d3 _ _ (d2 _ _ (d1 _ _ upd_same))))⟩, _, _, rfl, ⟨r2, cl, _, rfl, d5 _ _ upd_same, .inr ⟨rfl, d5 _ _ (d4 _ _ upd_same)⟩, cs, e0, [], [], rfl, d5 _ _ (d4 _ _ (d3 _ _ upd_same)), .inr ⟨rfl, d5 _ _ (d4 _ _ (d3 _ _ (d2 _ _ upd_same)))⟩, rfl, rfl⟩, rfl⟩
    rw [sh8 ho1 ho2]
    refine ⟨(by show 2 ≤ sizeLine; decide), fun lq hlq => ⟨_, rfl, .inr ⟨_, rfl, lq, _, _, _, rfl, rfl, SqL.of upd_same, hpick _, rfl, ?_⟩⟩⟩
    rw [decide_eq_true rfl]
    exact q _
end
end Bs

set_option Elab.async false
set_option linter.all false
set_option maxRecDepth 100000
set_option maxHeartbeats 0
namespace Bs
open PySem L2
/-! ### the head: what the top leaves -/
def gDef (x : Str) (i : Nat) : He.DefD := ⟨(x, none), x, x, defArgs (top i), defBody (top i), defScope (top i), [], []⟩
def dInit : He.DefD := ⟨("Shape", some "__init__"), "__init__", "Shape.__init__", defArgs sInit, defBody sInit, defScope sInit, [], []⟩
def fns : List He.DefD := [gDef "blocks_of" 6, gDef "listed" 7, gDef "is_integer" 15, gDef "require" 16, gDef "amount_bounds" 17, gDef "number_lengths" 18, gDef "bytes_lengths" 19, gDef "text_lengths" 20, gDef "repeat_lengths" 21, gDef "either_lengths" 22, gDef "switch_lengths" 23, gDef "check_lengths" 24, gDef "pad_lengths" 25,
  gDef "list_lengths" 27, gDef "is_name" 37, gDef "is_row" 38, gDef "copied_list" 39, gDef "copied_item" 40, gDef "copied_choices" 41, gDef "copied_cases" 42, gDef "_law_row" 45, gDef "_law_numbers" 46, gDef "_law_taken" 47, gDef "law" 48, dInit]
def fas : List He.Fa := [.glo "blocks_of", .glo "listed", .glo "is_integer", .glo "require", .glo "amount_bounds", .glo "number_lengths", .glo "bytes_lengths", .glo "text_lengths", .glo "repeat_lengths", .glo "either_lengths", .glo "switch_lengths", .glo "check_lengths", .glo "pad_lengths",
  .glo "list_lengths", .glo "is_name", .glo "is_row", .glo "copied_list", .glo "copied_item", .glo "copied_choices", .glo "copied_cases", .glo "_law_row", .glo "_law_numbers", .glo "_law_taken", .glo "law",
  .glo "Shape", .glo "InvalidShape", .glo "ByteshapeError", .glo "PARTS", .glo "RULES", .glo "WITH_BLOCKS", .glo "MULTIPLES",
  .free "isinstance", .free "int", .free "bool", .free "str", .free "list", .free "tuple", .free "len", .free "all", .free "dict", .free "set", .free "min", .free "max", .free "range", .free "abs", .free "ValueError",
  .int "LONGEST_NAME" 12, .int "LONGEST_LIST" 12, .int "DEEPEST" 3, .int "MOST_ITEMS" 30, .int "GREATEST_BYTE" 255, .int "GREATEST_PAIR" 65535, .int "GREATEST_LENGTH" 64, .int "GREATEST_COUNT" 16, .int "GREATEST_MODULUS" 16,
  .str "LETTERS" letters, .str "DIGITS" digits, .cls "Shape", .noat "Shape" "parts", .noat "Shape" "_rows", .noat "Shape" "names", .noat "Shape" "_least", .noat "Shape" "_greatest", .noat "Shape" "_row_of", .mkr "Shape", .exc "InvalidShape", .exm "InvalidShape" "InvalidShape" true]
def kinds : List (Str × He.Dv) := [("number", .int 6), ("bytes", .int 3), ("text", .int 4), ("repeat", .int 4), ("either", .int 3), ("switch", .int 4), ("check", .int 3), ("pad", .int 4)]
def rules : List (Str × He.Dv) := [("number", .glo "number_lengths"), ("bytes", .glo "bytes_lengths"), ("text", .glo "text_lengths"), ("repeat", .glo "repeat_lengths"), ("either", .glo "either_lengths"), ("switch", .glo "switch_lengths"), ("check", .glo "check_lengths"), ("pad", .glo "pad_lengths")]
def tbs : List He.Tab := [(fun K => He.ga K "PARTS", kinds.map (·.1)), (fun K => He.ga K "RULES", rules.map (·.1))]
def excB (K : PySem.W.Frag) (D : Addr) : Bool :=
  He.eqO (PySem.W.findIn K (.ref D) "__getattribute__") (some (some (.builtin "BaseException.__getattribute__"))) && (He.eqO (PySem.W.findIn K (.ref D) "__getattr__") (some none) && (decide (PySem.W.subIn K (.ref D) (.type "BaseException") = some true) && (PySem.W.hasDictIn K D &&
  (He.eqO (PySem.W.findIn K (.ref D) "__class__") (some (some (.builtin "object.__class__"))) && (He.eqO (PySem.W.specialIn K (.builtin "object.__class__") "__get__") (some (some (.builtin "getset_descriptor.__get__"))) && (decide (PySem.W.takesIn K (.builtin "object.__class__") = some true) && decide (PySem.W.mroIn K D (.type "object") = some true)))))))
def kitB2 (K : PySem.W.Frag) : Bool := decide (PySem.W.kitOne K (.ref (He.ga K "InvalidShape")) (.ref (He.ga K "ByteshapeError")) = some true) && decide (PySem.W.kitOne K (.ref (He.ga K "InvalidShape")) (.type "ValueError") = some true)
def exs (K : PySem.W.Frag) : Bool := He.tupB K "WITH_BLOCKS" [.str "repeat", .str "either", .str "switch"] && (He.tupB K "MULTIPLES" [.int 1, .int 2, .int 4, .int 8, .int 16] && (He.valsB K (He.ga K "PARTS") kinds && (He.valsB K (He.ga K "RULES") rules && (excB K (He.ga K "InvalidShape") && kitB2 K))))
end Bs

set_option Elab.async false
set_option linter.all false
set_option maxRecDepth 100000
set_option maxHeartbeats 4000000
namespace Bs
open PySem L2
/-! ### all defs together -/
section
variable {P : Program} {w : World} {K : PySem.W.Frag} {mg : Str → Option Value} {h base : Heap} {C : Addr}
theorem fun_of {x q : Str} {st : Stmt} {f : Addr} {fd : FuncData} (F : FunD K x q (defArgs st) (defBody st) (defScope st) [] [] f fd) : Fun K x q st f fd := by
  obtain ⟨oc, od, dV, kV, doc, pm, an, cdv, ct, osl, rfl, lk, c, d, _⟩ := F.ex
  have e : dV = .none := d.elim (·.2) (fun z => absurd rfl z.1)
  subst e
  exact ⟨⟨oc, od, kV, doc, pm, an, cdv, ct, osl, rfl, lk, c⟩, F.kp⟩
theorem def_of (c : He.SaysT fas fns tbs w K) (j : Nat) {x : Str} {i : Nat} (e : fns[j]? = some (gDef x i)) : ∃ fd, Fun K x x (top i) (He.ga K x) fd := by
  obtain ⟨fd, F⟩ := c.d.def_ j (d := gDef x i) e
  exact ⟨fd, fun_of F⟩
theorem cal_of (X : K.In h) (G : h.Ns mainGlobals mg) (c : He.SaysT fas fns tbs w K) (j jg : Nat) {x : Str} {i : Nat} (e : fns[j]? = some (gDef x i)) (eg : fas[jg]? = some (.glo x)) {CX : CXT} {k : Nat} {ps : List Str} {sp : Sp}
    (bn : ∀ (f : Addr) (fd : FuncData), Fun K x x (top i) f fd → Binds K fd ps []) (ok : ∀ (f : Addr) (fd : FuncData), Fun K x x (top i) f fd → FnOk P w K mg base CX k f fd ps sp) : Cal P w K mg base CX k x ps sp := by
  obtain ⟨fd, F⟩ := def_of c j e
  exact ⟨_, fd, He.glo_ok X G (c.d.fact jg eg), F.kp, bn _ fd F, ok _ fd F⟩
theorem Cal.mono {CX : CXT} {j k : Nat} {x : Str} {ps : List Str} {sp : Sp} (g : Cal P w K mg base CX j x ps sp) (h : j ≤ k) : Cal P w K mg base CX k x ps sp := by
  obtain ⟨f, fd, h1, h2, h3, h4⟩ := g.ex
  exact ⟨f, fd, h1, h2, h3, h4.mono h⟩
theorem Cal.no {CX : CXT} {j k : Nat} {x : Str} {ps : List Str} {sp sq : Sp} (g : Cal P w K mg base CX j x ps sp) (no : ∀ vs H Q E, ¬ sq vs H Q E) : Cal P w K mg base CX k x ps sq := by
  obtain ⟨f, fd, h1, h2, h3, h4⟩ := g.ex
  exact ⟨f, fd, h1, h2, h3, ⟨fun _ _ _ _ z => (no _ _ _ _ z).elim, fun _ _ _ _ _ _ _ _ _ _ _ _ _ z => (no _ _ _ _ z).elim⟩⟩
theorem shpC (X : K.In h) (G : h.Ns mainGlobals mg) (c : He.SaysT fas fns tbs w K) (ex : exs K = true) : ShpC K mg (He.ga K "InvalidShape") := by
  obtain ⟨h1, h2, h3, h4⟩ := He.exc_ok (c.d.fact 65 (f := .exc "InvalidShape") rfl)
  exact ⟨(He.glo_ok X G (c.d.fact 25 (f := .glo "InvalidShape") rfl)), h2, h1, h3, h4⟩
theorem shapeC (X : K.In h) (G : h.Ns mainGlobals mg) (c : He.SaysT fas fns tbs w K) (ex : exs K = true) : ShapeC K (He.ga K "Shape") := ⟨He.cls_ok (c.d.fact 57 (f := .cls "Shape") rfl), He.noat_ok (c.d.fact 58 (f := .noat "Shape" "parts") rfl), He.noat_ok (c.d.fact 59 (f := .noat "Shape" "_rows") rfl), He.noat_ok (c.d.fact 60 (f := .noat "Shape" "names") rfl), He.noat_ok (c.d.fact 61 (f := .noat "Shape" "_least") rfl), He.noat_ok (c.d.fact 62 (f := .noat "Shape" "_greatest") rfl), He.noat_ok (c.d.fact 63 (f := .noat "Shape" "_row_of") rfl)⟩
theorem ex_all (ex : exs K = true) : He.tupB K "WITH_BLOCKS" [.str "repeat", .str "either", .str "switch"] = true ∧ He.tupB K "MULTIPLES" [.int 1, .int 2, .int 4, .int 8, .int 16] = true ∧ He.valsB K (He.ga K "PARTS") kinds = true ∧ He.valsB K (He.ga K "RULES") rules = true ∧ excB K (He.ga K "InvalidShape") = true ∧ kitB2 K = true := by
  obtain ⟨h1, ex⟩ := He.ba ex
  obtain ⟨h2, ex⟩ := He.ba ex
  obtain ⟨h3, ex⟩ := He.ba ex
  obtain ⟨h4, ex⟩ := He.ba ex
  obtain ⟨h5, h6⟩ := He.ba ex
  exact ⟨h1, h2, h3, h4, h5, h6⟩
theorem excC_of {D : Addr} (e : excB K D = true) : ExcC K D := by
  obtain ⟨h1, e⟩ := He.ba e
  obtain ⟨h2, e⟩ := He.ba e
  obtain ⟨h3, e⟩ := He.ba e
  obtain ⟨h4, e⟩ := He.ba e
  obtain ⟨h5, e⟩ := He.ba e
  obtain ⟨h6, e⟩ := He.ba e
  obtain ⟨h7, h8⟩ := He.ba e
  exact ⟨He.eqO_ok h1, He.eqO_ok h2, of_decide_eq_true h3, h4, He.eqO_ok h5, He.eqO_ok h6, of_decide_eq_true h7, of_decide_eq_true h8⟩
theorem kindsC (X : K.In h) (G : h.Ns mainGlobals mg) (c : He.SaysT fas fns tbs w K) (ex : exs K = true) : Kinds K w mg := by
  obtain ⟨h1, h2, h3, h4, h5, h6⟩ := ex_all ex
  refine ⟨?_, ⟨_, (He.glo_ok X G (c.d.fact 29 (f := .glo "WITH_BLOCKS") rfl)), fun H => He.tupB_ok h1 H⟩⟩
  obtain ⟨es, n, D⟩ := c.tab 0 (t := (fun K => He.ga K "PARTS", kinds.map (·.1))) rfl
  refine ⟨_, es, n, (He.glo_ok X G (c.d.fact 27 (f := .glo "PARTS") rfl)), D, fun x => ?_⟩
  have f : ∀ (z : Str) (i : Int), (z, He.Dv.int i) ∈ kinds → ∃ t, PySem.W.nsIn K (He.ga K "PARTS") z = some (some (.int i t)) := fun z i hz => by
    obtain ⟨u, e, r⟩ := He.valsB_ok h3 hz
    obtain ⟨t, rfl⟩ := (show ∃ t, u = Value.int i t from r)
    exact ⟨t, e⟩
  cases x with
  | num => exact f "number" 6 (.head _)
  | byt => exact f "bytes" 3 (.tail _ (.head _))
  | txt => exact f "text" 4 (.tail _ (.tail _ (.head _)))
  | rep => exact f "repeat" 4 (.tail _ (.tail _ (.tail _ (.head _))))
  | eit => exact f "either" 3 (.tail _ (.tail _ (.tail _ (.tail _ (.head _)))))
  | swi => exact f "switch" 4 (.tail _ (.tail _ (.tail _ (.tail _ (.tail _ (.head _))))))
  | chk => exact f "check" 3 (.tail _ (.tail _ (.tail _ (.tail _ (.tail _ (.tail _ (.head _)))))))
  | pad => exact f "pad" 4 (.tail _ (.tail _ (.tail _ (.tail _ (.tail _ (.tail _ (.tail _ (.head _))))))))
theorem multsC (X : K.In h) (G : h.Ns mainGlobals mg) (c : He.SaysT fas fns tbs w K) (ex : exs K = true) : Mults K mg := ⟨_, (He.glo_ok X G (c.d.fact 30 (f := .glo "MULTIPLES") rfl)), fun H => He.tupB_ok (ex_all ex).2.1 H⟩
theorem cRequire (X : K.In h) (G : h.Ns mainGlobals mg) (c : He.SaysT fas fns tbs w K) (ex : exs K = true) : Cal P w K mg base (L2.CX P w) 1 "require" ["holds", "words"] (spRequire (He.ga K "InvalidShape")) := cal_of X G c 3 3 (i := 16) rfl rfl (fun _ _ F => F.binds fun _ _ _ _ _ _ us hl => match us, hl with | [_, _], _ => rfl) fun _ _ F => ok_require F (shpC X G c ex)
theorem cIsInt (X : K.In h) (G : h.Ns mainGlobals mg) (c : He.SaysT fas fns tbs w K) (ex : exs K = true) : Cal P w K mg base CX0 1 "is_integer" ["value", "low", "high"] spIsInt := cal_of X G c 2 2 (i := 15) rfl rfl (fun _ _ F => F.binds fun _ _ _ _ _ _ us hl => match us, hl with | [_, _, _], _ => rfl) fun _ _ F => ok_isint F (He.free_ok X G (c.d.fact 31 (f := .free "isinstance") rfl)) (He.free_ok X G (c.d.fact 32 (f := .free "int") rfl)) (He.free_ok X G (c.d.fact 33 (f := .free "bool") rfl))
theorem cIsName (X : K.In h) (G : h.Ns mainGlobals mg) (c : He.SaysT fas fns tbs w K) (ex : exs K = true) : Cal P w K mg base CX0 1 "is_name" ["text"] spIsName := cal_of X G c 14 14 (i := 37) rfl rfl (fun _ _ F => F.binds fun _ _ _ _ _ _ us hl => match us, hl with | [_], _ => rfl) fun _ _ F => ok_isname F (He.free_ok X G (c.d.fact 31 (f := .free "isinstance") rfl)) (He.free_ok X G (c.d.fact 34 (f := .free "str") rfl)) (He.free_ok X G (c.d.fact 37 (f := .free "len") rfl)) (He.free_ok X G (c.d.fact 38 (f := .free "all") rfl)) (He.str_ok X G (c.d.fact 55 (f := .str "LETTERS" letters) rfl)) (He.str_ok X G (c.d.fact 56 (f := .str "DIGITS" digits) rfl)) (He.int_ok X G (c.d.fact 46 (f := .int "LONGEST_NAME" 12) rfl))
theorem cIsRow (X : K.In h) (G : h.Ns mainGlobals mg) (c : He.SaysT fas fns tbs w K) (ex : exs K = true) : Cal P w K mg base CX0 1 "is_row" ["rows", "least", "most"] spIsRow := cal_of X G c 15 15 (i := 38) rfl rfl (fun _ _ F => F.binds fun _ _ _ _ _ _ us hl => match us, hl with | [_, _, _], _ => rfl) fun _ _ F => ok_isrow F (He.free_ok X G (c.d.fact 31 (f := .free "isinstance") rfl)) (He.free_ok X G (c.d.fact 37 (f := .free "len") rfl)) (He.free_ok X G (c.d.fact 35 (f := .free "list") rfl)) (He.free_ok X G (c.d.fact 36 (f := .free "tuple") rfl))
theorem cAmount (X : K.In h) (G : h.Ns mainGlobals mg) (c : He.SaysT fas fns tbs w K) (ex : exs K = true) : Cal P w K mg base (L2.CX P w) 2 "amount_bounds" ["amount", "visible", "most"] (spAmount (He.ga K "InvalidShape")) := cal_of X G c 4 4 (i := 17) rfl rfl (fun _ _ F => F.binds fun _ _ _ _ _ _ us hl => match us, hl with | [_, _, _], _ => rfl) fun _ _ F => ok_amount F (cRequire X G c ex) (cIsInt X G c ex) (He.free_ok X G (c.d.fact 31 (f := .free "isinstance") rfl)) (He.free_ok X G (c.d.fact 34 (f := .free "str") rfl))
theorem rulesC (X : K.In h) (G : h.Ns mainGlobals mg) (c : He.SaysT fas fns tbs w K) (ex : exs K = true) {n k : Nat} (hk : 3 ≤ k) (gL : Cal P w K mg base (L2.CX P w) (k - 1) "list_lengths" ["items", "visible"] (spSub (spLensList (He.ga K "InvalidShape")) n)) : Rules P w K mg base (He.ga K "InvalidShape") k n := by
  obtain ⟨h1, h2, h3, h4, h5, h6⟩ := ex_all ex
  obtain ⟨es, nn, D⟩ := c.tab 1 (t := (fun K => He.ga K "RULES", rules.map (·.1))) rfl
  refine ⟨_, es, nn, (He.glo_ok X G (c.d.fact 28 (f := .glo "RULES") rfl)), D, fun x => ?_⟩
  have f : ∀ (z y : Str), (z, He.Dv.glo y) ∈ rules → PySem.W.nsIn K (He.ga K "RULES") z = some (some (.ref (He.ga K y))) := fun z y hz => by
    obtain ⟨u, e, r⟩ := He.valsB_ok h4 hz
    have e2 : u = Value.ref (He.ga K y) := r
    rw [e, e2]
  have g : ∀ (j i : Nat) (y : Str), fns[j]? = some (gDef y i) → (y, x.kind) = (y, x.kind) → (x.kind, He.Dv.glo y) ∈ rules → (∀ (f : Addr) (fd : FuncData), Fun K y y (top i) f fd → Binds K fd ["item", "visible"] []) → (∀ (f : Addr) (fd : FuncData), Fun K y y (top i) f fd → FnOk P w K mg base (L2.CX P w) k f fd ["item", "visible"] (spLens (He.ga K "InvalidShape") x.kind n)) →
      ∃ f fd, PySem.W.nsIn K (He.ga K "RULES") x.kind = some (some (.ref f)) ∧ PySem.W.keepIn K (.ref f) = true ∧ Binds K fd ["item", "visible"] [] ∧ FnOk P w K mg base (L2.CX P w) k f fd ["item", "visible"] (spLens (He.ga K "InvalidShape") x.kind n) := fun j i y e _ hz bn ok => by
    obtain ⟨fd, F⟩ := def_of c j e
    exact ⟨_, fd, f _ _ hz, F.kp, bn _ fd F, ok _ fd F⟩
  obtain ⟨k, rfl⟩ : ∃ m, k = m + 1 := ⟨k - 1, by omega⟩
  rw [Nat.add_sub_cancel] at gL
  have hk2 : 2 ≤ k := by omega
  cases x with
  | num => exact g 5 18 "number_lengths" rfl rfl (.head _) (fun _ _ F => F.binds fun _ _ _ _ _ _ us hl => match us, hl with | [_, _], _ => rfl) fun _ _ F => (ok_number F (cRequire X G c ex) (cIsInt X G c ex) (He.int_ok X G (c.d.fact 50 (f := .int "GREATEST_BYTE" 255) rfl)) (He.int_ok X G (c.d.fact 51 (f := .int "GREATEST_PAIR" 65535) rfl))).mono (by omega)
  | byt => exact g 6 19 "bytes_lengths" rfl rfl (.tail _ (.head _)) (fun _ _ F => F.binds fun _ _ _ _ _ _ us hl => match us, hl with | [_, _], _ => rfl) fun _ _ F => (ok_bytes F (cAmount X G c ex) (He.int_ok X G (c.d.fact 52 (f := .int "GREATEST_LENGTH" 64) rfl))).mono (by omega)
  | txt => exact g 7 20 "text_lengths" rfl rfl (.tail _ (.tail _ (.head _))) (fun _ _ F => F.binds fun _ _ _ _ _ _ us hl => match us, hl with | [_, _], _ => rfl) fun _ _ F => (ok_text F (cRequire X G c ex) (cIsInt X G c ex) (He.int_ok X G (c.d.fact 52 (f := .int "GREATEST_LENGTH" 64) rfl)) (He.int_ok X G (c.d.fact 50 (f := .int "GREATEST_BYTE" 255) rfl))).mono (by omega)
  | rep => exact g 8 21 "repeat_lengths" rfl rfl (.tail _ (.tail _ (.tail _ (.head _)))) (fun _ _ F => F.binds fun _ _ _ _ _ _ us hl => match us, hl with | [_, _], _ => rfl) fun _ _ F => ok_repeat hk2 F (cRequire X G c ex) (cAmount X G c ex) (He.int_ok X G (c.d.fact 53 (f := .int "GREATEST_COUNT" 16) rfl)) gL
  | eit => exact g 9 22 "either_lengths" rfl rfl (.tail _ (.tail _ (.tail _ (.tail _ (.head _))))) (fun _ _ F => F.binds fun _ _ _ _ _ _ us hl => match us, hl with | [_, _], _ => rfl) fun _ _ F => ok_either hk2 F (cRequire X G c ex) (He.free_ok X G (c.d.fact 37 (f := .free "len") rfl)) (He.free_ok X G (c.d.fact 41 (f := .free "min") rfl)) (He.free_ok X G (c.d.fact 42 (f := .free "max") rfl)) gL
  | swi => exact g 10 23 "switch_lengths" rfl rfl (.tail _ (.tail _ (.tail _ (.tail _ (.tail _ (.head _)))))) (fun _ _ F => F.binds fun _ _ _ _ _ _ us hl => match us, hl with | [_, _], _ => rfl) fun _ _ F => ok_switch hk2 F (cRequire X G c ex) (cIsInt X G c ex) (He.int_ok X G (c.d.fact 51 (f := .int "GREATEST_PAIR" 65535) rfl)) (He.free_ok X G (c.d.fact 37 (f := .free "len") rfl)) (He.free_ok X G (c.d.fact 41 (f := .free "min") rfl)) (He.free_ok X G (c.d.fact 42 (f := .free "max") rfl)) (He.free_ok X G (c.d.fact 40 (f := .free "set") rfl)) (He.free_ok X G (c.d.fact 31 (f := .free "isinstance") rfl)) (He.free_ok X G (c.d.fact 34 (f := .free "str") rfl)) gL
  | chk => exact g 11 24 "check_lengths" rfl rfl (.tail _ (.tail _ (.tail _ (.tail _ (.tail _ (.tail _ (.head _))))))) (fun _ _ F => F.binds fun _ _ _ _ _ _ us hl => match us, hl with | [_, _], _ => rfl) fun _ _ F => (ok_check F (cRequire X G c ex) (cIsInt X G c ex) (He.int_ok X G (c.d.fact 54 (f := .int "GREATEST_MODULUS" 16) rfl))).mono (by omega)
  | pad => exact g 12 25 "pad_lengths" rfl rfl (.tail _ (.tail _ (.tail _ (.tail _ (.tail _ (.tail _ (.tail _ (.head _)))))))) (fun _ _ F => F.binds fun _ _ _ _ _ _ us hl => match us, hl with | [_, _], _ => rfl) fun _ _ F => (ok_pad F (cRequire X G c ex) (cIsInt X G c ex) (He.int_ok X G (c.d.fact 50 (f := .int "GREATEST_BYTE" 255) rfl)) (multsC X G c ex)).mono (by omega)
theorem cLens (X : K.In h) (G : h.Ns mainGlobals mg) (c : He.SaysT fas fns tbs w K) (ex : exs K = true) : ∀ n : Nat, Cal P w K mg base (L2.CX P w) (4 + 2 * n) "list_lengths" ["items", "visible"] (spLensList (He.ga K "InvalidShape") n) := by
  have st : ∀ {n k : Nat}, 3 ≤ k → Cal P w K mg base (L2.CX P w) (k - 1) "list_lengths" ["items", "visible"] (spSub (spLensList (He.ga K "InvalidShape")) n) → Cal P w K mg base (L2.CX P w) (k + 1) "list_lengths" ["items", "visible"] (spLensList (He.ga K "InvalidShape") n) := fun hk gL =>
    cal_of X G c 13 13 (i := 27) rfl rfl (fun _ _ F => F.binds fun _ _ _ _ _ _ us hl => match us, hl with | [_, _], _ => rfl) fun _ _ F => ok_listlen F (He.free_ok X G (c.d.fact 39 (f := .free "dict") rfl)) (rulesC X G c ex hk gL)
  intro n
  induction n with
  | zero =>
    exact st (k := 3) (by decide) (cal_of X G c 13 13 (i := 27) rfl rfl (fun _ _ F => F.binds fun _ _ _ _ _ _ us hl => match us, hl with | [_, _], _ => rfl) fun _ _ F => ⟨fun _ _ _ _ z => (show False from z).elim, fun _ _ _ _ _ _ _ _ _ _ _ _ _ z => (show False from z).elim⟩)
  | succ n ih =>
    rw [show 4 + 2 * (n + 1) = 5 + 2 * n + 1 by omega]
    exact st (n := n + 1) (k := 5 + 2 * n) (by omega) (ih.mono (by omega))
theorem cCop (X : K.In h) (G : h.Ns mainGlobals mg) (c : He.SaysT fas fns tbs w K) (ex : exs K = true) : ∀ n : Nat, Cal P w K mg base (L2.CX P w) (3 + 3 * n) "copied_list" ["items", "depth"] (spCopList (He.ga K "InvalidShape") n) ∧ Cal P w K mg base (L2.CX P w) (4 + 3 * n) "copied_choices" ["choices", "depth"] (spCopChoices (He.ga K "InvalidShape") n) ∧ Cal P w K mg base (L2.CX P w) (4 + 3 * n) "copied_cases" ["cases", "depth"] (spCopCases (He.ga K "InvalidShape") n) := by
  have st : ∀ {n k : Nat}, 1 ≤ k → Cal P w K mg base (L2.CX P w) k "copied_list" ["items", "depth"] (spSub (spCopList (He.ga K "InvalidShape")) n) → Cal P w K mg base (L2.CX P w) k "copied_choices" ["choices", "depth"] (spSub (spCopChoices (He.ga K "InvalidShape")) n) → Cal P w K mg base (L2.CX P w) k "copied_cases" ["cases", "depth"] (spSub (spCopCases (He.ga K "InvalidShape")) n) →
      Cal P w K mg base (L2.CX P w) (k + 2) "copied_list" ["items", "depth"] (spCopList (He.ga K "InvalidShape") n) ∧ Cal P w K mg base (L2.CX P w) (k + 3) "copied_choices" ["choices", "depth"] (spCopChoices (He.ga K "InvalidShape") n) ∧ Cal P w K mg base (L2.CX P w) (k + 3) "copied_cases" ["cases", "depth"] (spCopCases (He.ga K "InvalidShape") n) := fun {n k} hk gL gCh gCa => by
    have gI : Cal P w K mg base (L2.CX P w) (k + 1) "copied_item" ["item", "depth"] (spCopItem (He.ga K "InvalidShape") n) := cal_of X G c 17 17 (i := 40) rfl rfl (fun _ _ F => F.binds fun _ _ _ _ _ _ us hl => match us, hl with | [_, _], _ => rfl) fun _ _ F => ok_copitem F hk (kindsC X G c ex) (cRequire X G c ex) (cIsName X G c ex) (He.free_ok X G (c.d.fact 36 (f := .free "tuple") rfl)) (He.free_ok X G (c.d.fact 31 (f := .free "isinstance") rfl)) (He.free_ok X G (c.d.fact 37 (f := .free "len") rfl)) (He.free_ok X G (c.d.fact 34 (f := .free "str") rfl)) (He.int_ok X G (c.d.fact 48 (f := .int "DEEPEST" 3) rfl)) gL gCh gCa
    have gL2 : Cal P w K mg base (L2.CX P w) (k + 2) "copied_list" ["items", "depth"] (spCopList (He.ga K "InvalidShape") n) := cal_of X G c 16 16 (i := 39) rfl rfl (fun _ _ F => F.binds fun _ _ _ _ _ _ us hl => match us, hl with | [_, _], _ => rfl) fun _ _ F => ok_coplist F (by omega) (cRequire X G c ex) (cIsRow X G c ex) (He.int_ok X G (c.d.fact 47 (f := .int "LONGEST_LIST" 12) rfl)) (He.free_ok X G (c.d.fact 36 (f := .free "tuple") rfl)) gI
    exact ⟨gL2, cal_of X G c 18 18 (i := 41) rfl rfl (fun _ _ F => F.binds fun _ _ _ _ _ _ us hl => match us, hl with | [_, _], _ => rfl) fun _ _ F => ok_copchoices F (by omega) (cRequire X G c ex) (cIsRow X G c ex) (He.free_ok X G (c.d.fact 36 (f := .free "tuple") rfl)) gL2,
      cal_of X G c 19 19 (i := 42) rfl rfl (fun _ _ F => F.binds fun _ _ _ _ _ _ us hl => match us, hl with | [_, _], _ => rfl) fun _ _ F => ok_copcases F (by omega) (cRequire X G c ex) (cIsRow X G c ex) (He.free_ok X G (c.d.fact 36 (f := .free "tuple") rfl)) (He.free_ok X G (c.d.fact 31 (f := .free "isinstance") rfl)) (He.free_ok X G (c.d.fact 37 (f := .free "len") rfl)) gL2⟩
  intro n
  induction n with
  | zero =>
    exact st (k := 1) (by decide) (cal_of X G c 16 16 (i := 39) rfl rfl (fun _ _ F => F.binds fun _ _ _ _ _ _ us hl => match us, hl with | [_, _], _ => rfl) fun _ _ F => ⟨fun _ _ _ _ z => (show False from z).elim, fun _ _ _ _ _ _ _ _ _ _ _ _ _ z => (show False from z).elim⟩)
      (cal_of X G c 18 18 (i := 41) rfl rfl (fun _ _ F => F.binds fun _ _ _ _ _ _ us hl => match us, hl with | [_, _], _ => rfl) fun _ _ F => ⟨fun _ _ _ _ z => (show False from z).elim, fun _ _ _ _ _ _ _ _ _ _ _ _ _ z => (show False from z).elim⟩)
      (cal_of X G c 19 19 (i := 42) rfl rfl (fun _ _ F => F.binds fun _ _ _ _ _ _ us hl => match us, hl with | [_, _], _ => rfl) fun _ _ F => ⟨fun _ _ _ _ z => (show False from z).elim, fun _ _ _ _ _ _ _ _ _ _ _ _ _ z => (show False from z).elim⟩)
  | succ n ih =>
    obtain ⟨i1, i2, i3⟩ := ih
    rw [show 3 + 3 * (n + 1) = 4 + 3 * n + 2 by omega, show 4 + 3 * (n + 1) = 4 + 3 * n + 3 by omega]
    exact st (n := n + 1) (k := 4 + 3 * n) (by omega) (i1.mono (by omega)) i2 i3
theorem cListed (X : K.In h) (G : h.Ns mainGlobals mg) (c : He.SaysT fas fns tbs w K) (ex : exs K = true) : ∀ n : Nat, Cal P w K mg base CX0 (2 + n) "listed" ["items", "depth"] (spListed n) := by
  have gB : Cal P w K mg base CX0 1 "blocks_of" ["item"] spBlocks := cal_of X G c 0 0 (i := 6) rfl rfl (fun _ _ F => F.binds fun _ _ _ _ _ _ us hl => match us, hl with | [_], _ => rfl) fun _ _ F => ok_blocks F (He.free_ok X G (c.d.fact 36 (f := .free "tuple") rfl))
  have st : ∀ {n k : Nat}, 1 ≤ k → Cal P w K mg base CX0 k "listed" ["items", "depth"] (spSub spListed n) → Cal P w K mg base CX0 (k + 1) "listed" ["items", "depth"] (spListed n) := fun hk gS =>
    cal_of X G c 1 1 (i := 7) rfl rfl (fun _ _ F => F.binds fun _ _ _ _ _ _ us hl => match us, hl with | [_, _], _ => rfl) fun _ _ F => ok_listed hk F gB gS
  intro n
  induction n with
  | zero => exact st (k := 1) (by decide) (cal_of X G c 1 1 (i := 7) rfl rfl (fun _ _ F => F.binds fun _ _ _ _ _ _ us hl => match us, hl with | [_, _], _ => rfl) fun _ _ F => ⟨fun _ _ _ _ z => (show False from z).elim, fun _ _ _ _ _ _ _ _ _ _ _ _ _ z => (show False from z).elim⟩)
  | succ n ih =>
    rw [show 2 + (n + 1) = 2 + n + 1 by omega]
    exact st (n := n + 1) (k := 2 + n) (by omega) ih
theorem facts (X : K.In h) (G : h.Ns mainGlobals mg) (c : He.SaysT fas fns tbs w K) (ex : exs K = true) {fa : Addr} (hfa : mg ("law" : Str) = some (.ref fa)) : ∃ fd : FuncData, (∀ (s : Shared) (v : Value), BindsTo s fd ⟨[v], []⟩ [("script", v)]) ∧ ∀ base : Heap, K.In base → base.Ns mainGlobals mg → FnOk P w K mg base CX0 16 fa fd ["script"] (spLaw K) := by
  have e := hfa.symm.trans (He.glo_ok X G (c.d.fact 23 (f := .glo "law") rfl))
  cases e
  obtain ⟨fdI, FI⟩ := c.d.def_ 24 (d := dInit) rfl
  have FI := fun_of (st := sInit) FI
  obtain ⟨fd, FD⟩ := c.d.def_ 23 (d := gDef "law" 48) rfl
  have b := FunD.bindsA (ps := ["script"]) FD fun _ _ _ _ _ _ us hl => match us, hl with | [_], _ => rfl
  have F : Fun K "law" "law" sLaw (He.ga K "law") fd := fun_of FD
  obtain ⟨h1, h2, h3, h4, h5, h6⟩ := ex_all ex
  obtain ⟨k1, k2⟩ := He.ba h6
  refine ⟨fd, fun s v => b s [v] rfl, fun base _ _ => ?_⟩
  have gInit : FnOk P w K mg base (L2.CX P w) 13 _ fdI ["self", "items"] (spInit (He.ga K "InvalidShape") (He.ga K "Shape")) := ok_init (k := 12) (by decide) FI (shapeC X G c ex) (cRequire X G c ex) (cCop X G c ex 3).1 ((cListed X G c ex 3).mono (by decide)) ((cLens X G c ex 3).mono (by decide)) (He.free_ok X G (c.d.fact 37 (f := .free "len") rfl)) (He.free_ok X G (c.d.fact 36 (f := .free "tuple") rfl)) (He.free_ok X G (c.d.fact 40 (f := .free "set") rfl)) (He.int_ok X G (c.d.fact 49 (f := .int "MOST_ITEMS" 30) rfl))
  have bI : Binds K fdI ["self", "items"] [] := FI.binds fun _ _ _ _ _ _ us hl => match us, hl with | [_, _], _ => rfl
  have M := He.mkr_ok (c.d.fact 64 (f := .mkr "Shape") rfl)
  have gT : Cal P w K mg base CX0 15 "_law_taken" ["row"] spTaken := cal_of X G c 22 22 (i := 47) rfl rfl (fun _ _ F => F.binds fun _ _ _ _ _ _ us hl => match us, hl with | [_], _ => rfl) fun _ _ F => ok_taken (k := 13) F (shapeC X G c ex) M gInit bI (He.glo_ok X G (c.d.fact 24 (f := .glo "Shape") rfl)) (He.glo_ok X G (c.d.fact 25 (f := .glo "InvalidShape") rfl)) (He.glo_ok X G (c.d.fact 26 (f := .glo "ByteshapeError") rfl)) (excC_of h5) (He.exm_ok (c.d.fact 66 (f := .exm "InvalidShape" "InvalidShape" true) rfl)) (of_decide_eq_true k1) (of_decide_eq_true k2) (He.free_ok X G (c.d.fact 45 (f := .free "ValueError") rfl)) (He.free_ok X G (c.d.fact 31 (f := .free "isinstance") rfl)) (He.free_ok X G (c.d.fact 32 (f := .free "int") rfl)) (He.free_ok X G (c.d.fact 37 (f := .free "len") rfl))
  have gRow : Cal P w K mg base CX0 1 "_law_row" ["cell", "many"] spRow := cal_of X G c 20 20 (i := 45) rfl rfl (fun _ _ F => F.binds fun _ _ _ _ _ _ us hl => match us, hl with | [_, _], _ => rfl) fun _ _ F => ok_lawrow F (He.free_ok X G (c.d.fact 44 (f := .free "abs") rfl)) (He.free_ok X G (c.d.fact 32 (f := .free "int") rfl)) (He.free_ok X G (c.d.fact 43 (f := .free "range") rfl))
  have gN : Cal P w K mg base CX0 2 "_law_numbers" ["script", "many"] (spNums K) := cal_of X G c 21 21 (i := 46) rfl rfl (fun _ _ F => F.binds fun _ _ _ _ _ _ us hl => match us, hl with | [_, _], _ => rfl) fun _ _ F => ok_lawnums (k := 1) (by decide) F gRow (He.free_ok X G (c.d.fact 42 (f := .free "max") rfl)) (He.free_ok X G (c.d.fact 37 (f := .free "len") rfl))
  exact ok_law (k := 15) (by decide) F gN (cIsName X G c ex) gT (He.free_ok X G (c.d.fact 43 (f := .free "range") rfl)) (He.free_ok X G (c.d.fact 32 (f := .free "int") rfl)) (He.free_ok X G (c.d.fact 37 (f := .free "len") rfl)) (He.free_ok X G (c.d.fact 31 (f := .free "isinstance") rfl)) (He.free_ok X G (c.d.fact 33 (f := .free "bool") rfl))
end
theorem walk {l : PySem.W.OpenLaw} {q : Program} {loose : List Str} {XP : (Str → Option Value) → Heap → Prop} {YP : World → Heap → Prop} {d : DefRec} {K : Params → PySem.W.Frag} (hn : l.most = some 63) (hdf : d.params.defaults = [])
    (hY : ∀ (w : World) (h : Heap), YP w h → (K w.params).In h)
    (F : ∀ (w : World) (mg : Str → Option Value) (fa : Addr) (h : Heap), (K w.params).In h → h.Ns mainGlobals mg → mg d.name = some (.ref fa) →
      ∃ fd : FuncData, (∀ (s : Shared) (u : Value), BindsTo s fd ⟨[u], []⟩ [("script", u)]) ∧ ∀ base : Heap, (K w.params).In base → base.Ns mainGlobals mg → FnOk l.prog w (K w.params) mg base CX0 16 fa fd ["script"] (spLaw (K w.params))) :
    PySem.W.WalkO q loose XP YP l.row.toRowW d [] (fun f vs => PySem.call f vs) :=
  L2.walk_of (n := 63) (k := 16) (x := "script") (CX := fun _ => CX0) (sp := fun w => spLaw (K w.params)) hn (by decide) hdf ⟨rfl, by decide, by decide⟩ hY F (fun _ _ a ns hl _ hS => ⟨a, ns, rfl, hS, hl, fun _ => rfl⟩) fun _ _ _ _ _ z => z
end Bs

set_option Elab.async false
set_option linter.all false
set_option maxRecDepth 100000
set_option maxHeartbeats 0
open PySem PySem.W PyProof.Rows
theorem PySem.Challenge.cw_byteshape_k02_names_holds : PySem.Challenge.rw_byteshape_k02_names.Holds := by
  w_on; o_law; k_head; (case hw => w_witness2)
  k_fill
  refine Bs.walk (l := PySem.Challenge.rw_byteshape_k02_names) rfl rfl (fun w h Y => PySem.W.kIn_of Y) ?F
  case F =>
    intro w mg fa h KX G hmg
    refine Bs.facts KX G ?c ?ex hmg
    case c =>
      show He.obsT Bs.fas Bs.fns Bs.tbs _ = He.valT Bs.fns Bs.tbs w
      kernel_rfl
    case ex =>
      kernel_rfl
