import PyProof.Rows.All
import Wide.All
import OpenK.AllK
import Wide.FinOn
import HandS.ForMost
import HandS.Exc
import HandS.ExcOwn
import HandS.TryOnly
import HandS.WordsExc
import HandS.Conv
import HandS.More
import HandS.IsInst
import HandS.FStr
import HandS.Star
import HandS.RaiseMore
import HandS.ExcIs
import HandS.DictComp
import HandS.Zip
import HandS.TupAny
import HandS.CallLocal
import HandS.Flow
import HandS.EndBits
import KE.GoesComp
import KE.GoesRaise
import PySem.Challenge.RW_byteshape_k62_features
import HandS.Walk
import HandS.Strs
import KE.KAssignIn
import HandS.Deep
import KE.GoesNew
import KE.GoesMore
import KE.KDictZip
import HandS.Rev
import HandS.Ends
import HandS.Defaults
import HandS.HeadEnd
import HandS.HeadHook1
import HandS.HeadHook2
import HandS.HeadHook3
set_option Elab.async false
set_option linter.all false
set_option maxRecDepth 100000
set_option maxHeartbeats 4000000
/-! The text by places, the mirror of shapes, the heap's relation to it. -/
namespace Bs
open PySem L2
def top (i : Nat) : Stmt := PySem.Challenge.pw_byteshape_k62_features.main.body.getD i (.Pass ⟨0, 0, 0, 0⟩)
abbrev sBlocksOf : Stmt := top 7
abbrev sListed : Stmt := top 9
abbrev sIsInteger : Stmt := top 18
abbrev sRequire : Stmt := top 19
abbrev sAmount : Stmt := top 20
abbrev sNumber : Stmt := top 21
abbrev sBytes : Stmt := top 22
abbrev sText : Stmt := top 23
abbrev sRepeat : Stmt := top 24
abbrev sEither : Stmt := top 25
abbrev sSwitch : Stmt := top 26
abbrev sCheck : Stmt := top 27
abbrev sPad : Stmt := top 28
abbrev sListLen : Stmt := top 30
abbrev sIsName : Stmt := top 40
abbrev sIsRow : Stmt := top 41
abbrev sCopList : Stmt := top 42
abbrev sCopItem : Stmt := top 43
abbrev sCopChoices : Stmt := top 44
abbrev sCopCases : Stmt := top 45
abbrev sInit : Stmt := inClass (top 46) 0
abbrev sLawRow : Stmt := top 55
abbrev sLawNumbers : Stmt := top 56
abbrev sLawTaken : Stmt := top 47
abbrev sLaw : Stmt := top 48

/-! ### names -/
abbrev letters : Str := "abcdefghijklmnopqrstuvwxyz"
abbrev digits : Str := "0123456789"
def isLetter (c : Nat) : Bool := decide (c ∈ letters.cps.toList)
def isDigit (c : Nat) : Bool := decide (c ∈ digits.cps.toList)
def isSign (c : Nat) : Bool := isLetter c || isDigit c
def nameOk : List Nat → Bool
  | [] => false
  | c :: r => decide (r.length < 12) && (isLetter c && (c :: r).all isSign)
def isName (z : Str) : Bool := nameOk z.cps.toList

/-! ### shapes -/
mutual
inductive It where
  | num (n : Str) (size : Int) (order : Str) (low high : Int)
  | byt (n : Str) (amt : Key)
  | txt (n : Str) (stop most : Int)
  | rep (n : Str) (amt : Key) (body : Its)
  | eit (n : Str) (bs : Blks)
  | swi (n : Str) (tag : Str) (bs : Blks)
  | chk (n : Str) (m : Int)
  | pad (n : Str) (m b : Int)
inductive Its where
  | nil | cons (x : It) (r : Its)
inductive Blks where
  | nil | cons (v : Int) (b : Its) (r : Blks)
end
def It.name : It → Str
  | .num n .. => n | .byt n .. => n | .txt n .. => n | .rep n .. => n | .eit n .. => n | .swi n .. => n | .chk n .. => n | .pad n .. => n
def Its.len : Its → Nat
  | .nil => 0 | .cons _ r => r.len + 1
def Blks.len : Blks → Nat
  | .nil => 0 | .cons _ _ r => r.len + 1
def Blks.vals : Blks → List Int
  | .nil => [] | .cons v _ r => v :: r.vals

/-! ### an item as a value: fz says that all rows are tuples -/
def RowAt (fz : Bool) (H : Hp) (p : Addr) (xs : List V) : Prop := H p = some (.tup xs) ∨ (fz = false ∧ H p = some (.lst xs))
mutual
def It.At (fz : Bool) (H : Hp) : It → V → Prop
  | .num n size order low high, v => ∃ p, v = .ref p ∧ H p = some (.tup [.str "number", .str n, .int size, .str order, .int low, .int high])
  | .byt n amt, v => ∃ p, v = .ref p ∧ H p = some (.tup [.str "bytes", .str n, kV amt])
  | .txt n stop most, v => ∃ p, v = .ref p ∧ H p = some (.tup [.str "text", .str n, .int stop, .int most])
  | .rep n amt b, v => ∃ p q xs, v = .ref p ∧ H p = some (.tup [.str "repeat", .str n, kV amt, .ref q]) ∧ RowAt fz H q xs ∧ b.At fz H xs
  | .eit n bs, v => ∃ p q xs, v = .ref p ∧ H p = some (.tup [.str "either", .str n, .ref q]) ∧ RowAt fz H q xs ∧ bs.AtE fz H xs
  | .swi n tag bs, v => ∃ p q xs, v = .ref p ∧ H p = some (.tup [.str "switch", .str n, .str tag, .ref q]) ∧ RowAt fz H q xs ∧ bs.AtS fz H xs
  | .chk n m, v => ∃ p, v = .ref p ∧ H p = some (.tup [.str "check", .str n, .int m])
  | .pad n m b, v => ∃ p, v = .ref p ∧ H p = some (.tup [.str "pad", .str n, .int m, .int b])
def Its.At (fz : Bool) (H : Hp) : Its → List V → Prop
  | .nil, l => l = []
  | .cons x r, l => ∃ v l', l = v :: l' ∧ x.At fz H v ∧ r.At fz H l'
def Blks.AtE (fz : Bool) (H : Hp) : Blks → List V → Prop
  | .nil, l => l = []
  | .cons _ b r, l => ∃ q xs l', l = .ref q :: l' ∧ RowAt fz H q xs ∧ b.At fz H xs ∧ r.AtE fz H l'
def Blks.AtS (fz : Bool) (H : Hp) : Blks → List V → Prop
  | .nil, l => l = []
  | .cons v b r, l => ∃ p q xs l', l = .ref p :: l' ∧ H p = some (.tup [.int v, .ref q]) ∧ RowAt fz H q xs ∧ b.At fz H xs ∧ r.AtS fz H l'
end
/-- what an item leans on is kept: tuples; where it may have lists, these, too -/
structure Kp (fz : Bool) (H H' : Hp) : Prop where
  t : ∀ b xs, H b = some (.tup xs) → H' b = some (.tup xs)
  l : fz = false → ∀ b xs, H b = some (.lst xs) → H' b = some (.lst xs)
theorem Kp.of {fz : Bool} {H H' : Hp} (s : Same H H') : Kp fz H H' := ⟨fun _ _ h => s _ _ h, fun _ _ _ h => s _ _ h⟩
theorem RowAt.kp {fz : Bool} {H H' : Hp} {p : Addr} {xs : List V} (s : Kp fz H H') (h : RowAt fz H p xs) : RowAt fz H' p xs := h.imp (s.t _ _) fun ⟨a, b⟩ => ⟨a, s.l a _ _ b⟩
theorem RowAt.same {fz : Bool} {H H' : Hp} {p : Addr} {xs : List V} (s : Same H H') (h : RowAt fz H p xs) : RowAt fz H' p xs := h.kp (.of s)
mutual
theorem It.At.kp {fz : Bool} {H H' : Hp} (s : Kp fz H H') : ∀ {x : It} {v : V}, x.At fz H v → x.At fz H' v
  | .num .., _, h => by simp only [It.At] at h ⊢; obtain ⟨p, e, h⟩ := h; exact ⟨p, e, s.t _ _ h⟩
  | .byt .., _, h => by simp only [It.At] at h ⊢; obtain ⟨p, e, h⟩ := h; exact ⟨p, e, s.t _ _ h⟩
  | .txt .., _, h => by simp only [It.At] at h ⊢; obtain ⟨p, e, h⟩ := h; exact ⟨p, e, s.t _ _ h⟩
  | .chk .., _, h => by simp only [It.At] at h ⊢; obtain ⟨p, e, h⟩ := h; exact ⟨p, e, s.t _ _ h⟩
  | .pad .., _, h => by simp only [It.At] at h ⊢; obtain ⟨p, e, h⟩ := h; exact ⟨p, e, s.t _ _ h⟩
  | .rep .., _, h => by simp only [It.At] at h ⊢; obtain ⟨p, q, xs, e, h, r, b⟩ := h; exact ⟨p, q, xs, e, s.t _ _ h, r.kp s, Its.At.kp s b⟩
  | .eit .., _, h => by simp only [It.At] at h ⊢; obtain ⟨p, q, xs, e, h, r, b⟩ := h; exact ⟨p, q, xs, e, s.t _ _ h, r.kp s, Blks.AtE.kp s b⟩
  | .swi .., _, h => by simp only [It.At] at h ⊢; obtain ⟨p, q, xs, e, h, r, b⟩ := h; exact ⟨p, q, xs, e, s.t _ _ h, r.kp s, Blks.AtS.kp s b⟩
theorem Its.At.kp {fz : Bool} {H H' : Hp} (s : Kp fz H H') : ∀ {x : Its} {v : List V}, x.At fz H v → x.At fz H' v
  | .nil, _, h => by simp only [Its.At] at h ⊢; exact h
  | .cons .., _, h => by simp only [Its.At] at h ⊢; obtain ⟨v, l', e, h, r⟩ := h; exact ⟨v, l', e, It.At.kp s h, Its.At.kp s r⟩
theorem Blks.AtE.kp {fz : Bool} {H H' : Hp} (s : Kp fz H H') : ∀ {x : Blks} {v : List V}, x.AtE fz H v → x.AtE fz H' v
  | .nil, _, h => by simp only [Blks.AtE] at h ⊢; exact h
  | .cons .., _, h => by simp only [Blks.AtE] at h ⊢; obtain ⟨q, xs, l', e, a, b, r⟩ := h; exact ⟨q, xs, l', e, a.kp s, Its.At.kp s b, Blks.AtE.kp s r⟩
theorem Blks.AtS.kp {fz : Bool} {H H' : Hp} (s : Kp fz H H') : ∀ {x : Blks} {v : List V}, x.AtS fz H v → x.AtS fz H' v
  | .nil, _, h => by simp only [Blks.AtS] at h ⊢; exact h
  | .cons .., _, h => by simp only [Blks.AtS] at h ⊢; obtain ⟨p, q, xs, l', e, z, a, b, r⟩ := h; exact ⟨p, q, xs, l', e, s.t _ _ z, a.kp s, Its.At.kp s b, Blks.AtS.kp s r⟩
end
theorem It.At.same {fz : Bool} {H H' : Hp} (s : Same H H') {x : It} {v : V} (h : x.At fz H v) : x.At fz H' v := h.kp (.of s)
theorem Its.At.same {fz : Bool} {H H' : Hp} (s : Same H H') {x : Its} {v : List V} (h : x.At fz H v) : x.At fz H' v := h.kp (.of s)
theorem Blks.AtE.same {fz : Bool} {H H' : Hp} (s : Same H H') {x : Blks} {v : List V} (h : x.AtE fz H v) : x.AtE fz H' v := h.kp (.of s)
theorem Blks.AtS.same {fz : Bool} {H H' : Hp} (s : Same H H') {x : Blks} {v : List V} (h : x.AtS fz H v) : x.AtS fz H' v := h.kp (.of s)
/-- a list is written -/
theorem Kp.wr {H : Hp} {D : Addr} {xs : List V} {o : HO} (h : H D = some (.lst xs)) : Kp true H (upd H D o) :=
  ⟨fun b ys e => by rw [upd_ne (ne_of e h (by intro z; cases z))]; exact e, fun z => by cases z⟩
theorem Kp.trans {fz : Bool} {H H1 H2 : Hp} (a : Kp fz H H1) (b : Kp fz H1 H2) : Kp fz H H2 := ⟨fun x y h => b.t _ _ (a.t _ _ h), fun z x y h => b.l z _ _ (a.l z _ _ h)⟩
theorem Its.At.len {fz : Bool} {H : Hp} : ∀ {x : Its} {l : List V}, x.At fz H l → l.length = x.len
  | .nil, _, h => by simp only [Its.At] at h; subst h; rfl
  | .cons _ r, _, h => by simp only [Its.At] at h; obtain ⟨v, l', e, h, b⟩ := h; subst e; simp [Its.len, Its.At.len b]
theorem Blks.AtE.len {fz : Bool} {H : Hp} : ∀ {x : Blks} {l : List V}, x.AtE fz H l → l.length = x.len
  | .nil, _, h => by simp only [Blks.AtE] at h; subst h; rfl
  | .cons _ _ r, _, h => by simp only [Blks.AtE] at h; obtain ⟨q, xs, l', e, a, b, c⟩ := h; subst e; simp [Blks.len, Blks.AtE.len c]
theorem Blks.AtS.len {fz : Bool} {H : Hp} : ∀ {x : Blks} {l : List V}, x.AtS fz H l → l.length = x.len
  | .nil, _, h => by simp only [Blks.AtS] at h; subst h; rfl
  | .cons _ _ r, _, h => by simp only [Blks.AtS] at h; obtain ⟨p, q, xs, l', e, z, a, b, c⟩ := h; subst e; simp [Blks.len, Blks.AtS.len c]

/-! ### what is copied -/
mutual
def It.ok (d : Int) : It → Bool
  | .rep n _ b => isName n && (decide (d ≤ 2) && (decide (b.len ≤ 12) && b.ok (d + 1)))
  | .eit n bs => isName n && (decide (d ≤ 2) && (decide (2 ≤ bs.len ∧ bs.len ≤ 4) && bs.ok (d + 1)))
  | .swi n _ bs => isName n && (decide (d ≤ 2) && (decide (1 ≤ bs.len ∧ bs.len ≤ 8) && bs.ok (d + 1)))
  | x => isName x.name && decide (d ≤ 3)
def Its.ok (d : Int) : Its → Bool
  | .nil => true
  | .cons x r => x.ok d && r.ok d
def Blks.ok (d : Int) : Blks → Bool
  | .nil => true
  | .cons _ b r => (decide (b.len ≤ 12) && b.ok d) && r.ok d
end

/-! ### lengths -/
abbrev Env := Str → Option (Int × Int)
def Env.put (f : Env) (n : Str) (p : Int × Int) : Env := fun y => if y = n then some p else f y
def amount (f : Env) (most : Int) : Key → Option (Int × Int)
  | .inl i => if 0 ≤ i ∧ i ≤ most then some (i, i) else none
  | .inr z => match f z with
    | some p => if p.2 ≤ most then some p else none
    | none => none
def numOk (size : Int) (order : Str) (low high : Int) : Bool :=
  decide (1 ≤ size ∧ size ≤ 2) && (decide (order = "big" ∨ order = "little") && (decide (0 ≤ high ∧ high ≤ (if size = 1 then 255 else 65535)) && decide (0 ≤ low ∧ low ≤ high)))
def spread (r : List (Int × Int)) : Option (Int × Int) := match (r.map (·.1)).min?, (r.map (·.2)).max? with
  | some a, some b => some (a, b)
  | _, _ => none
mutual
def It.lens (f : Env) : It → Option (Int × Int)
  | .num _ size order low high => if numOk size order low high = true then some (size, size) else none
  | .byt _ amt => amount f 64 amt
  | .txt _ stop most => if (0 ≤ stop ∧ stop ≤ 255) ∧ 0 ≤ most ∧ most ≤ 64 then some (1, most + 1) else none
  | .rep _ amt b => match amount f 16 amt, b.lens f with
    | some a, some l => if 1 ≤ l.1 then some (a.1 * l.1, a.2 * l.2) else none
    | _, _ => none
  | .eit _ bs => match bs.lens f with
    | some r => if (r.filter fun p => decide (p.1 = 0)).length ≤ 1 then spread r else none
    | none => none
  | .swi _ tag bs => if (f tag).isSome = true ∧ (∀ v ∈ bs.vals, 0 ≤ v ∧ v ≤ 65535) ∧ bs.vals.Nodup then (match bs.lens f with
    | some r => spread r
    | none => none) else none
  | .chk _ m => if 1 ≤ m ∧ m ≤ 16 then some (1, 1) else none
  | .pad _ m b => if (m = 1 ∨ m = 2 ∨ m = 4 ∨ m = 8 ∨ m = 16) ∧ 0 ≤ b ∧ b ≤ 255 then some (0, m - 1) else none
def Its.lens (f : Env) : Its → Option (Int × Int)
  | .nil => some (0, 0)
  | .cons x r => match x.lens f, r.lens (match x with | .num n _ _ low high => f.put n (low, high) | _ => f) with
    | some a, some b => some (a.1 + b.1, a.2 + b.2)
    | _, _ => none
def Blks.lens (f : Env) : Blks → Option (List (Int × Int))
  | .nil => some []
  | .cons _ b r => match b.lens f, r.lens f with
    | some a, some l => some (a :: l)
    | _, _ => none
end

/-! ### the items in their order -/
mutual
def It.walk (d : Int) : It → List (Int × It)
  | .rep n a b => (d, .rep n a b) :: b.walk (d + 1)
  | .eit n bs => (d, .eit n bs) :: bs.walk (d + 1)
  | .swi n t bs => (d, .swi n t bs) :: bs.walk (d + 1)
  | x => [(d, x)]
def Its.walk (d : Int) : Its → List (Int × It)
  | .nil => []
  | .cons x r => x.walk d ++ r.walk d
def Blks.walk (d : Int) : Blks → List (Int × It)
  | .nil => []
  | .cons _ b r => b.walk d ++ r.walk d
end
def It.isChk : It → Bool
  | .chk .. => true
  | _ => false
def Its.names (x : Its) : List Str := (x.walk 0).map (·.2.name)
def Its.shape (x : Its) : Bool :=
  (decide (x.len ≤ 12) && x.ok 0) && (decide (1 ≤ x.len) && (decide ((x.walk 0).length ≤ 30) && (decide x.names.Nodup && (decide (((x.walk 0).filter (·.2.isChk)).length ≤ 1) && (x.lens fun _ => none).isSome))))
end Bs

set_option Elab.async false
set_option linter.all false
set_option maxRecDepth 100000
set_option maxHeartbeats 4000000
namespace Rj
open PySem PySem.Spec PyProof.Rows L2

/-! ### a list comprehension whose element may raise -/
/-- an exception that a call in the block let out: sI is the state ahead of it, in the block's context Y -/
def Fell (Y : Cx) (E : XK) (u : Value) (s' : Shared) : Prop :=
  ∃ (a : Addr) (B : Heap) (sI : Shared) (pn : List (Addr × Obj)) (σ : L2.St) (H : Hp) (cls : Value) (d : Option Addr), u = .ref a ∧ Inv Y pn σ H sI ∧
    (∀ b o, sI.heap.get? b = some o → b ∉ frs Y.stack → B.get? b = some o) ∧ sI.heap.UpToSlots s'.heap ∧ HandSPX.FlyingZ B Y.stack a (Zc cls d) s'.heap ∧ H a = none ∧ s'.os = sI.os ∧ AllBare s'.gens ∧ E cls d H

theorem fell_of_call {Y : Cx} {pn : List (Addr × Obj)} {σ : L2.St} {H : Hp} {s s' : Shared} {E : XK} {u : Value} (I : Inv Y pn σ H s) (c : L2.CX Y.prog Y.w Y.stack H s E u s') : Fell Y E u s' := by
  obtain ⟨a, B, H', cls, d, eu, fl, hok, ub, na, eo, ag, hE⟩ := c
  obtain ⟨G, gin, gout⟩ := restrict s'.heap fun b => (B.get? b).isSome || decide (b ∈ frs Y.stack)
  have stay : B.StaysIn s'.heap := fl.1
  have ofB : ∀ b o, B.get? b = some o → G.get? b = some o := fun b o e => (gin b (by simp [e])).trans (stay b o e)
  have ofF : ∀ b, b ∈ frs Y.stack → G.get? b = s'.heap.get? b := fun b hb => gin b (by simp [hb])
  have back : ∀ b o, G.get? b = some o → s'.heap.get? b = some o ∧ ((B.get? b).isSome = true ∨ b ∈ frs Y.stack) := fun b o e => by
    by_cases q : ((B.get? b).isSome || decide (b ∈ frs Y.stack)) = true
    · exact ⟨(gin b q).symm.trans e, by simpa using q⟩
    · have z := gout b (by simpa using q)
      rw [z] at e
      cases e
  refine ⟨a, B, ⟨G, s'.gens, s'.drawn, s'.toks, s.os⟩, pn, σ, H', cls, d, eu, ?_, fun b o e hb => ?_, Heap.UpToSlots.of_keeps fun b o e => (back b o e).1, fl, na, eo, ag, hE⟩
  · exact I.call (ch := []) ⟨fun b o e n hb _ => ofB b o (ub.keep b o e n hb), fun b o e n hb _ => (ub.slot b o e hb).imp fun sl q => (ofF b hb).trans q, fun b o e n _ => ub.free b o e n,
      fun b o e _ => (Classical.em (b ∈ frs Y.stack)).elim (fun hb => let ⟨sl, q⟩ := ub.slot b o e hb; ⟨_, (ofF b hb).trans q⟩) (fun hb => let ⟨o', q⟩ := ub.there b o e hb; ⟨o', ofB b o' q⟩), ub.tups, ub.frzs, ub.tbls⟩
      (hok.kept ofB) ag (fun _ z => nomatch z)
  · obtain ⟨e1, h1⟩ := back b o e
    rcases h1 with h1 | h1
    · obtain ⟨o', q⟩ := Option.isSome_iff_exists.mp h1
      have z := stay b o' q
      rw [e1] at z
      cases z
      exact q
    · exact absurd h1 hb

/-- what may leave the block is passed on -/
theorem fell_passes {Y : Cx} {E : XK} : Passes (L2.CX (Y.wish (Fell Y E)).prog (Y.wish (Fell Y E)).w) (Y.wish (Fell Y E)) E := fun _ _ _ _ _ _ I c => fell_of_call I.unwish c

theorem flyingZ_less {B B' h : Heap} {l : List Env} {e : Addr} {Z : Obj → Prop} (x : HandSPX.FlyingZ B l e Z h) (sub : ∀ b o, B'.get? b = some o → B.get? b = some o) : HandSPX.FlyingZ B' l e Z h := by
  obtain ⟨k1, k2, k3, oe, vs, T, oT, ts, t1, t2, t3, t4, t5, t6⟩ := x
  have nn : ∀ b, B.get? b = none → B'.get? b = none := fun b n => by
    cases q : B'.get? b with
    | none => rfl
    | some o => rw [sub b o q] at n; cases n
  exact ⟨fun b o e => k1 b o (sub b o e), nn _ k2, funFrames_none k3 fun L hL => nn L (k3.mem hL).1, oe, vs, T, oT, ts, t1, t2, t3, t4, nn _ t5, t6⟩

theorem heldZ_but {B h h' : Heap} {l : List Env} {e L C : Addr} {Z : Obj → Prop} {m m' : Str → Option Value} (x : HandSPX.HeldZ B l e Z L h) (nB : B.get? C = none) (hn : h.Ns C m) (hn' : h'.Ns C m') (sb : Heap.SameBut C h h') : HandSPX.HeldZ B l e Z L h' := by
  obtain ⟨k1, k2, k3, oe, vs, T, oT, ts, t1, t2, t3, t4, t5, t6, t7, t8, t9⟩ := x
  obtain ⟨oC, es, ep, c1, c2, _⟩ := hn
  have ne1 : e ≠ C := fun z => by rw [z, c1] at t1; cases t1; rw [c2] at t3; cases t3
  have ne2 : T ≠ C := fun z => by rw [z, c1] at t7; cases t7; rw [c2] at t8; cases t8
  exact ⟨fun b o q => (sb.2 b fun z => by rw [z, nB] at q; cases q).trans (k1 b o q), k2, Heap.FunFrames.sameBut sb hn' k3, oe, vs, T, oT, ts, (sb.2 e ne1).trans t1, t2, t3, t4, t5, t6, (sb.2 T ne2).trans t7, t8, t9⟩

theorem UpToSlots.tr {a b c : Heap} (x : a.UpToSlots b) (y : b.UpToSlots c) : a.UpToSlots c := x.trans y

section
variable {X : Cx}
/-- the exception leaves the block and goes on in the def -/
theorem fell_out {Ex : XK} {pn : List (Addr × Obj)} {σ : L2.St} {H3 : Hp} {s3 s' : Shared} {scope : Scope} {ce : Env} {fp : List Addr} {u : Value}
    (hst : X.stack = X.env :: X.outer) (hfr : X.env.frame = some X.env.locals) (cfr : ce.frame = X.env.frame) (cL : ce.locals = s3.heap.objs.size)
    (tk : Takes X fun cls d _ H => Ex cls d H) (I3 : Inv X pn σ H3 s3)
    (f3 : ∀ b ∈ fp, FpOk X pn H3 b ∧ b < s3.heap.objs.size)
    (x : Fell (X.blk s3 H3 scope ce fp) Ex u s') : notedBy (model X.prog X.w) X.A ce (CompFails (model X.prog X.w) X.A X.xe ce) u s' := by
  obtain ⟨a, B, sI, pb, σb, Hb, cls, d, rfl, Ib, nb, up, fl, na, eo, ag, hE⟩ := x
  have fl : HandSPX.FlyingZ B X.stack a (Zc cls d) s'.heap := fl
  have nb : ∀ b o, sI.heap.get? b = some o → b ∉ frs X.stack → B.get? b = some o := nb
  -- the ground without the block's names
  obtain ⟨B', b1, b2⟩ := restrict B fun b => decide (b ≠ ce.locals)
  have sub : ∀ b o, B'.get? b = some o → B.get? b = some o := fun b o e => by
    by_cases q : b = ce.locals
    · have z := b2 b (by simp [q]); rw [z] at e; cases e
    · exact (b1 b (by simp [q])).symm.trans e
  have nBC : B'.get? ce.locals = none := b2 _ (by simp)
  have fl' := flyingZ_less fl sub
  -- back in the def's context, the block's names hidden
  have I7 : Inv X pn σ Hb sI := I3.call' (ch := fp) Ib.os Ib.base Ib.hok Ib.bare fun b hb => ⟨(f3 b hb).1.2.2.2.1, (f3 b hb).1.2.1, (f3 b hb).1.2.2.2.2.1, (f3 b hb).1.2.2.2.2.2⟩
  have nC : Hb ce.locals = none := Ib.free
  have fC : FpOk X pn Hb ce.locals := I3.fpOk (Nat.le_of_eq cL.symm) nC
  obtain ⟨G, g1, g2⟩ := restrict sI.heap fun b => decide (b ≠ ce.locals)
  obtain ⟨h0, h1, h2, h3, h4, h5⟩ := fC
  have I8 : Inv X pn σ Hb { sI with heap := G, toks := sI.toks } := I7.turned (fun b o hb e => (g1 b (by simp [hb])).trans e) h0 h1 h3 h4 h5
  have subG : ∀ b o, G.get? b = some o → b ≠ ce.locals ∧ sI.heap.get? b = some o := fun b o e => by
    by_cases q : b = ce.locals
    · have z := g2 b (by simp [q]); rw [z] at e; cases e
    · exact ⟨q, (g1 b (by simp [q])).symm.trans e⟩
  obtain ⟨m0, hn0, _⟩ := Ib.loc
  have hn0 : sI.heap.Ns ce.locals m0 := hn0
  have frA : X.A.frames = some (X.env :: X.outer) := by rw [I3.ok.frames, hst]
  rw [hst] at fl'
  show wpAny _ _ (noteFrame (.ref a) ce) _ _ s'
  rw [PySem.noteFrame_env _ cfr]
  refine HandSPX.looks_onZ Zc.steady frA hfr fl' fun k1 held1 upk => ?_
  have up1 : sI.heap.UpToSlots k1 := up.trans upk
  have hn1 : k1.Ns ce.locals m0 := hn0.upToSlots up1
  refine ⟨m0, hn1, fun k2 m2 hn2 sb => ?_⟩
  have held2 := heldZ_but held1 nBC hn1 hn2 sb
  obtain ⟨q1, q2, q3, oe, vs, T, oT, ts, t1, t2, t3, t4, t5⟩ := id held2
  unfold PySem.passOn
  refine wpAny_bind (wpAny_field t1 t3 t4 ?_)
  rw [if_neg (show ¬ ((Value.ref T == Value.none) = true) from by simp)]
  have fin : wpAny (model X.prog X.w) X.A (setFlight (.ref a) ce.frame) (fun _ s4 => wpAny (model X.prog X.w) X.A (throw (.ref a) : Sem Value) (fun _ _ => False) X.xe s4) X.xe { s' with heap := k2 } := by
    rw [cfr, hfr]
    refine HandSPX.setFlight_onZ held2 fun k3 held3 up3 => wpAny_throw (tk _ _ ?_)
    refine ⟨a, B', { sI with heap := G, toks := sI.toks }, pn, σ, Hb, cls, d, rfl, I8, fun b o e hb => ?_, fun b o e hnf => ?_, .inr (.inr (by rw [hst]; exact held3)), na, eo, ag, hE⟩
    · obtain ⟨z1, z2⟩ := subG b o e
      exact (b1 b (by simp [z1])).trans (nb b o z2 hb)
    · obtain ⟨z1, z2⟩ := subG b o e
      obtain ⟨sl, e1⟩ := up1 b o z2 hnf
      obtain ⟨sl', e2⟩ := up3 b _ ((sb.2 b z1).trans e1) hnf
      exact ⟨sl', e2⟩
  first
    | exact wpAny_bind (wpAny_pure (wpAny_bind fin))
    | exact wpAny_bind fin
end
section
variable {X : Cx}
/-- the reading of a comprehension whose element may raise what Ex wants -/
theorem lcx_core {Ex : XK} {pins : List (Addr × Obj)} {s : Shared} {σ : L2.St} {H : Hp} {Q : VK} {elt tg iter : Expr} {scope : Scope} {own : List (Str × Nat)} {pos pos' : Pos} {wi : TI} {g : TG} {te : TE} {use : Option (Value → Sem Unit)} {Qf : Value → Shared → Prop}
    (hc : X.calm = true) (hN : X.N.Nodup) (hst : X.stack = X.env :: X.outer) (hfr : X.env.frame = some X.env.locals) (tk : Takes X fun cls d _ H => Ex cls d H) (I : Inv X pins σ H s) (hi : PI X tg iter wi) (ok : BlkOk X.N X.env.scope scope own)
    (hg : ∀ (s : Shared) (H : Hp) (C : Addr) (cl : List (Str × Addr)) (fp : List Addr), PG (X.blk s H scope (compEnvC scope cl C X.env) fp) tg g)
    (he : ∀ (s : Shared) (H : Hp) (C : Addr) (cl : List (Str × Addr)) (fp : List Addr), PE ((X.blk s H scope (compEnvC scope cl C X.env) fp).wish (Fell (X.blk s H scope (compEnvC scope cl C X.env) fp) Ex)) elt te)
    (hs : ∀ x, foldedSetIterable iter X.env x = pure x) (h : tLc wi g tYes te (own.map (·.2)) σ H Q)
    (hRR : ∀ D ce s' m H', Inv X pins σ H' s' → Q (.ref D) H' → s'.heap.Ns ce.locals m → FpOk X pins H' ce.locals → compEnds (model X.prog X.w) X.A X.xe use Qf (.ref D) ce (.ok .next) s') :
    wpAny (model X.prog X.w) X.A (comprehension (.ListComp elt [⟨tg, iter, [], 0⟩] scope pos) scope X.env pos' (newList []) false (eval iter X.env) use) Qf X.xe s := by
  have frees : ∀ y ∈ scope.names, y.2 = .free → ∃ c, X.env.cells.lookup y.1 = some c := fun y hy e => (ok.free y hy e).elim (fun k => I.ok.has _ (.inl k)) fun k => I.ok.has _ (.inr k)
  refine comprehension_at (use := use) rfl hs (closure_ok frees) ok.kind (fun y hy e => (ok.uniq y hy).trans (congrArg some e)) (thn (hi.run pins s σ H _ I h) fun xv s1 hx => thn hx fun itv s2 h2 => ?_)
  obtain ⟨it, fp, tn, J, H2, eit, I2, T, st2, f2, q⟩ := h2
  subst eit
  refine wpAny_newObj_type (newEnv_comp ?_) (Nat.zero_le _)
  generalize hD : s2.heap.objs.size = D
  have freshD : H2 D = none := I2.hok.fresh (Nat.le_of_eq hD)
  obtain ⟨W, ⟨m0, w0⟩, turn⟩ := q D freshD
  generalize hs3 : ({ s2 with heap := s2.heap.push { cls := .type "list", data := .seq ([] : List Value).toArray } } : Shared) = s3
  have e3 : s3.heap = s2.heap.push { cls := .type "list", data := .seq ([] : List Value).toArray } := by rw [← hs3]
  have kept3 : ∀ b o, s2.heap.get? b = some o → s3.heap.get? b = some o := fun b o e => by rw [e3]; exact Heap.get?_push_of_some _ e
  have I3 : Inv X pins σ (upd H2 D (.lst [])) s3 := by
    subst hs3
    exact I2.laid (t' := s2.toks) kept3 (Nat.le_of_eq hD) ⟨Nat.zero_le _, [], 0, .nil, by rw [← hD]; exact Heap.get?_push_size _ rfl⟩
  have lt2 : ∀ b ∈ fp, b < s2.heap.objs.size := fun b hb => let ⟨o, e, _⟩ := T.obj _ _ st2 b hb; Heap.lt_size e
  have f3 : ∀ b ∈ fp, FpOk X pins (upd H2 D (.lst [])) b ∧ b < s3.heap.objs.size := fun b hb =>
    ⟨⟨(upd_ne (by rw [← hD]; exact Nat.ne_of_lt (lt2 b hb))).trans (f2 b hb).1, (f2 b hb).2⟩, by rw [e3, Heap.size_push]; exact Nat.lt_succ_of_lt (lt2 b hb)⟩
  have st3 : tn 0 s3.heap := T.keep _ _ _ st2 fun b _ o e => kept3 b o e
  have I4 := block_start I3 ok hN f3
  have pg := hg s3 (upd H2 D (.lst [])) s3.heap.objs.size (cellsFrom (s3.heap.objs.size + 1) scope.names (cloFrom X.env.cells scope.names [])) fp
  have pe := he s3 (upd H2 D (.lst [])) s3.heap.objs.size (cellsFrom (s3.heap.objs.size + 1) scope.names (cloFrom X.env.cells scope.names [])) fp
  show codeAny _ _ (.compStart (.ListComp elt [⟨tg, iter, [], 0⟩] scope pos) 0 (.ref it) (.ref D) (compEnvC scope (cellsFrom (s3.heap.objs.size + 1) scope.names (cloFrom X.env.cells scope.names [])) s3.heap.objs.size X.env))
    (compEnds (model X.prog X.w) X.A X.xe use Qf (.ref D) (compEnvC scope (cellsFrom (s3.heap.objs.size + 1) scope.names (cloFrom X.env.cells scope.names [])) s3.heap.objs.size X.env)) { s3 with heap := pushCells (s3.heap.push { cls := .type "dict", data := .dict #[] }) scope.names }
  have nfp : ∀ b ∈ fp, (upd H2 D (.lst [])) b = none := fun b hb => (f3 b hb).1.1
  have cfr : (compEnvC scope (cellsFrom (s3.heap.objs.size + 1) scope.names (cloFrom X.env.cells scope.names [])) s3.heap.objs.size X.env).frame = X.env.frame := rfl
  have cL : (compEnvC scope (cellsFrom (s3.heap.objs.size + 1) scope.names (cloFrom X.env.cells scope.names [])) s3.heap.objs.size X.env).locals = s3.heap.objs.size := rfl
  generalize compEnvC scope (cellsFrom (s3.heap.objs.size + 1) scope.names (cloFrom X.env.cells scope.names [])) s3.heap.objs.size X.env = ce at I4 pg pe cfr cL ⊢
  generalize upd H2 D (.lst []) = H3 at I3 I4 pg pe w0 nfp f3
  generalize hs4 : ({ s3 with heap := pushCells (s3.heap.push { cls := .type "dict", data := .dict #[] }) scope.names } : Shared) = s4 at I4 ⊢
  have st4 : tn 0 s4.heap := T.keep _ _ _ st3 fun b _ o e => by subst hs4; exact pushCells_keeps _ _ _ _ (Heap.get?_push_of_some _ e)
  have static : ∀ {σ' : L2.St} {H' : Hp} {s' : Shared}, Inv (X.blk s3 H3 scope ce fp) [] σ' H' s' → (∀ b ∈ fp, H' b = none) → ∀ b ∈ fp, FpOk (X.blk s3 H3 scope ce fp) [] H' b := fun {σ' H' s'} I' n b hb =>
    ⟨n b hb, (I'.ok.exf b hb).1, I'.ok.exfs b hb, .inl hb, fun x c e => (I'.ok.exf b hb).2 x c e, fun p hp => by cases hp⟩
  have loop : codeAny (model X.prog X.w) X.A (.compLoop (.ListComp elt [⟨tg, iter, [], 0⟩] scope pos) 0 (.ref it) (.ref D) ce) (compEnds (model X.prog X.w) X.A X.xe use Qf (.ref D) ce) s4 := by
    refine compLoop_any (fun n s' => ∃ i H', Inv (X.blk s3 H3 scope ce fp) [] (wipe σ (own.map (·.2))) H' s' ∧ tn i s'.heap ∧ (∀ b ∈ fp, H' b = none) ∧ W i n H') ?_ m0 ⟨0, H3, I4, st4, nfp, w0⟩
    rintro n s5 ⟨i, H5, I5, st5, n5, w5⟩
    rcases turn i n H5 w5 with ⟨stop, qq⟩ | ⟨go, Nx, hNx, step⟩
    · refine thnF (T.done (X.blk s3 H3 scope ce fp) rfl rfl rfl hc i [] s5 _ H5 (fun _ _ => False) I5 (static I5 n5) st5 stop) fun r s6 ⟨er, I6⟩ => ?_
      subst er
      have I7 : Inv X pins σ H5 s6 := I3.call' (ch := fp) I6.os I6.base I6.hok I6.bare fun b hb => ⟨(f3 b hb).1.2.2.2.1, (f3 b hb).1.2.1, (f3 b hb).1.2.2.2.2.1, (f3 b hb).1.2.2.2.2.2⟩
      have nC : H5 ce.locals = none := I6.free
      obtain ⟨m, hn, _⟩ := I6.loc
      exact hRR D ce s6 m H5 I7 qq hn (I3.fpOk (Nat.le_of_eq cL.symm) nC)
    · refine thnF (T.item (X.blk s3 H3 scope ce fp) rfl rfl rfl hc i [] s5 _ H5 (fun _ _ => False) I5 (static I5 n5) st5 go) fun r s6 ⟨u, er, h6⟩ => ?_
      subst er
      refine thnF h6 fun _ s7 ⟨x, H7, I7, r7, y7, st7, n7⟩ => ?_
      have I7' := I7.pinned (static I7 n7) (T.obj _ _ st7)
      refine thnF (pg.run _ s7 _ H7 x u _ I7' r7 (step x H7 y7)) fun _ s8 ⟨σ8, H8, I8, hw8, q8⟩ => ?_
      have q8 : te σ8 H8 fun y H4 => ∃ acc, H4 D = some (.lst acc) ∧ acc.length < sizeLine ∧ Nx (upd H4 D (.lst (acc ++ [y]))) := by simpa [tYes] using q8
      have fin : ∀ {s' : Shared} {H' : Hp}, Inv (X.blk s3 H3 scope ce fp) ([] ++ pinsAt fp s7.heap) σ8 H' s' → Nx H' → ∃ m, m < n ∧ ∃ i H', Inv (X.blk s3 H3 scope ce fp) [] (wipe σ (own.map (·.2))) H' s' ∧ tn i s'.heap ∧ (∀ b ∈ fp, H' b = none) ∧ W i m H' := fun {s' H'} I' nx => by
        obtain ⟨m', hm, w'⟩ := hNx H' nx
        have pinned : ∀ b ∈ fp, ∀ o, s7.heap.get? b = some o → s'.heap.get? b = some o ∧ H' b = none := fun b hb o e =>
          let z := I'.pin (b, o) (List.mem_append_right _ (List.mem_append_right _ (mem_pinsAt hb e)))
          ⟨z.1, z.2.1⟩
        have len8 : (wipe σ (own.map (·.2))).length = σ8.length := by rw [← hw8, wipe_length]
        refine ⟨m', hm, i + 1, H', (I'.unpinned (pins := [])).weak len8 (fun j v e => ?_), T.keep _ _ _ st7 fun b hb o e => (pinned b hb o e).1, fun b hb => ?_, w'⟩
        · rw [← hw8] at e
          exact (wipe_some e).1
        · obtain ⟨o, e, _⟩ := T.obj _ _ st7 b hb
          exact (pinned b hb o e).2
      refine wpAny_tests_nil ?_
      simp only [if_true]
      refine wpAny_mono (pe.run _ s8 σ8 H8 _ (I8.wish _) q8) (fun z s10 ⟨yv, H10, I10, r10, acc, hD10, hz10, nx⟩ => ?_) fun u' s' fe => fell_out hst hfr cfr cL tk I3 f3 fe
      exact app_ok (X := X.blk s3 H3 scope ce fp) I10.unwish hD10 hz10 r10 fun s11 I11 => fin I11 nx
  exact codeAny_compStart_list loop (T.self X.A 0 _ _ _ st4 loop)
/-- as a value -/
theorem pe_lcx {Ex : XK} {elt tg iter : Expr} {scope : Scope} {own : List (Str × Nat)} {pos : Pos} {wi : TI} {g : TG} {te : TE} (hst : X.stack = X.env :: X.outer) (hfr : X.env.frame = some X.env.locals) (tk : Takes X fun cls d _ H => Ex cls d H) (hc : X.calm = true) (hN : X.N.Nodup) (hi : PI X tg iter wi) (ok : BlkOk X.N X.env.scope scope own)
    (hg : ∀ (s : Shared) (H : Hp) (C : Addr) (cl : List (Str × Addr)) (fp : List Addr), PG (X.blk s H scope (compEnvC scope cl C X.env) fp) tg g)
    (he : ∀ (s : Shared) (H : Hp) (C : Addr) (cl : List (Str × Addr)) (fp : List Addr), PE ((X.blk s H scope (compEnvC scope cl C X.env) fp).wish (Fell (X.blk s H scope (compEnvC scope cl C X.env) fp) Ex)) elt te)
    (hs : ∀ x, foldedSetIterable iter X.env x = pure x := by intro _; rfl) : PE X (.ListComp elt [⟨tg, iter, [], 0⟩] scope pos) (tLc wi g tYes te (own.map (·.2))) := by
  refine ⟨fun pins s σ H Q I h => ?_⟩
  rw [eval_ListComp]
  refine lcx_core (use := none) hc hN hst hfr tk I hi ok hg he hs h fun D ce s' m H' I' q hn ⟨f0, f1, f2, f3, f4, f5⟩ => ⟨m, hn, fun h2 sb => ?_⟩
  exact ⟨.ref D, H', I'.turned (t' := s'.toks) (fun b o hb e => (sb.2 b hb).trans e) f0 f1 f3 f4 f5, rfl, q⟩
/-- y = [..], y a local -/
theorem ps_setLcx {Ex : XK} {i : Nat} {y : Str} {py : Pos} {elt tg iter : Expr} {scope : Scope} {own : List (Str × Nat)} {pos spos : Pos} {wi : TI} {g : TG} {te : TE} (hst : X.stack = X.env :: X.outer) (hfr : X.env.frame = some X.env.locals) (tk : Takes X fun cls d _ H => Ex cls d H) (hc : X.calm = true) (hN : X.N.Nodup)
    (hy : X.N[i]? = some y) (hyl : X.env.scope.names.lookup y = some .local) (hsw : swapsWith (.ListComp elt [⟨tg, iter, [], 0⟩] scope pos) (some (.Name y py)) spos.line X.env = pure true) (hi : PI X tg iter wi) (ok : BlkOk X.N X.env.scope scope own)
    (hg : ∀ (s : Shared) (H : Hp) (C : Addr) (cl : List (Str × Addr)) (fp : List Addr), PG (X.blk s H scope (compEnvC scope cl C X.env) fp) tg g)
    (he : ∀ (s : Shared) (H : Hp) (C : Addr) (cl : List (Str × Addr)) (fp : List Addr), PE ((X.blk s H scope (compEnvC scope cl C X.env) fp).wish (Fell (X.blk s H scope (compEnvC scope cl C X.env) fp) Ex)) elt te)
    (hs : ∀ x, foldedSetIterable iter X.env x = pure x := by intro _; rfl) : PS X (.Assign [.Name y py] (.ListComp elt [⟨tg, iter, [], 0⟩] scope pos) spos) (tAsg (tLc wi g tYes te (own.map (·.2))) (gName i)) := by
  refine ⟨fun pins s σ H D I h => ?_⟩
  rw [exec_Assign_Name_used _ _ _ _ hsw]
  refine wpAny_bind (wpAny_standAt (wpAny_bind ?_))
  show wpAny _ X.A (do let _ ← comprehension (.ListComp elt [⟨tg, iter, [], 0⟩] scope pos) scope X.env (firstIterPos [⟨tg, iter, [], 0⟩] pos) (newList []) false (eval iter X.env) (some (assign (.Name y py) X.env))) _ _ s
  have h' : tLc wi g tYes te (own.map (·.2)) σ H (fun x H1 => gName i x σ H1 D.nx) := h
  refine wpAny_bind (thn (lcx_core (Qf := fun _ s' => SP X pins D .next s') (use := some (assign (.Name y py) X.env)) hc hN hst hfr tk I hi ok hg he hs h' fun L ce s' m H' I' q hn ⟨f0, f1, f2, f3, f4, f5⟩ => ?_) fun _ s' hq => wpAny_pure (wpAny_pure hq))
  refine wpAny_assign_Name (store_ok2 (v := V.ref L) I' hN hy (.inl hyl) rfl (fun s2 I2 ⟨a, sb, ha⟩ => ?_) (.inr hyl))
  have apart : ce.locals ≠ a := ha.elim (fun z => by rw [z]; exact f1) fun z e => f4 y a z e.symm
  exact ⟨m, hn.sameBut sb apart, fun h3 sb3 => ⟨_, H', I2.turned (t' := s2.toks) (fun b o hb e => (sb3.2 b hb).trans e) f0 f1 f3 f4 f5, q⟩⟩
end
end Rj

set_option Elab.async false
set_option linter.all false
set_option maxRecDepth 100000
set_option maxHeartbeats 4000000
namespace Bs
open PySem L2
abbrev veB : List Value := [.type "ValueError", .type "Exception", .type "BaseException", .type "object"]
/-- the class InvalidShape at C -/
structure ShpC (K : PySem.W.Frag) (mg : Str → Option Value) (C : Addr) : Prop where
  gC : mg "InvalidShape" = some (.ref C)
  kC : PySem.W.keepIn K (.ref C) = true
  xC : PySem.W.excIn K C veB "ValueError.__new__" = true
  bC : PySem.W.subIn K (.ref C) (.type "BaseException") = some true
  tC : PySem.W.typeIn K (.ref C) = some (.type "type")
/-- a module's int -/
def GInt (mg : Str → Option Value) (x : Str) (i : Int) : Prop := ∃ t, mg x = some (.int i t)
def GStr (mg : Str → Option Value) (x : Str) (z : Str) : Prop := ∃ t, mg x = some (.str z t)
theorem pe_gint {X : Cx} {x : Str} {i : Int} {pos : Pos} (h : GInt X.mg x i) (hg : Gl X x) (hd : (x == ("__debug__" : Str)) = false := by decide) : PE X (.Name x pos) (tC (.int i)) := by
  obtain ⟨t, e⟩ := h
  exact pe_glob hg e ⟨t, rfl⟩ hd
theorem pe_gstr {X : Cx} {x : Str} {z : Str} {pos : Pos} (h : GStr X.mg x z) (hg : Gl X x) (hd : (x == ("__debug__" : Str)) = false := by decide) : PE X (.Name x pos) (tC (.str z)) := by
  obtain ⟨t, e⟩ := h
  exact pe_glob hg e ⟨t, rfl⟩ hd
/-- require: nothing, or the error -/
def spRequire (C : Addr) : Sp := fun vs H Q E => ∃ b z, vs = [.bl b, .str z] ∧ (b = true → Q .non H) ∧ (b = false → E (.ref C) none H)
/-- is_integer, of an int -/
def spIsInt : Sp := fun vs H Q _ => ∃ i lo hi : Int, vs = [.int i, .int lo, .int hi] ∧ Q (.bl (decide (lo ≤ i ∧ i ≤ hi))) H
section
variable {P : Program} {w : World} {K : PySem.W.Frag} {mg : Str → Option Value} {base : Heap} {f C : Addr} {fd : FuncData}
theorem scRequire : FnScope ["holds", "words"] ["holds", "words"] (defScope sRequire) := ⟨rfl, rfl, rfl, by decide +kernel, rfl, by decide +kernel, by decide +kernel⟩
theorem ok_require (F : Fun K "require" "require" sRequire f fd) (T : ShpC K mg C) : FnOk P w K mg base (L2.CX P w) 1 f fd ["holds", "words"] (spRequire C) := by
  refine F.okX scRequire (fun vs H Q E h => ?_) (fun cdv A outer s H vs Q E hr h => ?_)
  · obtain ⟨b, z, rfl, _⟩ := h
    rfl
  · obtain ⟨b, z, rfl, q1, q2⟩ := h
    refine ⟨_, pss_one (ps_if (pt_not (pt_val (pv 0))) (pss_one (ps_raise rfl (takes_of rfl rfl rfl rfl) (SkE.pmk_own1 PySem.F.excBase_ValueError T.xC T.gC T.kC (raises_own T.bC T.tC) rfl (pv 1)))) pss_nil), ?_⟩
    refine ⟨_, rfl, _, rfl, ?_⟩
    cases b with
    | true => exact iteF (q1 rfl)
    | false => exact iteT ⟨_, rfl, q2 rfl⟩
theorem scIsInt : FnScope ["value", "low", "high"] ["value", "low", "high"] (defScope sIsInteger) := ⟨rfl, rfl, rfl, by decide +kernel, rfl, by decide +kernel, by decide +kernel⟩
theorem ok_isint (F : Fun K "is_integer" "is_integer" sIsInteger f fd) (mi : mg "isinstance" = none) (mint : mg "int" = none) (mb : mg "bool" = none) : FnOk P w K mg base CX0 1 f fd ["value", "low", "high"] spIsInt := by
  refine F.ok scIsInt (fun vs H Q E h => ?_) (fun cdv A outer s H vs Q E hr h => ?_)
  · obtain ⟨i, lo, hi, rfl, _⟩ := h
    rfl
  · obtain ⟨i, lo, hi, rfl, q⟩ := h
    refine ⟨_, pss_one (ps_ret (pe_and (pe_callB call_isi (by rfl) mi (by decide +kernel) (pa_cons (pv 0) (pa_cons (pe_bltn (v := .ty "int") (by rfl) mint (by decide +kernel) rfl) pa_nil)))
      (pe_and (pe_not (pe_callB call_isi (by rfl) mi (by decide +kernel) (pa_cons (pv 0) (pa_cons (pe_bltn (v := .ty "bool") (by rfl) mb (by decide +kernel) rfl) pa_nil)))) (pe_one (pe_chain op_le op_le (pv 1) (pv 0) (pv 2)))))), ?_⟩
    refine ⟨_, rfl, _, _, _, _, true, rfl, .ty _, .base (.int _), kit_ty (by decide +kernel), _, rfl, iteT ?_⟩
    refine ⟨_, rfl, _, _, _, _, false, rfl, .ty _, .base (.int _), kit_ty (by decide +kernel), _, rfl, _, rfl, iteT ?_⟩
    refine ⟨_, rfl, _, rfl, _, _, rfl, rfl, _, rfl, ?_⟩
    by_cases c : lo ≤ i
    · rw [if_pos (decide_eq_true c)]
      refine ⟨_, rfl, _, _, rfl, rfl, ?_⟩
      show Q (.bl (decide (i ≤ hi))) H
      rw [show decide (i ≤ hi) = decide (lo ≤ i ∧ i ≤ hi) by simp [c]]
      exact q
    · rw [if_neg (by simpa using c)]
      rw [show decide (lo ≤ i ∧ i ≤ hi) = false by simp [c]] at q
      exact q
end
end Bs

set_option Elab.async false
set_option linter.all false
set_option maxRecDepth 100000
set_option maxHeartbeats 4000000
namespace Bs
open PySem L2
def spIsName : Sp := fun vs H Q _ => ∃ z : Str, vs = [.str z] ∧ z.length ≤ sizeLine ∧ ∀ H', Same H H' → Q (.bl (isName z)) H'
/-- is_row of a list or tuple -/
def spIsRow : Sp := fun vs H Q _ => ∃ (p : Addr) (xs : List V) (lo hi : Int), vs = [.ref p, .int lo, .int hi] ∧ RowAt false H p xs ∧ ∀ H', Same H H' → Q (.bl (decide (lo ≤ (xs.length : Int) ∧ (xs.length : Int) ≤ hi))) H'
theorem same_new {H : Hp} {p : Addr} (h : H p = none) (o : HO) : Same H (upd H p o) := fun b u q => by rw [upd_ne (ne_of_none q h)]; exact q
theorem same_set {H H' : Hp} {p : Addr} {o : HO} (s : Same H H') (h : H p = none) : Same H (upd H' p o) := fun b u q => by rw [upd_ne (ne_of_none q h)]; exact s b u q
theorem yes_go {te : TE} {σ : L2.St} {H : Hp} {R : V → Hp → Prop} {N : Hp → Prop} (h : te σ H R) : tYes σ H fun b H3 => if b = true then te σ H3 R else N H3 := by
  show if true = true then te σ H R else N H
  rw [if_pos rfl]
  exact h
theorem sizeLine_big : 16777216 = sizeLine := by decide
theorem le_line {n : Nat} (h : n ≤ 16777216) : n ≤ sizeLine := by rw [← sizeLine_big]; exact h
theorem nameOk_len {l : List Nat} (h : ¬ (1 ≤ l.length ∧ l.length ≤ 12)) : nameOk l = false := by
  cases l with
  | nil => rfl
  | cons c r =>
    have : ¬ r.length < 12 := fun q => h ⟨by simp, q⟩
    rw [nameOk, decide_eq_false this]; rfl
section
variable {P : Program} {w : World} {K : PySem.W.Frag} {mg : Str → Option Value} {base : Heap} {f C : Addr} {fd : FuncData}
theorem scIsName : FnScope ["text", "one"] ["text"] (defScope sIsName) := ⟨rfl, rfl, rfl, by decide +kernel, rfl, by decide +kernel, by decide +kernel⟩
theorem ok_isname (F : Fun K "is_name" "is_name" sIsName f fd) (mi : mg "isinstance" = none) (ms : mg "str" = none) (ml : mg "len" = none) (ma : mg "all" = none) (gL : GStr mg "LETTERS" letters) (gD : GStr mg "DIGITS" digits) (gN : GInt mg "LONGEST_NAME" 12) :
    FnOk P w K mg base CX0 1 f fd ["text"] spIsName := by
  refine F.ok scIsName (fun vs H Q E h => ?_) (fun cdv A outer s H vs Q E hr h => ?_)
  · obtain ⟨z, rfl, _⟩ := h
    rfl
  · obtain ⟨z, rfl, hz, q⟩ := h
    refine ⟨_, pss_cons (ps_if (PW.pt (pw_or (pt_not (pt_val (pe_callB call_isi (by rfl) mi (by decide +kernel) (pa_cons (pv 0) (pa_cons (pe_bltn (v := .ty "str") (by rfl) ms (by decide +kernel) rfl) pa_nil)))))
        (pw_or1 (pt_not (pt_chain op_le op_le pe_int (pe_callB call_len_str (by rfl) ml boot_len (pa_cons (pv 0) pa_nil)) (pe_gint gN rfl)))))) (pss_one (ps_ret pe_bl)) pss_nil)
      (pss_one (ps_ret (pe_and (pe_cmpR op_in_sign (pe_item_str (pv 0) pe_int (fun _ _ => rfl)) (pe_gstr gL rfl) rfl)
        (pe_one (pe_callB (cr_all rfl) (by rfl) ma (by decide +kernel) (pa_cons (pe_lc (own := [("one", 1)]) (g := gName 1) (tt := tYes) rfl scIsName.nd (pi_str (pv 0)) (blkOk_by (own := [("one", 1)]) (N := ["text", "one"]) (sc := defScope sIsName) (by decide +kernel))
          (fun _ _ _ _ _ => pg_name (i := 1) scIsName.nd rfl (Or.inl rfl)) (fun _ _ _ _ _ => pts_nil)
          (fun _ _ _ _ _ => pe_or (pe_cmpR op_in_sign (pv 1) (pe_gstr gL rfl) rfl) (pe_one (pe_cmpR op_in_sign (pv 1) (pe_gstr gD rfl) rfl)))) pa_nil)))))), ?_⟩
    refine ⟨_, rfl, _, _, _, _, true, rfl, .ty _, .base (.str _), kit_ty (by decide +kernel), _, rfl, ?_⟩
    refine iteF ?_
    refine ⟨_, rfl, z, rfl, hz, _, _, rfl, rfl, _, rfl, ?_⟩
    have hl : z.length = z.cps.toList.length := by simp [Str.length]
    have bad : ¬ (1 ≤ (z.length : Int) ∧ (z.length : Int) ≤ 12) → isName z = false := fun h => nameOk_len fun ⟨h1, h2⟩ => h (by rw [hl]; omega)
    have out : isName z = false → Q (.bl false) H := fun e => by have z := q H (Same.refl H); rw [e] at z; exact z
    refine ite2 (fun c => ?_) (fun c => ?_)
    · have c : 1 ≤ (z.length : Int) := of_decide_eq_true c
      refine ⟨_, _, rfl, rfl, _, rfl, ?_⟩
      refine ite2 (fun d => ?_) (fun d => ?_)
      · have d : ¬ (z.length : Int) ≤ 12 := by simpa using d
        exact out (bad fun h => d h.2)
      · have d : (z.length : Int) ≤ 12 := by simpa using d
        obtain ⟨a, r, hzr⟩ : ∃ a r, z.cps.toList = a :: r := by
          cases e : z.cps.toList with
          | nil => rw [hl, e] at c; simp at c
          | cons a r => exact ⟨a, r, rfl⟩
        have h0 : z.cps[0]? = some a := by rw [← Array.getElem?_toList, hzr]; rfl
        have hr12 : r.length < 12 := by rw [hl, hzr] at d; simp at d; omega
        have hN : isName z = (isLetter a && (a :: r).all isSign) := by
          show nameOk z.cps.toList = _
          rw [hzr, nameOk, decide_eq_true hr12]; rfl
        refine ⟨_, rfl, z, 0, a, rfl, rfl, by decide, by decide, by omega, h0, a, letters, rfl, rfl, _, rfl, ?_⟩
        refine ite2 (fun e => ?_) (fun e => ?_)
        · have e : isLetter a = true := e
          refine ⟨_, rfl, z, rfl, fun D hD => lc_it (walk_str (z := z)) (fun i H' => Same H H' ∧ H' D = some (.lst ((((a :: r).take i).map isSign).map V.bl))) ⟨same_new hD _, upd_same⟩ (fun _ _ _ _ => trivial) ?_ ?_⟩
          · rintro i x H1 H2 hi ⟨sm, hD1⟩ ⟨rfl, ch, hch, rfl⟩
            have hch' : (a :: r)[i]? = some ch := by rw [← hzr, Array.getElem?_toList]; exact hch
            have step : (a :: r).take (i + 1) = (a :: r).take i ++ [ch] := by rw [List.take_add_one, hch']; rfl
            have fin : ∀ b, b = isSign ch → Same H (upd H2 D (.lst ((((a :: r).take i).map isSign).map V.bl ++ [V.bl b]))) ∧ (upd H2 D (.lst ((((a :: r).take i).map isSign).map V.bl ++ [V.bl b]))) D = some (.lst ((((a :: r).take (i + 1)).map isSign).map V.bl)) := fun b eb => by
              refine ⟨same_set sm hD, ?_⟩
              rw [upd_same, step, eb, List.map_append, List.map_append]
              rfl
            have size : ((((a :: r).take i).map isSign).map V.bl).length < sizeLine := small1000 (by rw [List.length_map, List.length_map, List.length_take]; simp; omega)
            refine ⟨rfl, yes_go ?_⟩
            refine ⟨_, rfl, ch, letters, rfl, rfl, _, rfl, ?_⟩
            refine ite2 (fun g => ?_) (fun g => ?_)
            · exact ⟨_, hD1, size, fin true (by have g : isLetter ch = true := g; rw [isSign, g]; rfl)⟩
            · refine ⟨_, rfl, ch, digits, rfl, rfl, _, hD1, size, fin _ ?_⟩
              have g : isLetter ch = false := by simpa [isLetter] using g
              rw [isSign, g]; rfl
          · rintro H1 ⟨sm, hD1⟩
            have hn : z.cps.size = (a :: r).length := by rw [← hzr]; simp
            rw [hn, List.take_length] at hD1
            refine ⟨D, _, rfl, SqL.of hD1, ?_⟩
            have k := q H1 sm
            rw [hN, e] at k
            rw [List.all_map]
            exact k
        · have e : isLetter a = false := by simpa [isLetter] using e
          exact out (by rw [hN, e]; rfl)
    · have c : ¬ 1 ≤ (z.length : Int) := by simpa using c
      exact ⟨false, rfl, iteT (out (bad fun h => c h.1))⟩
theorem scIsRow : FnScope ["rows", "least", "most"] ["rows", "least", "most"] (defScope sIsRow) := ⟨rfl, rfl, rfl, by decide +kernel, rfl, by decide +kernel, by decide +kernel⟩
theorem ok_isrow (F : Fun K "is_row" "is_row" sIsRow f fd) (mi : mg "isinstance" = none) (ml : mg "len" = none) (mlist : mg "list" = none) (mtup : mg "tuple" = none) :
    FnOk P w K mg base CX0 1 f fd ["rows", "least", "most"] spIsRow := by
  refine F.ok scIsRow (fun vs H Q E h => ?_) (fun cdv A outer s H vs Q E hr h => ?_)
  · obtain ⟨p, xs, lo, hi, rfl, _⟩ := h
    rfl
  · obtain ⟨p, xs, lo, hi, rfl, hp, q⟩ := h
    refine ⟨_, pss_one (ps_ret (pe_and (pe_callB call_isiT (by rfl) mi (by decide +kernel) (pa_cons (pv 0) (pa_cons (pe_tup (pa_cons (pe_bltn (v := .ty "list") (by rfl) mlist (by decide +kernel) rfl) (pa_cons (pe_bltn (v := .ty "tuple") (by rfl) mtup (by decide +kernel) rfl) pa_nil))) pa_nil)))
      (pe_one (pe_chain op_le op_le (pv 1) (pe_callB call_len (by rfl) ml boot_len (pa_cons (pv 0) pa_nil)) (pv 2))))), ?_⟩
    refine ⟨_, rfl, (by show 2 ≤ sizeLine; decide), fun t ht => ?_⟩
    have s0 := same_new ht (.tup [.ty "list", .ty "tuple"])
    have h2 : RowAt false (upd H t (.tup [.ty "list", .ty "tuple"])) p xs := hp.same s0
    have cl : Paired ClsV [V.ty "list", V.ty "tuple"] [Value.type "list", Value.type "tuple"] := .cons (.ty _) (.cons (.ty _) .nil)
    obtain ⟨ty, hty, hk, hl⟩ : ∃ ty, TyX K (upd H t (.tup [.ty "list", .ty "tuple"])) (.ref p) ty ∧ PySem.W.kitAny K ty [Value.type "list", Value.type "tuple"] = some true ∧ LenV K (.ref p) (upd H t (.tup [.ty "list", .ty "tuple"])) xs.length := by
      rcases h2 with h2 | ⟨_, h2⟩
      · exact ⟨_, .base (.tup h2), kitAny_cons (kit_ty (b := "list") (r := false) (by decide +kernel)) (fun _ => kitAny_cons (kit_ty (r := true) (by decide +kernel)) (fun z => by cases z) (fun _ => rfl)) (fun z => by cases z), .inr ⟨_, SqT.of h2, rfl⟩⟩
      · exact ⟨_, .base (.lst h2), kitAny_cons (kit_ty (r := true) (by decide +kernel)) (fun z => by cases z) (fun _ => rfl), .inl ⟨_, SqL.of h2, rfl⟩⟩
    have z := q _ s0
    refine ⟨_, t, _, ty, _, true, rfl, upd_same, cl, hty, hk, _, rfl, iteT ?_⟩
    refine ⟨_, rfl, _, rfl, V.ref p, xs.length, rfl, hl, _, _, rfl, rfl, _, rfl, ite2 (fun c => ?_) (fun c => ?_)⟩
    · have c : lo ≤ (xs.length : Int) := of_decide_eq_true c
      refine ⟨_, rfl, _, _, rfl, rfl, ?_⟩
      show Q (.bl (decide ((xs.length : Int) ≤ hi))) _
      rw [show decide ((xs.length : Int) ≤ hi) = decide (lo ≤ (xs.length : Int) ∧ (xs.length : Int) ≤ hi) by simp [c]]
      exact z
    · have c : ¬ lo ≤ (xs.length : Int) := by simpa using c
      rw [show decide (lo ≤ (xs.length : Int) ∧ (xs.length : Int) ≤ hi) = false by simp [c]] at z
      exact z
end
end Bs

set_option Elab.async false
set_option linter.all false
set_option maxRecDepth 100000
set_option maxHeartbeats 4000000
namespace Bs
open PySem L2
/-! ### calls in short -/
structure Cal (P : Program) (w : World) (K : PySem.W.Frag) (mg : Str → Option Value) (base : Heap) (CX : CXT) (k : Nat) (x : Str) (ps : List Str) (sp : Sp) : Prop where
  ex : ∃ (f : Addr) (fd : FuncData), mg x = some (.ref f) ∧ PySem.W.keepIn K (.ref f) = true ∧ Binds K fd ps [] ∧ FnOk P w K mg base CX k f fd ps sp
def tCl (sp : Sp) (E : XK) (t : TA) : TE := fun σ H Q => t σ H fun vs H1 => sp vs H1 Q E
theorem tCall_nil {sp : Sp} {E : XK} {t : TA} : tCall sp [] E t = tCl sp E t := by
  funext σ H Q
  show t σ H (fun vs H1 => sp (vs ++ []) H1 Q E) = _
  congr
  funext vs H1
  rw [List.append_nil]
/-- x(e, ..), x a def of the text -/
theorem pe_cal {X : Cx} {CX : CXT} {k : Nat} {x : Str} {ps : List Str} {sp : Sp} {E : XK} {e : Expr} {es : List Expr} {t : TA} {p pos : Pos} (G : Cal X.prog X.w X.K X.mg X.base CX k x ps sp) (hr : Room k X.A) (hx : Passes CX X E) (ha : PA X (e :: es) t) (hg : Gl X x := by rfl)
    (hdb : (x == ("__debug__" : Str)) = false := by decide) (he : starEach (e :: es) X.env = (false, eval e X.env) :: starEach es X.env := by rfl) (hpl : (backTo pos (starEach es X.env)).any (·.1) = false := by rfl) :
    PE X (.Call (.Name x p) (e :: es) [] pos) (tCl sp E t) := by
  obtain ⟨f, fd, h1, h2, h3, h4⟩ := G.ex
  rw [← tCall_nil]
  exact pe_call h4 hr hg h1 h2 h3 .nil hx ha hdb he hpl
/-- x in a list or a tuple -/
def RowR (K : PySem.W.Frag) (a : Addr) (R : L2.It → Hp → Prop) (H : Hp) : Prop := ((∃ xs, SqL K H a xs) ∧ R (Itl K a) H) ∨ ((∃ xs, SqT K H a xs) ∧ R (Itt K a) H)
def iRow (K : PySem.W.Frag) (tl : TE) : TI := fun σ H R => tl σ H fun x H1 => ∃ a, x = .ref a ∧ RowR K a R H1
theorem pi_row {X : Cx} {tg l : Expr} {tl : TE} (hl : PE X l tl) : PI X tg l (iRow X.K tl) := by
  refine ⟨fun pins s σ H R I h => thn (hl.run pins s σ H _ I h) fun v s1 ⟨x, H1, I1, r1, a, ex, q1⟩ => ?_⟩
  subst ex
  cases r1
  rcases q1 with ⟨⟨xs, hq⟩, q⟩ | ⟨⟨xs, hq⟩, q⟩
  · obtain ⟨its, rv, p, hz⟩ := I1.list hq
    exact wpAny_pyIter_list p.isList (pi_one (tk := s1.toks) I1 _ (turn_list a _) ⟨_, Heap.get?_push_size _ rfl, rfl, rfl⟩ q)
  · obtain ⟨its, rv, p, hz⟩ := I1.tuple hq
    exact PySem.wpAny_pyIter_tuple (show s1.heap.IsTuple a its.toArray from p) (pi_one (tk := s1.toks) I1 _ (turn_tuple a _) ⟨_, Heap.get?_push_size _ rfl, rfl, rfl⟩ q)
theorem row_go {K : PySem.W.Frag} {H : Hp} {p : Addr} {xs : List V} {R : L2.It → Hp → Prop} (hp : RowAt false H p xs) (h : ∀ J, Walk J xs.length (fun H' => Same H H') (YAt xs) → R J H) : RowR K p R H := by
  rcases hp with hp | ⟨_, hp⟩
  · exact .inr ⟨⟨xs, SqT.of hp⟩, h _ (walk_tup.mono (fun H' s => SqT.of (s _ _ hp)) fun _ _ _ _ _ _ y => y)⟩
  · exact .inl ⟨⟨xs, SqL.of hp⟩, h _ (walk_list.mono (fun H' s => SqL.of (s _ _ hp)) fun _ _ _ _ _ _ y => y)⟩
theorem row_go2 {K : PySem.W.Frag} {H0 H : Hp} {p : Addr} {xs : List V} {R : L2.It → Hp → Prop} (hp : RowAt false H0 p xs) (s0 : Same H0 H) (h : ∀ J, Walk J xs.length (fun H' => Same H0 H') (YAt xs) → R J H) : RowR K p R H := by
  rcases hp with hp | ⟨_, hp⟩
  · exact .inr ⟨⟨xs, SqT.of (s0 _ _ hp)⟩, h _ (walk_tup.mono (fun H' s => SqT.of (s _ _ hp)) fun _ _ _ _ _ _ y => y)⟩
  · exact .inl ⟨⟨xs, SqL.of (s0 _ _ hp)⟩, h _ (walk_list.mono (fun H' s => SqL.of (s _ _ hp)) fun _ _ _ _ _ _ y => y)⟩

/-! ### what is small enough: names; amounts are numbers -/
mutual
def It.tame : It → Prop
  | .byt n amt => n.length ≤ 1000 ∧ ∀ z, amt = .inr z → z.length ≤ 1000 ∧ (reprText z).length ≤ 1000
  | .rep n amt b => n.length ≤ 1000 ∧ (∀ z, amt = .inr z → z.length ≤ 1000 ∧ (reprText z).length ≤ 1000) ∧ b.tame
  | .eit n bs => n.length ≤ 1000 ∧ bs.tame
  | .swi n _ bs => n.length ≤ 1000 ∧ bs.vals.Nodup ∧ bs.tame
  | x => x.name.length ≤ 1000
def Its.tame : Its → Prop
  | .nil => True
  | .cons x r => x.tame ∧ r.tame
def Blks.tame : Blks → Prop
  | .nil => True
  | .cons _ b r => b.tame ∧ r.tame
end
theorem It.tame_name : ∀ {x : It}, x.tame → x.name.length ≤ 1000
  | .num .., h => by simpa only [It.tame] using h
  | .byt .., h => by simp only [It.tame] at h; exact h.1
  | .txt .., h => by simpa only [It.tame] using h
  | .rep .., h => by simp only [It.tame] at h; exact h.1
  | .eit .., h => by simp only [It.tame] at h; exact h.1
  | .swi .., h => by simp only [It.tame] at h; exact h.1
  | .chk .., h => by simpa only [It.tame] using h
  | .pad .., h => by simpa only [It.tame] using h
theorem At_get {fz : Bool} {H : Hp} : ∀ {x : Its} {l : List V} {i : Nat} {v : V}, x.At fz H l → l[i]? = some v → ∃ y : It, y.At fz H v ∧ (x.tame → y.tame) ∧ (∀ d, x.ok d = true → y.ok d = true)
  | .nil, l, i, v, h, e => by simp only [Its.At] at h; subst h; simp at e
  | .cons y r, l, i, v, h, e => by
    simp only [Its.At] at h
    obtain ⟨v0, l', rfl, h1, h2⟩ := h
    cases i with
    | zero =>
      simp at e
      subst e
      exact ⟨y, h1, fun t => by simp only [Its.tame] at t; exact t.1, fun d t => by simp only [Its.ok, Bool.and_eq_true] at t; exact t.1⟩
    | succ i =>
      obtain ⟨z, a, b, c⟩ := At_get (i := i) h2 (by simpa using e)
      exact ⟨z, a, fun t => b (by simp only [Its.tame] at t; exact t.2), fun d t => c d (by simp only [Its.ok, Bool.and_eq_true] at t; exact t.2)⟩
/-- the first i items, the rest -/
def Its.take : Nat → Its → Its
  | 0, _ => .nil
  | _ + 1, .nil => .nil
  | i + 1, .cons x r => .cons x (r.take i)
def Its.get : Its → Nat → Option It
  | .nil, _ => none
  | .cons x _, 0 => some x
  | .cons _ r, i + 1 => r.get i
theorem At_item {fz : Bool} {H : Hp} : ∀ {x : Its} {l : List V} {i : Nat} {v : V}, x.At fz H l → l[i]? = some v → ∃ y, x.get i = some y ∧ y.At fz H v
  | .nil, l, i, v, h, e => by simp only [Its.At] at h; subst h; simp at e
  | .cons y r, l, i, v, h, e => by
    simp only [Its.At] at h
    obtain ⟨v0, l', rfl, h1, h2⟩ := h
    cases i with
    | zero => simp at e; subst e; exact ⟨y, rfl, h1⟩
    | succ i => exact At_item (i := i) h2 (by simpa using e)
theorem get_tame : ∀ {x : Its} {i : Nat} {y : It}, x.tame → x.get i = some y → y.tame
  | .nil, _, _, _, e => by simp [Its.get] at e
  | .cons x r, 0, y, t, e => by simp [Its.get] at e; subst e; simp only [Its.tame] at t; exact t.1
  | .cons x r, i + 1, y, t, e => by simp only [Its.tame] at t; exact get_tame t.2 e
theorem get_ok : ∀ {x : Its} {i : Nat} {y : It} {d : Int}, x.get i = some y → y.ok d = false → x.ok d = false
  | .nil, _, _, _, e, _ => by simp [Its.get] at e
  | .cons x r, 0, y, d, e, f => by simp [Its.get] at e; subst e; simp [Its.ok, f]
  | .cons x r, i + 1, y, d, e, f => by simp [Its.ok, get_ok (x := r) e f]
theorem take_at {fz : Bool} {H H' : Hp} (s : Same H H') : ∀ {x : Its} {i : Nat} {l : List V} {y : It} {v : V}, (x.take i).At fz H l → x.get i = some y → y.At fz H' v → (x.take (i + 1)).At fz H' (l ++ [v])
  | .nil, _, _, _, _, _, e, _ => by simp [Its.get] at e
  | .cons x r, 0, l, y, v, h, e, g => by
    simp only [Its.take, Its.At] at h
    simp [Its.get] at e
    subst h e
    simp only [Its.take, Its.At]
    exact ⟨v, [], rfl, g, by simp [Its.At]⟩
  | .cons x r, i + 1, l, y, v, h, e, g => by
    simp only [Its.take, Its.At] at h
    obtain ⟨v0, l', rfl, h1, h2⟩ := h
    show (Its.cons x (r.take (i + 1))).At fz H' (v0 :: l' ++ [v])
    simp only [Its.At]
    exact ⟨v0, l' ++ [v], rfl, h1.same s, take_at s h2 e g⟩
theorem get_lt : ∀ {x : Its} {i : Nat} {y : It}, x.get i = some y → i < x.len
  | .nil, _, _, e => by simp [Its.get] at e
  | .cons x r, 0, _, _ => by simp [Its.len]
  | .cons x r, i + 1, _, e => by simp [Its.len]; exact get_lt (x := r) e
theorem take_all : ∀ (x : Its), x.take x.len = x
  | .nil => rfl
  | .cons x r => by simp [Its.len, Its.take, take_all r]
theorem all_ok : ∀ {x : Its} {d : Int}, (∀ i y, x.get i = some y → y.ok d = true) → x.ok d = true
  | .nil, _, _ => by simp [Its.ok]
  | .cons x r, d, h => by simp [Its.ok, h 0 x rfl, all_ok (x := r) fun i y e => h (i + 1) y e]

/-! ### the copies -/
def spCopItem (C : Addr) (n : Nat) : Sp := fun vs H Q E => ∃ (v : V) (x : It) (d : Int), vs = [v, .int d] ∧ d + n = 3 ∧ x.At false H v ∧ x.tame ∧
  (x.ok d = true → ∀ v' H', Same H H' → x.At true H' v' → Q v' H') ∧ (x.ok d = false → ∀ H', Same H H' → E (.ref C) none H')
def spCopList (C : Addr) (n : Nat) : Sp := fun vs H Q E => ∃ (a : Addr) (x : Its) (xs : List V) (d : Int), vs = [.ref a, .int d] ∧ d + n = 3 ∧ RowAt false H a xs ∧ x.At false H xs ∧ x.tame ∧
  ((decide (x.len ≤ 12) && x.ok d) = true → ∀ p ys H', Same H H' → H' p = some (.tup ys) → x.At true H' ys → Q (.ref p) H') ∧ ((decide (x.len ≤ 12) && x.ok d) = false → ∀ H', Same H H' → E (.ref C) none H')
section
variable {P : Program} {w : World} {K : PySem.W.Frag} {mg : Str → Option Value} {base : Heap} {f C : Addr} {fd : FuncData}
theorem scCopList : FnScope ["items", "depth", "item"] ["items", "depth"] (defScope sCopList) := ⟨rfl, rfl, rfl, by decide +kernel, rfl, by decide +kernel, by decide +kernel⟩
theorem ok_coplist {n k : Nat} (F : Fun K "copied_list" "copied_list" sCopList f fd) (hk : 2 ≤ k) (gR : Cal P w K mg base (L2.CX P w) 1 "require" ["holds", "words"] (spRequire C)) (gI : Cal P w K mg base CX0 1 "is_row" ["rows", "least", "most"] spIsRow) (gL : GInt mg "LONGEST_LIST" 12)
    (mt : mg "tuple" = none) (gC : Cal P w K mg base (L2.CX P w) k "copied_item" ["item", "depth"] (spCopItem C n)) : FnOk P w K mg base (L2.CX P w) (k + 1) f fd ["items", "depth"] (spCopList C n) := by
  refine F.okX scCopList (fun vs H Q E h => ?_) (fun cdv A outer s H vs Q E hr h => ?_)
  · obtain ⟨a, x, xs, d, rfl, _⟩ := h
    rfl
  · obtain ⟨a, x, xs, d, rfl, hd, hrow, hat, ht, q1, q2⟩ := h
    have hr1 : Room 1 _ := hr.mono (by omega)
    have tk : Takes (cxOf (L2.CX P w) P w K mg base ["items", "depth", "item"] "copied_list" (defScope sCopList) f cdv A outer s H E) (fun cls d _ H => E cls d H) := takes_of rfl rfl rfl rfl
    have hx := passes_call tk (E := E) fun _ _ _ _ h => h
    refine ⟨_, pss_cons (ps_expr (pe_cal gR hr1 hx (pa_cons (pe_cal gI hr1 pass0 (pa_cons (pv 0) (pa_cons pe_int (pa_cons (pe_gint gL rfl) pa_nil)))) (pa_cons (pe_joined (.cons pe_str (.cons (pe_fmt (pe_gint gL rfl)) (.cons pe_str .nil)))) pa_nil))))
      (pss_one (ps_ret (pe_tupleOf rfl mt (Rj.pe_lcx (Ex := E) (own := [("item", 2)]) (g := gName 2) rfl rfl tk rfl scCopList.nd (pi_row (pv 0)) (blkOk_by (own := [("item", 2)]) (N := ["items", "depth", "item"]) (sc := defScope sCopList) (by decide +kernel))
        (fun _ _ _ _ _ => pg_name (i := 2) scCopList.nd rfl (Or.inl rfl)) (fun _ _ _ _ _ => pe_cal gC hr Rj.fell_passes (pa_cons (pv 2) (pa_cons (pv 1) pa_nil))))))), ?_⟩
    refine ⟨_, rfl, _, _, _, _, rfl, hrow, fun H1 s1 => ?_⟩
    refine ⟨_, rfl, by decide +kernel, .inr ⟨12, rfl, by decide +kernel, _, rfl, by decide +kernel, _, rfl, by decide +kernel, ?_⟩⟩
    have el := hat.len
    refine ⟨_, _, rfl, fun e => ?_, fun e => ?_⟩
    · have e : x.len ≤ 12 := by have := of_decide_eq_true e; rw [el] at this; omega
      rw [decide_eq_true e, Bool.true_and] at q1 q2
      have hrow1 := hrow.same s1
      refine ⟨_, rfl, _, rfl, ?_⟩
      refine row_go hrow1 (fun J wk => ?_)
      intro D hD
      refine lc_it wk (fun i H' => Same H1 H' ∧ ∃ acc, H' D = some (.lst acc) ∧ acc.length = i ∧ (x.take i).At true H' acc ∧ ∀ j < i, ∀ y, x.get j = some y → y.ok d = true)
        ⟨same_new hD _, [], upd_same, rfl, by simp [Its.take, Its.At], fun j hj => absurd hj (Nat.not_lt_zero j)⟩ (fun _ _ _ h => h.1) ?_ ?_
      · rintro i v H2 H3 hi ⟨s2, acc, hacc, hlen, hat2, hok⟩ ⟨e3, hv⟩
        subst e3
        obtain ⟨y, gy, ay⟩ := At_item (hat.same (s1.trans s2)) hv
        refine ⟨rfl, yes_go ?_⟩
        refine ⟨_, rfl, _, rfl, v, y, d, rfl, hd, ay, get_tame ht gy, fun oky v' H4 s4 a4 => ?_, fun no H4 s4 => q2 (get_ok gy no) H4 (s1.trans (s2.trans s4))⟩
        refine ⟨acc, s4 _ _ hacc, small1000 (by omega), same_set (s2.trans s4) hD, acc ++ [v'], upd_same, by simp [hlen], ?_, fun j hj z gz => ?_⟩
        · exact (take_at s4 hat2 gy a4).kp (.wr (s4 _ _ hacc))
        · by_cases hji : j = i
          · subst hji
            rw [gy] at gz
            cases gz
            exact oky
          · exact hok j (by omega) z gz
      · rintro H2 ⟨s2, acc, hacc, hlen, hat2, hok⟩
        refine .inl ⟨D, acc, rfl, SqL.of hacc, fun p hp => ?_⟩
        have okx : x.ok d = true := all_ok fun i y g => hok i (by rw [el]; exact get_lt g) y g
        rw [el, take_all] at hat2
        exact q1 okx p acc _ (s1.trans (same_set s2 (s2.free hp))) upd_same (hat2.same (same_new hp _))
    · have e : ¬ x.len ≤ 12 := fun z => by have := of_decide_eq_false e; rw [el] at this; omega
      rw [decide_eq_false e, Bool.false_and] at q2
      exact q2 rfl H1 s1
end
end Bs

set_option Elab.async false
set_option linter.all false
set_option maxRecDepth 100000
set_option maxHeartbeats 4000000
namespace Bs
open PySem L2
def Blks.take : Nat → Blks → Blks
  | 0, _ => .nil
  | _ + 1, .nil => .nil
  | i + 1, .cons v b r => .cons v b (r.take i)
def Blks.get : Blks → Nat → Option (Int × Its)
  | .nil, _ => none
  | .cons v b _, 0 => some (v, b)
  | .cons _ _ r, i + 1 => r.get i
theorem AtE_item {fz : Bool} {H : Hp} : ∀ {x : Blks} {l : List V} {i : Nat} {v : V}, x.AtE fz H l → l[i]? = some v → ∃ c b q xs, x.get i = some (c, b) ∧ v = .ref q ∧ RowAt fz H q xs ∧ b.At fz H xs
  | .nil, l, i, v, h, e => by simp only [Blks.AtE] at h; subst h; simp at e
  | .cons c b r, l, i, v, h, e => by
    simp only [Blks.AtE] at h
    obtain ⟨q, xs, l', rfl, h1, h2, h3⟩ := h
    cases i with
    | zero => simp at e; subst e; exact ⟨c, b, q, xs, rfl, rfl, h1, h2⟩
    | succ i => exact AtE_item (i := i) h3 (by simpa using e)
theorem AtS_item {fz : Bool} {H : Hp} : ∀ {x : Blks} {l : List V} {i : Nat} {v : V}, x.AtS fz H l → l[i]? = some v → ∃ c b p q xs, x.get i = some (c, b) ∧ v = .ref p ∧ H p = some (.tup [.int c, .ref q]) ∧ RowAt fz H q xs ∧ b.At fz H xs
  | .nil, l, i, v, h, e => by simp only [Blks.AtS] at h; subst h; simp at e
  | .cons c b r, l, i, v, h, e => by
    simp only [Blks.AtS] at h
    obtain ⟨p, q, xs, l', rfl, h0, h1, h2, h3⟩ := h
    cases i with
    | zero => simp at e; subst e; exact ⟨c, b, p, q, xs, rfl, rfl, h0, h1, h2⟩
    | succ i => exact AtS_item (i := i) h3 (by simpa using e)
theorem getB_tame : ∀ {x : Blks} {i : Nat} {c : Int} {b : Its}, x.tame → x.get i = some (c, b) → b.tame
  | .nil, _, _, _, _, e => by simp [Blks.get] at e
  | .cons v b r, 0, c, y, t, e => by simp [Blks.get] at e; simp only [Blks.tame] at t; rw [← e.2]; exact t.1
  | .cons v b r, i + 1, c, y, t, e => by simp only [Blks.tame] at t; exact getB_tame t.2 e
theorem getB_ok : ∀ {x : Blks} {i : Nat} {c : Int} {b : Its} {d : Int}, x.get i = some (c, b) → (decide (b.len ≤ 12) && b.ok d) = false → x.ok d = false
  | .nil, _, _, _, _, e, _ => by simp [Blks.get] at e
  | .cons v b r, 0, c, y, d, e, f => by simp only [Blks.get, Option.some.injEq, Prod.mk.injEq] at e; obtain ⟨rfl, rfl⟩ := e; rw [Blks.ok, f]; rfl
  | .cons v b r, i + 1, c, y, d, e, f => by rw [Blks.ok, getB_ok (x := r) e f]; simp
theorem getB_lt : ∀ {x : Blks} {i : Nat} {y : Int × Its}, x.get i = some y → i < x.len
  | .nil, _, _, e => by simp [Blks.get] at e
  | .cons _ _ r, 0, _, _ => by simp [Blks.len]
  | .cons _ _ r, i + 1, _, e => by simp [Blks.len]; exact getB_lt (x := r) e
theorem takeB_all : ∀ (x : Blks), x.take x.len = x
  | .nil => rfl
  | .cons v b r => by simp [Blks.len, Blks.take, takeB_all r]
theorem allB_ok : ∀ {x : Blks} {d : Int}, (∀ i c b, x.get i = some (c, b) → (decide (b.len ≤ 12) && b.ok d) = true) → x.ok d = true
  | .nil, _, _ => by simp [Blks.ok]
  | .cons v b r, d, h => by rw [Blks.ok, h 0 v b rfl, allB_ok (x := r) fun i c y e => h (i + 1) c y e]; rfl
theorem takeE_at {fz : Bool} {H H' : Hp} (s : Same H H') {q : Addr} {xs : List V} : ∀ {x : Blks} {i : Nat} {l : List V} {c : Int} {b : Its}, (x.take i).AtE fz H l → x.get i = some (c, b) → RowAt fz H' q xs → b.At fz H' xs → (x.take (i + 1)).AtE fz H' (l ++ [.ref q])
  | .nil, _, _, _, _, _, e, _, _ => by simp [Blks.get] at e
  | .cons v x r, 0, l, c, b, h, e, g, k => by
    simp only [Blks.take, Blks.AtE] at h
    simp only [Blks.get, Option.some.injEq, Prod.mk.injEq] at e
    obtain ⟨rfl, rfl⟩ := e
    subst h
    simp only [Blks.take, Blks.AtE]
    exact ⟨q, xs, [], rfl, g, k, by simp [Blks.AtE]⟩
  | .cons v x r, i + 1, l, c, b, h, e, g, k => by
    simp only [Blks.take, Blks.AtE] at h
    obtain ⟨q0, xs0, l', rfl, h1, h2, h3⟩ := h
    show (Blks.cons v x (r.take (i + 1))).AtE fz H' (.ref q0 :: l' ++ [.ref q])
    simp only [Blks.AtE]
    exact ⟨q0, xs0, l' ++ [.ref q], rfl, h1.same s, h2.same s, takeE_at s h3 e g k⟩
theorem takeS_at {fz : Bool} {H H' : Hp} (s : Same H H') {p q : Addr} {xs : List V} : ∀ {x : Blks} {i : Nat} {l : List V} {c : Int} {b : Its}, (x.take i).AtS fz H l → x.get i = some (c, b) → H' p = some (.tup [.int c, .ref q]) → RowAt fz H' q xs → b.At fz H' xs → (x.take (i + 1)).AtS fz H' (l ++ [.ref p])
  | .nil, _, _, _, _, _, e, _, _, _ => by simp [Blks.get] at e
  | .cons v x r, 0, l, c, b, h, e, z, g, k => by
    simp only [Blks.take, Blks.AtS] at h
    simp only [Blks.get, Option.some.injEq, Prod.mk.injEq] at e
    obtain ⟨rfl, rfl⟩ := e
    subst h
    simp only [Blks.take, Blks.AtS]
    exact ⟨p, q, xs, [], rfl, z, g, k, by simp [Blks.AtS]⟩
  | .cons v x r, i + 1, l, c, b, h, e, z, g, k => by
    simp only [Blks.take, Blks.AtS] at h
    obtain ⟨p0, q0, xs0, l', rfl, h0, h1, h2, h3⟩ := h
    show (Blks.cons v x (r.take (i + 1))).AtS fz H' (.ref p0 :: l' ++ [.ref p])
    simp only [Blks.AtS]
    exact ⟨p0, q0, xs0, l' ++ [.ref p], rfl, s _ _ h0, h1.same s, h2.same s, takeS_at s h3 e z g k⟩

def spCopChoices (C : Addr) (n : Nat) : Sp := fun vs H Q E => ∃ (a : Addr) (x : Blks) (xs : List V) (d : Int), vs = [.ref a, .int d] ∧ d + n = 3 ∧ RowAt false H a xs ∧ x.AtE false H xs ∧ x.tame ∧
  ((decide (2 ≤ x.len ∧ x.len ≤ 4) && x.ok d) = true → ∀ p ys H', Same H H' → H' p = some (.tup ys) → x.AtE true H' ys → Q (.ref p) H') ∧ ((decide (2 ≤ x.len ∧ x.len ≤ 4) && x.ok d) = false → ∀ H', Same H H' → E (.ref C) none H')
def spCopCases (C : Addr) (n : Nat) : Sp := fun vs H Q E => ∃ (a : Addr) (x : Blks) (xs : List V) (d : Int), vs = [.ref a, .int d] ∧ d + n = 3 ∧ RowAt false H a xs ∧ x.AtS false H xs ∧ x.tame ∧
  ((decide (1 ≤ x.len ∧ x.len ≤ 8) && x.ok d) = true → ∀ p ys H', Same H H' → H' p = some (.tup ys) → x.AtS true H' ys → Q (.ref p) H') ∧ ((decide (1 ≤ x.len ∧ x.len ≤ 8) && x.ok d) = false → ∀ H', Same H H' → E (.ref C) none H')
section
variable {P : Program} {w : World} {K : PySem.W.Frag} {mg : Str → Option Value} {base : Heap} {f C : Addr} {fd : FuncData}
theorem scCopChoices : FnScope ["choices", "depth", "choice"] ["choices", "depth"] (defScope sCopChoices) := ⟨rfl, rfl, rfl, by decide +kernel, rfl, by decide +kernel, by decide +kernel⟩
theorem ok_copchoices {n k : Nat} (F : Fun K "copied_choices" "copied_choices" sCopChoices f fd) (hk : 2 ≤ k) (gR : Cal P w K mg base (L2.CX P w) 1 "require" ["holds", "words"] (spRequire C)) (gI : Cal P w K mg base CX0 1 "is_row" ["rows", "least", "most"] spIsRow)
    (mt : mg "tuple" = none) (gC : Cal P w K mg base (L2.CX P w) k "copied_list" ["items", "depth"] (spCopList C n)) : FnOk P w K mg base (L2.CX P w) (k + 1) f fd ["choices", "depth"] (spCopChoices C n) := by
  refine F.okX scCopChoices (fun vs H Q E h => ?_) (fun cdv A outer s H vs Q E hr h => ?_)
  · obtain ⟨a, x, xs, d, rfl, _⟩ := h
    rfl
  · obtain ⟨a, x, xs, d, rfl, hd, hrow, hat, ht, q1, q2⟩ := h
    have hr1 : Room 1 _ := hr.mono (by omega)
    have tk : Takes (cxOf (L2.CX P w) P w K mg base ["choices", "depth", "choice"] "copied_choices" (defScope sCopChoices) f cdv A outer s H E) (fun cls d _ H => E cls d H) := takes_of rfl rfl rfl rfl
    have hx := passes_call tk (E := E) fun _ _ _ _ h => h
    refine ⟨_, pss_cons (ps_expr (pe_cal gR hr1 hx (pa_cons (pe_cal gI hr1 pass0 (pa_cons (pv 0) (pa_cons pe_int (pa_cons pe_int pa_nil)))) (pa_cons pe_str pa_nil))))
      (pss_one (ps_ret (pe_tupleOf rfl mt (Rj.pe_lcx (Ex := E) (own := [("choice", 2)]) (g := gName 2) rfl rfl tk rfl scCopChoices.nd (pi_row (pv 0)) (blkOk_by (own := [("choice", 2)]) (N := ["choices", "depth", "choice"]) (sc := defScope sCopChoices) (by decide +kernel))
        (fun _ _ _ _ _ => pg_name (i := 2) scCopChoices.nd rfl (Or.inl rfl)) (fun _ _ _ _ _ => pe_cal gC hr Rj.fell_passes (pa_cons (pv 2) (pa_cons (pv 1) pa_nil))))))), ?_⟩
    refine ⟨_, rfl, _, _, _, _, rfl, hrow, fun H1 s1 => ?_⟩
    have el := hat.len
    have ed : decide (2 ≤ (xs.length : Int) ∧ (xs.length : Int) ≤ 4) = decide (2 ≤ x.len ∧ x.len ≤ 4) := by
      rw [el]; exact decide_eq_decide.mpr ⟨fun ⟨a, b⟩ => ⟨by omega, by omega⟩, fun ⟨a, b⟩ => ⟨by omega, by omega⟩⟩
    refine ⟨_, _, rfl, fun e => ?_, fun e => ?_⟩
    · rw [ed] at e
      have e4 := (of_decide_eq_true e).2
      rw [e, Bool.true_and] at q1 q2
      have hrow1 := hrow.same s1
      refine ⟨_, rfl, _, rfl, ?_⟩
      refine row_go hrow1 (fun J wk => ?_)
      intro D hD
      refine lc_it wk (fun i H' => Same H1 H' ∧ ∃ acc, H' D = some (.lst acc) ∧ acc.length = i ∧ (x.take i).AtE true H' acc ∧ ∀ j < i, ∀ c b, x.get j = some (c, b) → (decide (b.len ≤ 12) && b.ok d) = true)
        ⟨same_new hD _, [], upd_same, rfl, by simp [Blks.take, Blks.AtE], fun j hj => absurd hj (Nat.not_lt_zero j)⟩ (fun _ _ _ h => h.1) ?_ ?_
      · rintro i v H2 H3 hi ⟨s2, acc, hacc, hlen, hat2, hok⟩ ⟨e3, hv⟩
        subst e3
        obtain ⟨c, b, p, zs, gb, rfl, hrw, hb⟩ := AtE_item (hat.same (s1.trans s2)) hv
        refine ⟨rfl, yes_go ?_⟩
        refine ⟨_, rfl, _, rfl, p, b, zs, d, rfl, hd, hrw, hb, getB_tame ht gb, fun okb p' ys H4 s4 h4 a4 => ?_, fun no H4 s4 => q2 (getB_ok gb no) H4 (s1.trans (s2.trans s4))⟩
        refine ⟨acc, s4 _ _ hacc, small1000 (by omega), same_set (s2.trans s4) hD, acc ++ [.ref p'], upd_same, by simp [hlen], ?_, fun j hj c' b' gz => ?_⟩
        · exact (takeE_at s4 hat2 gb (.inl h4) a4).kp (.wr (s4 _ _ hacc))
        · by_cases hji : j = i
          · subst hji
            rw [gb] at gz
            cases gz
            exact okb
          · exact hok j (by omega) c' b' gz
      · rintro H2 ⟨s2, acc, hacc, hlen, hat2, hok⟩
        refine .inl ⟨D, acc, rfl, SqL.of hacc, fun p hp => ?_⟩
        have okx : x.ok d = true := allB_ok fun i c b g => hok i (by rw [el]; exact getB_lt g) c b g
        rw [el, takeB_all] at hat2
        exact q1 okx p acc _ (s1.trans (same_set s2 (s2.free hp))) upd_same (hat2.same (same_new hp _))
    · rw [ed] at e
      rw [e, Bool.false_and] at q2
      exact q2 rfl H1 s1
theorem scCopCases : FnScope ["cases", "depth", "found", "case"] ["cases", "depth"] (defScope sCopCases) := ⟨rfl, rfl, rfl, by decide +kernel, rfl, by decide +kernel, by decide +kernel⟩
theorem ok_copcases {n k : Nat} (F : Fun K "copied_cases" "copied_cases" sCopCases f fd) (hk : 2 ≤ k) (gR : Cal P w K mg base (L2.CX P w) 1 "require" ["holds", "words"] (spRequire C)) (gI : Cal P w K mg base CX0 1 "is_row" ["rows", "least", "most"] spIsRow)
    (mt : mg "tuple" = none) (mi : mg "isinstance" = none) (ml : mg "len" = none) (gC : Cal P w K mg base (L2.CX P w) k "copied_list" ["items", "depth"] (spCopList C n)) : FnOk P w K mg base (L2.CX P w) (k + 1) f fd ["cases", "depth"] (spCopCases C n) := by
  refine F.okX scCopCases (fun vs H Q E h => ?_) (fun cdv A outer s H vs Q E hr h => ?_)
  · obtain ⟨a, x, xs, d, rfl, _⟩ := h
    rfl
  · obtain ⟨a, x, xs, d, rfl, hd, hrow, hat, ht, q1, q2⟩ := h
    have hr1 : Room 1 _ := hr.mono (by omega)
    have tk : Takes (cxOf (L2.CX P w) P w K mg base ["cases", "depth", "found", "case"] "copied_cases" (defScope sCopCases) f cdv A outer s H E) (fun cls d _ H => E cls d H) := takes_of rfl rfl rfl rfl
    have hx := passes_call tk (E := E) fun _ _ _ _ h => h
    refine ⟨_, pss_cons (ps_expr (pe_cal gR hr1 hx (pa_cons (pe_cal gI hr1 pass0 (pa_cons (pv 0) (pa_cons pe_int (pa_cons pe_int pa_nil)))) (pa_cons pe_str pa_nil))))
      (pss_cons (ps_set (i := 2) scCopCases.nd rfl (.inl rfl) (pe_lst pa_nil))
      (pss_cons (ps_for (passes_of rfl) rfl (pi_row (pv 0)) (pg_name (i := 3) scCopCases.nd rfl (.inl rfl))
        (pss_cons (ps_expr (pe_cal gR hr1 hx (pa_cons (pe_and (pe_callB call_isi (by rfl) mi (by decide +kernel) (pa_cons (pv 3) (pa_cons (pe_bltn (v := .ty "tuple") (by rfl) mt (by decide +kernel) rfl) pa_nil)))
            (pe_one (pe_cmpR op_eq (pe_callB call_len (by rfl) ml boot_len (pa_cons (pv 3) pa_nil)) pe_int (nomark _)))) (pa_cons pe_str pa_nil))))
        (pss_one (ps_expr (pe_bm PySem.F.plainAttrs_list PySem.F.slot_list_append PySem.F.type_list_append mt_append (pv 2)
          (pa_cons (pe_tup (pa_cons (pe_ix ix_tup (pv 3) pe_int (fun _ _ => rfl)) (pa_cons (pe_cal gC hr hx (pa_cons (pe_ix ix_tup (pv 3) pe_int (fun _ _ => rfl)) (pa_cons (pv 1) pa_nil))) pa_nil))) pa_nil))))))
      (pss_one (ps_ret (pe_tupleOf rfl mt (pv 2)))))), ?_⟩
    refine ⟨_, rfl, _, _, _, _, rfl, hrow, fun H1 s1 => ?_⟩
    have el := hat.len
    have ed : decide (1 ≤ (xs.length : Int) ∧ (xs.length : Int) ≤ 8) = decide (1 ≤ x.len ∧ x.len ≤ 8) := by
      rw [el]; exact decide_eq_decide.mpr ⟨fun ⟨a, b⟩ => ⟨by omega, by omega⟩, fun ⟨a, b⟩ => ⟨by omega, by omega⟩⟩
    refine ⟨_, _, rfl, fun e => ?_, fun e => ?_⟩
    · rw [ed] at e
      have e8 := (of_decide_eq_true e).2
      rw [e, Bool.true_and] at q1 q2
      refine ⟨Nat.zero_le _, fun D hD => ?_⟩
      refine ⟨_, rfl, _, rfl, ?_⟩
      refine row_go2 (hrow.same s1) (same_new hD _) (fun J wk => ?_)
      refine for_it wk (fun i σ H' => ∃ cv, σ = [some (.ref a), some (.int d), some (.ref D), cv] ∧ Same H1 H' ∧ ∃ acc, H' D = some (.lst acc) ∧ acc.length = i ∧ (x.take i).AtS true H' acc ∧ ∀ j < i, ∀ c b, x.get j = some (c, b) → (decide (b.len ≤ 12) && b.ok d) = true)
        ⟨none, rfl, same_new hD _, [], upd_same, rfl, by simp [Blks.take, Blks.AtS], fun j hj => absurd hj (Nat.not_lt_zero j)⟩ (fun _ _ _ _ h => by obtain ⟨_, _, z, _⟩ := h; exact z) ?_ ?_
      · rintro i v σ H2 H3 hi ⟨cv, rfl, s2, acc, hacc, hlen, hat2, hok⟩ ⟨e3, hv⟩
        subst e3
        obtain ⟨c, b, p, q, zs, gb, rfl, hp, hrw, hb⟩ := AtS_item (hat.same (s1.trans s2)) hv
        refine ⟨_, rfl, _, _, _, _, true, rfl, .ty _, .base (.tup hp), kit_ty (by decide +kernel), _, rfl, iteT ?_⟩
        refine ⟨_, rfl, _, _, rfl, .inr ⟨_, SqT.of hp, rfl⟩, rfl, ?_⟩
        refine ⟨true, _, rfl, fun _ => ?_, fun z => by cases z⟩
        refine ⟨_, rfl, .inl ⟨rfl, _, SqL.of hacc⟩, ?_⟩
        refine ⟨_, rfl, p, _, 0, _, rfl, rfl, SqT.of hp, atI_nat (j := 0) rfl, ?_⟩
        refine ⟨_, rfl, p, _, 1, _, rfl, rfl, SqT.of hp, atI_nat (j := 1) rfl, ?_⟩
        refine ⟨_, rfl, q, b, zs, d, rfl, hd, hrw, hb, getB_tame ht gb, fun okb p' ys H4 s4 h4 a4 => ?_, fun no H4 s4 => q2 (getB_ok gb no) H4 (s1.trans (s2.trans s4))⟩
        refine ⟨by show 2 ≤ sizeLine; decide, fun t ht4 => ?_⟩
        have s5 : Same H4 (upd H4 t (.tup [.int c, .ref p'])) := same_new ht4 _
        have hacc5 := s5 _ _ (s4 _ _ hacc)
        refine ⟨D, acc, .ref t, rfl, rfl, hacc5, small1000 (by omega), ?_⟩
        refine ⟨_, rfl, same_set (s2.trans (s4.trans s5)) hD, acc ++ [.ref t], upd_same, by simp [hlen], ?_, fun j hj c' b' gz => ?_⟩
        · exact (takeS_at (s4.trans s5) hat2 gb upd_same (.inl (s5 _ _ h4)) (a4.same s5)).kp (.wr hacc5)
        · by_cases hji : j = i
          · subst hji
            rw [gb] at gz
            cases gz
            exact okb
          · exact hok j (by omega) c' b' gz
      · rintro σ H2 ⟨cv, rfl, s2, acc, hacc, hlen, hat2, hok⟩
        refine ⟨_, rfl, .inl ⟨D, acc, rfl, SqL.of hacc, fun p hp => ?_⟩⟩
        have okx : x.ok d = true := allB_ok fun i c b g => hok i (by rw [el]; exact getB_lt g) c b g
        rw [el, takeB_all] at hat2
        exact q1 okx p acc _ (s1.trans (same_set s2 (s2.free hp))) upd_same (hat2.same (same_new hp _))
    · rw [ed] at e
      rw [e, Bool.false_and] at q2
      exact q2 rfl H1 s1
end
end Bs

set_option Elab.async false
set_option linter.all false
set_option maxRecDepth 100000
set_option maxHeartbeats 4000000
namespace Bs
open PySem L2
def It.kind : It → Str
  | .num .. => "number" | .byt .. => "bytes" | .txt .. => "text" | .rep .. => "repeat" | .eit .. => "either" | .swi .. => "switch" | .chk .. => "check" | .pad .. => "pad"
def It.parts : It → Nat
  | .num .. => 6 | .byt .. => 3 | .txt .. => 4 | .rep .. => 4 | .eit .. => 3 | .swi .. => 4 | .chk .. => 3 | .pad .. => 4
def It.blocky : It → Bool
  | .rep .. => true | .eit .. => true | .swi .. => true | _ => false
/-- PARTS and WITH_BLOCKS -/
structure Kinds (K : PySem.W.Frag) (w : World) (mg : Str → Option Value) : Prop where
  p : ∃ d es n, mg "PARTS" = some (.ref d) ∧ KDict K w d es n ∧ ∀ x : It, ∃ t, PySem.W.nsIn K d x.kind = some (some (.int (x.parts : Nat) t))
  b : ∃ a, mg "WITH_BLOCKS" = some (.ref a) ∧ ∀ H, SqT K H a [.str "repeat", .str "either", .str "switch"]
theorem At_head {fz : Bool} {H : Hp} : ∀ {x : It} {v : V}, x.At fz H v → ∃ p rest, v = .ref p ∧ H p = some (.tup (.str x.kind :: .str x.name :: rest)) ∧ rest.length + 2 = x.parts
  | .num .., _, h => by simp only [It.At] at h; obtain ⟨p, e, h⟩ := h; exact ⟨p, _, e, h, rfl⟩
  | .byt .., _, h => by simp only [It.At] at h; obtain ⟨p, e, h⟩ := h; exact ⟨p, _, e, h, rfl⟩
  | .txt .., _, h => by simp only [It.At] at h; obtain ⟨p, e, h⟩ := h; exact ⟨p, _, e, h, rfl⟩
  | .chk .., _, h => by simp only [It.At] at h; obtain ⟨p, e, h⟩ := h; exact ⟨p, _, e, h, rfl⟩
  | .pad .., _, h => by simp only [It.At] at h; obtain ⟨p, e, h⟩ := h; exact ⟨p, _, e, h, rfl⟩
  | .rep .., _, h => by simp only [It.At] at h; obtain ⟨p, q, xs, e, h, _⟩ := h; exact ⟨p, _, e, h, rfl⟩
  | .eit .., _, h => by simp only [It.At] at h; obtain ⟨p, q, xs, e, h, _⟩ := h; exact ⟨p, _, e, h, rfl⟩
  | .swi .., _, h => by simp only [It.At] at h; obtain ⟨p, q, xs, e, h, _⟩ := h; exact ⟨p, _, e, h, rfl⟩
theorem blocky_in (x : It) : inV (.str x.kind) [.str "repeat", .str "either", .str "switch"] = x.blocky := by cases x <;> simp only [It.kind, It.blocky] <;> decide +kernel
theorem ok_name {x : It} {d : Int} (h : isName x.name = false) : x.ok d = false := by
  cases x <;> simp only [It.name] at h <;> simp [It.ok, It.name, h]
theorem ok_deep {x : It} {d : Int} (h : ¬ d ≤ (if x.blocky = true then 2 else 3)) : x.ok d = false := by
  cases x <;> simp [It.blocky] at h <;> simp [It.ok] <;> intros <;> omega
theorem deep_go {c : Bool} {σ : L2.St} {H : Hp} {R : V → Hp → Prop} (h : R (.int (if c = true then 2 else 3)) H) : if c = true then tOp (rI0 fun i j => V.int (i - j)) (tC (.int 3)) (tC (.int 1)) σ H R else tC (.int 3) σ H R := by
  cases c with
  | true => exact iteT ⟨_, _, rfl, rfl, h⟩
  | false => exact iteF h
theorem kne {a b : Str} (h : a ≠ b) : ¬ V.str a = V.str b := fun z => h (V.str.inj z)
/-- the copies one deeper, where there is one -/
def spSub (sp : Nat → Sp) : Nat → Sp
  | 0 => fun _ _ _ _ => False
  | n + 1 => sp n
section
variable {P : Program} {w : World} {K : PySem.W.Frag} {mg : Str → Option Value} {base : Heap} {f C : Addr} {fd : FuncData}
theorem scCopItem : FnScope ["item", "depth", "kind", "deepest"] ["item", "depth"] (defScope sCopItem) := ⟨rfl, rfl, rfl, by decide +kernel, rfl, by decide +kernel, by decide +kernel⟩
theorem ok_copitem {n0 k : Nat} (F : Fun K "copied_item" "copied_item" sCopItem f fd) (hk : 1 ≤ k) (T : Kinds K w mg) (gR : Cal P w K mg base (L2.CX P w) 1 "require" ["holds", "words"] (spRequire C)) (gN : Cal P w K mg base CX0 1 "is_name" ["text"] spIsName)
    (mt : mg "tuple" = none) (mi : mg "isinstance" = none) (ml : mg "len" = none) (ms : mg "str" = none) (gD : GInt mg "DEEPEST" 3) (gL : Cal P w K mg base (L2.CX P w) k "copied_list" ["items", "depth"] (spSub (spCopList C) n0))
    (gCh : Cal P w K mg base (L2.CX P w) k "copied_choices" ["choices", "depth"] (spSub (spCopChoices C) n0)) (gCa : Cal P w K mg base (L2.CX P w) k "copied_cases" ["cases", "depth"] (spSub (spCopCases C) n0)) : FnOk P w K mg base (L2.CX P w) (k + 1) f fd ["item", "depth"] (spCopItem C n0) := by
  refine F.okX scCopItem (fun vs H Q E h => ?_) (fun cdv A outer s H vs Q E hr h => ?_)
  · obtain ⟨v, x, d, rfl, _⟩ := h
    rfl
  · obtain ⟨v, x, d, rfl, hd, hat, ht, q1, q2⟩ := h
    obtain ⟨p, rest, rfl, hp, hlen⟩ := At_head hat
    obtain ⟨dP, es, nn, gP, D, hP⟩ := T.p
    obtain ⟨aB, gB, hB⟩ := T.b
    obtain ⟨t6, ns6⟩ := hP x
    have hr1 : Room 1 _ := hr.mono (by omega)
    have tk : Takes (cxOf (L2.CX P w) P w K mg base ["item", "depth", "kind", "deepest"] "copied_item" (defScope sCopItem) f cdv A outer s H E) (fun cls d _ H => E cls d H) := takes_of rfl rfl rfl rfl
    have hx := passes_call tk (E := E) fun _ _ _ _ h => h
    refine ⟨_, pss_cons (ps_expr (pe_cal gR hr1 hx (pa_cons (pe_and (pe_callB call_isi (by rfl) mi (by decide +kernel) (pa_cons (pv 0) (pa_cons (pe_bltn (v := .ty "tuple") (by rfl) mt (by decide +kernel) rfl) pa_nil)))
          (pe_one (pe_cmpR op_gt (pe_callB call_len (by rfl) ml boot_len (pa_cons (pv 0) pa_nil)) pe_int (nomark _)))) (pa_cons pe_str pa_nil))))
      (pss_cons (ps_set (i := 2) scCopItem.nd rfl (.inl rfl) (pe_ix ix_tup (pv 0) pe_int (fun _ _ => rfl)))
      (pss_cons (ps_expr (pe_cal gR hr1 hx (pa_cons (pe_and (pe_callB call_isi (by rfl) mi (by decide +kernel) (pa_cons (pv 2) (pa_cons (pe_bltn (v := .ty "str") (by rfl) ms (by decide +kernel) rfl) pa_nil)))
          (pe_one (pe_cmpR (op_in_kd D) (pv 2) (pe_glob (v := .ref dP) (by rfl) gP rfl) (by rfl)))) (pa_cons pe_str pa_nil))))
      (pss_cons (ps_expr (pe_cal gR hr1 hx (pa_cons (pe_cmpR op_eq (pe_callB call_len (by rfl) ml boot_len (pa_cons (pv 0) pa_nil)) (pe_ix ix_kdict (pe_glob (v := .ref dP) (by rfl) gP rfl) (pv 2) (fun _ _ => rfl)) (nomark _))
          (pa_cons (pe_joined (.cons pe_str (.cons (pe_fmt (pv 2)) (.cons pe_str .nil)))) pa_nil))))
      (pss_cons (ps_expr (pe_cal gR hr1 hx (pa_cons (pe_cal gN hr1 pass0 (pa_cons (pe_ix ix_tup (pv 0) pe_int (fun _ _ => rfl)) pa_nil)) (pa_cons pe_str pa_nil))))
      (pss_cons (ps_set (i := 3) scCopItem.nd rfl (.inl rfl) (pe_ifExp (pt_cmpR op_in_seq (pv 2) (pe_glob (v := .ref aB) (by rfl) gB rfl) (by rfl)) (pe_op op_sub (pe_gint gD rfl) pe_int) (pe_gint gD rfl)))
      (pss_cons (ps_expr (pe_cal gR hr1 hx (pa_cons (pe_cmpR op_le (pv 1) (pv 3) (nomark _)) (pa_cons (pe_joined (.cons pe_str (.cons (pe_fmt (pv 2)) (.cons pe_str .nil)))) pa_nil))))
      (pss_cons (ps_if (pt_cmpR op_eq (pv 2) pe_str (nomark _)) (pss_one (ps_ret (pe_op op_catT (pe_slice sl_tup (pv 0) po_none (po_some pe_int)) (pe_tup (pa_cons (pe_cal gL hr hx (pa_cons (pe_ix ix_tup (pv 0) pe_int (fun _ _ => rfl)) (pa_cons (pe_op op_add (pv 1) pe_int) pa_nil))) pa_nil))))) pss_nil)
      (pss_cons (ps_if (pt_cmpR op_eq (pv 2) pe_str (nomark _)) (pss_one (ps_ret (pe_op op_catT (pe_slice sl_tup (pv 0) po_none (po_some pe_int)) (pe_tup (pa_cons (pe_cal gCh hr hx (pa_cons (pe_ix ix_tup (pv 0) pe_int (fun _ _ => rfl)) (pa_cons (pe_op op_add (pv 1) pe_int) pa_nil))) pa_nil))))) pss_nil)
      (pss_cons (ps_if (pt_cmpR op_eq (pv 2) pe_str (nomark _)) (pss_one (ps_ret (pe_op op_catT (pe_slice sl_tup (pv 0) po_none (po_some pe_int)) (pe_tup (pa_cons (pe_cal gCa hr hx (pa_cons (pe_ix ix_tup (pv 0) pe_int (fun _ _ => rfl)) (pa_cons (pe_op op_add (pv 1) pe_int) pa_nil))) pa_nil))))) pss_nil)
      (pss_one (ps_ret (pe_tupleOf rfl mt (pv 0))))))))))))), ?_⟩
    have fs1 : ∀ y : Str, y = x.kind → (Str.empty ++ ("the kind " : Str)).length ≤ sizeLine ∧ y.length ≤ sizeLine ∧ (Str.empty ++ ("the kind " : Str) ++ y).length ≤ sizeLine ∧ (Str.empty ++ ("the kind " : Str) ++ y ++ (" has another number of parts" : Str)).length ≤ sizeLine := by
      rintro y rfl; cases x <;> simp only [It.kind] <;> decide +kernel
    have fs2 : ∀ y : Str, y = x.kind → (Str.empty ++ ("an item of the kind " : Str)).length ≤ sizeLine ∧ y.length ≤ sizeLine ∧ (Str.empty ++ ("an item of the kind " : Str) ++ y).length ≤ sizeLine ∧ (Str.empty ++ ("an item of the kind " : Str) ++ y ++ (" stands too deep" : Str)).length ≤ sizeLine := by
      rintro y rfl; cases x <;> simp only [It.kind] <;> decide +kernel
    obtain ⟨a1, a2, a3, a4⟩ := fs1 _ rfl
    obtain ⟨b1, b2, b3, b4⟩ := fs2 _ rfl
    have hT : SqT K H p _ := SqT.of hp
    -- an item is a tuple
    refine ⟨_, rfl, _, _, _, _, true, rfl, .ty _, .base (.tup hp), kit_ty (by decide +kernel), _, rfl, iteT ?_⟩
    refine ⟨_, rfl, _, _, rfl, .inr ⟨_, hT, rfl⟩, _, _, rfl, rfl, ?_⟩
    refine ⟨_, _, rfl, fun _ => ?_, fun z => absurd (show (0 : Int) < ((V.str x.kind :: V.str x.name :: rest).length : Nat) by rw [List.length_cons]; omega) (of_decide_eq_false z)⟩
    -- its kind
    refine ⟨_, rfl, p, _, 0, _, rfl, rfl, hT, atI_nat (j := 0) rfl, ?_⟩
    refine ⟨_, rfl, _, _, _, _, true, rfl, .ty _, .base (.str _), kit_ty (by decide +kernel), _, rfl, iteT ?_⟩
    refine ⟨_, rfl, x.kind, _, rfl, rfl, ns6, _, _, rfl, fun _ => ?_, fun z => by cases z⟩
    -- its parts
    refine ⟨_, rfl, _, _, rfl, .inr ⟨_, hT, rfl⟩, _, rfl, dP, x.kind, .int (x.parts : Nat), rfl, rfl, ⟨es, nn, _, D.at_, D.lit, ns6, t6, rfl⟩, rfl, ?_⟩
    refine ⟨_, rfl, a1, _, rfl, .inl ⟨_, rfl, a2, _, rfl, a3, _, rfl, a4, _, _, rfl, fun _ => ?_, fun z => absurd (show V.int ((V.str x.kind :: V.str x.name :: rest).length : Nat) = V.int (x.parts : Nat) by rw [List.length_cons, List.length_cons, ← hlen]) (of_decide_eq_false z)⟩⟩
    -- its name
    refine ⟨_, rfl, p, _, 1, _, rfl, rfl, hT, atI_nat (j := 1) rfl, x.name, rfl, Nat.le_of_lt (small1000 (It.tame_name ht)), fun H1 s1 => ?_⟩
    refine ⟨_, _, rfl, fun en => ?_, fun en => q2 (ok_name en) H1 s1⟩
    have hT1 : SqT K H1 p _ := SqT.of (s1 _ _ hp)
    refine ⟨_, rfl, aB, _, rfl, .inr (hB H1), rfl, by decide +kernel, x.blocky, congrArg V.bl (blocky_in x), ?_⟩
    refine deep_go ?_
    refine ⟨_, rfl, _, rfl, _, _, rfl, rfl, _, rfl, b1, _, rfl, .inl ⟨_, rfl, b2, _, rfl, b3, _, rfl, b4, _, _, rfl, fun e => ?_, fun e => q2 (ok_deep (of_decide_eq_false e)) H1 s1⟩⟩
    have e : d ≤ (if x.blocky = true then 2 else 3) := of_decide_eq_true e
    cases x with
    | num n size order low high =>
      refine ⟨_, rfl, rfl, _, rfl, ite2 (fun z => absurd (of_decide_eq_true z) (kne (by simp only [It.kind]; decide +kernel))) (fun _ => ?_)⟩
      refine ⟨_, rfl, rfl, _, rfl, ite2 (fun z => absurd (of_decide_eq_true z) (kne (by simp only [It.kind]; decide +kernel))) (fun _ => ?_)⟩
      refine ⟨_, rfl, rfl, _, rfl, ite2 (fun z => absurd (of_decide_eq_true z) (kne (by simp only [It.kind]; decide +kernel))) (fun _ => ?_)⟩
      refine ⟨_, rfl, .inr ⟨p, _, rfl, hT1, q1 ?_ _ H1 s1 ?_⟩⟩
      · have e : d ≤ 3 := e
        have en : isName n = true := en
        simp [It.ok, It.name, en, e]
      · refine It.At.same s1 ?_
        simp only [It.At] at hat ⊢
        exact hat
    | byt n amt =>
      refine ⟨_, rfl, rfl, _, rfl, ite2 (fun z => absurd (of_decide_eq_true z) (kne (by simp only [It.kind]; decide +kernel))) (fun _ => ?_)⟩
      refine ⟨_, rfl, rfl, _, rfl, ite2 (fun z => absurd (of_decide_eq_true z) (kne (by simp only [It.kind]; decide +kernel))) (fun _ => ?_)⟩
      refine ⟨_, rfl, rfl, _, rfl, ite2 (fun z => absurd (of_decide_eq_true z) (kne (by simp only [It.kind]; decide +kernel))) (fun _ => ?_)⟩
      refine ⟨_, rfl, .inr ⟨p, _, rfl, hT1, q1 ?_ _ H1 s1 ?_⟩⟩
      · have e : d ≤ 3 := e
        have en : isName n = true := en
        simp [It.ok, It.name, en, e]
      · refine It.At.same s1 ?_
        simp only [It.At] at hat ⊢
        exact hat
    | txt n stop most =>
      refine ⟨_, rfl, rfl, _, rfl, ite2 (fun z => absurd (of_decide_eq_true z) (kne (by simp only [It.kind]; decide +kernel))) (fun _ => ?_)⟩
      refine ⟨_, rfl, rfl, _, rfl, ite2 (fun z => absurd (of_decide_eq_true z) (kne (by simp only [It.kind]; decide +kernel))) (fun _ => ?_)⟩
      refine ⟨_, rfl, rfl, _, rfl, ite2 (fun z => absurd (of_decide_eq_true z) (kne (by simp only [It.kind]; decide +kernel))) (fun _ => ?_)⟩
      refine ⟨_, rfl, .inr ⟨p, _, rfl, hT1, q1 ?_ _ H1 s1 ?_⟩⟩
      · have e : d ≤ 3 := e
        have en : isName n = true := en
        simp [It.ok, It.name, en, e]
      · refine It.At.same s1 ?_
        simp only [It.At] at hat ⊢
        exact hat
    | chk n m =>
      refine ⟨_, rfl, rfl, _, rfl, ite2 (fun z => absurd (of_decide_eq_true z) (kne (by simp only [It.kind]; decide +kernel))) (fun _ => ?_)⟩
      refine ⟨_, rfl, rfl, _, rfl, ite2 (fun z => absurd (of_decide_eq_true z) (kne (by simp only [It.kind]; decide +kernel))) (fun _ => ?_)⟩
      refine ⟨_, rfl, rfl, _, rfl, ite2 (fun z => absurd (of_decide_eq_true z) (kne (by simp only [It.kind]; decide +kernel))) (fun _ => ?_)⟩
      refine ⟨_, rfl, .inr ⟨p, _, rfl, hT1, q1 ?_ _ H1 s1 ?_⟩⟩
      · have e : d ≤ 3 := e
        have en : isName n = true := en
        simp [It.ok, It.name, en, e]
      · refine It.At.same s1 ?_
        simp only [It.At] at hat ⊢
        exact hat
    | pad n m b =>
      refine ⟨_, rfl, rfl, _, rfl, ite2 (fun z => absurd (of_decide_eq_true z) (kne (by simp only [It.kind]; decide +kernel))) (fun _ => ?_)⟩
      refine ⟨_, rfl, rfl, _, rfl, ite2 (fun z => absurd (of_decide_eq_true z) (kne (by simp only [It.kind]; decide +kernel))) (fun _ => ?_)⟩
      refine ⟨_, rfl, rfl, _, rfl, ite2 (fun z => absurd (of_decide_eq_true z) (kne (by simp only [It.kind]; decide +kernel))) (fun _ => ?_)⟩
      refine ⟨_, rfl, .inr ⟨p, _, rfl, hT1, q1 ?_ _ H1 s1 ?_⟩⟩
      · have e : d ≤ 3 := e
        have en : isName n = true := en
        simp [It.ok, It.name, en, e]
      · refine It.At.same s1 ?_
        simp only [It.At] at hat ⊢
        exact hat
    | rep n amt b =>
      have e : d ≤ 2 := e
      have en : isName n = true := en
      simp only [It.At] at hat
      obtain ⟨p', q, xs, e1, h1, hrow, hb⟩ := hat
      cases e1
      simp only [It.tame] at ht
      refine ⟨_, rfl, rfl, _, rfl, ite2 (fun _ => ?_) (fun z => (z (decide_eq_true rfl)).elim)⟩
      cases n0 with
      | zero => exfalso; omega
      | succ m =>
        have g1 : H1 p = _ := s1 _ _ h1
        refine ⟨_, rfl, 3, rfl, p, _, rfl, SqT.of g1, by simp only [List.length_cons, List.length_nil]; decide, fun p1 hp1 => ?_⟩
        have s2 := same_new hp1 (.tup (cutV [.str "repeat", .str n, kV amt, .ref q] none (some 3)))
        have g2 := s2 _ _ g1
        refine ⟨_, rfl, p, _, 3, _, rfl, rfl, SqT.of g2, atI_nat (j := 3) rfl, ?_⟩
        refine ⟨_, rfl, d, 1, rfl, rfl, ?_⟩
        have s12 := s1.trans s2
        refine ⟨q, _, xs, d + 1, rfl, by omega, hrow.same s12, hb.same s12, ht.2.2, fun ok p2 ys H2 s3 h2 a2 => ?_, fun no H2 s3 => q2 (by simp only [It.ok]; rw [no]; simp) H2 (s12.trans s3)⟩
        refine ⟨by show 1 ≤ sizeLine; decide, fun t ht4 => ?_⟩
        have s4 := same_new ht4 (.tup [.ref p2])
        refine ⟨p1, t, [.str "repeat", .str n, kV amt], [.ref p2], rfl, rfl, SqT.of (s4 _ _ (s3 _ _ upd_same)), SqT.of upd_same, by simp, by show 4 ≤ sizeLine; decide, fun z => absurd z (by simp), fun _ p3 hp3 => ?_⟩
        refine q1 (by simp only [It.ok]; rw [ok]; simp [en, e]) (.ref p3) _ (s12.trans (s3.trans (s4.trans (same_new hp3 _)))) ?_
        simp only [It.At]
        exact ⟨p3, p2, ys, rfl, upd_same, .inl ((s4.trans (same_new hp3 _)) _ _ h2), a2.same (s4.trans (same_new hp3 _))⟩
    | eit n bs =>
      have e : d ≤ 2 := e
      have en : isName n = true := en
      simp only [It.At] at hat
      obtain ⟨p', q, xs, e1, h1, hrow, hb⟩ := hat
      cases e1
      simp only [It.tame] at ht
      refine ⟨_, rfl, rfl, _, rfl, ite2 (fun z => absurd (of_decide_eq_true z) (kne (by simp only [It.kind]; decide +kernel))) (fun _ => ?_)⟩
      refine ⟨_, rfl, rfl, _, rfl, ite2 (fun _ => ?_) (fun z => (z (decide_eq_true rfl)).elim)⟩
      cases n0 with
      | zero => exfalso; omega
      | succ m =>
        have g1 : H1 p = _ := s1 _ _ h1
        refine ⟨_, rfl, 2, rfl, p, _, rfl, SqT.of g1, by simp only [List.length_cons, List.length_nil]; decide, fun p1 hp1 => ?_⟩
        have s2 := same_new hp1 (.tup (cutV [.str "either", .str n, .ref q] none (some 2)))
        have g2 := s2 _ _ g1
        refine ⟨_, rfl, p, _, 2, _, rfl, rfl, SqT.of g2, atI_nat (j := 2) rfl, ?_⟩
        refine ⟨_, rfl, d, 1, rfl, rfl, ?_⟩
        have s12 := s1.trans s2
        refine ⟨q, _, xs, d + 1, rfl, by omega, hrow.same s12, hb.same s12, ht.2, fun ok p2 ys H2 s3 h2 a2 => ?_, fun no H2 s3 => q2 (by simp only [It.ok]; rw [no]; simp) H2 (s12.trans s3)⟩
        refine ⟨by show 1 ≤ sizeLine; decide, fun t ht4 => ?_⟩
        have s4 := same_new ht4 (.tup [.ref p2])
        refine ⟨p1, t, [.str "either", .str n], [.ref p2], rfl, rfl, SqT.of (s4 _ _ (s3 _ _ upd_same)), SqT.of upd_same, by simp, by show 3 ≤ sizeLine; decide, fun z => absurd z (by simp), fun _ p3 hp3 => ?_⟩
        refine q1 (by simp only [It.ok]; rw [ok]; simp [en, e]) (.ref p3) _ (s12.trans (s3.trans (s4.trans (same_new hp3 _)))) ?_
        simp only [It.At]
        exact ⟨p3, p2, ys, rfl, upd_same, .inl ((s4.trans (same_new hp3 _)) _ _ h2), a2.same (s4.trans (same_new hp3 _))⟩
    | swi n tag bs =>
      have e : d ≤ 2 := e
      have en : isName n = true := en
      simp only [It.At] at hat
      obtain ⟨p', q, xs, e1, h1, hrow, hb⟩ := hat
      cases e1
      simp only [It.tame] at ht
      refine ⟨_, rfl, rfl, _, rfl, ite2 (fun z => absurd (of_decide_eq_true z) (kne (by simp only [It.kind]; decide +kernel))) (fun _ => ?_)⟩
      refine ⟨_, rfl, rfl, _, rfl, ite2 (fun z => absurd (of_decide_eq_true z) (kne (by simp only [It.kind]; decide +kernel))) (fun _ => ?_)⟩
      refine ⟨_, rfl, rfl, _, rfl, ite2 (fun _ => ?_) (fun z => (z (decide_eq_true rfl)).elim)⟩
      cases n0 with
      | zero => exfalso; omega
      | succ m =>
        have g1 : H1 p = _ := s1 _ _ h1
        refine ⟨_, rfl, 3, rfl, p, _, rfl, SqT.of g1, by simp only [List.length_cons, List.length_nil]; decide, fun p1 hp1 => ?_⟩
        have s2 := same_new hp1 (.tup (cutV [.str "switch", .str n, .str tag, .ref q] none (some 3)))
        have g2 := s2 _ _ g1
        refine ⟨_, rfl, p, _, 3, _, rfl, rfl, SqT.of g2, atI_nat (j := 3) rfl, ?_⟩
        refine ⟨_, rfl, d, 1, rfl, rfl, ?_⟩
        have s12 := s1.trans s2
        refine ⟨q, _, xs, d + 1, rfl, by omega, hrow.same s12, hb.same s12, ht.2.2, fun ok p2 ys H2 s3 h2 a2 => ?_, fun no H2 s3 => q2 (by simp only [It.ok]; rw [no]; simp) H2 (s12.trans s3)⟩
        refine ⟨by show 1 ≤ sizeLine; decide, fun t ht4 => ?_⟩
        have s4 := same_new ht4 (.tup [.ref p2])
        refine ⟨p1, t, [.str "switch", .str n, .str tag], [.ref p2], rfl, rfl, SqT.of (s4 _ _ (s3 _ _ upd_same)), SqT.of upd_same, by simp, by show 4 ≤ sizeLine; decide, fun z => absurd z (by simp), fun _ p3 hp3 => ?_⟩
        refine q1 (by simp only [It.ok]; rw [ok]; simp [en, e]) (.ref p3) _ (s12.trans (s3.trans (s4.trans (same_new hp3 _)))) ?_
        simp only [It.At]
        exact ⟨p3, p2, ys, rfl, upd_same, .inl ((s4.trans (same_new hp3 _)) _ _ h2), a2.same (s4.trans (same_new hp3 _))⟩
end
end Bs

set_option Elab.async false
set_option linter.all false
set_option maxRecDepth 100000
set_option maxHeartbeats 4000000
namespace Bs
open PySem L2
/-! ### lengths of items -/
/-- the numbers that are visible: a dict of pairs -/
def VisAt (H : Hp) (d : Addr) (f : Env) (m : Nat) : Prop := ∃ kvs : List (Key × V), H d = some (.dK kvs) ∧ kvs.length ≤ m ∧ ∀ z : Str, match f z with
  | some p => ∃ a, valV kvs (.inr z) = some (.ref a) ∧ H a = some (.tup [.int p.1, .int p.2]) ∧ 0 ≤ p.1 ∧ p.1 ≤ p.2
  | none => valV kvs (.inr z) = none
theorem VisAt.same {H H' : Hp} {d : Addr} {f : Env} {m : Nat} (s : Same H H') (h : VisAt H d f m) : VisAt H' d f m := by
  obtain ⟨kvs, h1, h2, h3⟩ := h
  refine ⟨kvs, s _ _ h1, h2, fun z => ?_⟩
  have q := h3 z
  cases e : f z with
  | none => rw [e] at q; exact q
  | some p => rw [e] at q; obtain ⟨a, q1, q2, q3⟩ := q; exact ⟨a, q1, s _ _ q2, q3⟩
/-- a pair of ints comes out, or the error -/
def Told (C : Addr) (r : Option (Int × Int)) (H : Hp) (Q : VK) (E : XK) : Prop :=
  (∀ l, r = some l → ∀ p H', Same H H' → H' p = some (.tup [.int l.1, .int l.2]) → Q (.ref p) H') ∧ (r = none → ∀ H', Same H H' → E (.ref C) none H')
theorem Told.same {C : Addr} {r : Option (Int × Int)} {H H1 : Hp} {Q : VK} {E : XK} (s : Same H H1) (h : Told C r H Q E) : Told C r H1 Q E :=
  ⟨fun l e p H' s' => h.1 l e p H' (s.trans s'), fun e H' s' => h.2 e H' (s.trans s')⟩
def spAmount (C : Addr) : Sp := fun vs H Q E => ∃ (amt : Key) (most : Int) (dv : Addr) (g : Env) (m : Nat), vs = [kV amt, .ref dv, .int most] ∧ (most = 64 ∨ most = 16) ∧ VisAt H dv g m ∧ (∀ z, amt = .inr z → z.length ≤ 1000 ∧ (reprText z).length ≤ 1000) ∧ Told C (amount g most amt) H Q E
/-- KIND_lengths(item, visible), of an item at depth d -/
def spLens (C : Addr) (k : Str) (n : Nat) : Sp := fun vs H Q E => ∃ (v : V) (dv : Addr) (x : It) (f : Env) (m : Nat) (d : Int), vs = [v, .ref dv] ∧ x.kind = k ∧ d + n = 3 ∧ x.ok d = true ∧ x.tame ∧ x.At true H v ∧ VisAt H dv f m ∧ m + 12 * n ≤ 100 ∧ Told C (x.lens f) H Q E
theorem seq_asg0 {te : TE} {g : TG} {u : TS} {D : Ends} {σ : L2.St} {H : Hp} (h : te σ H fun x H1 => g x σ H1 (u D)) : tSeq (tAsg te g) u D σ H := h
section
variable {P : Program} {w : World} {K : PySem.W.Frag} {mg : Str → Option Value} {base : Heap} {f C : Addr} {fd : FuncData}
theorem slen0 (x y : Str) : (x ++ y).length = x.length + y.length := by
  have h : ∀ z : Str, z.length = z.cps.toList.length := fun z => by simp [Str.length]
  have a : (x ++ y).cps.toList = x.cps.toList ++ y.cps.toList := by
    show (x.cps ++ y.cps).toList = _
    simp
  rw [h, h, h, a, List.length_append]
theorem scAmount : FnScope ["amount", "visible", "most", "low", "high"] ["amount", "visible", "most"] (defScope sAmount) := ⟨rfl, rfl, rfl, by decide +kernel, rfl, by decide +kernel, by decide +kernel⟩
theorem ok_amount (F : Fun K "amount_bounds" "amount_bounds" sAmount f fd) (gR : Cal P w K mg base (L2.CX P w) 1 "require" ["holds", "words"] (spRequire C)) (gI : Cal P w K mg base CX0 1 "is_integer" ["value", "low", "high"] spIsInt) (mi : mg "isinstance" = none) (ms : mg "str" = none) :
    FnOk P w K mg base (L2.CX P w) 2 f fd ["amount", "visible", "most"] (spAmount C) := by
  refine F.okX scAmount (fun vs H Q E h => ?_) (fun cdv A outer s H vs Q E hr h => ?_)
  · obtain ⟨amt, most, dv, g, m, rfl, _⟩ := h
    rfl
  · obtain ⟨amt, most, dv, g, m, rfl, hm, hv, hr0, q1, q2⟩ := h
    have tk : Takes (cxOf (L2.CX P w) P w K mg base ["amount", "visible", "most", "low", "high"] "amount_bounds" (defScope sAmount) f cdv A outer s H E) (fun cls d _ H => E cls d H) := takes_of rfl rfl rfl rfl
    have hx := passes_call tk (E := E) fun _ _ _ _ h => h
    have hu := hu_of hr
    refine ⟨_, pss_cons (ps_if (pt_val (pe_callB call_isi (by rfl) mi (by decide +kernel) (pa_cons (pv 0) (pa_cons (pe_bltn (v := .ty "str") (by rfl) ms (by decide +kernel) rfl) pa_nil))))
        (pss_cons (ps_expr (pe_cal gR hr hx (pa_cons (pe_cmp (pc_din hu (pv 0) (pv 1)) (by rfl)) (pa_cons (pe_joined (.cons pe_str (.cons (pe_fmtR (pv 0)) .nil))) pa_nil))))
        (pss_cons (ps_asg (pe_dget hu (pv 1) (pv 0) (fun _ _ => rfl)) (pg_tup rfl (pgs_cons (pg_name (i := 3) scAmount.nd rfl (Or.inl rfl)) (pgs_cons (pg_name (i := 4) scAmount.nd rfl (Or.inl rfl)) pgs_nil))))
        (pss_cons (ps_expr (pe_cal gR hr hx (pa_cons (pe_cmpR op_le (pv 4) (pv 2) (nomark _)) (pa_cons (pe_joined (.cons pe_str (.cons (pe_fmtR (pv 0)) (.cons pe_str (.cons (pe_fmt (pv 2)) .nil))))) pa_nil))))
        (pss_one (ps_ret (pe_tup (pa_cons (pv 3) (pa_cons (pv 4) pa_nil)))))))) pss_nil)
      (pss_cons (ps_expr (pe_cal gR hr hx (pa_cons (pe_cal gI hr pass0 (pa_cons (pv 0) (pa_cons pe_int (pa_cons (pv 2) pa_nil)))) (pa_cons (pe_joined (.cons pe_str (.cons (pe_fmt (pv 2)) .nil))) pa_nil))))
      (pss_one (ps_ret (pe_tup (pa_cons (pv 0) (pa_cons (pv 0) pa_nil)))))), ?_⟩
    have ms2 : most.natAbs.log2 < 1920 ∧ (toString most : Str).length ≤ 1000 := by rcases hm with rfl | rfl <;> decide +kernel
    cases amt with
    | inl i =>
      refine ⟨_, rfl, _, _, _, _, false, rfl, .ty _, .base (.int _), kit_ty (by decide +kernel), _, rfl, iteF ?_⟩
      have fs : most.natAbs.log2 < 1920 ∧ (Str.empty ++ ("not from 0 to " : Str) ++ toString most).length ≤ sizeLine := by rcases hm with rfl | rfl <;> decide +kernel
      refine ⟨_, rfl, _, rfl, i, 0, most, rfl, _, rfl, by decide +kernel, _, rfl, .inr ⟨most, rfl, fs.1, _, rfl, fs.2, _, _, rfl, fun e => ?_, fun e => ?_⟩⟩
      · have e := of_decide_eq_true e
        refine ⟨_, rfl, _, rfl, (by show 2 ≤ sizeLine; decide), fun p hp => ?_⟩
        exact q1 (i, i) (by simp [amount, e]) p _ (same_new hp _) upd_same
      · have e := of_decide_eq_false e
        exact q2 (by simp [amount, e]) _ (Same.refl H)
    | inr z =>
      obtain ⟨hz, hrz⟩ := hr0 z rfl
      obtain ⟨kvs, v1, v2, v3⟩ := id hv
      refine ⟨_, rfl, _, _, _, _, true, rfl, .ty _, .base (.str _), kit_ty (by decide +kernel), _, rfl, iteT ?_⟩
      refine ⟨_, rfl, _, rfl, dv, _, rfl, DGet.k (k := .inr z) v1, _, rfl, by decide +kernel, _, rfl, .inl ⟨z, rfl, le_line (by omega), _, rfl, ?_, _, _, rfl, fun e => ?_, fun e => ?_⟩⟩
      · rw [slen0, slen0]
        exact le_line (by have : (Str.empty : Str).length + ("no visible number " : Str).length ≤ 1000 := by decide +kernel
                          omega)
      rotate_left
      · have v := v3 z
        cases hg : g z with
        | none => exact q2 (by simp [amount, hg]) _ (Same.refl H)
        | some p =>
          rw [hg] at v
          obtain ⟨b, w1, _⟩ := v
          rw [w1] at e
          cases e
      have v := v3 z
      cases hg : g z with
      | none =>
        rw [hg] at v
        rw [show valV kvs (.inr z) = none from v] at e
        cases e
      | some p =>
        rw [hg] at v
        obtain ⟨b, w1, hb, _⟩ := v
        dsimp only
        refine seq_asg0 ?_
        refine ⟨_, rfl, _, rfl, dv, .ref b, rfl, (by have t := DGet.k (k := .inr z) v1; rw [w1] at t; exact t), ?_⟩
        refine ⟨b, _, rfl, SqT.of hb, rfl, _, _, rfl, _, _, rfl, rfl, ?_⟩
        have l0 : (Str.empty : Str).length = 0 := by decide +kernel
        have l1 : ("the number " : Str).length ≤ 100 := by decide +kernel
        have l2 : (" can be greater than " : Str).length ≤ 100 := by decide +kernel
        refine ⟨_, rfl, _, rfl, _, _, rfl, rfl, _, rfl, by decide +kernel, _, rfl, .inl ⟨z, rfl, le_line (by omega), _, rfl, le_line (by rw [slen0, slen0]; omega), _, rfl, le_line (by rw [slen0, slen0, slen0]; omega), _, rfl, .inr ⟨most, rfl, ms2.1, _, rfl, le_line (by rw [slen0, slen0, slen0, slen0]; omega), _, _, rfl, fun e2 => ?_, fun e2 => ?_⟩⟩⟩
        · have e2 : p.2 ≤ most := of_decide_eq_true e2
          refine ⟨_, rfl, _, rfl, (by show 2 ≤ sizeLine; decide), fun t ht => ?_⟩
          exact q1 p (by simp [amount, hg, e2]) t _ (same_new ht _) upd_same
        · have e2 : ¬ p.2 ≤ most := of_decide_eq_false e2
          exact q2 (by simp [amount, hg, e2]) _ (Same.refl H)
theorem scBytes : FnScope ["item", "visible"] ["item", "visible"] (defScope sBytes) := ⟨rfl, rfl, rfl, by decide +kernel, rfl, by decide +kernel, by decide +kernel⟩
theorem ok_bytes {n : Nat} (F : Fun K "bytes_lengths" "bytes_lengths" sBytes f fd) (gA : Cal P w K mg base (L2.CX P w) 2 "amount_bounds" ["amount", "visible", "most"] (spAmount C)) (gL : GInt mg "GREATEST_LENGTH" 64) :
    FnOk P w K mg base (L2.CX P w) 3 f fd ["item", "visible"] (spLens C "bytes" n) := by
  refine F.okX scBytes (fun vs H Q E h => ?_) (fun cdv A outer s H vs Q E hr h => ?_)
  · obtain ⟨v, dv, x, g, m, d, rfl, _⟩ := h
    rfl
  · obtain ⟨v, dv, x, g, m, d, rfl, hk, hd, ok, ht, hat, hv, hm, q⟩ := h
    have tk : Takes (cxOf (L2.CX P w) P w K mg base ["item", "visible"] "bytes_lengths" (defScope sBytes) f cdv A outer s H E) (fun cls d _ H => E cls d H) := takes_of rfl rfl rfl rfl
    have hx := passes_call tk (E := E) fun _ _ _ _ h => h
    cases x with
    | byt nm amt =>
      simp only [It.tame] at ht
      simp only [It.At] at hat
      obtain ⟨p, rfl, hp⟩ := hat
      refine ⟨_, pss_one (ps_ret (pe_cal gA hr hx (pa_cons (pe_ix ix_tup (pv 0) pe_int (fun _ _ => rfl)) (pa_cons (pv 1) (pa_cons (pe_gint gL rfl) pa_nil))))), ?_⟩
      exact ⟨_, rfl, p, _, 2, _, rfl, rfl, SqT.of hp, atI_nat (j := 2) rfl, _, rfl, amt, 64, dv, g, m, rfl, .inl rfl, hv, ht.2, q⟩
    | _ => exact absurd hk (by simp only [It.kind]; decide +kernel)
theorem scText : FnScope ["item", "visible"] ["item", "visible"] (defScope sText) := ⟨rfl, rfl, rfl, by decide +kernel, rfl, by decide +kernel, by decide +kernel⟩
theorem ok_text {n : Nat} (F : Fun K "text_lengths" "text_lengths" sText f fd) (gR : Cal P w K mg base (L2.CX P w) 1 "require" ["holds", "words"] (spRequire C)) (gI : Cal P w K mg base CX0 1 "is_integer" ["value", "low", "high"] spIsInt) (gL : GInt mg "GREATEST_LENGTH" 64) (gB : GInt mg "GREATEST_BYTE" 255) :
    FnOk P w K mg base (L2.CX P w) 2 f fd ["item", "visible"] (spLens C "text" n) := by
  refine F.okX scText (fun vs H Q E h => ?_) (fun cdv A outer s H vs Q E hr h => ?_)
  · obtain ⟨v, dv, x, g, m, d, rfl, _⟩ := h
    rfl
  · obtain ⟨v, dv, x, g, m, d, rfl, hk, hd, ok, ht, hat, hv, hm, q1, q2⟩ := h
    have tk : Takes (cxOf (L2.CX P w) P w K mg base ["item", "visible"] "text_lengths" (defScope sText) f cdv A outer s H E) (fun cls d _ H => E cls d H) := takes_of rfl rfl rfl rfl
    have hx := passes_call tk (E := E) fun _ _ _ _ h => h
    cases x with
    | txt nm stop most =>
      simp only [It.At] at hat
      obtain ⟨p, rfl, hp⟩ := hat
      have hT : SqT K H p _ := SqT.of hp
      refine ⟨_, pss_cons (ps_expr (pe_cal gR hr hx (pa_cons (pe_cal gI hr pass0 (pa_cons (pe_ix ix_tup (pv 0) pe_int (fun _ _ => rfl)) (pa_cons pe_int (pa_cons (pe_gint gB rfl) pa_nil)))) (pa_cons pe_str pa_nil))))
        (pss_cons (ps_expr (pe_cal gR hr hx (pa_cons (pe_cal gI hr pass0 (pa_cons (pe_ix ix_tup (pv 0) pe_int (fun _ _ => rfl)) (pa_cons pe_int (pa_cons (pe_gint gL rfl) pa_nil)))) (pa_cons (pe_joined (.cons pe_str (.cons (pe_fmt (pe_gint gL rfl)) (.cons pe_str .nil)))) pa_nil))))
        (pss_one (ps_ret (pe_tup (pa_cons pe_int (pa_cons (pe_op op_add (pe_ix ix_tup (pv 0) pe_int (fun _ _ => rfl)) pe_int) pa_nil)))))), ?_⟩
      refine ⟨_, rfl, p, _, 2, _, rfl, rfl, hT, atI_nat (j := 2) rfl, stop, 0, 255, rfl, _, _, rfl, fun e => ?_, fun e => q2 (by have e := of_decide_eq_false e; simp only [It.lens]; rw [if_neg fun z => e z.1]) _ (Same.refl H)⟩
      have e := of_decide_eq_true e
      refine ⟨_, rfl, p, _, 3, _, rfl, rfl, hT, atI_nat (j := 3) rfl, most, 0, 64, rfl, ?_⟩
      refine ⟨_, rfl, by decide +kernel, .inr ⟨64, rfl, by decide +kernel, _, rfl, by decide +kernel, _, rfl, by decide +kernel, _, _, rfl, fun e2 => ?_, fun e2 => q2 (by have e2 := of_decide_eq_false e2; simp only [It.lens]; rw [if_neg fun z => e2 z.2]) _ (Same.refl H)⟩⟩
      have e2 := of_decide_eq_true e2
      refine ⟨_, rfl, p, _, 3, _, rfl, rfl, hT, atI_nat (j := 3) rfl, most, 1, rfl, rfl, (by show 2 ≤ sizeLine; decide), fun t ht4 => ?_⟩
      exact q1 (1, most + 1) (by simp only [It.lens]; rw [if_pos ⟨e, e2⟩]) t _ (same_new ht4 _) upd_same
    | _ => exact absurd hk (by simp only [It.kind]; decide +kernel)
theorem scCheck : FnScope ["item", "visible"] ["item", "visible"] (defScope sCheck) := ⟨rfl, rfl, rfl, by decide +kernel, rfl, by decide +kernel, by decide +kernel⟩
theorem ok_check {n : Nat} (F : Fun K "check_lengths" "check_lengths" sCheck f fd) (gR : Cal P w K mg base (L2.CX P w) 1 "require" ["holds", "words"] (spRequire C)) (gI : Cal P w K mg base CX0 1 "is_integer" ["value", "low", "high"] spIsInt) (gM : GInt mg "GREATEST_MODULUS" 16) :
    FnOk P w K mg base (L2.CX P w) 2 f fd ["item", "visible"] (spLens C "check" n) := by
  refine F.okX scCheck (fun vs H Q E h => ?_) (fun cdv A outer s H vs Q E hr h => ?_)
  · obtain ⟨v, dv, x, g, m, d, rfl, _⟩ := h
    rfl
  · obtain ⟨v, dv, x, g, m, d, rfl, hk, hd, ok, ht, hat, hv, hm, q1, q2⟩ := h
    have tk : Takes (cxOf (L2.CX P w) P w K mg base ["item", "visible"] "check_lengths" (defScope sCheck) f cdv A outer s H E) (fun cls d _ H => E cls d H) := takes_of rfl rfl rfl rfl
    have hx := passes_call tk (E := E) fun _ _ _ _ h => h
    cases x with
    | chk nm mo =>
      simp only [It.At] at hat
      obtain ⟨p, rfl, hp⟩ := hat
      have hT : SqT K H p _ := SqT.of hp
      refine ⟨_, pss_cons (ps_expr (pe_cal gR hr hx (pa_cons (pe_cal gI hr pass0 (pa_cons (pe_ix ix_tup (pv 0) pe_int (fun _ _ => rfl)) (pa_cons pe_int (pa_cons (pe_gint gM rfl) pa_nil)))) (pa_cons (pe_joined (.cons pe_str (.cons (pe_fmt (pe_gint gM rfl)) .nil))) pa_nil))))
        (pss_one (ps_ret (pe_tup (pa_cons pe_int (pa_cons pe_int pa_nil))))), ?_⟩
      refine ⟨_, rfl, p, _, 2, _, rfl, rfl, hT, atI_nat (j := 2) rfl, mo, 1, 16, rfl, ?_⟩
      refine ⟨_, rfl, by decide +kernel, .inr ⟨16, rfl, by decide +kernel, _, rfl, by decide +kernel, _, _, rfl, fun e => ?_, fun e => q2 (by have e := of_decide_eq_false e; simp only [It.lens]; rw [if_neg e]) _ (Same.refl H)⟩⟩
      have e := of_decide_eq_true e
      refine ⟨(by show 2 ≤ sizeLine; decide), fun t ht4 => ?_⟩
      exact q1 (1, 1) (by simp only [It.lens]; rw [if_pos e]) t _ (same_new ht4 _) upd_same
    | _ => exact absurd hk (by simp only [It.kind]; decide +kernel)
end
end Bs

set_option Elab.async false
set_option linter.all false
set_option maxRecDepth 100000
set_option maxHeartbeats 4000000
namespace Bs
open PySem L2
theorem two_go {c : Bool} {a b : Int} {σ : L2.St} {H : Hp} {R : V → Hp → Prop} (h : R (.int (if c = true then a else b)) H) : if c = true then tC (.int a) σ H R else tC (.int b) σ H R := by
  cases c with
  | true => exact iteT h
  | false => exact iteF h
theorem order_in (o : Str) : inV (.str o) [.str "big", .str "little"] = decide (o = "big" ∨ o = "little") := by
  rw [Bool.eq_iff_iff, decide_eq_true_iff]
  simp only [inV, List.any_cons, List.any_nil, eqV, Bool.or_false, Bool.or_eq_true]
  constructor
  · rintro (h | h)
    · exact .inl (eq_of_beq h).symm
    · exact .inr (eq_of_beq h).symm
  · rintro (h | h)
    · exact .inl (beq_iff_eq.mpr h.symm)
    · exact .inr (beq_iff_eq.mpr h.symm)
theorem int_eq {a b : Int} : decide (V.int a = V.int b) = decide (a = b) := decide_eq_decide.mpr ⟨V.int.inj, fun h => congrArg _ h⟩
section
variable {P : Program} {w : World} {K : PySem.W.Frag} {mg : Str → Option Value} {base : Heap} {f C : Addr} {fd : FuncData}
theorem scNumber : FnScope ["item", "visible", "size", "order", "low", "high", "greatest"] ["item", "visible"] (defScope sNumber) := ⟨rfl, rfl, rfl, by decide +kernel, rfl, by decide +kernel, by decide +kernel⟩
theorem ok_number {n : Nat} (F : Fun K "number_lengths" "number_lengths" sNumber f fd) (gR : Cal P w K mg base (L2.CX P w) 1 "require" ["holds", "words"] (spRequire C)) (gI : Cal P w K mg base CX0 1 "is_integer" ["value", "low", "high"] spIsInt) (gB : GInt mg "GREATEST_BYTE" 255) (gP : GInt mg "GREATEST_PAIR" 65535) :
    FnOk P w K mg base (L2.CX P w) 2 f fd ["item", "visible"] (spLens C "number" n) := by
  refine F.okX scNumber (fun vs H Q E h => ?_) (fun cdv A outer s H vs Q E hr h => ?_)
  · obtain ⟨v, dv, x, g, m, d, rfl, _⟩ := h
    rfl
  · obtain ⟨v, dv, x, g, m, d, rfl, hk, hd, ok, ht, hat, hv, hm, q1, q2⟩ := h
    have tk : Takes (cxOf (L2.CX P w) P w K mg base ["item", "visible", "size", "order", "low", "high", "greatest"] "number_lengths" (defScope sNumber) f cdv A outer s H E) (fun cls d _ H => E cls d H) := takes_of rfl rfl rfl rfl
    have hx := passes_call tk (E := E) fun _ _ _ _ h => h
    cases x with
    | num nm size order low high =>
      simp only [It.At] at hat
      obtain ⟨p, rfl, hp⟩ := hat
      have hT : SqT K H p _ := SqT.of hp
      refine ⟨_, pss_cons (ps_asg (pe_slice sl_tup (pv 0) (po_some pe_int) po_none) (pg_tup rfl (pgs_cons (pg_name (i := 2) scNumber.nd rfl (.inl rfl)) (pgs_cons (pg_name (i := 3) scNumber.nd rfl (.inl rfl)) (pgs_cons (pg_name (i := 4) scNumber.nd rfl (.inl rfl)) (pgs_cons (pg_name (i := 5) scNumber.nd rfl (.inl rfl)) pgs_nil))))))
        (pss_cons (ps_expr (pe_cal gR hr hx (pa_cons (pe_cal gI hr pass0 (pa_cons (pv 2) (pa_cons pe_int (pa_cons pe_int pa_nil)))) (pa_cons pe_str pa_nil))))
        (pss_cons (ps_expr (pe_cal gR hr hx (pa_cons (pe_cmpR op_in_seq (pv 3) (pe_tup (pa_cons pe_str (pa_cons pe_str pa_nil))) (by rfl)) (pa_cons pe_str pa_nil))))
        (pss_cons (ps_set (i := 6) scNumber.nd rfl (.inl rfl) (pe_ifExp (pt_cmpR op_eq (pv 2) pe_int (nomark _)) (pe_gint gB rfl) (pe_gint gP rfl)))
        (pss_cons (ps_expr (pe_cal gR hr hx (pa_cons (pe_cal gI hr pass0 (pa_cons (pv 5) (pa_cons pe_int (pa_cons (pv 6) pa_nil)))) (pa_cons (pe_joined (.cons pe_str (.cons (pe_fmt (pv 6)) .nil))) pa_nil))))
        (pss_cons (ps_expr (pe_cal gR hr hx (pa_cons (pe_cal gI hr pass0 (pa_cons (pv 4) (pa_cons pe_int (pa_cons (pv 5) pa_nil)))) (pa_cons pe_str pa_nil))))
        (pss_one (ps_ret (pe_tup (pa_cons (pv 2) (pa_cons (pv 2) pa_nil)))))))))), ?_⟩
      have no : numOk size order low high = false → ∀ H', Same H H' → E (.ref C) none H' := fun e => q2 (by simp only [It.lens]; rw [e]; rfl)
      refine ⟨_, rfl, 2, rfl, p, _, rfl, hT, by simp only [List.length_cons, List.length_nil]; decide, fun t ht4 => ?_⟩
      have s1 := same_new ht4 (.tup [.int size, .str order, .int low, .int high])
      refine ⟨t, [.int size, .str order, .int low, .int high], rfl, SqT.of upd_same, rfl, _, _, rfl, _, _, rfl, _, _, rfl, _, _, rfl, rfl, ?_⟩
      refine ⟨_, rfl, size, 1, 2, rfl, _, _, rfl, fun e1 => ?_, fun e1 => no (by unfold numOk; rw [e1]; rfl) _ s1⟩
      refine ⟨_, rfl, (by show 2 ≤ sizeLine; decide), fun o ho => ?_⟩
      have s2 := s1.trans (same_new ho (.tup [.str "big", .str "little"]))
      refine ⟨o, _, rfl, .inr (SqT.of upd_same), rfl, by decide +kernel, decide (order = "big" ∨ order = "little"), _, by rw [← order_in]; rfl, fun e2 => ?_, fun e2 => no (by unfold numOk; rw [e1, e2]; rfl) _ s2⟩
      refine ⟨_, rfl, rfl, _, rfl, two_go ?_⟩
      rw [int_eq]
      refine ⟨_, rfl, _, rfl, high, 0, _, rfl, ?_⟩
      have eg : (if decide (size = 1) = true then (255 : Int) else 65535) = if size = 1 then 255 else 65535 := by by_cases z : size = 1 <;> simp [z]
      rw [eg]
      have fs : (if size = 1 then (255 : Int) else 65535).natAbs.log2 < 1920 ∧ (Str.empty ++ ("a high is from 0 to " : Str) ++ toString (if size = 1 then (255 : Int) else 65535)).length ≤ sizeLine := by
        by_cases z : size = 1
        · rw [if_pos z]; decide +kernel
        · rw [if_neg z]; decide +kernel
      refine ⟨_, rfl, by decide +kernel, _, rfl, .inr ⟨_, rfl, fs.1, _, rfl, fs.2, _, _, rfl, fun e3 => ?_, fun e3 => no (by unfold numOk; rw [e1, e2, e3]; rfl) _ s2⟩⟩
      refine ⟨_, rfl, _, rfl, low, 0, high, rfl, _, _, rfl, fun e4 => ?_, fun e4 => no (by unfold numOk; rw [e1, e2, e3, e4]; rfl) _ s2⟩
      refine ⟨_, rfl, _, rfl, (by show 2 ≤ sizeLine; decide), fun r hr4 => ?_⟩
      exact q1 (size, size) (by simp only [It.lens]; unfold numOk; rw [e1, e2, e3, e4]; rfl) r _ (s2.trans (same_new hr4 _)) upd_same
    | _ => exact absurd hk (by simp only [It.kind]; decide +kernel)
theorem scPad : FnScope ["item", "visible", "multiple"] ["item", "visible"] (defScope sPad) := ⟨rfl, rfl, rfl, by decide +kernel, rfl, by decide +kernel, by decide +kernel⟩
/-- MULTIPLES -/
def Mults (K : PySem.W.Frag) (mg : Str → Option Value) : Prop := ∃ a, mg "MULTIPLES" = some (.ref a) ∧ ∀ H, SqT K H a [.int 1, .int 2, .int 4, .int 8, .int 16]
theorem mult_in (o : Int) : inV (.int o) [.int 1, .int 2, .int 4, .int 8, .int 16] = decide (o = 1 ∨ o = 2 ∨ o = 4 ∨ o = 8 ∨ o = 16) := by
  rw [Bool.eq_iff_iff, decide_eq_true_iff]
  simp only [inV, List.any_cons, List.any_nil, eqV, Bool.or_false, Bool.or_eq_true, beq_iff_eq]
  omega
theorem ok_pad {n : Nat} (F : Fun K "pad_lengths" "pad_lengths" sPad f fd) (gR : Cal P w K mg base (L2.CX P w) 1 "require" ["holds", "words"] (spRequire C)) (gI : Cal P w K mg base CX0 1 "is_integer" ["value", "low", "high"] spIsInt) (gB : GInt mg "GREATEST_BYTE" 255) (gM : Mults K mg) :
    FnOk P w K mg base (L2.CX P w) 2 f fd ["item", "visible"] (spLens C "pad" n) := by
  refine F.okX scPad (fun vs H Q E h => ?_) (fun cdv A outer s H vs Q E hr h => ?_)
  · obtain ⟨v, dv, x, g, m, d, rfl, _⟩ := h
    rfl
  · obtain ⟨v, dv, x, g, m, d, rfl, hk, hd, ok, ht, hat, hv, hm, q1, q2⟩ := h
    obtain ⟨aM, gM1, gM2⟩ := gM
    have tk : Takes (cxOf (L2.CX P w) P w K mg base ["item", "visible", "multiple"] "pad_lengths" (defScope sPad) f cdv A outer s H E) (fun cls d _ H => E cls d H) := takes_of rfl rfl rfl rfl
    have hx := passes_call tk (E := E) fun _ _ _ _ h => h
    cases x with
    | pad nm mo b =>
      simp only [It.At] at hat
      obtain ⟨p, rfl, hp⟩ := hat
      have hT : SqT K H p _ := SqT.of hp
      refine ⟨_, pss_cons (ps_set (i := 2) scPad.nd rfl (.inl rfl) (pe_ix ix_tup (pv 0) pe_int (fun _ _ => rfl)))
        (pss_cons (ps_expr (pe_cal gR hr hx (pa_cons (pe_and (pe_cal gI hr pass0 (pa_cons (pv 2) (pa_cons pe_int (pa_cons pe_int pa_nil)))) (pe_one (pe_cmpR op_in_seq (pv 2) (pe_glob (v := .ref aM) (by rfl) gM1 rfl) (by rfl)))) (pa_cons pe_str pa_nil))))
        (pss_cons (ps_expr (pe_cal gR hr hx (pa_cons (pe_cal gI hr pass0 (pa_cons (pe_ix ix_tup (pv 0) pe_int (fun _ _ => rfl)) (pa_cons pe_int (pa_cons (pe_gint gB rfl) pa_nil)))) (pa_cons pe_str pa_nil))))
        (pss_one (ps_ret (pe_tup (pa_cons pe_int (pa_cons (pe_op op_sub (pv 2) pe_int) pa_nil))))))), ?_⟩
      refine ⟨_, rfl, p, _, 2, _, rfl, rfl, hT, atI_nat (j := 2) rfl, ?_⟩
      have no : ¬ ((mo = 1 ∨ mo = 2 ∨ mo = 4 ∨ mo = 8 ∨ mo = 16) ∧ 0 ≤ b ∧ b ≤ 255) → ∀ H', Same H H' → E (.ref C) none H' := fun e => q2 (by simp only [It.lens]; rw [if_neg e])
      refine ⟨_, rfl, mo, 1, 16, rfl, _, rfl, ?_⟩
      refine ite2 (fun e => ?_) (fun e => ⟨false, _, rfl, fun z => absurd z (by decide), fun _ => no (fun z => e (decide_eq_true (by omega))) _ (Same.refl H)⟩)
      refine ⟨_, rfl, aM, _, rfl, .inr (gM2 H), rfl, by decide +kernel, decide (mo = 1 ∨ mo = 2 ∨ mo = 4 ∨ mo = 8 ∨ mo = 16), _, by rw [← mult_in]; rfl, fun e2 => ?_, fun e2 => no (fun z => of_decide_eq_false e2 z.1) _ (Same.refl H)⟩
      refine ⟨_, rfl, p, _, 3, _, rfl, rfl, hT, atI_nat (j := 3) rfl, b, 0, 255, rfl, _, _, rfl, fun e3 => ?_, fun e3 => no (fun z => of_decide_eq_false e3 z.2) _ (Same.refl H)⟩
      refine ⟨_, rfl, mo, 1, rfl, rfl, (by show 2 ≤ sizeLine; decide), fun r hr4 => ?_⟩
      exact q1 (0, mo - 1) (by simp only [It.lens]; rw [if_pos ⟨of_decide_eq_true e2, of_decide_eq_true e3⟩]) r _ (same_new hr4 _) upd_same
    | _ => exact absurd hk (by simp only [It.kind]; decide +kernel)
end
end Bs

set_option Elab.async false
set_option linter.all false
set_option maxRecDepth 100000
set_option maxHeartbeats 4000000
namespace Bs
open PySem L2
/-! ### a call of a slot that holds one of the rules -/
structure HeldR (X : Cx) (CX : CXT) (k : Nat) (f : Addr) (sp : Sp) : Prop where
  ex : ∃ (fd : FuncData) (ps : List Str), FnOk X.prog X.w X.K X.mg X.base CX k f fd ps sp ∧ PySem.W.keepIn X.K (.ref f) = true ∧ Binds X.K fd ps []
def tCallR (X : Cx) (CX : CXT) (k : Nat) (i : Nat) (E : XK) (t : TA) : TE := fun σ H Q => ∃ f sp, σ[i]? = some (some (.ref f)) ∧ HeldR X CX k f sp ∧ t σ H fun vs H1 => sp vs H1 Q E
theorem pe_callR {X : Cx} {CX : CXT} {k i : Nat} {E : XK} {x : Str} {p pos : Pos} {e : Expr} {es : List Expr} {t : TA} (hr : Room k X.A) (hN : X.N[i]? = some x) (hv : Vis X.env.scope x) (hx : Passes CX X E) (ha : PA X (e :: es) t)
    (hdb : (x == ("__debug__" : Str)) = false := by decide) (hcd : (x == ("__classdict__" : Str)) = false := by decide)
    (he : starEach (e :: es) X.env = (false, eval e X.env) :: starEach es X.env := by rfl) (hpl : (backTo pos (starEach es X.env)).any (·.1) = false := by rfl) : PE X (.Call (.Name x p) (e :: es) [] pos) (tCallR X CX k i E t) := by
  refine ⟨fun pins s σ H Q I ⟨f, sp, hs, hh, ht⟩ => ?_⟩
  obtain ⟨fd, ps, F, hk, hb⟩ := hh.ex
  refine (pe_callL (i := i) (dvs := []) F hr hN hv hk hb .nil hx ha hdb hcd he hpl).run pins s σ H Q I ⟨hs, ?_⟩
  have e2 : (fun (vs : List V) (H1 : Hp) => sp (vs ++ []) H1 Q E) = fun vs H1 => sp vs H1 Q E := by
    funext vs H1
    rw [List.append_nil]
  show t σ H (fun vs H1 => sp (vs ++ []) H1 Q E)
  rw [e2]
  exact ht
/-! ### list_lengths -/
def Its.drop : Nat → Its → Its
  | 0, x => x
  | _ + 1, .nil => .nil
  | i + 1, .cons _ r => r.drop i
theorem drop_get : ∀ {x : Its} {i : Nat} {y : It}, x.get i = some y → x.drop i = .cons y (x.drop (i + 1))
  | .nil, _, _, e => by simp [Its.get] at e
  | .cons x r, 0, y, e => by simp [Its.get] at e; subst e; cases r <;> rfl
  | .cons x r, i + 1, y, e => drop_get (x := r) e
theorem drop_all : ∀ (x : Its), x.drop x.len = .nil
  | .nil => rfl
  | .cons x r => drop_all r
theorem get_okd : ∀ {x : Its} {i : Nat} {y : It} {d : Int}, x.ok d = true → x.get i = some y → y.ok d = true
  | .nil, _, _, _, _, e => by simp [Its.get] at e
  | .cons x r, 0, y, d, h, e => by simp [Its.get] at e; subst e; rw [Its.ok, Bool.and_eq_true] at h; exact h.1
  | .cons x r, i + 1, y, d, h, e => by rw [Its.ok, Bool.and_eq_true] at h; exact get_okd (x := r) h.2 e
/-- the numbers behind an item -/
def It.seen (f : Env) : It → Env
  | .num n _ _ low high => f.put n (low, high)
  | _ => f
theorem lens_cons (f : Env) (x : It) (r : Its) : (Its.cons x r).lens f = match x.lens f with
    | some a => (r.lens (x.seen f)).map fun b => (a.1 + b.1, a.2 + b.2)
    | none => none := by
  cases x <;> simp only [Its.lens, It.seen] <;> (generalize It.lens f _ = u; generalize Its.lens _ r = v; cases u <;> cases v <;> rfl)
theorem num_in {g : Env} {nm order : Str} {size low high : Int} {l : Int × Int} (e : It.lens g (.num nm size order low high) = some l) : 0 ≤ low ∧ low ≤ high := by
  simp only [It.lens] at e
  by_cases c : numOk size order low high = true
  · unfold numOk at c
    rw [Bool.and_eq_true, Bool.and_eq_true, Bool.and_eq_true] at c
    exact of_decide_eq_true c.2.2.2
  · rw [if_neg c] at e; cases e
theorem vis_put {H : Hp} {d t : Addr} {f : Env} {m : Nat} {n : Str} {p : Int × Int} {kvs : List (Key × V)} (hd : H d = some (.dK kvs)) (hl : kvs.length ≤ m) (hv : ∀ z : Str, match f z with
      | some p => ∃ a, valV kvs (.inr z) = some (.ref a) ∧ H a = some (.tup [.int p.1, .int p.2]) ∧ 0 ≤ p.1 ∧ p.1 ≤ p.2
      | none => valV kvs (.inr z) = none) (ht : H t = some (.tup [.int p.1, .int p.2])) (hp : 0 ≤ p.1 ∧ p.1 ≤ p.2) : VisAt (upd H d (.dK (putK kvs (.inr n) (.ref t)))) d (f.put n p) (m + 1) := by
  have ne : ∀ a xs, H a = some (.tup xs) → a ≠ d := fun a xs e => ne_of e hd (by intro z; cases z)
  refine ⟨_, upd_same, Nat.le_trans (length_putK _ _ _) (by omega), fun z => ?_⟩
  rw [valV_put]
  by_cases hz : z = n
  · subst hz
    rw [if_pos rfl]
    show match (if z = z then some p else f z) with | some p => _ | none => _
    rw [if_pos rfl]
    exact ⟨t, rfl, by rw [upd_ne (ne _ _ ht)]; exact ht, hp⟩
  · rw [if_neg (fun e => hz (Sum.inr.inj e))]
    show match (if z = n then some p else f z) with | some p => _ | none => _
    rw [if_neg hz]
    have q := hv z
    cases e : f z with
    | none => rw [e] at q; exact q
    | some y => rw [e] at q; obtain ⟨a, q1, q2, q3⟩ := q; exact ⟨a, q1, by rw [upd_ne (ne _ _ q2)]; exact q2, q3⟩
def spLensList (C : Addr) (n : Nat) : Sp := fun vs H Q E => ∃ (a dv : Addr) (x : Its) (xs : List V) (f : Env) (m : Nat) (d : Int), vs = [.ref a, .ref dv] ∧ d + n = 3 ∧ x.ok d = true ∧ x.len ≤ 12 ∧ x.tame ∧ H a = some (.tup xs) ∧ x.At true H xs ∧ VisAt H dv f m ∧ m + 12 * (n + 1) ≤ 100 ∧
  Told C (x.lens f) H Q E
/-- RULES -/
def Rules (P : Program) (w : World) (K : PySem.W.Frag) (mg : Str → Option Value) (base : Heap) (C : Addr) (k n : Nat) : Prop := ∃ d es nn, mg "RULES" = some (.ref d) ∧ KDict K w d es nn ∧
  ∀ x : It, ∃ f fd, PySem.W.nsIn K d x.kind = some (some (.ref f)) ∧ PySem.W.keepIn K (.ref f) = true ∧ Binds K fd ["item", "visible"] [] ∧ FnOk P w K mg base (L2.CX P w) k f fd ["item", "visible"] (spLens C x.kind n)
section
variable {P : Program} {w : World} {K : PySem.W.Frag} {mg : Str → Option Value} {base : Heap} {f C : Addr} {fd : FuncData}
theorem scListLen : FnScope ["items", "visible", "known", "least", "greatest", "item", "rule", "low", "high"] ["items", "visible"] (defScope sListLen) := ⟨rfl, rfl, rfl, by decide +kernel, rfl, by decide +kernel, by decide +kernel⟩
theorem ok_listlen {n k : Nat} (F : Fun K "list_lengths" "list_lengths" sListLen f fd) (mdict : mg "dict" = none) (R : Rules P w K mg base C k n) :
    FnOk P w K mg base (L2.CX P w) (k + 1) f fd ["items", "visible"] (spLensList C n) := by
  refine F.okX scListLen (fun vs H Q E h => ?_) (fun cdv A outer s H vs Q E hr h => ?_)
  · obtain ⟨a, dv, x, xs, g, m, d, rfl, _⟩ := h
    rfl
  · obtain ⟨a, dv, x, xs, g, m, d, rfl, hd, ok, hlen, ht, ha, hat, ⟨kvs, v1, v2, v3⟩, hm, q1, q2⟩ := h
    obtain ⟨dR, es, nn, gR, DR, hR⟩ := R
    have tk : Takes (cxOf (L2.CX P w) P w K mg base ["items", "visible", "known", "least", "greatest", "item", "rule", "low", "high"] "list_lengths" (defScope sListLen) f cdv A outer s H E) (fun cls d _ H => E cls d H) := takes_of rfl rfl rfl rfl
    have hx : Passes (L2.CX P w) (cxOf (L2.CX P w) P w K mg base ["items", "visible", "known", "least", "greatest", "item", "rule", "low", "high"] "list_lengths" (defScope sListLen) f cdv A outer s H E) E := passes_call tk (E := E) fun _ _ _ _ h => h
    have hu := hu_of hr
    refine ⟨_, pss_cons (ps_set (i := 2) scListLen.nd rfl (.inl rfl) (pe_callTy call_dictD (by rfl) mdict (by decide +kernel) (pa_cons (pv 1) pa_nil)))
      (pss_cons (ps_set (i := 3) scListLen.nd rfl (.inl rfl) pe_int)
      (pss_cons (ps_set (i := 4) scListLen.nd rfl (.inl rfl) pe_int)
      (pss_cons (ps_for (passes_of rfl) rfl (pi_row (pv 0)) (pg_name (i := 5) scListLen.nd rfl (.inl rfl))
        (pss_cons (ps_set (i := 6) scListLen.nd rfl (.inl rfl) (pe_ix ix_kdict (pe_glob (v := .ref dR) (by rfl) gR rfl) (pe_ix ix_tup (pv 5) pe_int (fun _ _ => rfl)) (fun _ _ => rfl)))
        (pss_cons (ps_asg (pe_callR (i := 6) hr rfl (.inl rfl) hx (pa_cons (pv 5) (pa_cons (pv 2) pa_nil))) (pg_tup rfl (pgs_cons (pg_name (i := 7) scListLen.nd rfl (.inl rfl)) (pgs_cons (pg_name (i := 8) scListLen.nd rfl (.inl rfl)) pgs_nil))))
        (pss_cons (ps_aug (i := 3) scListLen.nd rfl (.inl rfl) (pv 7) ip_add)
        (pss_cons (ps_aug (i := 4) scListLen.nd rfl (.inl rfl) (pv 8) ip_add)
        (pss_one (ps_if (pt_cmpR op_eq (pe_ix ix_tup (pv 5) pe_int (fun _ _ => rfl)) pe_str (nomark _))
          (pss_one (ps_dput hu (pv 2) (pe_ix ix_tup (pv 5) pe_int (fun _ _ => rfl)) (pe_tup (pa_cons (pe_ix ix_tup (pv 5) pe_int (fun _ _ => rfl)) (pa_cons (pe_ix ix_tup (pv 5) pe_int (fun _ _ => rfl)) pa_nil))) rfl)) pss_nil)))))))
      (pss_one (ps_ret (pe_tup (pa_cons (pv 3) (pa_cons (pv 4) pa_nil)))))))), ?_⟩
    refine ⟨_, rfl, dv, kvs, rfl, .of v1, fun kn hkn => ?_⟩
    have s0 := same_new hkn (.dK kvs)
    refine ⟨_, rfl, a, rfl, ?_⟩
    have el := hat.len
    refine row_go2 (H0 := H) (.inl ha) s0 (fun J wk => ?_)
    refine for_it wk (fun i σ H' => ∃ L G i5 i6 i7 i8, σ = [some (.ref a), some (.ref dv), some (.ref kn), some (.int L), some (.int G), i5, i6, i7, i8] ∧ Same H H' ∧ ∃ gi, VisAt H' kn gi (m + i) ∧ x.lens g = ((x.drop i).lens gi).map fun p => (L + p.1, G + p.2))
      ⟨0, 0, none, none, none, none, rfl, s0, g, ⟨kvs, upd_same, v2, fun z => ?_⟩, ?_⟩ (fun _ _ _ _ h => by obtain ⟨_, _, _, _, _, _, _, z, _⟩ := h; exact z) ?_ ?_
    · have q := v3 z
      cases e : g z with
      | none => rw [e] at q; exact q
      | some p => rw [e] at q; obtain ⟨b, q1, q2, q3⟩ := q; exact ⟨b, q1, s0 _ _ q2, q3⟩
    · show x.lens g = (x.lens g).map _
      cases x.lens g with
      | none => rfl
      | some p => simp
    · rintro i v σ H2 H3 hi ⟨L, G, i5, i6, i7, i8, rfl, s2, gi, vis, el2⟩ ⟨e3, hv⟩
      subst e3
      obtain ⟨y, gy, ay⟩ := At_item (hat.same s2) hv
      obtain ⟨p, rest, rfl, hp, hrest⟩ := At_head ay
      obtain ⟨fR, fdR, r1, r2, r3, r4⟩ := hR y
      rw [drop_get gy, lens_cons] at el2
      have hTy : SqT K H3 p _ := SqT.of hp
      refine ⟨_, rfl, p, _, 0, _, rfl, rfl, hTy, atI_nat (j := 0) rfl, dR, y.kind, .ref fR, rfl, rfl, ⟨es, nn, _, DR.at_, DR.lit, r1, rfl⟩, ?_⟩
      refine ⟨fR, spLens C y.kind n, rfl, ⟨fdR, _, r4, r2, r3⟩, ?_⟩
      refine ⟨_, rfl, _, rfl, .ref p, kn, y, gi, m + i, d, rfl, rfl, hd, get_okd ok gy, get_tame ht gy, ay, vis, by omega, fun l el3 pl H4 s4 h4 => ?_, fun en H4 s4 => q2 (by rw [el2, en]; rfl) H4 (s2.trans s4)⟩
      rw [el3] at el2
      refine ⟨pl, _, rfl, SqT.of h4, rfl, _, _, rfl, _, _, rfl, rfl, ?_⟩
      refine ⟨_, rfl, _, rfl, _, _, rfl, rfl, ?_⟩
      refine ⟨_, rfl, _, rfl, _, _, rfl, rfl, ?_⟩
      have hTy4 : SqT K H4 p _ := SqT.of (s4 _ _ hp)
      refine ⟨_, rfl, p, _, 0, _, rfl, rfl, hTy4, atI_nat (j := 0) rfl, rfl, _, rfl, ?_⟩
      have next : ∀ r, Option.map (fun q => (L + q.1, G + q.2)) (Option.map (fun b : Int × Int => (l.1 + b.1, l.2 + b.2)) r) = Option.map (fun q => (L + l.1 + q.1, G + l.2 + q.2)) r := fun r => by
        cases r with
        | none => rfl
        | some b => simp [Int.add_assoc]
      refine ite2 (fun e => ?_) (fun e => ?_)
      · cases y with
        | num nm size order low high =>
          simp only [It.At] at ay
          obtain ⟨p', e5, hp5⟩ := ay
          cases e5
          have hp4 := s4 _ _ hp5
          obtain ⟨kv2, w1, w2, w3⟩ := vis.same s4
          refine ⟨_, rfl, p, _, 4, _, rfl, rfl, SqT.of hp4, atI_nat (j := 4) rfl, _, rfl, p, _, 5, _, rfl, rfl, SqT.of hp4, atI_nat (j := 5) rfl, (by show 2 ≤ sizeLine; decide), fun t ht4 => ?_⟩
          have s5 := same_new ht4 (.tup [.int low, .int high])
          have w15 := s5 _ _ w1
          refine ⟨_, rfl, _, rfl, p, _, 1, _, rfl, rfl, SqT.of (s5 _ _ hp4), atI_nat (j := 1) rfl, kn, _, rfl, DPut.k (k := .inr nm) w15 (small1000 (by omega)), ?_⟩
          have v5 := (VisAt.same s5 ⟨kv2, w1, w2, w3⟩)
          refine ⟨_, _, _, _, _, _, rfl, same_set (s2.trans (s4.trans s5)) hkn, gi.put nm (low, high), ?_, ?_⟩
          · refine vis_put w15 w2 (fun z => ?_) upd_same (num_in el3)
            have q := w3 z
            cases e9 : gi z with
            | none => rw [e9] at q; exact q
            | some y => rw [e9] at q; obtain ⟨b, q1, q2, q3⟩ := q; exact ⟨b, q1, s5 _ _ q2, q3⟩
          · rw [el2]
            exact next _
        | _ => exact absurd (of_decide_eq_true e) (kne (by simp only [It.kind]; decide +kernel))
      · have ns : y.seen gi = gi := by
          cases y with
          | num => exact absurd (decide_eq_true rfl) e
          | _ => rfl
        refine ⟨_, _, _, _, _, _, rfl, s2.trans s4, gi, ?_, ?_⟩
        · obtain ⟨kv2, w1, w2, w3⟩ := vis.same s4
          exact ⟨kv2, w1, by omega, w3⟩
        · rw [el2, ns]
          exact next _
    · rintro σ H2 ⟨L, G, i5, i6, i7, i8, rfl, s2, gi, vis, el2⟩
      rw [el, drop_all] at el2
      refine ⟨_, rfl, _, rfl, (by show 2 ≤ sizeLine; decide), fun t ht4 => ?_⟩
      exact q1 (L, G) (by rw [el2]; simp [Its.lens]) t _ (s2.trans (same_new ht4 _)) upd_same
end
end Bs

set_option Elab.async false
set_option linter.all false
set_option maxRecDepth 100000
set_option maxHeartbeats 4000000
namespace Bs
open PySem L2
/-! ### lengths of repeats, eithers, switches -/
def Blks.drop : Nat → Blks → Blks
  | 0, x => x
  | _ + 1, .nil => .nil
  | i + 1, .cons _ _ r => r.drop i
theorem dropB_get : ∀ {x : Blks} {i : Nat} {v : Int} {b : Its}, x.get i = some (v, b) → x.drop i = .cons v b (x.drop (i + 1))
  | .nil, _, _, _, e => by simp [Blks.get] at e
  | .cons v b r, 0, _, _, e => by simp only [Blks.get, Option.some.injEq, Prod.mk.injEq] at e; obtain ⟨rfl, rfl⟩ := e; cases r <;> rfl
  | .cons v b r, i + 1, _, _, e => dropB_get (x := r) e
theorem dropB_all : ∀ (x : Blks), x.drop x.len = .nil
  | .nil => rfl
  | .cons v b r => dropB_all r
theorem getB_okd : ∀ {x : Blks} {i : Nat} {c : Int} {b : Its} {d : Int}, x.ok d = true → x.get i = some (c, b) → b.len ≤ 12 ∧ b.ok d = true
  | .nil, _, _, _, _, _, e => by simp [Blks.get] at e
  | .cons v b r, 0, c, y, d, h, e => by
    simp only [Blks.get, Option.some.injEq, Prod.mk.injEq] at e
    obtain ⟨rfl, rfl⟩ := e
    rw [Blks.ok, Bool.and_eq_true, Bool.and_eq_true] at h
    exact ⟨of_decide_eq_true h.1.1, h.1.2⟩
  | .cons v b r, i + 1, c, y, d, h, e => by rw [Blks.ok, Bool.and_eq_true] at h; exact getB_okd (x := r) h.2 e
theorem lensB_cons (f : Env) (v : Int) (b : Its) (r : Blks) : (Blks.cons v b r).lens f = match b.lens f with
    | some a => (r.lens f).map (a :: ·)
    | none => none := by
  rw [Blks.lens]
  generalize b.lens f = u
  generalize r.lens f = w
  cases u <;> cases w <;> rfl
theorem lensB_len : ∀ {x : Blks} {f : Env} {r : List (Int × Int)}, x.lens f = some r → r.length = x.len
  | .nil, f, r, e => by simp [Blks.lens] at e; subst e; rfl
  | .cons v b y, f, r, e => by
    rw [lensB_cons] at e
    cases h : b.lens f with
    | none => rw [h] at e; cases e
    | some a =>
      rw [h] at e
      cases h2 : y.lens f with
      | none => rw [h2] at e; cases e
      | some l => rw [h2] at e; cases e; simp [Blks.len, lensB_len h2]
/-- pairs of ints in tuples -/
abbrev PairsAt (H : Hp) : List V → List (Int × Int) → Prop := Paired fun v p => ∃ a, v = .ref a ∧ H a = some (.tup [.int p.1, .int p.2])
theorem PairsAt.kp {H H' : Hp} (s : ∀ b xs, H b = some (.tup xs) → H' b = some (.tup xs)) : ∀ {l : List V} {r : List (Int × Int)}, PairsAt H l r → PairsAt H' l r
  | _, _, .nil => .nil
  | _, _, .cons ⟨a, e, h⟩ t => .cons ⟨a, e, s _ _ h⟩ (PairsAt.kp s t)
theorem PairsAt.app {H : Hp} {v : V} {p : Int × Int} (h : ∃ a, v = .ref a ∧ H a = some (.tup [.int p.1, .int p.2])) : ∀ {l : List V} {r : List (Int × Int)}, PairsAt H l r → PairsAt H (l ++ [v]) (r ++ [p])
  | _, _, .nil => .cons h .nil
  | _, _, .cons q t => .cons q (PairsAt.app h t)
theorem PairsAt.len {H : Hp} : ∀ {l : List V} {r : List (Int × Int)}, PairsAt H l r → l.length = r.length
  | _, _, .nil => rfl
  | _, _, .cons _ t => by simp [PairsAt.len t]
theorem PairsAt.get {H : Hp} : ∀ {l : List V} {r : List (Int × Int)} {i : Nat} {v : V}, PairsAt H l r → l[i]? = some v → ∃ p a, r[i]? = some p ∧ v = .ref a ∧ H a = some (.tup [.int p.1, .int p.2])
  | _, _, _, _, .nil, e => by simp at e
  | _, _, 0, _, .cons ⟨a, e0, h⟩ _, e => by simp at e; subst e; exact ⟨_, a, by simp, e0, h⟩
  | _, _, i + 1, _, .cons _ t, e => by obtain ⟨p, a, h⟩ := PairsAt.get (i := i) t (by simpa using e); exact ⟨p, a, by simpa using h.1, h.2⟩
theorem g_nx {i : Nat} {v : V} {σ : L2.St} {H : Hp} {N : L2.St → Hp → Prop} (h : N (σ.set i (some v)) H) : gName i v σ H N := h
theorem seq_asg {te : TE} {g : TG} {u : TS} {D : Ends} {σ : L2.St} {H : Hp} (h : te σ H fun x H1 => g x σ H1 (u D)) : tSeq (tAsg te g) u D σ H := h
theorem ret_cb {r : List V → Hp → VK → Prop} {te : TE} {u : TA} {D : Ends} {σ : L2.St} {H : Hp} (h : te σ H fun x H1 => r [x] H1 fun y H2 => u σ H2 fun vs H3 => (y :: vs).length ≤ sizeLine ∧ ∀ p, H3 p = none → D.rt (.ref p) (upd H3 p (.tup (y :: vs)))) :
    tRet (tTup (tCons (tCB r (tCons te tNil)) u)) D σ H := h
theorem cons_cb {r : List V → Hp → VK → Prop} {te : TE} {σ : L2.St} {H : Hp} {Q : List V → Hp → Prop} (h : te σ H fun x H1 => r [x] H1 fun y H2 => Q [y] H2) : tCons (tCB r (tCons te tNil)) tNil σ H Q := h
theorem take_more {α : Type} {l : List α} {i : Nat} {x : α} (h : l[i]? = some x) : l.take (i + 1) = l.take i ++ [x] := by
  rw [List.take_add_one, h]; rfl
/-- [x for x, y in told], told a list of pairs in slot 2 -/
theorem proj_lc {K : PySem.W.Frag} {a b c j : Nat} {vs : List Nat} {σ : L2.St} {H : Hp} {Q : VK} {T : Addr} {acc : List V} {rs : List (Int × Int)} (pr : Int × Int → Int) (h2 : σ[j]? = some (some (.ref T))) (hT : H T = some (.lst acc)) (hp : PairsAt H acc rs) (hl : rs.length ≤ 100)
    (hw : ∀ v w, wipe (((wipe σ vs).set a (some v)).set b (some w)) vs = wipe σ vs) (hc : ∀ p : Int × Int, (((wipe σ vs).set a (some (.int p.1))).set b (some (.int p.2)))[c]? = some (some (.int (pr p))))
    (q : ∀ D H', Same H H' → H' D = some (.lst ((rs.map pr).map V.int)) → Q (.ref D) H') : tLc (iList K (tVar j)) (gTup K 2 (gCons (gName a) (gCons (gName b) gNil))) tYes (tVar c) vs σ H Q := by
  refine ⟨_, h2, T, rfl, ⟨acc, SqL.of hT⟩, fun D hD => lc_list (K := K) (a := T) (xs := acc) (fun i H' => Same H H' ∧ H' D = some (.lst (((rs.take i).map pr).map V.int))) ⟨same_new hD _, upd_same⟩ (fun i H' _ h => SqL.of (h.1 _ _ hT)) ?_ ?_⟩
  · rintro i v H2 hi ⟨s2, h2⟩
    obtain ⟨p, t, e1, rfl, ht⟩ := hp.get hi
    refine ⟨t, _, rfl, SqT.of (s2 _ _ ht), rfl, _, _, rfl, _, _, rfl, rfl, hw _ _, yes_go ⟨_, hc p, _, h2, small1000 (by rw [List.length_map, List.length_map, List.length_take]; omega), same_set s2 hD, ?_⟩⟩
    rw [upd_same, take_more e1, List.map_append, List.map_append]
    rfl
  · rintro H2 ⟨s2, h2⟩
    rw [hp.len, List.take_length] at h2
    exact q D H2 s2 h2
/-- [x for x, y in told if x == 0] -/
theorem zero_lc {K : PySem.W.Frag} {a b j : Nat} {vs : List Nat} {σ : L2.St} {H : Hp} {Q : VK} {T : Addr} {acc : List V} {rs : List (Int × Int)} (h2 : σ[j]? = some (some (.ref T))) (hT : H T = some (.lst acc)) (hp : PairsAt H acc rs) (hl : rs.length ≤ 100)
    (hw : ∀ v w, wipe (((wipe σ vs).set a (some v)).set b (some w)) vs = wipe σ vs) (hc : ∀ p : Int × Int, (((wipe σ vs).set a (some (.int p.1))).set b (some (.int p.2)))[a]? = some (some (.int p.1)))
    (q : ∀ D H', Same H H' → H' D = some (.lst (((rs.filter fun p => decide (p.1 = 0)).map (·.1)).map V.int)) → Q (.ref D) H') : tLc (iList K (tVar j)) (gTup K 2 (gCons (gName a) (gCons (gName b) gNil))) (tTest (tOp rEq (tVar a) (tC (.int 0)))) (tVar a) vs σ H Q := by
  refine ⟨_, h2, T, rfl, ⟨acc, SqL.of hT⟩, fun D hD => lc_list (K := K) (a := T) (xs := acc) (fun i H' => Same H H' ∧ H' D = some (.lst ((((rs.take i).filter fun p => decide (p.1 = 0)).map (·.1)).map V.int))) ⟨same_new hD _, upd_same⟩ (fun i H' _ h => SqL.of (h.1 _ _ hT)) ?_ ?_⟩
  · rintro i v H2 hi ⟨s2, h2⟩
    obtain ⟨p, t, e1, rfl, ht⟩ := hp.get hi
    refine ⟨t, _, rfl, SqT.of (s2 _ _ ht), rfl, _, _, rfl, _, _, rfl, rfl, hw _ _, _, hc p, rfl, _, rfl, ?_⟩
    rw [int_eq]
    by_cases z : p.1 = 0
    · rw [decide_eq_true z]
      refine iteT ⟨_, hc p, _, h2, small1000 (Nat.le_trans (by rw [List.length_map, List.length_map]; exact List.length_filter_le _ _) (by rw [List.length_take]; omega)), same_set s2 hD, ?_⟩
      rw [upd_same, take_more e1, List.filter_append, List.map_append, List.map_append]
      simp [z]
    · rw [decide_eq_false z]
      refine iteF ⟨s2, ?_⟩
      rw [h2, take_more e1, List.filter_append]
      simp [z]
  · rintro H2 ⟨s2, h2⟩
    rw [hp.len, List.take_length] at h2
    exact q D H2 s2 h2
theorem spread_of {r : List (Int × Int)} {a b : Int} (h1 : a ∈ r.map (·.1)) (h2 : ∀ y ∈ r.map (·.1), a ≤ y) (h3 : b ∈ r.map (·.2)) (h4 : ∀ y ∈ r.map (·.2), y ≤ b) : spread r = some (a, b) := by
  unfold spread
  rw [List.min?_eq_some_iff.mpr ⟨h1, h2⟩, List.max?_eq_some_iff.mpr ⟨h3, h4⟩]
section
variable {P : Program} {w : World} {K : PySem.W.Frag} {mg : Str → Option Value} {base : Heap} {f C : Addr} {fd : FuncData}
theorem scRepeat : FnScope ["item", "visible", "fewest", "most", "least", "greatest"] ["item", "visible"] (defScope sRepeat) := ⟨rfl, rfl, rfl, by decide +kernel, rfl, by decide +kernel, by decide +kernel⟩
theorem amount_in {H : Hp} {dv : Addr} {g : Env} {m : Nat} {most : Int} {amt : Key} {l : Int × Int} (hv : VisAt H dv g m) (h16 : most ≤ 1000) (e : amount g most amt = some l) : 0 ≤ l.1 ∧ l.1 ≤ most ∧ 0 ≤ l.2 ∧ l.2 ≤ most := by
  cases amt with
  | inl i =>
    simp only [amount] at e
    by_cases z : 0 ≤ i ∧ i ≤ most
    · rw [if_pos z] at e
      obtain rfl := Option.some.inj e
      exact ⟨z.1, z.2, z.1, z.2⟩
    · rw [if_neg z] at e; cases e
  | inr z =>
    simp only [amount] at e
    obtain ⟨kvs, _, _, v3⟩ := hv
    have v := v3 z
    cases hg : g z with
    | none => rw [hg] at e; cases e
    | some p =>
      rw [hg] at e v
      obtain ⟨a, _, _, p1, p2⟩ := v
      simp only at e
      by_cases c : p.2 ≤ most
      · rw [if_pos c] at e
        obtain rfl := Option.some.inj e
        exact ⟨p1, by omega, by omega, c⟩
      · rw [if_neg c] at e; cases e
theorem ok_repeat {n k : Nat} (hk : 2 ≤ k) (F : Fun K "repeat_lengths" "repeat_lengths" sRepeat f fd) (gR : Cal P w K mg base (L2.CX P w) 1 "require" ["holds", "words"] (spRequire C)) (gA : Cal P w K mg base (L2.CX P w) 2 "amount_bounds" ["amount", "visible", "most"] (spAmount C))
    (gN : GInt mg "GREATEST_COUNT" 16) (gL : Cal P w K mg base (L2.CX P w) k "list_lengths" ["items", "visible"] (spSub (spLensList C) n)) : FnOk P w K mg base (L2.CX P w) (k + 1) f fd ["item", "visible"] (spLens C "repeat" n) := by
  refine F.okX scRepeat (fun vs H Q E h => ?_) (fun cdv A outer s H vs Q E hr h => ?_)
  · obtain ⟨v, dv, x, g, m, d, rfl, _⟩ := h
    rfl
  · obtain ⟨v, dv, x, g, m, d, rfl, hk2, hd, ok, ht, hat, hv, hm, q1, q2⟩ := h
    have tk : Takes (cxOf (L2.CX P w) P w K mg base ["item", "visible", "fewest", "most", "least", "greatest"] "repeat_lengths" (defScope sRepeat) f cdv A outer s H E) (fun cls d _ H => E cls d H) := takes_of rfl rfl rfl rfl
    have hx := passes_call tk (E := E) fun _ _ _ _ h => h
    cases x with
    | rep nm amt b =>
      simp only [It.tame] at ht
      obtain ⟨_, hta, htb⟩ := ht
      simp only [It.At] at hat
      obtain ⟨p, q, xs, rfl, hp, hrow, hb⟩ := hat
      have hp : H p = some (.tup [.str "repeat", .str nm, kV amt, .ref q]) := hp
      have hq : H q = some (.tup xs) := hrow.elim id fun z => by cases z.1
      rw [It.ok, Bool.and_eq_true, Bool.and_eq_true, Bool.and_eq_true] at ok
      have d2 : d ≤ 2 := of_decide_eq_true ok.2.1
      have okb := ok.2.2.2
      have l12 : b.len ≤ 12 := of_decide_eq_true ok.2.2.1
      cases n with
      | zero => exfalso; omega
      | succ n =>
        refine ⟨_, pss_cons (ps_asg (pe_cal gA (hr.mono hk) hx (pa_cons (pe_ix ix_tup (pv 0) pe_int (fun _ _ => rfl)) (pa_cons (pv 1) (pa_cons (pe_gint gN rfl) pa_nil)))) (pg_tup rfl (pgs_cons (pg_name (i := 2) scRepeat.nd rfl (.inl rfl)) (pgs_cons (pg_name (i := 3) scRepeat.nd rfl (.inl rfl)) pgs_nil))))
          (pss_cons (ps_asg (pe_cal gL hr hx (pa_cons (pe_ix ix_tup (pv 0) pe_int (fun _ _ => rfl)) (pa_cons (pv 1) pa_nil))) (pg_tup rfl (pgs_cons (pg_name (i := 4) scRepeat.nd rfl (.inl rfl)) (pgs_cons (pg_name (i := 5) scRepeat.nd rfl (.inl rfl)) pgs_nil))))
          (pss_cons (ps_expr (pe_cal gR (hr.mono (by omega)) hx (pa_cons (pe_cmpR op_ge (pv 4) pe_int (nomark _)) (pa_cons pe_str pa_nil))))
          (pss_one (ps_ret (pe_tup (pa_cons (pe_op op_mul (pv 2) (pv 4)) (pa_cons (pe_op op_mul (pv 3) (pv 5)) pa_nil))))))), ?_⟩
        refine ⟨_, rfl, p, _, 2, _, rfl, rfl, SqT.of hp, atI_nat (j := 2) rfl, _, rfl, amt, 16, dv, g, m, rfl, .inr rfl, hv, hta, fun l e1 t H1 s1 h1 => ?_, fun e1 H1 s1 => q2 (by simp only [It.lens]; rw [e1]) H1 s1⟩
        have hi : 0 ≤ l.1 ∧ l.1 ≤ 16 ∧ 0 ≤ l.2 ∧ l.2 ≤ 16 := amount_in hv (by decide) e1
        refine ⟨t, _, rfl, SqT.of h1, rfl, _, _, rfl, _, _, rfl, rfl, ?_⟩
        refine ⟨_, rfl, p, _, 3, _, rfl, rfl, SqT.of (s1 _ _ hp), atI_nat (j := 3) rfl, _, rfl, q, dv, b, xs, g, m, d + 1, rfl, by omega, okb, l12, htb, s1 _ _ hq, hb.same s1, hv.same s1, by omega, fun l2 e2 t2 H2 s2 h2 => ?_, fun e2 H2 s2 => q2 (by simp only [It.lens]; rw [e1, e2]) H2 (s1.trans s2)⟩
        refine ⟨t2, _, rfl, SqT.of h2, rfl, _, _, rfl, _, _, rfl, rfl, ?_⟩
        refine ⟨_, rfl, _, _, rfl, rfl, _, _, rfl, fun e3 => ?_, fun e3 => q2 (by simp only [It.lens]; rw [e1, e2]; simp only; rw [if_neg (of_decide_eq_false e3)]) H2 (s1.trans s2)⟩
        have e3 : 1 ≤ l2.1 := of_decide_eq_true e3
        refine ⟨_, rfl, _, rfl, l.1, l2.1, rfl, rfl, .inl ⟨by omega, by omega⟩, _, rfl, _, rfl, l.2, l2.2, rfl, rfl, .inl ⟨by omega, by omega⟩, (by show 2 ≤ sizeLine; decide), fun t3 ht3 => ?_⟩
        exact q1 (l.1 * l2.1, l.2 * l2.2) (by simp only [It.lens]; rw [e1, e2]; simp only; rw [if_pos e3]) t3 _ (s1.trans (s2.trans (same_new ht3 _))) upd_same
    | _ => exact absurd hk2 (by simp only [It.kind]; decide +kernel)
theorem scEither : FnScope ["item", "visible", "told", "block", "empty", "least", "_", "greatest"] ["item", "visible"] (defScope sEither) := ⟨rfl, rfl, rfl, by decide +kernel, rfl, by decide +kernel, by decide +kernel⟩
theorem ok_either {n k : Nat} (hk : 2 ≤ k) (F : Fun K "either_lengths" "either_lengths" sEither f fd) (gR : Cal P w K mg base (L2.CX P w) 1 "require" ["holds", "words"] (spRequire C)) (ml : mg "len" = none) (mmin : mg "min" = none) (mmax : mg "max" = none)
    (gL : Cal P w K mg base (L2.CX P w) k "list_lengths" ["items", "visible"] (spSub (spLensList C) n)) : FnOk P w K mg base (L2.CX P w) (k + 1) f fd ["item", "visible"] (spLens C "either" n) := by
  refine F.okX scEither (fun vs H Q E h => ?_) (fun cdv A outer s H vs Q E hr h => ?_)
  · obtain ⟨v, dv, x, g, m, d, rfl, _⟩ := h
    rfl
  · obtain ⟨v, dv, x, g, m, d, rfl, hk2, hd, ok, ht, hat, hv, hm, q1, q2⟩ := h
    have tk : Takes (cxOf (L2.CX P w) P w K mg base ["item", "visible", "told", "block", "empty", "least", "_", "greatest"] "either_lengths" (defScope sEither) f cdv A outer s H E) (fun cls d _ H => E cls d H) := takes_of rfl rfl rfl rfl
    have hx := passes_call tk (E := E) fun _ _ _ _ h => h
    cases x with
    | eit nm bs =>
      simp only [It.tame] at ht
      simp only [It.At] at hat
      obtain ⟨p, q, xs, rfl, hp, hrow, hb⟩ := hat
      have hq : H q = some (.tup xs) := hrow.elim id fun z => by cases z.1
      rw [It.ok, Bool.and_eq_true, Bool.and_eq_true, Bool.and_eq_true] at ok
      have d2 : d ≤ 2 := of_decide_eq_true ok.2.1
      have okb := ok.2.2.2
      have l24 : 2 ≤ bs.len ∧ bs.len ≤ 4 := of_decide_eq_true ok.2.2.1
      have el := hb.len
      cases n with
      | zero => exfalso; omega
      | succ n =>
        refine ⟨_, pss_cons (Rj.ps_setLcx (Ex := E) (i := 2) (own := [("block", 3)]) (g := gName 3) rfl rfl tk rfl scEither.nd rfl rfl (sw_true rfl rfl rfl (by decide +kernel)) (pi_row (pe_ix ix_tup (pv 0) pe_int (fun _ _ => rfl)))
            (blkOk_by (own := [("block", 3)]) (N := ["item", "visible", "told", "block", "empty", "least", "_", "greatest"]) (sc := defScope sEither) (by decide +kernel)) (fun _ _ _ _ _ => pg_name (i := 3) scEither.nd rfl (Or.inl rfl)) (fun _ _ _ _ _ => pe_cal gL hr Rj.fell_passes (pa_cons (pv 3) (pa_cons (pv 1) pa_nil))))
          (pss_cons (ps_setLc (i := 4) (own := [("least", 5), ("_", 6)]) (g := gTup K 2 (gCons (gName 5) (gCons (gName 6) gNil))) rfl scEither.nd rfl rfl (sw_true rfl rfl rfl (by decide +kernel)) (pi_list (pv 2))
            (blkOk_by (own := [("least", 5), ("_", 6)]) (N := ["item", "visible", "told", "block", "empty", "least", "_", "greatest"]) (sc := defScope sEither) (by decide +kernel)) (fun _ _ _ _ _ => pg_tup rfl (pgs_cons (pg_name (i := 5) scEither.nd rfl (Or.inl rfl)) (pgs_cons (pg_name (i := 6) scEither.nd rfl (Or.inl rfl)) pgs_nil)))
            (fun _ _ _ _ _ => pts_one (pt_cmpR op_eq (pv 5) pe_int (nomark _))) (fun _ _ _ _ _ => pv 5))
          (pss_cons (ps_expr (pe_cal gR (hr.mono (by omega)) hx (pa_cons (pe_cmpR op_le (pe_callB call_len (by rfl) ml boot_len (pa_cons (pv 4) pa_nil)) pe_int (nomark _)) (pa_cons pe_str pa_nil))))
          (pss_one (ps_ret (pe_tup (pa_cons (pe_callB (cr_min rfl) (by rfl) mmin (by decide +kernel) (pa_cons (pe_lc (own := [("least", 5), ("_", 6)]) (g := gTup K 2 (gCons (gName 5) (gCons (gName 6) gNil))) (tt := tYes) rfl scEither.nd (pi_list (pv 2))
            (blkOk_by (own := [("least", 5), ("_", 6)]) (N := ["item", "visible", "told", "block", "empty", "least", "_", "greatest"]) (sc := defScope sEither) (by decide +kernel)) (fun _ _ _ _ _ => pg_tup rfl (pgs_cons (pg_name (i := 5) scEither.nd rfl (Or.inl rfl)) (pgs_cons (pg_name (i := 6) scEither.nd rfl (Or.inl rfl)) pgs_nil)))
            (fun _ _ _ _ _ => pts_nil) (fun _ _ _ _ _ => pv 5)) pa_nil))
            (pa_cons (pe_callB (cr_max rfl) (by rfl) mmax (by decide +kernel) (pa_cons (pe_lc (own := [("_", 6), ("greatest", 7)]) (g := gTup K 2 (gCons (gName 6) (gCons (gName 7) gNil))) (tt := tYes) rfl scEither.nd (pi_list (pv 2))
            (blkOk_by (own := [("_", 6), ("greatest", 7)]) (N := ["item", "visible", "told", "block", "empty", "least", "_", "greatest"]) (sc := defScope sEither) (by decide +kernel)) (fun _ _ _ _ _ => pg_tup rfl (pgs_cons (pg_name (i := 6) scEither.nd rfl (Or.inl rfl)) (pgs_cons (pg_name (i := 7) scEither.nd rfl (Or.inl rfl)) pgs_nil)))
            (fun _ _ _ _ _ => pts_nil) (fun _ _ _ _ _ => pv 7)) pa_nil)) pa_nil))))))), ?_⟩
        refine ⟨_, rfl, p, _, 2, _, rfl, rfl, SqT.of hp, atI_nat (j := 2) rfl, q, rfl, ?_⟩
        refine row_go (H := H) (.inl hq) (fun J wk => ?_)
        intro D hD
        refine lc_it wk (fun i H' => Same H H' ∧ ∃ acc rs, H' D = some (.lst acc) ∧ PairsAt H' acc rs ∧ rs.length = i ∧ bs.lens g = ((bs.drop i).lens g).map (rs ++ ·))
          ⟨same_new hD _, [], [], upd_same, .nil, rfl, by show bs.lens g = (bs.lens g).map _; cases bs.lens g <;> rfl⟩ (fun _ _ _ h => h.1) ?_ ?_
        · rintro i v H2 H3 hi ⟨s2, acc, rs, hacc, hpa, hrs, el2⟩ ⟨e3, hv3⟩
          subst e3
          obtain ⟨c, b, qb, zs, gb, rfl, hrw, hbb⟩ := AtE_item (hb.same s2) hv3
          have hqb : H3 qb = some (.tup zs) := hrw.elim id fun z => by cases z.1
          rw [dropB_get gb, lensB_cons] at el2
          obtain ⟨b12, bok⟩ := getB_okd okb gb
          refine ⟨rfl, yes_go ?_⟩
          refine ⟨_, rfl, _, rfl, qb, dv, b, zs, g, m, d + 1, rfl, by omega, bok, b12, getB_tame ht.2 gb, hqb, hbb, hv.same s2, by omega, fun l e2 t2 H4 s4 h4 => ?_, fun e2 H4 s4 => q2 (by simp only [It.lens]; rw [el2, e2]; rfl) H4 (s2.trans s4)⟩
          have hacc4 := s4 _ _ hacc
          have ka : ∀ b xs, H4 b = some (.tup xs) → upd H4 D (.lst (acc ++ [.ref t2])) b = some (.tup xs) := fun b xs e => by rw [upd_ne (ne_of e hacc4 (by intro z; cases z))]; exact e
          refine ⟨acc, hacc4, small1000 (by rw [hpa.len]; omega), same_set (s2.trans s4) hD, acc ++ [.ref t2], rs ++ [l], upd_same, (PairsAt.app ⟨t2, rfl, h4⟩ (hpa.kp fun b xs h => s4 _ _ h)).kp ka, by simp [hrs], ?_⟩
          rw [el2, e2]
          cases (bs.drop (i + 1)).lens g <;> simp
        · rintro H2 ⟨s2, acc, rs, hacc, hpa, hrs, el2⟩
          rw [el, dropB_all] at el2
          have el2 : bs.lens g = some rs := by rw [el2]; simp [Blks.lens]
          have rl : rs.length ≤ 100 := by omega
          have hpos : 0 < rs.length := by rw [lensB_len el2]; omega
          refine g_nx ?_
          dsimp only
          refine seq_asg ?_
          refine zero_lc (j := 2) (a := 5) (b := 6) (vs := [5, 6]) (σ := [some (.ref p), some (.ref dv), some (.ref D), none, none, none, none, none]) rfl hacc hpa rl (fun _ _ => rfl) (fun _ => rfl) (fun D2 H3 s3 h3 => ?_)
          have ez : (((rs.filter fun p => decide (p.1 = 0)).map (·.1)).map V.int).length = (rs.filter fun p => decide (p.1 = 0)).length := by rw [List.length_map, List.length_map]
          refine ⟨_, rfl, V.ref D2, _, rfl, .inl ⟨_, SqL.of h3, rfl⟩, _, _, rfl, rfl, _, _, rfl, fun e => ?_, fun e => q2 (by simp only [It.lens]; rw [el2]; simp only; rw [if_neg (fun z => of_decide_eq_false e (by rw [ez]; omega))]) H3 (s2.trans s3)⟩
          have e : (rs.filter fun p => decide (p.1 = 0)).length ≤ 1 := by have e := of_decide_eq_true e; rw [ez] at e; omega
          have hacc3 := s3 _ _ hacc
          dsimp only
          refine ret_cb ?_
          refine proj_lc (j := 2) (a := 5) (b := 6) (c := 5) (vs := [5, 6]) (σ := [some (.ref p), some (.ref dv), some (.ref D), none, some (.ref D2), none, none, none]) (·.1) rfl hacc3 (hpa.kp fun b xs h => s3 _ _ h) rl (fun _ _ => rfl) (fun _ => rfl) (fun D3 H4 s4 h4 => ?_)
          refine ⟨D3, _, rfl, SqL.of h4, by rw [List.length_map]; exact hpos, fun mn hmn hle => ?_⟩
          have s34 := s3.trans s4
          dsimp only
          refine cons_cb ?_
          refine proj_lc (j := 2) (a := 6) (b := 7) (c := 7) (vs := [6, 7]) (σ := [some (.ref p), some (.ref dv), some (.ref D), none, some (.ref D2), none, none, none]) (·.2) rfl (s4 _ _ hacc3) (hpa.kp fun b xs h => s34 _ _ h) rl (fun _ _ => rfl) (fun _ => rfl) (fun D5 H5 s5 h5 => ?_)
          refine ⟨D5, _, rfl, SqL.of h5, by rw [List.length_map]; exact hpos, fun mx hmx hge => ?_⟩
          refine ⟨(by show 2 ≤ sizeLine; decide), fun t ht4 => ?_⟩
          exact q1 (mn, mx) (by simp only [It.lens]; rw [el2]; simp only; rw [if_pos e]; exact spread_of hmn hle hmx hge) t _ (s2.trans (s34.trans (s5.trans (same_new ht4 _)))) upd_same
    | _ => exact absurd hk2 (by simp only [It.kind]; decide +kernel)
end
end Bs

set_option Elab.async false
set_option linter.all false
set_option maxRecDepth 100000
set_option maxHeartbeats 4000000
namespace Bs
open PySem L2
theorem vals_get : ∀ {x : Blks} {i : Nat} {c : Int} {b : Its}, x.get i = some (c, b) → x.vals[i]? = some c
  | .nil, _, _, _, e => by simp [Blks.get] at e
  | .cons v b r, 0, _, _, e => by simp only [Blks.get, Option.some.injEq, Prod.mk.injEq] at e; obtain ⟨rfl, rfl⟩ := e; rfl
  | .cons v b r, i + 1, _, _, e => vals_get (x := r) e
theorem vals_len : ∀ (x : Blks), x.vals.length = x.len
  | .nil => rfl
  | .cons v b r => by simp [Blks.vals, Blks.len, vals_len r]
section
variable {P : Program} {w : World} {K : PySem.W.Frag} {mg : Str → Option Value} {base : Heap} {f C : Addr} {fd : FuncData}
abbrev nSwitch : List Str := ["item", "visible", "tag", "values", "value", "_", "told", "block", "least", "greatest"]
theorem scSwitch : FnScope nSwitch ["item", "visible"] (defScope sSwitch) := ⟨rfl, rfl, rfl, by decide +kernel, rfl, by decide +kernel, by decide +kernel⟩
theorem ok_switch {n k : Nat} (hk : 2 ≤ k) (F : Fun K "switch_lengths" "switch_lengths" sSwitch f fd) (gR : Cal P w K mg base (L2.CX P w) 1 "require" ["holds", "words"] (spRequire C)) (gI : Cal P w K mg base CX0 1 "is_integer" ["value", "low", "high"] spIsInt) (gP : GInt mg "GREATEST_PAIR" 65535)
    (ml : mg "len" = none) (mmin : mg "min" = none) (mmax : mg "max" = none) (mset : mg "set" = none) (mi : mg "isinstance" = none) (ms : mg "str" = none)
    (gL : Cal P w K mg base (L2.CX P w) k "list_lengths" ["items", "visible"] (spSub (spLensList C) n)) : FnOk P w K mg base (L2.CX P w) (k + 1) f fd ["item", "visible"] (spLens C "switch" n) := by
  refine F.okX scSwitch (fun vs H Q E h => ?_) (fun cdv A outer s H vs Q E hr h => ?_)
  · obtain ⟨v, dv, x, g, m, d, rfl, _⟩ := h
    rfl
  · obtain ⟨v, dv, x, g, m, d, rfl, hk2, hd, ok, ht, hat, hv, hm, q1, q2⟩ := h
    have tk : Takes (cxOf (L2.CX P w) P w K mg base nSwitch "switch_lengths" (defScope sSwitch) f cdv A outer s H E) (fun cls d _ H => E cls d H) := takes_of rfl rfl rfl rfl
    have hx := passes_call tk (E := E) fun _ _ _ _ h => h
    have hu := hu_of hr
    have hr1 : Room 1 _ := hr.mono (by omega)
    cases x with
    | swi nm tag bs =>
      simp only [It.tame] at ht
      simp only [It.At] at hat
      obtain ⟨p, q, xs, rfl, hp, hrow, hb⟩ := hat
      have hq : H q = some (.tup xs) := hrow.elim id fun z => by cases z.1
      rw [It.ok, Bool.and_eq_true, Bool.and_eq_true, Bool.and_eq_true] at ok
      have d2 : d ≤ 2 := of_decide_eq_true ok.2.1
      have okb := ok.2.2.2
      have l18 : 1 ≤ bs.len ∧ bs.len ≤ 8 := of_decide_eq_true ok.2.2.1
      have el := hb.len
      cases n with
      | zero => exfalso; omega
      | succ n =>
        refine ⟨_, pss_cons (ps_set (i := 2) scSwitch.nd rfl (.inl rfl) (pe_ix ix_tup (pv 0) pe_int (fun _ _ => rfl)))
          (pss_cons (ps_expr (pe_cal gR hr1 hx (pa_cons (pe_and (pe_callB call_isi (by rfl) mi (by decide +kernel) (pa_cons (pv 2) (pa_cons (pe_bltn (v := .ty "str") (by rfl) ms (by decide +kernel) rfl) pa_nil))) (pe_one (pe_cmp (pc_din hu (pv 2) (pv 1)) (by rfl)))) (pa_cons pe_str pa_nil))))
          (pss_cons (ps_setLc (i := 3) (own := [("value", 4), ("_", 5)]) (g := gTup K 2 (gCons (gName 4) (gCons (gName 5) gNil))) (tt := tYes) rfl scSwitch.nd rfl rfl (sw_true rfl rfl rfl (by decide +kernel)) (pi_tup (pe_ix ix_tup (pv 0) pe_int (fun _ _ => rfl)))
            (blkOk_by (own := [("value", 4), ("_", 5)]) (N := nSwitch) (sc := defScope sSwitch) (by decide +kernel)) (fun _ _ _ _ _ => pg_tup rfl (pgs_cons (pg_name (i := 4) scSwitch.nd rfl (Or.inl rfl)) (pgs_cons (pg_name (i := 5) scSwitch.nd rfl (Or.inl rfl)) pgs_nil)))
            (fun _ _ _ _ _ => pts_nil) (fun _ _ _ _ _ => pv 4))
          (pss_cons (ps_for (passes_of rfl) rfl (pi_list (pv 3)) (pg_name (i := 4) scSwitch.nd rfl (.inl rfl)) (pss_one (ps_expr (pe_cal gR hr1 hx (pa_cons (pe_cal gI hr1 pass0 (pa_cons (pv 4) (pa_cons pe_int (pa_cons (pe_gint gP rfl) pa_nil)))) (pa_cons (pe_joined (.cons pe_str (.cons (pe_fmt (pe_gint gP rfl)) .nil))) pa_nil))))))
          (pss_cons (ps_expr (pe_cal gR hr1 hx (pa_cons (pe_cmpR op_eq (RZ.pe_lenSetI (by rfl) ml (by rfl) mset (pv 3)) (pe_callB call_len (by rfl) ml boot_len (pa_cons (pv 3) pa_nil)) (nomark _)) (pa_cons pe_str pa_nil))))
          (pss_cons (Rj.ps_setLcx (Ex := E) (i := 6) (own := [("_", 5), ("block", 7)]) (g := gTup K 2 (gCons (gName 5) (gCons (gName 7) gNil))) rfl rfl tk rfl scSwitch.nd rfl rfl (sw_true rfl rfl rfl (by decide +kernel)) (pi_tup (pe_ix ix_tup (pv 0) pe_int (fun _ _ => rfl)))
            (blkOk_by (own := [("_", 5), ("block", 7)]) (N := nSwitch) (sc := defScope sSwitch) (by decide +kernel)) (fun _ _ _ _ _ => pg_tup rfl (pgs_cons (pg_name (i := 5) scSwitch.nd rfl (Or.inl rfl)) (pgs_cons (pg_name (i := 7) scSwitch.nd rfl (Or.inl rfl)) pgs_nil))) (fun _ _ _ _ _ => pe_cal gL hr Rj.fell_passes (pa_cons (pv 7) (pa_cons (pv 1) pa_nil))))
          (pss_one (ps_ret (pe_tup (pa_cons (pe_callB (cr_min rfl) (by rfl) mmin (by decide +kernel) (pa_cons (pe_lc (own := [("least", 8), ("_", 5)]) (g := gTup K 2 (gCons (gName 8) (gCons (gName 5) gNil))) (tt := tYes) rfl scSwitch.nd (pi_list (pv 6))
            (blkOk_by (own := [("least", 8), ("_", 5)]) (N := nSwitch) (sc := defScope sSwitch) (by decide +kernel)) (fun _ _ _ _ _ => pg_tup rfl (pgs_cons (pg_name (i := 8) scSwitch.nd rfl (Or.inl rfl)) (pgs_cons (pg_name (i := 5) scSwitch.nd rfl (Or.inl rfl)) pgs_nil)))
            (fun _ _ _ _ _ => pts_nil) (fun _ _ _ _ _ => pv 8)) pa_nil))
            (pa_cons (pe_callB (cr_max rfl) (by rfl) mmax (by decide +kernel) (pa_cons (pe_lc (own := [("_", 5), ("greatest", 9)]) (g := gTup K 2 (gCons (gName 5) (gCons (gName 9) gNil))) (tt := tYes) rfl scSwitch.nd (pi_list (pv 6))
            (blkOk_by (own := [("_", 5), ("greatest", 9)]) (N := nSwitch) (sc := defScope sSwitch) (by decide +kernel)) (fun _ _ _ _ _ => pg_tup rfl (pgs_cons (pg_name (i := 5) scSwitch.nd rfl (Or.inl rfl)) (pgs_cons (pg_name (i := 9) scSwitch.nd rfl (Or.inl rfl)) pgs_nil)))
            (fun _ _ _ _ _ => pts_nil) (fun _ _ _ _ _ => pv 9)) pa_nil)) pa_nil)))))))))), ?_⟩
        have no : ¬ ((g tag).isSome = true ∧ (∀ v ∈ bs.vals, 0 ≤ v ∧ v ≤ 65535) ∧ bs.vals.Nodup) → ∀ H', Same H H' → E (.ref C) none H' := fun e => q2 (by simp only [It.lens]; rw [if_neg e])
        obtain ⟨kvs, v1, v2, v3⟩ := id hv
        have et : (valV kvs (.inr tag)).isSome = (g tag).isSome := by
          have z := v3 tag
          revert z
          cases g tag with
          | none => intro z; rw [show valV kvs (.inr tag) = none from z]; rfl
          | some y => rintro ⟨b, z1, _⟩; rw [z1]; rfl
        refine ⟨_, rfl, p, _, 2, _, rfl, rfl, SqT.of hp, atI_nat (j := 2) rfl, ?_⟩
        refine ⟨_, rfl, _, _, _, _, true, rfl, .ty _, .base (.str _), kit_ty (by decide +kernel), _, rfl, iteT ?_⟩
        refine ⟨_, rfl, _, rfl, dv, _, rfl, DGet.k (k := .inr tag) v1, _, _, rfl, fun e => ?_, fun e => no (fun z => by rw [et, z.1] at e; cases e) _ (Same.refl H)⟩
        rw [et] at e
        dsimp only
        refine seq_asg ?_
        refine ⟨_, rfl, p, _, 3, _, rfl, rfl, SqT.of hp, atI_nat (j := 3) rfl, q, rfl, ⟨_, SqT.of hq⟩, fun D hD => lc_tup (K := K) (a := q) (xs := xs) (fun i H' => Same H H' ∧ H' D = some (.lst ((bs.vals.take i).map V.int))) ⟨same_new hD _, upd_same⟩ (fun i H' _ z => SqT.of (z.1 _ _ hq)) ?_ ?_⟩
        · rintro i v H2 hi ⟨s2, h2⟩
          obtain ⟨c, b, pc, qb, zs, gb, rfl, hpc, _⟩ := AtS_item (hb.same s2) hi
          refine ⟨pc, _, rfl, SqT.of hpc, rfl, _, _, rfl, _, _, rfl, rfl, rfl, yes_go ⟨_, rfl, _, h2, small1000 (by rw [List.length_map, List.length_take, vals_len]; omega), same_set s2 hD, ?_⟩⟩
          rw [upd_same, take_more (vals_get gb), List.map_append]
          rfl
        rintro H2 ⟨s2, h2⟩
        have evl : xs.length = bs.vals.length := by rw [vals_len, el]
        rw [evl, List.take_length] at h2
        -- each value
        refine ⟨_, rfl, D, rfl, ⟨_, SqL.of h2⟩, for_list (K := K) (a := D) (xs := bs.vals.map V.int) (fun i σ H' => ∃ s4, σ = [some (.ref p), some (.ref dv), some (.str tag), some (.ref D), s4, none, none, none, none, none] ∧ H' = H2 ∧ ∀ v ∈ bs.vals.take i, 0 ≤ v ∧ v ≤ 65535)
          ⟨none, rfl, rfl, fun _ z => by simp at z⟩ (fun i σ H' _ z => by obtain ⟨_, _, z, _⟩ := z; rw [z]; exact SqL.of h2) ?_ ?_⟩
        · rintro i y σ H3 hi ⟨s4, rfl, rfl, hall⟩
          obtain ⟨z, hz, rfl⟩ : ∃ z, bs.vals[i]? = some z ∧ y = V.int z := by
            rw [List.getElem?_map] at hi
            cases e9 : bs.vals[i]? with
            | none => rw [e9] at hi; cases hi
            | some z => rw [e9] at hi; exact ⟨z, rfl, (Option.some.inj hi).symm⟩
          refine ⟨_, rfl, z, 0, 65535, rfl, ?_⟩
          refine ⟨_, rfl, by decide +kernel, .inr ⟨65535, rfl, by decide +kernel, _, rfl, by decide +kernel, _, _, rfl, fun e2 => ?_, fun e2 => no (fun w => of_decide_eq_false e2 (w.2.1 z (List.mem_of_getElem? hz))) _ s2⟩⟩
          refine ⟨_, rfl, rfl, fun v hv => ?_⟩
          rw [take_more hz, List.mem_append] at hv
          rcases hv with hv | hv
          · exact hall v hv
          · have : v = z := by simpa using hv
            rw [this]
            exact of_decide_eq_true e2
        rintro σ H3 ⟨s4, rfl, rfl, hall⟩
        rw [List.length_map, List.take_length] at hall
        -- all different
        refine ⟨_, rfl, D, bs.vals, rfl, SqL.of h2, ht.2.1, by rw [vals_len]; omega, _, rfl, V.ref D, _, rfl, .inl ⟨_, SqL.of h2, rfl⟩, rfl, _, _, rfl, fun _ => ?_, fun e2 => absurd (by rw [List.length_map]) (of_decide_eq_false e2)⟩
        dsimp only
        refine seq_asg ?_
        refine ⟨_, rfl, p, _, 3, _, rfl, rfl, SqT.of (s2 _ _ hp), atI_nat (j := 3) rfl, q, rfl, ⟨_, SqT.of (s2 _ _ hq)⟩, fun D6 hD6 => lc_tup (K := K) (a := q) (xs := xs) (fun i H' => Same H3 H' ∧ ∃ acc rs, H' D6 = some (.lst acc) ∧ PairsAt H' acc rs ∧ rs.length = i ∧ bs.lens g = ((bs.drop i).lens g).map (rs ++ ·))
          ⟨same_new hD6 _, [], [], upd_same, .nil, rfl, by show bs.lens g = (bs.lens g).map _; cases bs.lens g <;> rfl⟩ (fun i H' _ z => SqT.of ((s2.trans z.1) _ _ hq)) ?_ ?_⟩
        · rintro i v H4 hi ⟨s4', acc, rs, hacc, hpa, hrs, el2⟩
          have s24 := s2.trans s4'
          obtain ⟨c, b, pc, qb, zs, gb, rfl, hpc, hrw, hbb⟩ := AtS_item (hb.same s24) hi
          have hqb : H4 qb = some (.tup zs) := hrw.elim id fun z => by cases z.1
          rw [dropB_get gb, lensB_cons] at el2
          obtain ⟨b12, bok⟩ := getB_okd okb gb
          have hlt := getB_lt gb
          refine ⟨pc, _, rfl, SqT.of hpc, rfl, _, _, rfl, _, _, rfl, rfl, rfl, yes_go ?_⟩
          refine ⟨_, rfl, _, rfl, qb, dv, b, zs, g, m, d + 1, rfl, by omega, bok, b12, getB_tame ht.2.2 gb, hqb, hbb, hv.same s24, by omega, fun l e2 t2 H5 s5 h5 => ?_, fun e2 H5 s5 => q2 (by simp only [It.lens]; rw [el2, e2]; simp) H5 (s24.trans s5)⟩
          have hacc4 := s5 _ _ hacc
          have ka : ∀ b xs, H5 b = some (.tup xs) → upd H5 D6 (.lst (acc ++ [.ref t2])) b = some (.tup xs) := fun b xs e => by rw [upd_ne (ne_of e hacc4 (by intro z; cases z))]; exact e
          refine ⟨acc, hacc4, small1000 (by rw [hpa.len]; omega), same_set (s4'.trans s5) hD6, acc ++ [.ref t2], rs ++ [l], upd_same, (PairsAt.app ⟨t2, rfl, h5⟩ (hpa.kp fun b xs h => s5 _ _ h)).kp ka, by simp [hrs], ?_⟩
          rw [el2, e2]
          cases (bs.drop (i + 1)).lens g <;> simp
        rintro H4 ⟨s4', acc, rs, hacc, hpa, hrs, el2⟩
        rw [el, dropB_all] at el2
        have el2 : bs.lens g = some rs := by rw [el2]; simp [Blks.lens]
        have rl : rs.length ≤ 100 := by omega
        have hpos : 0 < rs.length := by rw [lensB_len el2]; omega
        refine g_nx ?_
        refine ret_cb ?_
        refine proj_lc (j := 6) (a := 8) (b := 5) (c := 8) (vs := [8, 5]) (σ := [some (.ref p), some (.ref dv), some (.str tag), some (.ref D), s4, none, some (.ref D6), none, none, none]) (·.1) rfl hacc hpa rl (fun _ _ => rfl) (fun _ => rfl) (fun D3 H5 s5 h5 => ?_)
        refine ⟨D3, _, rfl, SqL.of h5, by rw [List.length_map]; exact hpos, fun mn hmn hle => ?_⟩
        dsimp only
        refine cons_cb ?_
        refine proj_lc (j := 6) (a := 5) (b := 9) (c := 9) (vs := [5, 9]) (σ := [some (.ref p), some (.ref dv), some (.str tag), some (.ref D), s4, none, some (.ref D6), none, none, none]) (·.2) rfl (s5 _ _ hacc) (hpa.kp fun b xs h => s5 _ _ h) rl (fun _ _ => rfl) (fun _ => rfl) (fun D7 H6 s6 h6 => ?_)
        refine ⟨D7, _, rfl, SqL.of h6, by rw [List.length_map]; exact hpos, fun mx hmx hge => ?_⟩
        refine ⟨(by show 2 ≤ sizeLine; decide), fun t ht4 => ?_⟩
        exact q1 (mn, mx) (by simp only [It.lens]; rw [if_pos ⟨e, hall, ht.2.1⟩, el2]; exact spread_of hmn hle hmx hge) t _ (s2.trans (s4'.trans (s5.trans (s6.trans (same_new ht4 _))))) upd_same
    | _ => exact absurd hk2 (by simp only [It.kind]; decide +kernel)
end
end Bs

set_option Elab.async false
set_option linter.all false
set_option maxRecDepth 100000
set_option maxHeartbeats 4000000
namespace Bs
open PySem L2
/-! ### the items in their order -/
def Blks.list : Blks → List Its
  | .nil => []
  | .cons _ b r => b :: r.list
def It.blocks : It → List Its
  | .rep _ _ b => [b]
  | .eit _ bs => bs.list
  | .swi _ _ bs => bs.list
  | _ => []
theorem walkB_list : ∀ (bs : Blks) (d : Int), bs.walk d = bs.list.flatMap (·.walk d)
  | .nil, d => by simp [Blks.walk, Blks.list]
  | .cons v b r, d => by simp [Blks.walk, Blks.list, walkB_list r]
theorem walk_it (x : It) (d : Int) : x.walk d = (d, x) :: x.blocks.flatMap (·.walk (d + 1)) := by
  cases x <;> simp [It.walk, It.blocks, walkB_list]
theorem walk_take : ∀ {x : Its} {i : Nat} {y : It} {d : Int}, x.get i = some y → (x.take (i + 1)).walk d = (x.take i).walk d ++ y.walk d
  | .nil, _, _, _, e => by simp [Its.get] at e
  | .cons x r, 0, y, d, e => by simp [Its.get] at e; subst e; simp [Its.take, Its.walk]
  | .cons x r, i + 1, y, d, e => by
    show (Its.cons x (r.take (i + 1))).walk d = (Its.cons x (r.take i)).walk d ++ y.walk d
    simp only [Its.walk, walk_take (x := r) e, List.append_assoc]
theorem walk_len {x : Its} {i : Nat} {y : It} {d : Int} (h : x.get i = some y) : ((x.take i).walk d).length + (y.walk d).length ≤ (x.walk d).length := by
  have : ∀ {x : Its} {i : Nat}, ((x.take i).walk d).length ≤ (x.walk d).length := by
    intro x
    induction x using Its.rec (motive_1 := fun _ => True) (motive_3 := fun _ => True) <;> (try trivial)
    · intro i; cases i <;> simp [Its.take, Its.walk]
    · rename_i x r _ ih
      intro i
      cases i with
      | zero => simp [Its.take, Its.walk]
      | succ i => simp only [Its.take, Its.walk, List.length_append]; have := ih (i := i); omega
  have h2 := this (x := x) (i := i + 1)
  rw [walk_take h, List.length_append] at h2
  exact h2
/-- rows of items, frozen -/
abbrev RowsAt (H : Hp) : List V → List Its → Prop := Paired fun v b => ∃ q xs, v = .ref q ∧ H q = some (.tup xs) ∧ b.At true H xs
theorem RowsAt.kp {H H' : Hp} (s : Kp true H H') : ∀ {l : List V} {r : List Its}, RowsAt H l r → RowsAt H' l r
  | _, _, .nil => .nil
  | _, _, .cons ⟨q, xs, e, h, g⟩ t => .cons ⟨q, xs, e, s.t _ _ h, g.kp s⟩ (RowsAt.kp s t)
theorem RowsAt.len {H : Hp} : ∀ {l : List V} {r : List Its}, RowsAt H l r → l.length = r.length
  | _, _, .nil => rfl
  | _, _, .cons _ t => by simp [RowsAt.len t]
theorem RowsAt.get {H : Hp} : ∀ {l : List V} {r : List Its} {i : Nat} {v : V}, RowsAt H l r → l[i]? = some v → ∃ b q xs, r[i]? = some b ∧ v = .ref q ∧ H q = some (.tup xs) ∧ b.At true H xs
  | _, _, _, _, .nil, e => by simp at e
  | _, _, 0, _, .cons ⟨q, xs, e0, h, g⟩ _, e => by simp at e; subst e; exact ⟨_, q, xs, by simp, e0, h, g⟩
  | _, _, i + 1, _, .cons _ t, e => by obtain ⟨b, q, xs, h⟩ := RowsAt.get (i := i) t (by simpa using e); exact ⟨b, q, xs, by simpa using h.1, h.2⟩
theorem rows_E {H : Hp} : ∀ {bs : Blks} {l : List V}, bs.AtE true H l → RowsAt H l bs.list
  | .nil, _, h => by simp only [Blks.AtE] at h; subst h; exact .nil
  | .cons v b r, _, h => by
    simp only [Blks.AtE] at h
    obtain ⟨q, xs, l', rfl, h1, h2, h3⟩ := h
    exact .cons ⟨q, xs, rfl, (h1.elim id fun z => by cases z.1), h2⟩ (rows_E h3)
theorem listB_get : ∀ {x : Blks} {i : Nat} {c : Int} {b : Its}, x.get i = some (c, b) → x.list[i]? = some b
  | .nil, _, _, _, e => by simp [Blks.get] at e
  | .cons v b r, 0, _, _, e => by simp only [Blks.get, Option.some.injEq, Prod.mk.injEq] at e; obtain ⟨rfl, rfl⟩ := e; rfl
  | .cons v b r, i + 1, _, _, e => listB_get (x := r) e
theorem listB_len : ∀ (x : Blks), x.list.length = x.len
  | .nil => rfl
  | .cons v b r => by simp [Blks.list, Blks.len, listB_len r]
theorem RowsAt.app {H : Hp} {v : V} {p : Its} (h : ∃ q xs, v = .ref q ∧ H q = some (.tup xs) ∧ p.At true H xs) : ∀ {l : List V} {r : List Its}, RowsAt H l r → RowsAt H (l ++ [v]) (r ++ [p])
  | _, _, .nil => .cons h .nil
  | _, _, .cons q t => .cons q (RowsAt.app h t)
def spBlocks : Sp := fun vs H Q _ => ∃ (v : V) (x : It), vs = [v] ∧ x.At true H v ∧ x.blocks.length ≤ 100 ∧ ∀ r zs H', Same H H' → H' r = some (.tup zs) → RowsAt H' zs x.blocks → Q (.ref r) H'
section
variable {P : Program} {w : World} {K : PySem.W.Frag} {mg : Str → Option Value} {base : Heap} {f C : Addr} {fd : FuncData}
theorem scBlocksOf : FnScope ["item", "_", "block"] ["item"] (defScope sBlocksOf) := ⟨rfl, rfl, rfl, by decide +kernel, rfl, by decide +kernel, by decide +kernel⟩
theorem ok_blocks (F : Fun K "blocks_of" "blocks_of" sBlocksOf f fd) (mt : mg "tuple" = none) : FnOk P w K mg base CX0 1 f fd ["item"] spBlocks := by
  refine F.ok scBlocksOf (fun vs H Q E h => ?_) (fun cdv A outer s H vs Q E hr h => ?_)
  · obtain ⟨v, x, rfl, _⟩ := h
    rfl
  · obtain ⟨v, x, rfl, hat, hb, q⟩ := h
    obtain ⟨p, rest, rfl, hp, hlen⟩ := At_head hat
    have hT : SqT K H p _ := SqT.of hp
    refine ⟨_, pss_cons (ps_if (pt_cmpR op_eq (pe_ix ix_tup (pv 0) pe_int (fun _ _ => rfl)) pe_str (nomark _)) (pss_one (ps_ret (pe_tup (pa_cons (pe_ix ix_tup (pv 0) pe_int (fun _ _ => rfl)) pa_nil)))) pss_nil)
      (pss_cons (ps_if (pt_cmpR op_eq (pe_ix ix_tup (pv 0) pe_int (fun _ _ => rfl)) pe_str (nomark _)) (pss_one (ps_ret (pe_ix ix_tup (pv 0) pe_int (fun _ _ => rfl)))) pss_nil)
      (pss_cons (ps_if (pt_cmpR op_eq (pe_ix ix_tup (pv 0) pe_int (fun _ _ => rfl)) pe_str (nomark _)) (pss_one (ps_ret (pe_tupleOf rfl mt (pe_lc (own := [("_", 1), ("block", 2)]) (g := gTup K 2 (gCons (gName 1) (gCons (gName 2) gNil))) (tt := tYes) rfl scBlocksOf.nd (pi_tup (pe_ix ix_tup (pv 0) pe_int (fun _ _ => rfl)))
            (blkOk_by (own := [("_", 1), ("block", 2)]) (N := ["item", "_", "block"]) (sc := defScope sBlocksOf) (by decide +kernel)) (fun _ _ _ _ _ => pg_tup rfl (pgs_cons (pg_name (i := 1) scBlocksOf.nd rfl (Or.inl rfl)) (pgs_cons (pg_name (i := 2) scBlocksOf.nd rfl (Or.inl rfl)) pgs_nil)))
            (fun _ _ _ _ _ => pts_nil) (fun _ _ _ _ _ => pv 2))))) pss_nil)
      (pss_one (ps_ret (pe_tup pa_nil))))), ?_⟩
    refine ⟨_, rfl, p, _, 0, _, rfl, rfl, hT, atI_nat (j := 0) rfl, rfl, _, rfl, ?_⟩
    cases x with
    | rep n amt b =>
      simp only [It.At] at hat
      obtain ⟨p', q2, xs, e1, h1, hrow, hbb⟩ := hat
      cases e1
      refine ite2 (fun _ => ?_) (fun z => (z (decide_eq_true rfl)).elim)
      refine ⟨_, rfl, p, _, 3, _, rfl, rfl, SqT.of h1, atI_nat (j := 3) rfl, (by show 1 ≤ sizeLine; decide), fun t ht4 => ?_⟩
      have s1 := same_new ht4 (.tup [.ref q2])
      exact q t _ _ s1 upd_same (.cons ⟨q2, xs, rfl, s1 _ _ (hrow.elim id fun z => by cases z.1), hbb.same s1⟩ .nil)
    | eit n bs =>
      simp only [It.At] at hat
      obtain ⟨p', q2, xs, e1, h1, hrow, hbb⟩ := hat
      cases e1
      refine ite2 (fun z => absurd (of_decide_eq_true z) (kne (by simp only [It.kind]; decide +kernel))) (fun _ => ?_)
      refine ⟨_, rfl, p, _, 0, _, rfl, rfl, hT, atI_nat (j := 0) rfl, rfl, _, rfl, ite2 (fun _ => ?_) (fun z => (z (decide_eq_true rfl)).elim)⟩
      refine ⟨_, rfl, p, _, 2, _, rfl, rfl, SqT.of h1, atI_nat (j := 2) rfl, ?_⟩
      exact q q2 xs H (Same.refl H) (hrow.elim id fun z => by cases z.1) (rows_E hbb)
    | swi n tag bs =>
      simp only [It.At] at hat
      obtain ⟨p', q2, xs, e1, h1, hrow, hbb⟩ := hat
      cases e1
      have hq : H q2 = some (.tup xs) := hrow.elim id fun z => by cases z.1
      refine ite2 (fun z => absurd (of_decide_eq_true z) (kne (by simp only [It.kind]; decide +kernel))) (fun _ => ?_)
      refine ⟨_, rfl, p, _, 0, _, rfl, rfl, hT, atI_nat (j := 0) rfl, rfl, _, rfl, ite2 (fun z => absurd (of_decide_eq_true z) (kne (by simp only [It.kind]; decide +kernel))) (fun _ => ?_)⟩
      refine ⟨_, rfl, p, _, 0, _, rfl, rfl, hT, atI_nat (j := 0) rfl, rfl, _, rfl, ite2 (fun _ => ?_) (fun z => (z (decide_eq_true rfl)).elim)⟩
      have el := hbb.len
      have hb : bs.list.length ≤ 100 := hb
      refine ⟨_, rfl, p, _, 3, _, rfl, rfl, SqT.of h1, atI_nat (j := 3) rfl, q2, rfl, ⟨_, SqT.of hq⟩, fun D hD => lc_tup (K := K) (a := q2) (xs := xs) (fun i H' => Same H H' ∧ ∃ acc, H' D = some (.lst acc) ∧ RowsAt H' acc (bs.list.take i)) ⟨same_new hD _, [], upd_same, .nil⟩ (fun i H' _ z => SqT.of (z.1 _ _ hq)) ?_ ?_⟩
      · rintro i v H2 hi ⟨s2, acc, hacc, hra⟩
        obtain ⟨c, b, pc, qb, zs, gb, rfl, hpc, hrw, hb2⟩ := AtS_item (hbb.same s2) hi
        refine ⟨pc, _, rfl, SqT.of hpc, rfl, _, _, rfl, _, _, rfl, rfl, rfl, yes_go ⟨_, rfl, acc, hacc, small1000 (by rw [hra.len, List.length_take]; omega), same_set s2 hD, acc ++ [.ref qb], upd_same, ?_⟩⟩
        rw [take_more (listB_get gb)]
        exact (RowsAt.app ⟨qb, zs, rfl, (hrw.elim id fun z => by cases z.1), hb2⟩ hra).kp (.wr hacc)
      · rintro H2 ⟨s2, acc, hacc, hra⟩
        rw [el, ← listB_len, List.take_length] at hra
        refine .inl ⟨D, acc, rfl, SqL.of hacc, fun r hr2 => ?_⟩
        have s3 := same_new hr2 (.tup acc)
        exact q r acc _ (s2.trans s3) upd_same (hra.kp (.of s3))
    | _ =>
      refine ite2 (fun z => absurd (of_decide_eq_true z) (kne (by simp only [It.kind]; decide +kernel))) (fun _ => ?_)
      refine ⟨_, rfl, p, _, 0, _, rfl, rfl, hT, atI_nat (j := 0) rfl, rfl, _, rfl, ite2 (fun z => absurd (of_decide_eq_true z) (kne (by simp only [It.kind]; decide +kernel))) (fun _ => ?_)⟩
      refine ⟨_, rfl, p, _, 0, _, rfl, rfl, hT, atI_nat (j := 0) rfl, rfl, _, rfl, ite2 (fun z => absurd (of_decide_eq_true z) (kne (by simp only [It.kind]; decide +kernel))) (fun _ => ?_)⟩
      refine ⟨(by show 0 ≤ sizeLine; decide), fun r hr2 => ?_⟩
      exact q r [] _ (same_new hr2 _) upd_same .nil
/-- the rows of listed -/
abbrev WalkAt (H : Hp) : List V → List (Int × It) → Prop := Paired fun v p => ∃ t u, v = .ref t ∧ H t = some (.tup [.int p.1, u]) ∧ p.2.At true H u
theorem WalkAt.kp {H H' : Hp} (s : Kp true H H') : ∀ {l : List V} {r : List (Int × It)}, WalkAt H l r → WalkAt H' l r
  | _, _, .nil => .nil
  | _, _, .cons ⟨t, u, e, h, g⟩ r => .cons ⟨t, u, e, s.t _ _ h, g.kp s⟩ (WalkAt.kp s r)
theorem WalkAt.len {H : Hp} : ∀ {l : List V} {r : List (Int × It)}, WalkAt H l r → l.length = r.length
  | _, _, .nil => rfl
  | _, _, .cons _ t => by simp [WalkAt.len t]
theorem WalkAt.cat {H : Hp} : ∀ {l m : List V} {r q : List (Int × It)}, WalkAt H l r → WalkAt H m q → WalkAt H (l ++ m) (r ++ q)
  | _, _, _, _, .nil, h => h
  | _, _, _, _, .cons a t, h => .cons a (WalkAt.cat t h)
def spListed (n : Nat) : Sp := fun vs H Q _ => ∃ (a : Addr) (x : Its) (xs : List V) (d : Int), vs = [.ref a, .int d] ∧ d + n = 3 ∧ x.ok d = true ∧ H a = some (.tup xs) ∧ x.At true H xs ∧ (x.walk d).length ≤ 1000 ∧
  ∀ r rows H', Same H H' → H' r = some (.lst rows) → WalkAt H' rows (x.walk d) → Q (.ref r) H'
theorem bl_ok : ∀ {bs : Blks} {d : Int}, bs.ok d = true → ∀ b ∈ bs.list, b.ok d = true
  | .nil, _, _, _, h => by simp [Blks.list] at h
  | .cons v b r, d, h, c, hc => by
    rw [Blks.ok, Bool.and_eq_true, Bool.and_eq_true] at h
    rcases List.mem_cons.mp hc with e | hc
    · rw [e]; exact h.1.2
    · exact bl_ok h.2 c hc
theorem blocks_ok {x : It} {d : Int} (h : x.ok d = true) : x.blocks.length ≤ 8 ∧ ∀ b ∈ x.blocks, d ≤ 2 ∧ b.ok (d + 1) = true := by
  cases x with
  | rep n a b =>
    rw [It.ok, Bool.and_eq_true, Bool.and_eq_true, Bool.and_eq_true] at h
    refine ⟨by simp [It.blocks], fun c hc => ?_⟩
    have : c = b := by simpa [It.blocks] using hc
    rw [this]
    exact ⟨of_decide_eq_true h.2.1, h.2.2.2⟩
  | eit n bs =>
    rw [It.ok, Bool.and_eq_true, Bool.and_eq_true, Bool.and_eq_true] at h
    have := of_decide_eq_true h.2.2.1
    exact ⟨by show bs.list.length ≤ 8; rw [listB_len]; omega, fun c hc => ⟨of_decide_eq_true h.2.1, bl_ok h.2.2.2 c hc⟩⟩
  | swi n t bs =>
    rw [It.ok, Bool.and_eq_true, Bool.and_eq_true, Bool.and_eq_true] at h
    have := of_decide_eq_true h.2.2.1
    exact ⟨by show bs.list.length ≤ 8; rw [listB_len]; omega, fun c hc => ⟨of_decide_eq_true h.2.1, bl_ok h.2.2.2 c hc⟩⟩
  | _ => exact ⟨by simp [It.blocks], fun c hc => by simp [It.blocks] at hc⟩
theorem scListed : FnScope ["items", "depth", "found", "item", "block"] ["items", "depth"] (defScope sListed) := ⟨rfl, rfl, rfl, by decide +kernel, rfl, by decide +kernel, by decide +kernel⟩
theorem flat_len {l : List Its} {j : Nat} {b : Its} {d : Int} (h : l[j]? = some b) : ((l.take j).flatMap (·.walk d)).length + (b.walk d).length ≤ (l.flatMap (·.walk d)).length := by
  have e : l = l.take j ++ b :: l.drop (j + 1) := by
    have hj : j < l.length := (List.getElem?_eq_some_iff.mp h).1
    have hb : l[j] = b := (List.getElem?_eq_some_iff.mp h).2
    rw [← hb, ← List.drop_eq_getElem_cons hj, List.take_append_drop]
  have e2 : (l.flatMap (·.walk d)).length = ((l.take j ++ b :: l.drop (j + 1)).flatMap (·.walk d)).length := by rw [← e]
  rw [e2]
  simp only [List.flatMap_append, List.flatMap_cons, List.length_append]
  omega
theorem ok_listed {n k : Nat} (hk : 1 ≤ k) (F : Fun K "listed" "listed" sListed f fd) (gB : Cal P w K mg base CX0 1 "blocks_of" ["item"] spBlocks) (gS : Cal P w K mg base CX0 k "listed" ["items", "depth"] (spSub spListed n)) :
    FnOk P w K mg base CX0 (k + 1) f fd ["items", "depth"] (spListed n) := by
  refine F.ok scListed (fun vs H Q E h => ?_) (fun cdv A outer s H vs Q E hr h => ?_)
  · obtain ⟨a, x, xs, d, rfl, _⟩ := h
    rfl
  · obtain ⟨a, x, xs, d, rfl, hd, ok, ha, hat, hw, q⟩ := h
    refine ⟨_, pss_cons (ps_set (i := 2) scListed.nd rfl (.inl rfl) (pe_lst pa_nil))
      (pss_cons (ps_for PassesOwn.never rfl (pi_tup (pv 0)) (pg_name (i := 3) scListed.nd rfl (.inl rfl))
        (pss_cons (ps_expr (pe_bm PySem.F.plainAttrs_list PySem.F.slot_list_append PySem.F.type_list_append mt_append (pv 2) (pa_cons (pe_tup (pa_cons (pv 1) (pa_cons (pv 3) pa_nil))) pa_nil)))
        (pss_one (ps_for PassesOwn.never rfl (pi_tup (pe_cal gB (hr.mono hk) pass0 (pa_cons (pv 3) pa_nil))) (pg_name (i := 4) scListed.nd rfl (.inl rfl))
          (pss_one (ps_expr (pe_bm PySem.F.plainAttrs_list PySem.F.slot_list_extend PySem.F.type_list_extend mt_extend (pv 2) (pa_cons (pe_cal gS hr pass0 (pa_cons (pv 4) (pa_cons (pe_op op_add (pv 1) pe_int) pa_nil))) pa_nil))))))))
      (pss_one (ps_ret (pv 2)))), ?_⟩
    refine ⟨(by show 0 ≤ sizeLine; decide), fun D hD => ?_⟩
    have s0 := same_new hD (.lst [])
    have el := hat.len
    refine ⟨_, rfl, a, rfl, ⟨_, SqT.of (s0 _ _ ha)⟩, for_tup (K := K) (a := a) (xs := xs) (fun i σ H' => ∃ i3 i4, σ = [some (.ref a), some (.int d), some (.ref D), i3, i4] ∧ Same H H' ∧ ∃ acc, H' D = some (.lst acc) ∧ WalkAt H' acc ((x.take i).walk d))
      ⟨none, none, rfl, s0, [], upd_same, by simp [Its.take, Its.walk]; exact .nil⟩ (fun i σ H' _ z => by obtain ⟨_, _, _, z, _⟩ := z; exact SqT.of (z _ _ ha)) ?_ ?_⟩
    · rintro i v σ H2 hi ⟨i3, i4, rfl, s2, acc, hacc, hwa⟩
      obtain ⟨y, gy, ay⟩ := At_item (hat.same s2) hi
      obtain ⟨b8, bok⟩ := blocks_ok (get_okd ok gy)
      have wl := walk_len (d := d) gy
      have wy := walk_it y d
      have hal := hwa.len
      refine ⟨_, rfl, .inl ⟨rfl, _, SqL.of hacc⟩, _, rfl, _, rfl, (by show 2 ≤ sizeLine; decide), fun t ht4 => ?_⟩
      have s3 := same_new ht4 (.tup [.int d, v])
      have hacc3 := s3 _ _ hacc
      refine ⟨D, acc, .ref t, rfl, rfl, hacc3, small1000 (by omega), ?_⟩
      have k3 : Kp true H2 (upd (upd H2 t (.tup [.int d, v])) D (.lst (acc ++ [.ref t]))) := (Kp.of s3).trans (.wr hacc3)
      have hS3 : Same H (upd (upd H2 t (.tup [.int d, v])) D (.lst (acc ++ [.ref t]))) := same_set (s2.trans s3) hD
      have hw3 : WalkAt (upd (upd H2 t (.tup [.int d, v])) D (.lst (acc ++ [.ref t]))) (acc ++ [.ref t]) ((x.take i).walk d ++ [(d, y)]) := by
        refine (hwa.kp k3).cat (.cons ⟨t, v, rfl, ?_, ay.kp k3⟩ .nil)
        rw [upd_ne (ne_of upd_same hacc3 (by intro z; cases z)), upd_same]
      generalize hH3 : upd (upd H2 t (.tup [.int d, v])) D (.lst (acc ++ [.ref t])) = H3 at k3 hS3 hw3
      have hD3 : H3 D = some (.lst (acc ++ [.ref t])) := by rw [← hH3]; exact upd_same
      refine ⟨_, rfl, v, y, rfl, ay.kp k3, by omega, fun r zs H4 s4 hr4 hrows => ?_⟩
      refine ⟨r, rfl, ⟨_, SqT.of hr4⟩, for_tup (K := K) (a := r) (xs := zs) (fun j σ H' => ∃ i4, σ = [some (.ref a), some (.int d), some (.ref D), some v, i4] ∧ Same H H' ∧ H' r = some (.tup zs) ∧ RowsAt H' zs y.blocks ∧ ∃ acc', H' D = some (.lst acc') ∧ WalkAt H' acc' ((x.take i).walk d ++ [(d, y)] ++ (y.blocks.take j).flatMap (·.walk (d + 1))))
        ⟨_, rfl, hS3.trans s4, hr4, hrows, _, s4 _ _ hD3, by simpa using hw3.kp (.of s4)⟩ (fun j σ H' _ z => by obtain ⟨_, _, _, z, _⟩ := z; exact SqT.of z) ?_ ?_⟩
      · rintro j z σ H5 hj ⟨i4, rfl, s5, hr5, hrows5, acc', hacc', hwa'⟩
        obtain ⟨b, qb, xb, gb, rfl, hqb, hbb⟩ := hrows5.get hj
        obtain ⟨d2, bk⟩ := bok b (List.mem_of_getElem? gb)
        have fl := flat_len (d := d + 1) gb
        have yl : (y.walk d).length = 1 + (y.blocks.flatMap (·.walk (d + 1))).length := by rw [wy, List.length_cons]; omega
        have hal' := hwa'.len
        rw [List.length_append, List.length_append, List.length_singleton] at hal'
        cases n with
        | zero => exfalso; omega
        | succ m =>
          refine ⟨_, rfl, .inl ⟨rfl, _, SqL.of hacc'⟩, _, rfl, _, rfl, d, 1, rfl, rfl, qb, b, xb, d + 1, rfl, by omega, bk, hqb, hbb, by omega, fun r6 rows H6 s6 h6 w6 => ?_⟩
          have hacc6 := s6 _ _ hacc'
          refine ⟨D, r6, acc', rows, rfl, rfl, hacc6, h6, le_line (by rw [w6.len]; omega), ?_⟩
          have k6 : Kp true H6 (upd H6 D (.lst (acc' ++ rows))) := .wr hacc6
          refine ⟨_, rfl, same_set (s5.trans s6) hD, k6.t _ _ (s6 _ _ hr5), (hrows5.kp (.of s6)).kp k6, acc' ++ rows, upd_same, ?_⟩
          rw [take_more gb, List.flatMap_append, ← List.append_assoc]
          simp only [List.flatMap_cons, List.flatMap_nil, List.append_nil]
          exact ((hwa'.kp (.of s6)).cat w6).kp k6
      · rintro σ H5 ⟨i4, rfl, s5, hr5, hrows5, acc', hacc', hwa'⟩
        rw [hrows5.len, List.take_length] at hwa'
        refine ⟨_, _, rfl, s5, acc', hacc', ?_⟩
        rw [walk_take gy, wy]
        simpa using hwa'
    · rintro σ H2 ⟨i3, i4, rfl, s2, acc, hacc, hwa⟩
      rw [el, take_all] at hwa
      exact ⟨_, rfl, q D acc H2 s2 hacc hwa⟩
end
end Bs

set_option Elab.async false
set_option linter.all false
set_option maxRecDepth 100000
set_option maxHeartbeats 8000000
/-! len(set(t)), t a tuple of texts, any number below 4000 -/
namespace Bs
open PySem PySem.Spec PyProof.Rows L2
/-- how many different ones stand among the first i -/
def met (xs : List Str) : Nat → Nat
  | 0 => 0
  | i + 1 => if (xs.take i).any (· == xs.getD i Str.empty) = true then met xs i else met xs i + 1
theorem met_le (xs : List Str) : ∀ i, met xs i ≤ i
  | 0 => Nat.le_refl 0
  | i + 1 => by
    unfold met
    have := met_le xs i
    split <;> omega
theorem met_nodup {xs : List Str} : ∀ i, i ≤ xs.length → (met xs i = i ↔ (xs.take i).Nodup)
  | 0, _ => by simp [met]
  | i + 1, hi => by
    have ih := met_nodup (xs := xs) i (by omega)
    have hx : xs[i]? = some (xs.getD i Str.empty) := by rw [List.getD_eq_getElem?_getD, List.getElem?_eq_getElem (by omega)]; rfl
    have et : xs.take (i + 1) = xs.take i ++ [xs.getD i Str.empty] := by rw [List.take_add_one, hx]; rfl
    have le := met_le xs i
    rw [et, List.nodup_append]
    unfold met
    by_cases c : (xs.take i).any (· == xs.getD i Str.empty) = true
    · rw [if_pos c]
      constructor
      · intro e; omega
      · rintro ⟨_, _, k⟩
        obtain ⟨y, hy, ey⟩ := List.any_eq_true.mp c
        have ey : y = xs.getD i Str.empty := eq_of_beq ey
        exact absurd ey (k y hy _ (by simp))
    · rw [if_neg c]
      constructor
      · intro e
        refine ⟨ih.mp (by omega), by simp, fun a ha b hb => ?_⟩
        have hb : b = xs.getD i Str.empty := by simpa using hb
        rintro rfl
        exact c (List.any_eq_true.mpr ⟨a, ha, by rw [hb]; exact beq_self_eq_true _⟩)
      · rintro ⟨k, _, _⟩
        rw [ih.mpr k]
section
variable {prog : Program} {w : World} {A : Around} {R : Result → Shared → Prop} {I : Addr} {fp wr : List Addr} {G : Array GenState → Array GenState → Prop} {n : Nat} {P : Nat → Value → Prop} {St : Nat → Shared → Prop}
theorem loop_strs (W : WalksS prog w A.in1 I fp wr G n P St) (S : Addr) (hSf : S ∉ fp) (xs : List Str) (hsz : xs.length = n) (hb : n + 1 < scanBound) (hval : ∀ i v, P i v → ∃ t, v = .str (xs.getD i Str.empty) t) :
    ∀ (k i : Nat) (s : Shared), n = i + k → St i s → s.heap.SetOf (PySem.strKind prog w) S (fun z => (xs.take i).any (· == z)) (met xs i) →
      (∀ s', Moved (S :: wr) G s s' → s'.heap.SetOf (PySem.strKind prog w) S (fun z => (xs.take n).any (· == z)) (met xs n) → R (.ok (.ret .none)) s') →
      codeAny (model prog w) A (.builtin "set.update.loop" ⟨[.ref S, .ref I], []⟩) R s := by
  have nw : S ∉ wr := fun h => hSf (W.sub _ h)
  have more : ∀ b ∈ wr, b ∈ S :: wr := fun b hb => List.mem_cons_of_mem _ hb
  have stays : ∀ {s s' : Shared} {f : Str → Bool} {c : Nat}, Moved wr G s s' → s.heap.SetOf (PySem.strKind prog w) S f c → s'.heap.SetOf (PySem.strKind prog w) S f c := fun {s s' f c} hm ⟨o, es, ep, t, ho, r⟩ => ⟨o, es, ep, t, hm.heap S _ nw ho, r⟩
  intro k
  induction k with
  | zero =>
    intro i s hk hst hS hR
    have e : i = n := by omega
    subst e
    refine codeAny_builtin PyProof.Rows.F.entry_set_update_loop ?_
    rw [Around.under_plainId PyProof.Rows.F.plain_set_update_loop _]
    refine wpAny_bind (W.done s _ _ hst fun s1 hm => wpAny_pure (hR s1 (hm.mono more) (stays hm hS)))
  | succ k ih =>
    intro i s hk hst hS hR
    have lt : i < n := by omega
    refine codeAny_builtin PyProof.Rows.F.entry_set_update_loop ?_
    rw [Around.under_plainId PyProof.Rows.F.plain_set_update_loop _]
    refine wpAny_bind (W.item i s _ _ lt hst fun v s1 hP hst1 hm => ?_)
    obtain ⟨t, rfl⟩ := hval i v hP
    have hS1 := stays hm hS
    generalize hx : xs.getD i Str.empty = x at *
    show wpAny _ A.in1 (holding [Value.str x t] (setAdd S (.str x t)) >>= _) _ _ s1
    refine wpAny_bind (wpAny_holding ?_)
    unfold setAdd
    refine wpAny_holding (wpAny_bind ((PySem.strKind prog w).pyHash (k := x) (strKind_is _ _ _ _) ?_))
    have le := met_le xs i
    refine wpAny_setAddHashed_of (knd := PySem.strKind prog w) (s := { s1 with toks := s1.toks + 1 }) (strKind_is _ _ _ _) rfl hS1 (by omega) fun h2 sb hS2 => ?_
    have hi : xs[i]? = some x := by rw [← hx, List.getD_eq_getElem?_getD, List.getElem?_eq_getElem (by omega)]; rfl
    have hS3 : h2.SetOf (PySem.strKind prog w) S (fun z => (xs.take (i + 1)).any (· == z)) (met xs (i + 1)) := by
      refine SetOf_congr hS2 (fun z => ?_) ?_
      · rw [List.take_add_one, hi]
        show ((xs.take i).any (· == z) || decide (z = x)) = (xs.take i ++ [x]).any (· == z)
        rw [List.any_append]
        congr 1
        by_cases e : z = x
        · subst e; simp
        · have : (x == z) = false := by simpa using fun h : x = z => e h.symm
          simp [e, this]
      · show _ = (if (xs.take i).any (· == xs.getD i Str.empty) = true then met xs i else met xs i + 1)
        rw [hx]
    refine wpAny_pure ⟨plainId_quiet PyProof.Rows.F.plain_set_update_loop _, ih (i + 1) _ (by omega) (W.frame _ s1 _ _ hst1 (Nat.le_succ _) fun b hb o e => ?_) hS3 fun s2 hm2 hS2 => ?_⟩
    · exact (sb.2 b fun q => hSf (q ▸ hb)).trans e
    · exact hR s2 (Moved.trans W.gtrans ((hm.mono more).then_heap (Nat.le_succ _) fun b o hb e => (sb.2 b fun q => hb (q ▸ List.mem_cons_self)).trans e) hm2) hS2
end
section
variable {prog : Program} {w : World} {A : Around} {E : Value → Shared → Prop} {s : Shared}
abbrev newSet (lg : Bool) : Obj := { cls := .type "set", dict := none, data := .set #[] 0 (.fresh 0 0 lg) }
theorem set_of_texts {l : Addr} {items : Array Value} {xs : List Str} {Q : Value → Shared → Prop} (hh : A.handled = none) (ht : s.heap.IsTuple l items) (hx : PyProof.Rows.StrsAre items.toList xs) (hb : xs.length + 1 < scanBound)
    (hq : ∀ (g : Heap) (tk : Nat), g.SetOf (PySem.strKind prog w) s.heap.objs.size (fun z => (xs.take items.size).any (· == z)) (met xs items.size) → (∀ b o, b < s.heap.objs.size → s.heap.get? b = some o → g.get? b = some o) → Q (.ref s.heap.objs.size) { s with heap := g, toks := tk }) :
    wpAny (model prog w) A (call (.type "set") [.ref l]) Q E s := by
  obtain ⟨c0, t0, m0⟩ := PySem.F.called_set.mro
  have m1 := PySem.F.called_set.made
  have m2 := PySem.F.called_set.sub
  refine wpAny_call (codeAny_of_tree ?_)
  show wpAny _ _ (callAny (.type "set") _) _ _ _
  refine wpAny_pure ⟨Code.quiet_builtin _ (by decide +kernel), codeAny_builtin PySem.F.entry_type_call ?_⟩
  rw [Around.under_plain (weight_type_call_type "set" [.ref l] []) rfl]
  have m3 := PySem.F.called_set.notType
  have m4 := PySem.F.called_set.canCreate
  have m5 := PySem.F.typeCall_set_1 (.ref l)
  repeat (any_goals (first | assumption | wp_step))
  refine codeAny_mono (code_set_new_1 (.ref l) (E := E) (Q₁ := fun u s1 => ∃ lg : Bool, u = .ref s.heap.objs.size ∧ s1 = { s with heap := s.heap.push (newSet lg) }) fun lg => ⟨lg, rfl, rfl⟩) fun r s1 back => ?_
  cases r with
  | error e => exact back
  | ok fl =>
    cases fl with
    | ret u =>
      obtain ⟨lg, rfl, rfl⟩ := back
      have atS : (s.heap.push (newSet lg)).get? s.heap.objs.size = some (newSet lg) := Heap.get?_push_size _ rfl
      have isS : Shared.TypeIs { s with heap := s.heap.push (newSet lg) } (.ref s.heap.objs.size) "set" := ⟨_, atS, rfl⟩
      have n1 := PySem.F.called_set.init.lookup
      have n2 := PySem.F.called_set.init.bind (.ref s.heap.objs.size)
      repeat (any_goals (first | assumption | wp_step))
      refine codeAny_mono (codeAny_call_builtin (R := wants (fun r s2 => r = .none ∧ ∃ g tk, s2 = { s with heap := g, toks := tk } ∧ g.SetOf (PySem.strKind prog w) s.heap.objs.size (fun z => (xs.take items.size).any (· == z)) (met xs items.size) ∧
          (∀ b o, b < s.heap.objs.size → s.heap.get? b = some o → g.get? b = some o)) E) PySem.F.called_set.init.plain PySem.F.entry_set_init (check_set_init_1 isS ?_)) fun r2 s2 back2 => ?_
      · obtain ⟨⟨oc, od, odt, osl⟩, ho, hc, nl, hd⟩ := ht
        simp only at hc hd
        subst hc hd
        have ho2 : (s.heap.push (newSet lg)).get? l = some { cls := .type "tuple", dict := od, data := .seq items nl, slots := osl } := Heap.get?_push_of_some _ ho
        have u1 := PySem.F.sub_tuple_set
        have u2 := PySem.F.sub_tuple_frozenset
        have u3 : (Value.type "tuple" == Value.type "dict") = false := by decide
        have isT : (s.heap.push (newSet lg)).IsTuple l items := ⟨_, ho2, rfl, nl, rfl⟩
        unfold Builtin.«set.__init__» noKeywords Builtin.Frozenset.updateFrom
        generalize eP : pyIter = PI
        wp_walk
        subst eP
        refine wpAny_pyIter_tuple isT (wpAny_bind (wpAny_runValue ?_))
        have lt : l < s.heap.objs.size := Heap.lt_size ho
        have sz1 : (s.heap.push (newSet lg)).objs.size = s.heap.objs.size + 1 := Heap.size_push ..
        have a3 : A.in1.in1.in1.handled = none := by simp [hh]
        have neI : l ≠ (s.heap.push (newSet lg)).objs.size := Nat.ne_of_lt (by rw [sz1]; exact Nat.lt_succ_of_lt lt)
        have nS : s.heap.objs.size ∉ [(s.heap.push (newSet lg)).objs.size, l] := by
          rw [sz1]
          simp only [List.mem_cons, List.not_mem_nil, or_false, not_or]
          exact And.intro (Nat.ne_of_lt (Nat.lt_succ_self _)) (Nat.ne_of_gt lt)
        have len : xs.length = items.size := by rw [← StrsAre.len_eq hx, Array.length_toList]
        refine loop_strs ((Walks.tuple a3 _ l neI items).toS) s.heap.objs.size nS xs len (by rw [← len]; exact hb) (fun i v hv => SS.strs_at hx i v (by rw [Array.getElem?_toList]; exact hv)) items.size 0 _ (by omega) ⟨⟨_, Heap.get?_push_size _ rfl, rfl, rfl⟩, (isT.push _)⟩ ?start ?fin
        case start =>
          have z : ((s.heap.push (newSet lg)).push { cls := .type "tuple_iterator", data := .fields #[.ref l, .int 0 0] }).get? s.heap.objs.size = some (newSet lg) := Heap.get?_push_of_some _ atS
          exact PyProof.Rows.SetOf_congr ((PyProof.Rows.setObjOf_fresh (knd := PySem.strKind prog w) lg).setOf z (by unfold scanBound; omega)) (fun _ => rfl) rfl
        case fin =>
          rintro ⟨g, g2, d2, tk, o2⟩ hm hS
          obtain rfl : g2 = s.gens := hm.gens
          obtain rfl : d2 = s.drawn := hm.drawn
          obtain rfl : o2 = s.os := hm.os
          refine wpAny_pure (wpAny_pure ⟨rfl, g, tk, rfl, hS, fun b o hb2 e => hm.heap b o ?_ (Heap.get?_push_of_some _ (Heap.get?_push_of_some _ e))⟩)
          rw [sz1]
          simp only [List.mem_cons, List.not_mem_nil, or_false, not_or]
          exact And.intro (Nat.ne_of_lt hb2) (Nat.ne_of_lt (Nat.lt_succ_of_lt hb2))
      · cases r2 with
        | error e => exact back2
        | ok fl2 =>
          cases fl2 with
          | ret r =>
            obtain ⟨rfl, g, tk, rfl, k1, k2⟩ := back2
            repeat (any_goals (first | assumption | wp_step))
            exact hq _ _ k1 k2
          | _ => exact back2.elim
    | _ => exact back.elim
end
def tSetLen (K : PySem.W.Frag) (ta : TE) : TE := fun σ H Q => ta σ H fun x H1 => ∃ (l : Addr) (xs : List Str), x = .ref l ∧ SqT K H1 l (xs.map V.str) ∧ xs.length ≤ 4000 ∧ Q (.int (met xs xs.length : Nat)) H1
theorem pe_setLen {X : Cx} {a : Expr} {ta : TE} {p p2 q pos : Pos} (hc : X.calm = true) (hg : Gl X "len") (hm : X.mg "len" = none) (hg2 : Gl X "set") (hm2 : X.mg "set" = none) (ha : PE X a ta)
    (na : starEach [a] X.env = (false, eval a X.env) :: starEach [] X.env := by rfl) : PE X (.Call (.Name "len" p) [.Call (.Name "set" p2) [a] [] q] [] pos) (tSetLen X.K ta) := by
  refine ⟨fun pins s σ H Q I h => Call_ (ld_blt I hg hm boot_len (PyProof.Rows.callWith_builtin1 (PyProof.Rows.args_cons ?_ rfl) rfl rfl))⟩
  refine Call_ (ld_blt I hg2 hm2 boot_set (PyProof.Rows.callWith_type1 (PyProof.Rows.args_cons (thn (ha.run pins s σ H _ I h) fun v s1 ⟨x, H1, I1, r1, q1⟩ => PyProof.Rows.args_nil ?_) na) na rfl))
  obtain ⟨l, xs, rfl, ht, hz, q1⟩ := q1
  cases r1
  obtain ⟨its, r, pl, _⟩ := I1.tuple ht
  have len : its.toArray.size = xs.length := by rw [List.size_toArray, ← r.length, List.length_map]
  refine set_of_texts (I1.ok.hd hc) pl (by simpa using strsAre_of r) (by unfold scanBound; omega) fun g tk hS hk => PyProof.Rows.args_nil ?_
  rw [len] at hS
  obtain ⟨o, es, ep, t, ho, hex, hd, _, _, hbnd, hf, hn⟩ := hS
  have I2 : Inv X pins σ H1 { s1 with heap := g, toks := tk } := I1.kept fun b o e => hk b o (Heap.lt_size e) e
  have := met_le xs xs.length
  exact call_len_set ho hex hd hf (by rw [hn]; omega) ⟨.int (met xs xs.length : Nat), H1, I2.tok _, ⟨_, by rw [hn]⟩, q1⟩
end Bs

set_option Elab.async false
set_option linter.all false
set_option maxRecDepth 100000
set_option maxHeartbeats 4000000
namespace Bs
open PySem L2
/-! ### Shape -/
def gFld (K : PySem.W.Frag) (ta : TE) (f : Str) : TG := fun v σ H Q => ta σ H fun x H2 => ∃ a C dx fs, x = .ref a ∧ H2 a = some (.ins C dx fs) ∧ Cls K C ∧ NoAttr K C f ∧ fs.length < 1000 ∧ Q σ (upd H2 a (.ins C dx (putF f v fs)))
theorem pg_fld {X : Cx} {o : Expr} {f : Str} {pos : Pos} {ta : TE} (ha : PE X o ta) : PG X (.Attribute o f pos) (gFld X.K ta f) := by
  refine ⟨fun pins s σ H v u Q I r h => PySem.W.kas_attr (thn (ha.run pins s σ H _ I h) fun ov s2 ⟨x, H2, I2, rx, a, C, dx, fs, ex, ea, c, n, l, q⟩ => ?_)⟩
  subst ex
  obtain rfl : ov = Value.ref a := rx
  exact setattr_ok I2 ea c n l r fun s3 I3 => ⟨σ, _, I3, q⟩
theorem putF_len (f : Str) (v : V) : ∀ fs : List (Str × V), (putF f v fs).length ≤ fs.length + 1
  | [] => by simp [putF]
  | (g, x) :: r => by
    unfold putF
    split
    · simp
    · have := putF_len f v r
      simp only [List.length_cons]
      omega
/-- all but o is as it was -/
def Off (o : Addr) (H H' : Hp) : Prop := ∀ b u, b ≠ o → H b = some u → H' b = some u
theorem Off.refl (o : Addr) (H : Hp) : Off o H H := fun _ _ _ h => h
theorem Off.trans {o : Addr} {H H1 H2 : Hp} (a : Off o H H1) (b : Off o H1 H2) : Off o H H2 := fun c u n h => b c u n (a c u n h)
theorem Off.of {o : Addr} {H H' : Hp} (s : Same H H') : Off o H H' := fun b u _ h => s b u h
theorem Off.wr {o : Addr} {H : Hp} {u : HO} : Off o H (upd H o u) := fun b v n h => by rw [upd_ne n]; exact h
theorem Off.kp {o : Addr} {fz : Bool} {H H' : Hp} {C dx : Addr} {fs : List (Str × V)} (h : H o = some (.ins C dx fs)) (f : Off o H H') : Kp fz H H' :=
  ⟨fun b xs e => f b _ (ne_of e h (by intro z; cases z)) e, fun _ b xs e => f b _ (ne_of e h (by intro z; cases z)) e⟩
structure ShapeC (K : PySem.W.Frag) (C : Addr) : Prop where
  cl : Cls K C
  n1 : NoAttr K C "parts"
  n2 : NoAttr K C "_rows"
  n3 : NoAttr K C "names"
  n4 : NoAttr K C "_least"
  n5 : NoAttr K C "_greatest"
  n6 : NoAttr K C "_row_of"
/-- the shape in the making: o its instance, p its parts -/
structure Mk0 (o CS dx p : Addr) (x : Its) (ys : List V) (H0 H : Hp) (fs : List (Str × V)) : Prop where
  off : Off o H0 H
  ho : H o = some (.ins CS dx fs)
  hp : H p = some (.tup ys)
  at' : x.At true H ys
theorem Mk0.same {o CS dx p : Addr} {x : Its} {ys : List V} {H0 H H' : Hp} {fs : List (Str × V)} (m : Mk0 o CS dx p x ys H0 H fs) (s : Same H H') : Mk0 o CS dx p x ys H0 H' fs :=
  ⟨m.off.trans (.of s), s _ _ m.ho, s _ _ m.hp, m.at'.same s⟩
theorem Mk0.put {o CS dx p : Addr} {x : Its} {ys : List V} {H0 H : Hp} {fs gs : List (Str × V)} (m : Mk0 o CS dx p x ys H0 H fs) : Mk0 o CS dx p x ys H0 (upd H o (.ins CS dx gs)) gs :=
  ⟨m.off.trans .wr, upd_same, by rw [upd_ne (ne_of m.hp m.ho (by intro z; cases z))]; exact m.hp, m.at'.kp (Off.kp m.ho .wr)⟩
theorem WalkAt.get {H : Hp} : ∀ {l : List V} {r : List (Int × It)} {i : Nat} {v : V}, WalkAt H l r → l[i]? = some v → ∃ d y t u, r[i]? = some (d, y) ∧ v = .ref t ∧ H t = some (.tup [.int d, u]) ∧ y.At true H u
  | _, _, _, _, .nil, e => by simp at e
  | _, _, 0, _, .cons (b := (d, y)) ⟨t, u, e0, h, g⟩ _, e => by simp at e; subst e; exact ⟨d, y, t, u, by simp, e0, h, g⟩
  | _, _, i + 1, _, .cons _ t, e => by obtain ⟨d, y, t, u, h⟩ := WalkAt.get (i := i) t (by simpa using e); exact ⟨d, y, t, u, by simpa using h.1, h.2⟩
/-- the fields of a made shape -/
structure ShapeFs (x : Its) (H : Hp) (fs : List (Str × V)) : Prop where
  parts : ∃ p ys, fs.lookup ("parts" : Str) = some (.ref p) ∧ H p = some (.tup ys) ∧ x.At true H ys
  rows : ∃ r rows, fs.lookup ("_rows" : Str) = some (.ref r) ∧ H r = some (.tup rows) ∧ WalkAt H rows (x.walk 0)
  names : ∃ r, fs.lookup ("names" : Str) = some (.ref r) ∧ H r = some (.tup (x.names.map V.str))
  lens : ∃ l, x.lens (fun _ => none) = some l ∧ fs.lookup ("_least" : Str) = some (.int l.1) ∧ fs.lookup ("_greatest" : Str) = some (.int l.2)
theorem ShapeFs.kp {x : Its} {H H' : Hp} {fs : List (Str × V)} (s : ShapeFs x H fs) (k : Kp true H H') : ShapeFs x H' fs := by
  obtain ⟨⟨p, ys, p1, p2, p3⟩, ⟨r, rows, r1, r2, r3⟩, ⟨n, n1, n2⟩, l⟩ := s
  exact ⟨⟨p, ys, p1, k.t _ _ p2, p3.kp k⟩, ⟨r, rows, r1, k.t _ _ r2, r3.kp k⟩, ⟨n, n1, k.t _ _ n2⟩, l⟩
/-- the rows by their names -/
def RowV (H : Hp) (w : List (Int × It)) (z : Str) (v : V) : Prop := ∃ t d y u, v = .ref t ∧ H t = some (.tup [.int d, u]) ∧ y.At true H u ∧ (d, y) ∈ w ∧ y.name = z
theorem RowV.kp {H H' : Hp} {w w' : List (Int × It)} {z : Str} {v : V} (k : Kp true H H') (sub : ∀ p ∈ w, p ∈ w') (h : RowV H w z v) : RowV H' w' z v := by
  obtain ⟨t, d, y, u, e, h1, h2, h3, h4⟩ := h
  exact ⟨t, d, y, u, e, k.t _ _ h1, h2.kp k, sub _ h3, h4⟩
def RowK (H : Hp) (w : List (Int × It)) (kvs : List (Key × V)) : Prop := ∀ z, (z ∈ w.map (·.2.name) → ∃ v, valV kvs (.inr z) = some v ∧ RowV H w z v) ∧ (z ∉ w.map (·.2.name) → valV kvs (.inr z) = none)
/-- a shape has no other fields -/
def fldN : List Str := ["parts", "_rows", "names", "_least", "_greatest", "_row_of"]
def Only6 (fs : List (Str × V)) : Prop := ∀ g, g ∉ fldN → fs.lookup g = none
theorem only_nil : Only6 [] := fun _ _ => rfl
theorem only_put {f : Str} {v : V} {fs : List (Str × V)} (hf : f ∈ fldN) (h : Only6 fs) : Only6 (putF f v fs) := fun g hg => by
  have ne : ¬ g = f := fun e => hg (by rw [e]; exact hf)
  rw [lookup_putF, if_neg ne]
  exact h g hg
def RowOf (x : Its) (H : Hp) (fs : List (Str × V)) : Prop := Only6 fs ∧ ∃ D kvs, fs.lookup ("_row_of" : Str) = some (.ref D) ∧ H D = some (.dK kvs) ∧ RowK H (x.walk 0) kvs
theorem RowK.kp {H H' : Hp} {w : List (Int × It)} {kvs : List (Key × V)} (k : Kp true H H') (h : RowK H w kvs) : RowK H' w kvs := fun z => ⟨fun m => by obtain ⟨v, e, r⟩ := (h z).1 m; exact ⟨v, e, r.kp k fun _ h => h⟩, (h z).2⟩
theorem RowOf.same {x : Its} {H H' : Hp} {fs : List (Str × V)} (s : Same H H') (h : RowOf x H fs) : RowOf x H' fs := by
  obtain ⟨n, D, kvs, e1, e2, e3⟩ := h
  exact ⟨n, D, kvs, e1, s _ _ e2, e3.kp (.of s)⟩
theorem RowK.put {H : Hp} {w : List (Int × It)} {kvs : List (Key × V)} {d : Int} {y : It} {t : Addr} {u : V} (h : RowK H w kvs) (ht : H t = some (.tup [.int d, u])) (ha : y.At true H u) : RowK H (w ++ [(d, y)]) (putK kvs (.inr y.name) (.ref t)) := fun z => by
  rw [valV_put, List.map_append]
  by_cases e : z = y.name
  · rw [if_pos (by rw [e])]
    refine ⟨fun _ => ⟨_, rfl, t, d, y, u, rfl, ht, ha, by simp, e.symm⟩, fun n => absurd (by simp [e]) n⟩
  · rw [if_neg (fun q => e (Sum.inr.inj q))]
    refine ⟨fun m => ?_, fun n => (h z).2 fun q => n (by simp [q])⟩
    have m : z ∈ w.map (·.2.name) := by
      rcases List.mem_append.mp m with m | m
      · exact m
      · simp at m; exact absurd m e
    obtain ⟨v, e1, r⟩ := (h z).1 m
    exact ⟨v, e1, r.kp (.of (Same.refl H)) fun _ q => List.mem_append_left _ q⟩
def spInit (CE CS : Addr) : Sp := fun vs H Q E => ∃ (o a dx : Addr) (x : Its) (xs : List V), vs = [.ref o, .ref a] ∧ H o = some (.ins CS dx []) ∧ RowAt false H a xs ∧ x.At false H xs ∧ x.tame ∧ (x.walk 0).length ≤ 1000 ∧
  (x.shape = true → ∀ H' fs, Off o H H' → H' o = some (.ins CS dx fs) → ShapeFs x H' fs → RowOf x H' fs → Q .non H') ∧ (x.shape = false → ∀ H', Off o H H' → E (.ref CE) none H')
section
variable {P : Program} {w : World} {K : PySem.W.Frag} {mg : Str → Option Value} {base : Heap} {f C CS : Addr} {fd : FuncData}
abbrev nInit : List Str := ["self", "items", "_", "item", "checks", "row"]
theorem scInit : FnScope nInit ["self", "items"] (defScope sInit) := ⟨rfl, rfl, rfl, by decide +kernel, rfl, by decide +kernel, by decide +kernel⟩
theorem ok_init {k : Nat} (hk : 2 ≤ k) (F : Fun K "__init__" "Shape.__init__" sInit f fd) (T : ShapeC K CS) (gR : Cal P w K mg base (L2.CX P w) 1 "require" ["holds", "words"] (spRequire C)) (gC : Cal P w K mg base (L2.CX P w) k "copied_list" ["items", "depth"] (spCopList C 3))
    (gW : Cal P w K mg base CX0 k "listed" ["items", "depth"] (spListed 3)) (gL : Cal P w K mg base (L2.CX P w) k "list_lengths" ["items", "visible"] (spLensList C 3)) (ml : mg "len" = none) (mt : mg "tuple" = none) (mset : mg "set" = none) (gM : GInt mg "MOST_ITEMS" 30) :
    FnOk P w K mg base (L2.CX P w) (k + 1) f fd ["self", "items"] (spInit C CS) := by
  refine F.okX scInit (fun vs H Q E h => ?_) (fun cdv A outer s H vs Q E hr h => ?_)
  · obtain ⟨o, a, dx, x, xs, rfl, _⟩ := h
    rfl
  · obtain ⟨o, a, dx, x, xs, rfl, ho, hrow, hat, ht, hw, q1, q2⟩ := h
    have tk : Takes (cxOf (L2.CX P w) P w K mg base nInit "Shape.__init__" (defScope sInit) f cdv A outer s H E) (fun cls d _ H => E cls d H) := takes_of rfl rfl rfl rfl
    have hx := passes_call tk (E := E) fun _ _ _ _ h => h
    have hr1 : Room 1 _ := hr.mono (by omega)
    refine ⟨_, pss_cons (ps_fld (pv 0) (pe_cal gC hr hx (pa_cons (pv 1) (pa_cons pe_int pa_nil))) rfl)
      (pss_cons (ps_expr (pe_cal gR hr1 hx (pa_cons (pe_cmpR op_ge (pe_callB call_len (by rfl) ml boot_len (pa_cons (pe_fld (pv 0) rfl) pa_nil)) pe_int (nomark _)) (pa_cons pe_str pa_nil))))
      (pss_cons (ps_fld (pv 0) (pe_tupleOf (by rfl) mt (pe_cal gW hr pass0 (pa_cons (pe_fld (pv 0) rfl) (pa_cons pe_int pa_nil)))) rfl)
      (pss_cons (ps_fld (pv 0) (pe_tupleOf (by rfl) mt (pe_lc (own := [("_", 2), ("item", 3)]) (g := gTup K 2 (gCons (gName 2) (gCons (gName 3) gNil))) (tt := tYes) rfl scInit.nd (pi_tup (pe_fld (pv 0) rfl))
            (blkOk_by (own := [("_", 2), ("item", 3)]) (N := nInit) (sc := defScope sInit) (by decide +kernel)) (fun _ _ _ _ _ => pg_tup rfl (pgs_cons (pg_name (i := 2) scInit.nd rfl (Or.inl rfl)) (pgs_cons (pg_name (i := 3) scInit.nd rfl (Or.inl rfl)) pgs_nil)))
            (fun _ _ _ _ _ => pts_nil) (fun _ _ _ _ _ => pe_ix (r := rIxT K) ix_tup (pv 3) pe_int (fun _ _ => rfl)))) rfl)
      (pss_cons (ps_expr (pe_cal gR hr1 hx (pa_cons (pe_cmpR op_le (pe_callB call_len (by rfl) ml boot_len (pa_cons (pe_fld (pv 0) rfl) pa_nil)) (pe_gint gM rfl) (nomark _)) (pa_cons (pe_joined (.cons pe_str (.cons (pe_fmt (pe_gint gM rfl)) (.cons pe_str .nil)))) pa_nil))))
      (pss_cons (ps_expr (pe_cal gR hr1 hx (pa_cons (pe_cmpR op_eq (pe_setLen rfl (by rfl) ml (by rfl) mset (pe_fld (pv 0) rfl)) (pe_callB call_len (by rfl) ml boot_len (pa_cons (pe_fld (pv 0) rfl) pa_nil)) (nomark _)) (pa_cons pe_str pa_nil))))
      (pss_cons (ps_setLc (i := 4) (own := [("_", 2), ("item", 3)]) (g := gTup K 2 (gCons (gName 2) (gCons (gName 3) gNil))) rfl scInit.nd rfl rfl (sw_true rfl rfl rfl (by decide +kernel)) (pi_tup (pe_fld (pv 0) rfl))
            (blkOk_by (own := [("_", 2), ("item", 3)]) (N := nInit) (sc := defScope sInit) (by decide +kernel)) (fun _ _ _ _ _ => pg_tup rfl (pgs_cons (pg_name (i := 2) scInit.nd rfl (Or.inl rfl)) (pgs_cons (pg_name (i := 3) scInit.nd rfl (Or.inl rfl)) pgs_nil)))
            (fun _ _ _ _ _ => pts_one (pt_cmpR op_eq (pe_ix (r := rIxT K) ix_tup (pv 3) pe_int (fun _ _ => rfl)) pe_str (nomark _))) (fun _ _ _ _ _ => pv 3))
      (pss_cons (ps_expr (pe_cal gR hr1 hx (pa_cons (pe_cmpR op_le (pe_callB call_len (by rfl) ml boot_len (pa_cons (pv 4) pa_nil)) pe_int (nomark _)) (pa_cons pe_str pa_nil))))
      (pss_cons (ps_asg (pe_cal gL hr hx (pa_cons (pe_fld (pv 0) rfl) (pa_cons pe_dnewK pa_nil))) (pg_tup rfl (pgs_cons (pg_fld (pv 0)) (pgs_cons (pg_fld (pv 0)) pgs_nil))))
      (pss_one (ps_fld (pv 0) (pe_dc (own := [("row", 5)]) (g := gName 5) (tt := tYes) rfl scInit.nd (pi_tup (pe_fld (pv 0) rfl)) (blkOk_by (own := [("row", 5)]) (N := nInit) (sc := defScope sInit) (by decide +kernel))
            (fun _ _ _ _ _ => pg_name (i := 5) scInit.nd rfl (Or.inl rfl)) (fun _ _ _ _ _ => pts_nil) (fun _ _ _ _ _ => pe_ix (r := rIxT K) ix_tup (pe_ix (r := rIxT K) ix_tup (pv 5) pe_int (fun _ _ => rfl)) pe_int (fun _ _ => rfl)) (fun _ _ _ _ _ => pv 5)) rfl)))))))))), ?_⟩
    unfold Its.shape at q1 q2
    refine ⟨_, rfl, a, x, xs, 0, rfl, rfl, hrow, hat, ht, fun c1 p ys H1 s1 hp hy => ?_, fun c1 H1 s1 => q2 (by rw [c1, Bool.false_and]) H1 (.of s1)⟩
    have hx12 : x.len ≤ 12 := of_decide_eq_true (Bool.and_eq_true _ _ ▸ c1).1
    have hok : x.ok 0 = true := (Bool.and_eq_true _ _ ▸ c1).2
    rw [c1, Bool.true_and] at q1 q2
    have hl := hy.len
    have m1 : Mk0 o CS dx p x ys H H1 [] := ⟨.of s1, s1 _ _ ho, hp, hy⟩
    refine ⟨_, rfl, o, CS, dx, [], rfl, m1.ho, T.cl, T.n1, by simp, ?_⟩
    have m2 := m1.put (gs := putF "parts" (.ref p) [])
    have lk2 : (putF "parts" (.ref p) []).lookup ("parts" : Str) = some (.ref p) := by rw [lookup_putF, if_pos rfl]
    generalize upd H1 o _ = H2 at m2 ⊢
    refine ⟨_, rfl, o, CS, dx, _, _, rfl, m2.ho, T.cl, T.n1, lk2, _, _, rfl, .inr ⟨_, SqT.of m2.hp, rfl⟩, _, _, rfl, rfl, ?_⟩
    refine ⟨_, _, rfl, fun e => ?_, fun e => ?_⟩
    rotate_left
    · have e := of_decide_eq_false e
      exact q2 (by rw [decide_eq_false (by omega), Bool.false_and]) _ m2.off
    have e := of_decide_eq_true e
    rw [decide_eq_true (by omega), Bool.true_and] at q1 q2
    refine ⟨_, rfl, o, CS, dx, _, _, rfl, m2.ho, T.cl, T.n1, lk2, p, x, ys, 0, rfl, rfl, hok, m2.hp, m2.at', hw, fun r rows H3 s3 hr3 wa3 => ?_⟩
    refine .inl ⟨r, rows, rfl, SqL.of hr3, fun r2 hr2 => ?_⟩
    have s4 := same_new hr2 (.tup rows)
    have m4 := m2.same (s3.trans s4)
    have wa4 := wa3.kp (.of s4)
    have h4 : upd H3 r2 (.tup rows) r2 = some (.tup rows) := upd_same
    generalize upd H3 r2 _ = H4 at m4 wa4 h4 ⊢
    refine ⟨_, rfl, o, CS, dx, _, rfl, m4.ho, T.cl, T.n2, by simp [putF], ?_⟩
    have m5 := m4.put (gs := putF "_rows" (.ref r2) (putF "parts" (.ref p) []))
    have k5 : Kp true H4 (upd H4 o (.ins CS dx (putF "_rows" (.ref r2) (putF "parts" (.ref p) [])))) := Off.kp m4.ho .wr
    have wa5 := wa4.kp k5
    have h5 := k5.t _ _ h4
    have lk5 : (putF "_rows" (.ref r2) (putF "parts" (.ref p) [])).lookup ("_rows" : Str) = some (.ref r2) := by rw [lookup_putF, if_pos rfl]
    generalize upd H4 o _ = H5 at m5 wa5 h5 ⊢
    have rl := wa5.len
    refine ⟨_, rfl, o, CS, dx, _, _, rfl, m5.ho, T.cl, T.n2, lk5, r2, rfl, ⟨_, SqT.of h5⟩, fun D hD => lc_tup (K := K) (a := r2) (xs := rows) (fun i H' => Same H5 H' ∧ H' D = some (.lst (((x.walk 0).take i).map fun z => V.str z.2.name))) ⟨same_new hD _, upd_same⟩ (fun i H' _ z => SqT.of (z.1 _ _ h5)) ?_ ?_⟩
    · rintro i v H6 hi ⟨s6, hacc⟩
      obtain ⟨d, y, t, u, gy, rfl, ht6, ay⟩ := (wa5.kp (.of s6)).get hi
      obtain ⟨pu, rest, rfl, hpu, _⟩ := At_head ay
      refine ⟨t, _, rfl, SqT.of ht6, rfl, _, _, rfl, _, _, rfl, rfl, rfl, yes_go ⟨_, rfl, pu, _, 1, _, rfl, rfl, SqT.of hpu, atI_nat (j := 1) rfl, _, hacc, small1000 (by rw [List.length_map, List.length_take]; omega), same_set s6 hD, ?_⟩⟩
      rw [upd_same, take_more gy, List.map_append]
      rfl
    rintro H6 ⟨s6, hacc⟩
    rw [rl, List.take_length] at hacc
    refine .inl ⟨D, _, rfl, SqL.of hacc, fun nt hnt => ?_⟩
    have hmap : ((x.walk 0).map fun z => V.str z.2.name) = x.names.map V.str := by rw [Its.names, List.map_map]; rfl
    rw [hmap] at hacc ⊢
    have nl : x.names.length = (x.walk 0).length := by rw [Its.names, List.length_map]
    have s7 := same_new hnt (.tup (x.names.map V.str))
    have m7 := m5.same (s6.trans s7)
    have wa7 := wa5.kp (.of (s6.trans s7))
    have h7 := (s6.trans s7) _ _ h5
    have n7 : upd H6 nt (.tup (x.names.map V.str)) nt = some (.tup (x.names.map V.str)) := upd_same
    generalize upd H6 nt _ = H7 at m7 wa7 h7 n7 ⊢
    refine ⟨_, rfl, o, CS, dx, _, rfl, m7.ho, T.cl, T.n3, Nat.lt_of_le_of_lt (Nat.le_trans (putF_len _ _ _) (Nat.succ_le_succ (putF_len _ _ _))) (by decide), ?_⟩
    generalize hfs8 : putF ("names" : Str) (.ref nt) (putF "_rows" (.ref r2) (putF "parts" (.ref p) [])) = fs8
    have m8 := m7.put (gs := fs8)
    have k8 : Kp true H7 (upd H7 o (.ins CS dx fs8)) := Off.kp m7.ho .wr
    have wa8 := wa7.kp k8
    have h8 := k8.t _ _ h7
    have n8 := k8.t _ _ n7
    have lkP : fs8.lookup ("parts" : Str) = some (.ref p) := by rw [← hfs8, lookup_putF, if_neg (by decide +kernel), lookup_putF, if_neg (by decide +kernel), lk2]
    have lkR : fs8.lookup ("_rows" : Str) = some (.ref r2) := by rw [← hfs8, lookup_putF, if_neg (by decide +kernel), lk5]
    have lkN : fs8.lookup ("names" : Str) = some (.ref nt) := by rw [← hfs8, lookup_putF, if_pos rfl]
    have no8 : Only6 fs8 := by rw [← hfs8]; exact only_put (by decide +kernel) (only_put (by decide +kernel) (only_put (by decide +kernel) only_nil))
    have fl8 : fs8.length ≤ 3 := by rw [← hfs8]; exact Nat.le_trans (putF_len _ _ _) (Nat.succ_le_succ (Nat.le_trans (putF_len _ _ _) (Nat.succ_le_succ (putF_len _ _ _))))
    generalize upd H7 o _ = H8 at m8 wa8 h8 n8 ⊢
    -- at most 30
    refine ⟨_, rfl, o, CS, dx, _, _, rfl, m8.ho, T.cl, T.n2, lkR, _, _, rfl, .inr ⟨_, SqT.of h8, rfl⟩, _, _, rfl, rfl, _, rfl, by decide +kernel, .inr ⟨30, rfl, by decide +kernel, _, rfl, by decide +kernel, _, rfl, by decide +kernel, ?_⟩⟩
    refine ⟨_, _, rfl, fun e => ?_, fun e => ?_⟩
    rotate_left
    · have e := of_decide_eq_false e
      exact q2 (by rw [decide_eq_false (by omega), Bool.false_and]) _ m8.off
    have e := of_decide_eq_true e
    have h30 : (x.walk 0).length ≤ 30 := by omega
    rw [decide_eq_true h30, Bool.true_and] at q1 q2
    -- no name twice
    refine ⟨_, rfl, o, CS, dx, _, _, rfl, m8.ho, T.cl, T.n3, lkN, nt, x.names, rfl, SqT.of n8, by omega, _, rfl, o, CS, dx, _, _, rfl, m8.ho, T.cl, T.n3, lkN, _, _, rfl, .inr ⟨_, SqT.of n8, rfl⟩, rfl, ?_⟩
    rw [int_eq, List.length_map]
    have mn := met_nodup (xs := x.names) x.names.length (Nat.le_refl _)
    rw [List.take_length] at mn
    refine ⟨_, _, rfl, fun e => ?_, fun e => ?_⟩
    rotate_left
    · have e := of_decide_eq_false e
      exact q2 (by rw [decide_eq_false (fun z => e (by rw [mn.mpr z])), Bool.false_and]) _ m8.off
    have e := of_decide_eq_true e
    have hnd : x.names.Nodup := mn.mp (by omega)
    rw [decide_eq_true hnd, Bool.true_and] at q1 q2
    have rl8 := wa8.len
    -- the checks
    refine ⟨_, rfl, o, CS, dx, _, _, rfl, m8.ho, T.cl, T.n2, lkR, r2, rfl, ⟨_, SqT.of h8⟩, fun D2 hD2 => lc_tup (K := K) (a := r2) (xs := rows) (fun i H' => Same H8 H' ∧ ∃ acc, H' D2 = some (.lst acc) ∧ acc.length = (((x.walk 0).take i).filter (·.2.isChk)).length) ⟨same_new hD2 _, [], upd_same, rfl⟩ (fun i H' _ z => SqT.of (z.1 _ _ h8)) ?_ ?_⟩
    · rintro i v H9 hi ⟨s9, acc, hacc, hlen⟩
      obtain ⟨d, y, t, u, gy, rfl, ht9, ay⟩ := (wa8.kp (.of s9)).get hi
      obtain ⟨pu, rest, rfl, hpu, _⟩ := At_head ay
      refine ⟨t, _, rfl, SqT.of ht9, rfl, _, _, rfl, _, _, rfl, rfl, rfl, _, rfl, pu, _, 0, _, rfl, rfl, SqT.of hpu, atI_nat (j := 0) rfl, rfl, _, rfl, ?_⟩
      have fl : (((x.walk 0).take (i + 1)).filter (·.2.isChk)).length = (((x.walk 0).take i).filter (·.2.isChk)).length + if y.isChk = true then 1 else 0 := by
        rw [take_more gy, List.filter_append, List.length_append]
        cases hy2 : y.isChk <;> simp [hy2]
      have le9 : (((x.walk 0).take i).filter (·.2.isChk)).length ≤ 30 := Nat.le_trans (List.length_filter_le _ _) (by rw [List.length_take]; omega)
      have ek : decide (V.str y.kind = V.str "check") = y.isChk := by
        cases y with
        | chk => exact decide_eq_true rfl
        | _ => exact decide_eq_false (kne (by simp only [It.kind]; decide +kernel))
      show (fun b H3 => if b = true then _ else _) (decide (V.str y.kind = V.str "check")) H9
      rw [ek]
      cases hc : y.isChk with
      | true =>
        rw [hc, if_pos rfl] at fl
        refine iteT ⟨_, rfl, acc, hacc, small1000 (by omega), same_set s9 hD2, _, upd_same, ?_⟩
        rw [List.length_append, List.length_singleton, hlen, fl]
      | false =>
        rw [hc, if_neg (by decide)] at fl
        exact iteF ⟨s9, acc, hacc, by omega⟩
    rintro H9 ⟨s9, acc, hacc, hlen⟩
    rw [rl8, List.take_length] at hlen
    have m9 := m8.same s9
    have wa9 := wa8.kp (.of s9)
    have h9 := s9 _ _ h8
    have n9 := s9 _ _ n8
    -- at most one
    refine ⟨_, rfl, _, _, rfl, .inl ⟨acc, SqL.of hacc, rfl⟩, _, _, rfl, rfl, ?_⟩
    refine ⟨_, _, rfl, fun e => ?_, fun e => ?_⟩
    rotate_left
    · have e := of_decide_eq_false e
      exact q2 (by rw [decide_eq_false (by omega), Bool.false_and]) _ m9.off
    have e := of_decide_eq_true e
    rw [decide_eq_true (by omega), Bool.true_and] at q1 q2
    -- the lengths
    refine ⟨_, rfl, o, CS, dx, _, _, rfl, m9.ho, T.cl, T.n1, lkP, fun dv hdv => ?_⟩
    have s10 := same_new hdv (.dK [])
    have m10 := m9.same s10
    refine ⟨p, dv, x, ys, fun _ => none, 0, 0, rfl, rfl, hok, hx12, ht, m10.hp, m10.at', ⟨[], upd_same, by simp, fun z => rfl⟩, by decide, fun l el lt H11 s11 hlt => ?_, fun el H11 s11 => q2 (by rw [el]; rfl) H11 (m10.same s11).off⟩
    rw [el] at q1
    have q1 := q1 rfl
    have lx := el
    have m11 := m10.same s11
    have wa11 := wa9.kp (.of (s10.trans s11))
    have h11 := (s10.trans s11) _ _ h9
    have n11 := (s10.trans s11) _ _ n9
    refine ⟨lt, _, rfl, SqT.of hlt, rfl, _, _, rfl, ?_⟩
    refine ⟨_, rfl, o, CS, dx, _, rfl, m11.ho, T.cl, T.n4, by omega, ?_⟩
    generalize hfs12 : putF ("_least" : Str) (.int l.1) fs8 = fs12
    have lkP2 : fs12.lookup ("parts" : Str) = some (.ref p) := by rw [← hfs12, lookup_putF, if_neg (by decide +kernel), lkP]
    have lkR2 : fs12.lookup ("_rows" : Str) = some (.ref r2) := by rw [← hfs12, lookup_putF, if_neg (by decide +kernel), lkR]
    have no12 : Only6 fs12 := by rw [← hfs12]; exact only_put (by decide +kernel) no8
    have fl12 : fs12.length ≤ 4 := by rw [← hfs12]; exact Nat.le_trans (putF_len _ _ _) (Nat.succ_le_succ fl8)
    have m12 := m11.put (gs := fs12)
    have k12 : Kp true H11 (upd H11 o (.ins CS dx fs12)) := Off.kp m11.ho .wr
    have wa12 := wa11.kp k12
    have h12 := k12.t _ _ h11
    have n12 := k12.t _ _ n11
    have lkN2 : fs12.lookup ("names" : Str) = some (.ref nt) := by rw [← hfs12, lookup_putF, if_neg (by decide +kernel), lkN]
    have lkL2 : fs12.lookup ("_least" : Str) = some (.int l.1) := by rw [← hfs12, lookup_putF, if_pos rfl]
    generalize upd H11 o _ = H12 at m12 wa12 h12 n12 ⊢
    refine ⟨_, _, rfl, _, rfl, o, CS, dx, _, rfl, m12.ho, T.cl, T.n5, by omega, ?_⟩
    generalize hfs13 : putF ("_greatest" : Str) (.int l.2) fs12 = fs13
    have lkP3 : fs13.lookup ("parts" : Str) = some (.ref p) := by rw [← hfs13, lookup_putF, if_neg (by decide +kernel), lkP2]
    have lkR3 : fs13.lookup ("_rows" : Str) = some (.ref r2) := by rw [← hfs13, lookup_putF, if_neg (by decide +kernel), lkR2]
    have no13 : Only6 fs13 := by rw [← hfs13]; exact only_put (by decide +kernel) no12
    have fl13 : fs13.length ≤ 5 := by rw [← hfs13]; exact Nat.le_trans (putF_len _ _ _) (Nat.succ_le_succ fl12)
    have m13 := m12.put (gs := fs13)
    have k13 : Kp true H12 (upd H12 o (.ins CS dx fs13)) := Off.kp m12.ho .wr
    have wa13 := wa12.kp k13
    have h13 := k13.t _ _ h12
    have n13 := k13.t _ _ n12
    have lkN3 : fs13.lookup ("names" : Str) = some (.ref nt) := by rw [← hfs13, lookup_putF, if_neg (by decide +kernel), lkN2]
    have lkL3 : fs13.lookup ("_least" : Str) = some (.int l.1) := by rw [← hfs13, lookup_putF, if_neg (by decide +kernel), lkL2]
    have lkG3 : fs13.lookup ("_greatest" : Str) = some (.int l.2) := by rw [← hfs13, lookup_putF, if_pos rfl]
    generalize upd H12 o _ = H13 at m13 wa13 h13 n13 ⊢
    refine ⟨rfl, ?_⟩
    have rl13 := wa13.len
    -- the rows by their names
    refine ⟨_, rfl, o, CS, dx, _, _, rfl, m13.ho, T.cl, T.n2, lkR3, r2, rfl, ⟨_, SqT.of h13⟩, fun D3 hD3 => dc_tup (K := K) (a := r2) (xs := rows) (fun i H' => Same H13 H' ∧ ∃ kvs, H' D3 = some (.dK kvs) ∧ kvs.length ≤ i ∧ RowK H' ((x.walk 0).take i) kvs) ⟨same_new hD3 _, [], upd_same, Nat.le_refl 0, fun z => ⟨fun m => by simp at m, fun _ => rfl⟩⟩ (fun i H' _ z => SqT.of (z.1 _ _ h13)) ?_ ?_⟩
    · rintro i v H14 hi ⟨s14, kvs, hkvs, hlen, hrk⟩
      have il : i < rows.length := (List.getElem?_eq_some_iff.mp hi).1
      obtain ⟨d, y, t, u, gy, rfl, ht14, ay⟩ := (wa13.kp (.of s14)).get hi
      obtain ⟨pu, rest, rfl, hpu, _⟩ := At_head ay
      refine ⟨rfl, yes_go ?_⟩
      refine ⟨_, rfl, t, _, 1, _, rfl, rfl, SqT.of ht14, atI_nat (j := 1) rfl, pu, _, 1, _, rfl, rfl, SqT.of hpu, atI_nat (j := 1) rfl, _, rfl, kvs, .inr y.name, rfl, hkvs, small1000 (by omega), same_set s14 hD3, _, upd_same, ?_, ?_⟩
      · have := length_putK kvs (.inr y.name) (.ref t)
        omega
      · rw [take_more gy]
        have k14 : Kp true H14 (upd H14 D3 (.dK (putK kvs (.inr y.name) (.ref t)))) := ⟨fun b xs e => by rw [upd_ne (ne_of e hkvs (by intro z; cases z))]; exact e, fun z => by cases z⟩
        exact (hrk.kp k14).put (k14.t _ _ ht14) (ay.kp k14)
    rintro H14 ⟨s14, kvs, hkvs, _, hrk⟩
    rw [rl13, List.take_length] at hrk
    have m14 := m13.same s14
    refine ⟨_, rfl, o, CS, dx, _, rfl, m14.ho, T.cl, T.n6, by omega, ?_⟩
    have m15 := m14.put (gs := putF ("_row_of" : Str) (.ref D3) fs13)
    have k15 : Kp true H14 (upd H14 o (.ins CS dx (putF ("_row_of" : Str) (.ref D3) fs13))) := Off.kp m14.ho .wr
    exact q1 _ _ m15.off m15.ho ⟨⟨p, ys, by rw [lookup_putF, if_neg (by decide +kernel), lkP3], m15.hp, m15.at'⟩, ⟨r2, rows, by rw [lookup_putF, if_neg (by decide +kernel), lkR3], k15.t _ _ (s14 _ _ h13), (wa13.kp (.of s14)).kp k15⟩,
      ⟨nt, by rw [lookup_putF, if_neg (by decide +kernel), lkN3], k15.t _ _ (s14 _ _ n13)⟩, ⟨l, lx, by rw [lookup_putF, if_neg (by decide +kernel), lkL3], by rw [lookup_putF, if_neg (by decide +kernel), lkG3]⟩⟩ ⟨only_put (by decide +kernel) no13, D3, kvs, by rw [lookup_putF, if_pos rfl], by rw [upd_ne (ne_of hkvs m14.ho (by intro z; cases z))]; exact hkvs, hrk.kp k15⟩
end
end Bs

set_option Elab.async false
set_option linter.all false
set_option maxRecDepth 100000
set_option maxHeartbeats 4000000
namespace Bs
open PySem L2
/-! ### items as data -/
def kP : Key → PyData
  | .inl i => .int i
  | .inr z => .str z
mutual
def It.data : It → PyData
  | .num n s o lo hi => .tuple [.str "number", .str n, .int s, .str o, .int lo, .int hi]
  | .byt n a => .tuple [.str "bytes", .str n, kP a]
  | .txt n st m => .tuple [.str "text", .str n, .int st, .int m]
  | .chk n m => .tuple [.str "check", .str n, .int m]
  | .pad n m b => .tuple [.str "pad", .str n, .int m, .int b]
  | .rep n a b => .tuple [.str "repeat", .str n, kP a, .tuple b.data]
  | .eit n bs => .tuple [.str "either", .str n, .tuple bs.dataE]
  | .swi n t bs => .tuple [.str "switch", .str n, .str t, .tuple bs.dataS]
def Its.data : Its → List PyData
  | .nil => []
  | .cons x r => x.data :: r.data
def Blks.dataE : Blks → List PyData
  | .nil => []
  | .cons _ b r => .tuple b.data :: r.dataE
def Blks.dataS : Blks → List PyData
  | .nil => []
  | .cons v b r => .tuple [.int v, .tuple b.data] :: r.dataS
end
theorem rowT {H : Hp} {q : Addr} {xs : List V} (h : RowAt true H q xs) : H q = some (.tup xs) := h.elim id fun z => by cases z.1
theorem dp_k {K : PySem.W.Frag} {H : Hp} (a : Key) : Dp K H (kV a) (kP a) := by cases a <;> constructor
mutual
theorem It.dp {K : PySem.W.Frag} {H : Hp} : ∀ {x : It} {v : V}, x.At true H v → Dp K H v x.data
  | .num .., _, h => by simp only [It.At] at h; obtain ⟨p, rfl, h⟩ := h; simp only [It.data]; exact .tup (SqT.of h) (.cons (.str _) (.cons (.str _) (.cons (.int _) (.cons (.str _) (.cons (.int _) (.cons (.int _) .nil))))))
  | .byt .., _, h => by simp only [It.At] at h; obtain ⟨p, rfl, h⟩ := h; simp only [It.data]; exact .tup (SqT.of h) (.cons (.str _) (.cons (.str _) (.cons (dp_k _) .nil)))
  | .txt .., _, h => by simp only [It.At] at h; obtain ⟨p, rfl, h⟩ := h; simp only [It.data]; exact .tup (SqT.of h) (.cons (.str _) (.cons (.str _) (.cons (.int _) (.cons (.int _) .nil))))
  | .chk .., _, h => by simp only [It.At] at h; obtain ⟨p, rfl, h⟩ := h; simp only [It.data]; exact .tup (SqT.of h) (.cons (.str _) (.cons (.str _) (.cons (.int _) .nil)))
  | .pad .., _, h => by simp only [It.At] at h; obtain ⟨p, rfl, h⟩ := h; simp only [It.data]; exact .tup (SqT.of h) (.cons (.str _) (.cons (.str _) (.cons (.int _) (.cons (.int _) .nil))))
  | .rep .., _, h => by simp only [It.At] at h; obtain ⟨p, q, xs, rfl, h, r, b⟩ := h; simp only [It.data]; exact .tup (SqT.of h) (.cons (.str _) (.cons (.str _) (.cons (dp_k _) (.cons (.tup (SqT.of (rowT r)) (Its.dp b)) .nil))))
  | .eit .., _, h => by simp only [It.At] at h; obtain ⟨p, q, xs, rfl, h, r, b⟩ := h; simp only [It.data]; exact .tup (SqT.of h) (.cons (.str _) (.cons (.str _) (.cons (.tup (SqT.of (rowT r)) (Blks.dpE b)) .nil)))
  | .swi .., _, h => by simp only [It.At] at h; obtain ⟨p, q, xs, rfl, h, r, b⟩ := h; simp only [It.data]; exact .tup (SqT.of h) (.cons (.str _) (.cons (.str _) (.cons (.str _) (.cons (.tup (SqT.of (rowT r)) (Blks.dpS b)) .nil))))
theorem Its.dp {K : PySem.W.Frag} {H : Hp} : ∀ {x : Its} {l : List V}, x.At true H l → DpAll K H l x.data
  | .nil, _, h => by simp only [Its.At] at h; subst h; simp only [Its.data]; exact .nil
  | .cons .., _, h => by simp only [Its.At] at h; obtain ⟨v, l', rfl, h, r⟩ := h; simp only [Its.data]; exact .cons (It.dp h) (Its.dp r)
theorem Blks.dpE {K : PySem.W.Frag} {H : Hp} : ∀ {x : Blks} {l : List V}, x.AtE true H l → DpAll K H l x.dataE
  | .nil, _, h => by simp only [Blks.AtE] at h; subst h; simp only [Blks.dataE]; exact .nil
  | .cons .., _, h => by simp only [Blks.AtE] at h; obtain ⟨q, xs, l', rfl, r, h, t⟩ := h; simp only [Blks.dataE]; exact .cons (.tup (SqT.of (rowT r)) (Its.dp h)) (Blks.dpE t)
theorem Blks.dpS {K : PySem.W.Frag} {H : Hp} : ∀ {x : Blks} {l : List V}, x.AtS true H l → DpAll K H l x.dataS
  | .nil, _, h => by simp only [Blks.AtS] at h; subst h; simp only [Blks.dataS]; exact .nil
  | .cons .., _, h => by simp only [Blks.AtS] at h; obtain ⟨p, q, xs, l', rfl, hp, r, h, t⟩ := h; simp only [Blks.dataS]; exact .cons (.tup (SqT.of hp) (.cons (.int _) (.cons (.tup (SqT.of (rowT r)) (Its.dp h)) .nil))) (Blks.dpS t)
end
/-! ### it is shaped -/
theorem sign_uni {c : Nat} (h : isSign c = true) : c < 1114112 := by
  unfold isSign isLetter isDigit at h
  rw [Bool.or_eq_true] at h
  have a : ∀ c ∈ letters.cps.toList, c < 1114112 := by decide +kernel
  have b : ∀ c ∈ digits.cps.toList, c < 1114112 := by decide +kernel
  exact h.elim (fun h => a c (of_decide_eq_true h)) fun h => b c (of_decide_eq_true h)
theorem name_lay {z : Str} (h : isName z = true) : PyData.strOk z = true := by
  unfold isName at h
  unfold PyData.strOk
  rw [← Array.all_toList]
  revert h
  generalize z.cps.toList = l
  intro h
  cases l with
  | nil => rfl
  | cons c r =>
    unfold nameOk at h
    rw [Bool.and_eq_true, Bool.and_eq_true] at h
    rw [List.all_eq_true]
    intro x hx
    exact decide_eq_true (sign_uni (List.all_eq_true.mp h.2.2 x hx))
theorem ok_isName {x : It} {d : Int} (h : x.ok d = true) : isName x.name = true := by
  cases e : isName x.name with
  | true => rfl
  | false => rw [ok_name e] at h; cases h
def EnvC (f : Env) : Prop := ∀ z p, f z = some p → PyData.strOk z = true
theorem envC_seen {f : Env} (hf : EnvC f) {y : It} (h : isName y.name = true) : EnvC (y.seen f) := by
  cases y with
  | num n s o lo hi =>
    intro z p e
    have e : (if z = n then some (lo, hi) else f z) = some p := e
    by_cases c : z = n
    · rw [c]; exact name_lay h
    · rw [if_neg c] at e; exact hf z p e
  | _ => exact hf
theorem amount_lay {f : Env} (hf : EnvC f) {most : Int} {a : Key} {l : Int × Int} (e : amount f most a = some l) : (kP a).canLay0 = true := by
  cases a with
  | inl i => rfl
  | inr z =>
    simp only [amount] at e
    cases h : f z with
    | none => rw [h] at e; cases e
    | some p => simp only [kP, PyData.canLay0]; exact hf z p h
theorem kw_lay : PyData.strOk "number" = true ∧ PyData.strOk "bytes" = true ∧ PyData.strOk "text" = true ∧ PyData.strOk "check" = true ∧ PyData.strOk "pad" = true ∧ PyData.strOk "repeat" = true ∧ PyData.strOk "either" = true ∧ PyData.strOk "switch" = true ∧ PyData.strOk "big" = true ∧ PyData.strOk "little" = true := by decide +kernel
mutual
theorem It.lay : ∀ (x : It) (f : Env) (l : Int × Int) (d : Int), EnvC f → x.ok d = true → x.lens f = some l → x.data.canLay0 = true
  | .num n s o lo hi, f, l, d, hf, ok, e => by
    have nm : PyData.strOk n = true := name_lay (ok_isName ok)
    simp only [It.lens] at e
    by_cases c : numOk s o lo hi = true
    · unfold numOk at c
      rw [Bool.and_eq_true, Bool.and_eq_true] at c
      have c2 := of_decide_eq_true c.2.1
      have os : PyData.strOk o = true := by rcases c2 with rfl | rfl <;> decide +kernel
      simp only [It.data, PyData.canLay0, PyData.canLayAll0, nm, os, kw_lay.1, Bool.and_true]
    · rw [if_neg c] at e; cases e
  | .byt n a, f, l, d, hf, ok, e => by
    have nm : PyData.strOk n = true := name_lay (ok_isName ok)
    simp only [It.lens] at e
    simp only [It.data, PyData.canLay0, PyData.canLayAll0, nm, amount_lay hf e, kw_lay.2.1, Bool.and_true]
  | .txt n st m, f, l, d, hf, ok, e => by
    have nm : PyData.strOk n = true := name_lay (ok_isName ok)
    simp only [It.data, PyData.canLay0, PyData.canLayAll0, nm, kw_lay.2.2.1, Bool.and_true]
  | .chk n m, f, l, d, hf, ok, e => by
    have nm : PyData.strOk n = true := name_lay (ok_isName ok)
    simp only [It.data, PyData.canLay0, PyData.canLayAll0, nm, kw_lay.2.2.2.1, Bool.and_true]
  | .pad n m b, f, l, d, hf, ok, e => by
    have nm : PyData.strOk n = true := name_lay (ok_isName ok)
    simp only [It.data, PyData.canLay0, PyData.canLayAll0, nm, kw_lay.2.2.2.2.1, Bool.and_true]
  | .rep n a b, f, l, d, hf, ok, e => by
    have nm : PyData.strOk n = true := name_lay (ok_isName ok)
    simp only [It.lens] at e
    rw [It.ok, Bool.and_eq_true, Bool.and_eq_true, Bool.and_eq_true] at ok
    cases ha : amount f 16 a with
    | none => rw [ha] at e; cases e
    | some q =>
      cases hb : b.lens f with
      | none => rw [ha, hb] at e; cases e
      | some p => simp only [It.data, PyData.canLay0, PyData.canLayAll0, nm, amount_lay hf ha, Its.lay b f p _ hf ok.2.2.2 hb, kw_lay.2.2.2.2.2.1, Bool.and_true]
  | .eit n bs, f, l, d, hf, ok, e => by
    have nm : PyData.strOk n = true := name_lay (ok_isName ok)
    simp only [It.lens] at e
    rw [It.ok, Bool.and_eq_true, Bool.and_eq_true, Bool.and_eq_true] at ok
    cases hb : bs.lens f with
    | none => rw [hb] at e; cases e
    | some p => simp only [It.data, PyData.canLay0, PyData.canLayAll0, nm, Blks.layE bs f p _ hf ok.2.2.2 hb, kw_lay.2.2.2.2.2.2.1, Bool.and_true]
  | .swi n tag bs, f, l, d, hf, ok, e => by
    have nm : PyData.strOk n = true := name_lay (ok_isName ok)
    simp only [It.lens] at e
    rw [It.ok, Bool.and_eq_true, Bool.and_eq_true, Bool.and_eq_true] at ok
    by_cases c : (f tag).isSome = true ∧ (∀ v ∈ bs.vals, 0 ≤ v ∧ v ≤ 65535) ∧ bs.vals.Nodup
    · rw [if_pos c] at e
      obtain ⟨q, hq⟩ := Option.isSome_iff_exists.mp c.1
      have ht := hf tag q hq
      cases hb : bs.lens f with
      | none => rw [hb] at e; cases e
      | some p => simp only [It.data, PyData.canLay0, PyData.canLayAll0, nm, ht, Blks.layS bs f p _ hf ok.2.2.2 hb, kw_lay.2.2.2.2.2.2.2.1, Bool.and_true]
    · rw [if_neg c] at e; cases e
theorem Its.lay : ∀ (x : Its) (f : Env) (l : Int × Int) (d : Int), EnvC f → x.ok d = true → x.lens f = some l → PyData.canLayAll0 x.data = true
  | .nil, f, l, d, hf, ok, e => by simp only [Its.data, PyData.canLayAll0]
  | .cons x r, f, l, d, hf, ok, e => by
    rw [lens_cons] at e
    rw [Its.ok, Bool.and_eq_true] at ok
    cases hx : x.lens f with
    | none => rw [hx] at e; cases e
    | some a =>
      rw [hx] at e
      simp only at e
      cases hr : r.lens (x.seen f) with
      | none => rw [hr] at e; cases e
      | some b => simp only [Its.data, PyData.canLayAll0, It.lay x f a d hf ok.1 hx, Its.lay r _ b d (envC_seen hf (ok_isName ok.1)) ok.2 hr, Bool.and_true]
theorem Blks.layE : ∀ (x : Blks) (f : Env) (l : List (Int × Int)) (d : Int), EnvC f → x.ok d = true → x.lens f = some l → PyData.canLayAll0 x.dataE = true
  | .nil, f, l, d, hf, ok, e => by simp only [Blks.dataE, PyData.canLayAll0]
  | .cons v b r, f, l, d, hf, ok, e => by
    rw [lensB_cons] at e
    rw [Blks.ok, Bool.and_eq_true, Bool.and_eq_true] at ok
    cases hx : b.lens f with
    | none => rw [hx] at e; cases e
    | some a =>
      rw [hx] at e
      simp only at e
      cases hr : r.lens f with
      | none => rw [hr] at e; cases e
      | some c => simp only [Blks.dataE, PyData.canLay0, PyData.canLayAll0, Its.lay b f a d hf ok.1.2 hx, Blks.layE r f c d hf ok.2 hr, Bool.and_true]
theorem Blks.layS : ∀ (x : Blks) (f : Env) (l : List (Int × Int)) (d : Int), EnvC f → x.ok d = true → x.lens f = some l → PyData.canLayAll0 x.dataS = true
  | .nil, f, l, d, hf, ok, e => by simp only [Blks.dataS, PyData.canLayAll0]
  | .cons v b r, f, l, d, hf, ok, e => by
    rw [lensB_cons] at e
    rw [Blks.ok, Bool.and_eq_true, Bool.and_eq_true] at ok
    cases hx : b.lens f with
    | none => rw [hx] at e; cases e
    | some a =>
      rw [hx] at e
      simp only at e
      cases hr : r.lens f with
      | none => rw [hr] at e; cases e
      | some c => simp only [Blks.dataS, PyData.canLay0, PyData.canLayAll0, Its.lay b f a d hf ok.1.2 hx, Blks.layS r f c d hf ok.2 hr, Bool.and_true]
end
theorem dep_k (a : Key) : (kP a).depth = 0 := by cases a <;> simp only [kP, PyData.depth]
theorem ok_d {x : It} {d : Int} (h : x.ok d = true) : d ≤ 3 := by
  cases x with
  | rep => rw [It.ok, Bool.and_eq_true, Bool.and_eq_true] at h; have := of_decide_eq_true h.2.1; omega
  | eit => rw [It.ok, Bool.and_eq_true, Bool.and_eq_true] at h; have := of_decide_eq_true h.2.1; omega
  | swi => rw [It.ok, Bool.and_eq_true, Bool.and_eq_true] at h; have := of_decide_eq_true h.2.1; omega
  | _ => simp only [It.ok, Bool.and_eq_true] at h; exact of_decide_eq_true h.2
mutual
theorem It.dep : ∀ (x : It) (d : Int), x.ok d = true → (x.data.depth : Int) ≤ 13 - 4 * d
  | .num .., d, h => by have := ok_d h; simp only [It.data, PyData.depth, PyData.depthAll]; omega
  | .byt n a, d, h => by have := ok_d h; simp only [It.data, PyData.depth, PyData.depthAll, dep_k]; omega
  | .txt .., d, h => by have := ok_d h; simp only [It.data, PyData.depth, PyData.depthAll]; omega
  | .chk .., d, h => by have := ok_d h; simp only [It.data, PyData.depth, PyData.depthAll]; omega
  | .pad .., d, h => by have := ok_d h; simp only [It.data, PyData.depth, PyData.depthAll]; omega
  | .rep n a b, d, h => by
    rw [It.ok, Bool.and_eq_true, Bool.and_eq_true, Bool.and_eq_true] at h
    have d2 := of_decide_eq_true h.2.1
    have := Its.dep b (d + 1) (by omega) h.2.2.2
    simp only [It.data, PyData.depth, PyData.depthAll, dep_k]
    omega
  | .eit n bs, d, h => by
    rw [It.ok, Bool.and_eq_true, Bool.and_eq_true, Bool.and_eq_true] at h
    have d2 := of_decide_eq_true h.2.1
    have := Blks.depE bs (d + 1) (by omega) h.2.2.2
    simp only [It.data, PyData.depth, PyData.depthAll]
    omega
  | .swi n t bs, d, h => by
    rw [It.ok, Bool.and_eq_true, Bool.and_eq_true, Bool.and_eq_true] at h
    have d2 := of_decide_eq_true h.2.1
    have := Blks.depS bs (d + 1) (by omega) h.2.2.2
    simp only [It.data, PyData.depth, PyData.depthAll]
    omega
theorem Its.dep : ∀ (x : Its) (d : Int), d ≤ 3 → x.ok d = true → (PyData.depthAll x.data : Int) ≤ 13 - 4 * d
  | .nil, d, h3, h => by simp only [Its.data, PyData.depthAll]; omega
  | .cons x r, d, h3, h => by
    rw [Its.ok, Bool.and_eq_true] at h
    have a := It.dep x d h.1
    have b := Its.dep r d h3 h.2
    simp only [Its.data, PyData.depthAll]
    omega
theorem Blks.depE : ∀ (x : Blks) (d : Int), d ≤ 3 → x.ok d = true → (PyData.depthAll x.dataE : Int) ≤ 14 - 4 * d
  | .nil, d, h3, h => by simp only [Blks.dataE, PyData.depthAll]; omega
  | .cons v b r, d, h3, h => by
    rw [Blks.ok, Bool.and_eq_true, Bool.and_eq_true] at h
    have a := Its.dep b d h3 h.1.2
    have c := Blks.depE r d h3 h.2
    simp only [Blks.dataE, PyData.depth, PyData.depthAll]
    omega
theorem Blks.depS : ∀ (x : Blks) (d : Int), d ≤ 3 → x.ok d = true → (PyData.depthAll x.dataS : Int) ≤ 15 - 4 * d
  | .nil, d, h3, h => by simp only [Blks.dataS, PyData.depthAll]; omega
  | .cons v b r, d, h3, h => by
    rw [Blks.ok, Bool.and_eq_true, Bool.and_eq_true] at h
    have a := Its.dep b d h3 h.1.2
    have c := Blks.depS r d h3 h.2
    simp only [Blks.dataS, PyData.depth, PyData.depthAll]
    omega
end
theorem shaped_data {x : Its} {l : Int × Int} (ok : x.ok 0 = true) (e : x.lens (fun _ => none) = some l) : SeqAt.shaped (.tuple x.data) = true := by
  have a := Its.lay x _ l 0 (fun z p h => by cases h) ok e
  have b := Its.dep x 0 (by decide) ok
  unfold SeqAt.shaped
  simp only [PyData.canLay0, PyData.depth, a, Bool.true_and]
  exact decide_eq_true (by omega)
theorem eqv_data {x : Its} {l : Int × Int} (ok : x.ok 0 = true) (e : x.lens (fun _ => none) = some l) : PyData.eqv (.tuple x.data) (.tuple x.data) = true := by
  have h := shaped_data ok e
  unfold SeqAt.shaped at h
  rw [Bool.and_eq_true] at h
  exact SeqAt.eqv_refl _ h.1
/-! ### the first items -/
theorem take_At {fz : Bool} {H : Hp} : ∀ {x : Its} {l : List V} (i : Nat), x.At fz H l → (x.take i).At fz H (l.take i)
  | x, l, 0, _ => by simp [Its.take, Its.At]
  | .nil, l, i + 1, h => by simp only [Its.At] at h; subst h; simp [Its.take, Its.At]
  | .cons x r, l, i + 1, h => by
    simp only [Its.At] at h
    obtain ⟨v, l', rfl, h1, h2⟩ := h
    show (Its.cons x (r.take i)).At fz H (v :: l'.take i)
    simp only [Its.At]
    exact ⟨v, _, rfl, h1, take_At i h2⟩
end Bs

set_option Elab.async false
set_option linter.all false
set_option maxRecDepth 100000
set_option maxHeartbeats 4000000
namespace Bs
open PySem L2
/-! ### items with one name replaced -/
theorem kind_flat {x : It} (h : x.blocky = false) : x.kind ≠ "repeat" ∧ x.kind ≠ "either" ∧ x.kind ≠ "switch" := by
  cases x <;> first | (cases h; done) | (simp only [It.kind]; decide +kernel)
def Its.app : Its → Its → Its
  | .nil, y => y
  | .cons x r, y => .cons x (r.app y)
mutual
def It.repl : It → Str → Its → It
  | .rep n a b, z, ys => .rep n a (b.repl z ys)
  | .eit n bs, z, ys => .eit n (bs.repl z ys)
  | .swi n t bs, z, ys => .swi n t (bs.repl z ys)
  | .num n s o lo hi, _, _ => .num n s o lo hi
  | .byt n a, _, _ => .byt n a
  | .txt n s m, _, _ => .txt n s m
  | .chk n m, _, _ => .chk n m
  | .pad n m b, _, _ => .pad n m b
def Its.repl : Its → Str → Its → Its
  | .nil, _, _ => .nil
  | .cons x r, z, ys => if x.name = z then ys.app (r.repl z ys) else .cons (x.repl z ys) (r.repl z ys)
def Blks.repl : Blks → Str → Its → Blks
  | .nil, _, _ => .nil
  | .cons v b r, z, ys => .cons v (b.repl z ys) (r.repl z ys)
end
def It.one (y : It) (z : Str) (ys : Its) : Its := if y.name = z then ys else .cons (y.repl z ys) .nil
theorem app_nil : ∀ (x : Its), x.app .nil = x
  | .nil => rfl
  | .cons x r => by simp [Its.app, app_nil r]
theorem app_assoc : ∀ (x y w : Its), (x.app y).app w = x.app (y.app w)
  | .nil, _, _ => rfl
  | .cons x r, y, w => by simp [Its.app, app_assoc r y w]
theorem app_len : ∀ (x y : Its), (x.app y).len = x.len + y.len
  | .nil, _ => by simp [Its.app, Its.len]
  | .cons x r, y => by simp [Its.app, Its.len, app_len r y]; omega
theorem app_tame : ∀ {x y : Its}, x.tame → y.tame → (x.app y).tame
  | .nil, _, _, h => h
  | .cons x r, y, h, g => by
    simp only [Its.tame] at h
    simp only [Its.app, Its.tame]
    exact ⟨h.1, app_tame h.2 g⟩
theorem app_at {fz : Bool} {H : Hp} : ∀ {x y : Its} {l m : List V}, x.At fz H l → y.At fz H m → (x.app y).At fz H (l ++ m)
  | .nil, _, _, _, h, g => by simp only [Its.At] at h; subst h; exact g
  | .cons x r, y, _, m, h, g => by
    simp only [Its.At] at h
    obtain ⟨v, l', rfl, h1, h2⟩ := h
    simp only [Its.app, Its.At, List.cons_append]
    exact ⟨v, l' ++ m, rfl, h1, app_at h2 g⟩
theorem repl_cons (z : Str) (ys : Its) (x : It) (r : Its) : (Its.cons x r).repl z ys = (x.one z ys).app (r.repl z ys) := by
  unfold It.one
  rw [Its.repl]
  split
  · rfl
  · rfl
theorem repl_take {z : Str} {ys : Its} : ∀ {x : Its} {i : Nat} {y : It}, x.get i = some y → (x.take (i + 1)).repl z ys = ((x.take i).repl z ys).app (y.one z ys)
  | .nil, _, _, e => by simp [Its.get] at e
  | .cons x r, 0, y, e => by
    simp [Its.get] at e
    subst e
    show (Its.cons x (r.take 0)).repl z ys = (Its.nil.repl z ys).app _
    have : r.take 0 = .nil := by cases r <;> rfl
    rw [this, repl_cons, Its.repl, app_nil, Its.app]
  | .cons x r, i + 1, y, e => by
    show (Its.cons x (r.take (i + 1))).repl z ys = ((Its.cons x (r.take i)).repl z ys).app _
    rw [repl_cons, repl_cons, repl_take (x := r) e, app_assoc]
theorem repl_name (z : Str) (ys : Its) (x : It) : (x.repl z ys).name = x.name := by cases x <;> rfl
theorem repl_blist (z : Str) (ys : Its) : ∀ (bs : Blks), (bs.repl z ys).list = bs.list.map (·.repl z ys)
  | .nil => rfl
  | .cons v b r => by simp [Blks.repl, Blks.list, repl_blist z ys r]
theorem repl_bget {z : Str} {ys : Its} : ∀ {bs : Blks} {i : Nat} {c : Int} {b : Its}, bs.get i = some (c, b) → (bs.repl z ys).get i = some (c, b.repl z ys)
  | .nil, _, _, _, e => by simp [Blks.get] at e
  | .cons v b r, 0, _, _, e => by simp only [Blks.get, Option.some.injEq, Prod.mk.injEq] at e; obtain ⟨rfl, rfl⟩ := e; rfl
  | .cons v b r, i + 1, _, _, e => repl_bget (bs := r) e
theorem repl_blen (z : Str) (ys : Its) : ∀ (bs : Blks), (bs.repl z ys).len = bs.len
  | .nil => rfl
  | .cons v b r => by simp [Blks.repl, Blks.len, repl_blen z ys r]
theorem repl_vals (z : Str) (ys : Its) : ∀ (bs : Blks), (bs.repl z ys).vals = bs.vals
  | .nil => rfl
  | .cons v b r => by simp [Blks.repl, Blks.vals, repl_vals z ys r]
theorem one_len {z : Str} {ys : Its} {y : It} (h : ys.len ≤ 1) : (y.one z ys).len ≤ 1 := by
  unfold It.one
  split
  · exact h
  · simp [Its.len]
theorem repl_len {z : Str} {ys : Its} (h : ys.len ≤ 1) : ∀ (x : Its), (x.repl z ys).len ≤ x.len
  | .nil => by simp [Its.repl, Its.len]
  | .cons x r => by
    rw [repl_cons, app_len]
    have := repl_len (z := z) h r
    have := one_len (z := z) (y := x) h
    simp only [Its.len]
    omega
theorem repl_len2 {z : Str} {ys : Its} (h : ys.len ≤ 2) : ∀ (x : Its), (x.repl z ys).len ≤ 2 * x.len
  | .nil => by simp [Its.repl, Its.len]
  | .cons x r => by
    rw [repl_cons, app_len]
    have := repl_len2 (z := z) h r
    have : (x.one z ys).len ≤ 2 := by
      unfold It.one
      split
      · exact h
      · simp [Its.len]
    simp only [Its.len]
    omega
mutual
theorem It.repl_tame (z : Str) (ys : Its) (h : ys.tame) : ∀ (x : It), x.tame → (x.repl z ys).tame
  | .rep n a b, t => by simp only [It.tame] at t; simp only [It.repl, It.tame]; exact ⟨t.1, t.2.1, Its.repl_tame z ys h b t.2.2⟩
  | .eit n bs, t => by simp only [It.tame] at t; simp only [It.repl, It.tame]; exact ⟨t.1, Blks.repl_tame z ys h bs t.2⟩
  | .swi n tg bs, t => by simp only [It.tame] at t; simp only [It.repl, It.tame]; exact ⟨t.1, by rw [repl_vals]; exact t.2.1, Blks.repl_tame z ys h bs t.2.2⟩
  | .num .., t => t
  | .byt .., t => t
  | .txt .., t => t
  | .chk .., t => t
  | .pad .., t => t
theorem Its.repl_tame (z : Str) (ys : Its) (h : ys.tame) : ∀ (x : Its), x.tame → (x.repl z ys).tame
  | .nil, t => t
  | .cons x r, t => by
    simp only [Its.tame] at t
    rw [repl_cons]
    refine app_tame ?_ (Its.repl_tame z ys h r t.2)
    unfold It.one
    split
    · exact h
    · simp only [Its.tame]; exact ⟨It.repl_tame z ys h x t.1, trivial⟩
theorem Blks.repl_tame (z : Str) (ys : Its) (h : ys.tame) : ∀ (x : Blks), x.tame → (x.repl z ys).tame
  | .nil, t => t
  | .cons v b r, t => by
    simp only [Blks.tame] at t
    simp only [Blks.repl, Blks.tame]
    exact ⟨Its.repl_tame z ys h b t.1, Blks.repl_tame z ys h r t.2⟩
end
theorem take_len_le : ∀ (x : Its) (i : Nat), (x.take i).len ≤ x.len
  | x, 0 => by simp [Its.take, Its.len]
  | .nil, i + 1 => by simp [Its.take, Its.len]
  | .cons x r, i + 1 => by have := take_len_le r i; simp only [Its.take, Its.len]; omega

end Bs

set_option Elab.async false
set_option linter.all false
set_option maxRecDepth 100000
set_option maxHeartbeats 4000000
/-! tuple(zip(a list, a list)): the zip's tuples are held -/
namespace Bs
open PySem PySem.Spec PyProof.Rows L2
theorem fpOk_upd {X : Cx} {pins : List (Addr × Obj)} {H : Hp} {b T : Addr} {o : HO} (h : FpOk X pins H b) (n : b ≠ T) : FpOk X pins (upd H T o) b := ⟨by rw [upd_ne n]; exact h.1, h.2⟩
/-- the pairs as they stand -/
def ZipAt (H0 H : Hp) (xs ys vs : List V) : Prop := ∀ (j : Nat) (v : V), vs[j]? = some v → ∃ p x y, v = V.ref p ∧ xs[j]? = some x ∧ ys[j]? = some y ∧ H0 p = none ∧ H p = some (.tup [x, y])
theorem ZipAt.same {H0 H H' : Hp} {xs ys vs : List V} (s : Same H H') (h : ZipAt H0 H xs ys vs) : ZipAt H0 H' xs ys vs := fun j v e => by
  obtain ⟨p, x, y, e1, e2, e3, e0, e4⟩ := h j v e
  exact ⟨p, x, y, e1, e2, e3, e0, s _ _ e4⟩
theorem ZipAt.snoc {H0 H : Hp} {xs ys vs : List V} {p : Addr} {x y : V} (h : ZipAt H0 H xs ys vs) (e1 : xs[vs.length]? = some x) (e2 : ys[vs.length]? = some y) (e0 : H0 p = none) (e3 : H p = some (.tup [x, y])) : ZipAt H0 H xs ys (vs ++ [.ref p]) := fun j v e => by
  by_cases c : j < vs.length
  · rw [List.getElem?_append_left c] at e; exact h j v e
  · have : j = vs.length := by
      have := (List.getElem?_eq_some_iff.mp e).1
      simp at this
      omega
    subst this
    simp at e
    subst e
    exact ⟨p, x, y, rfl, e1, e2, e0, e3⟩
theorem vals_snoc {vs : List V} {us : List Value} {v : V} {u : Value} (h : Vals vs us) (r : RelV v u) : Vals (vs ++ [v]) (us ++ [u]) := by
  induction h with
  | nil => exact .cons r .nil
  | cons a _ ih => exact .cons a ih
theorem sqL_same {K : PySem.W.Frag} {H H' : Hp} (s : Same H H') {a : Addr} {xs : List V} (h : SqL K H a xs) : SqL K H' a xs := h.elim (fun h => .inl (h.elim (fun h => .inl (s _ _ h)) fun ⟨o, h⟩ => .inr ⟨o, s _ _ h⟩)) .inr
theorem zl_held {X : Cx} {pins : List (Addr × Obj)} {σ : L2.St} {z TI TO i1 i2 a b S T : Addr} {res : Value} {A : Around} {R : Result → Shared → Prop} {H0 : Hp} (hh : A.in1.handled = none) (D : ZipApart z TI TO i1 i2 a b)
    (nS : S ≠ z ∧ S ≠ TI ∧ S ≠ i1 ∧ S ≠ i2 ∧ S ≠ T) (nT : T ≠ z ∧ T ≠ i1 ∧ T ≠ i2) {xs ys : List V} (hl : xs.length = ys.length) (h100 : xs.length ≤ 1000) :
    ∀ (k i : Nat) (s : Shared) (H : Hp) (acc : Array Value) (c : Nat) (f : Bool) (vs : List V), xs.length - i = k → i ≤ xs.length → L2.Inv X pins σ H s → Same H0 H → (∀ q ∈ [z, i1, i2, S], FpOk X pins H q) → IsZipHeld s.heap z TI TO T f → (∃ oT, s.heap.get? T = some oT) → IsPair s.heap TI (.ref i1) (.ref i2) →
      s.heap.IsListIter i1 a i → s.heap.IsListIter i2 b i → s.heap.get? S = some { cls := Value.type "list", data := Data.seq acc c } → SqL X.K H a xs → SqL X.K H b ys → Vals vs acc.toList → vs.length = i → ZipAt H0 H xs ys vs →
      (∀ (H' : Hp) (s' : Shared) (acc' : Array Value) (c' : Nat) (vs' : List V), L2.Inv X pins σ H' s' → Same H H' → s'.heap.get? S = some { cls := Value.type "list", data := Data.seq acc' c' } → Vals vs' acc'.toList → vs'.length = xs.length → ZipAt H0 H' xs ys vs' → R (.ok (.ret res)) s') →
      codeAny (model X.prog X.w) A (Code.builtin "list.extend.loop" { pos := [.ref S, .ref z, res] }) R s := by
  intro k
  induction k with
  | zero =>
    intro i s H acc c f vs hk hi I sH fr hz hT hTI g1 g2 hS q1 q2 hv hvl hp fin
    obtain ⟨oT, hT⟩ := hT
    obtain ⟨its, rl, p1, _⟩ := I.list q1
    obtain ⟨jts, rt, p2, _⟩ := I.list q2
    refine codeAny_builtin F.entry_extend_loop ?_
    rw [Around.under_plainId F.plain_extend_loop]
    show wpAny _ _ (pyNext (.ref z) >>= _) _ _ _
    refine wpAny_bind ?_
    have n1 : its.length = xs.length := rl.length.symm
    refine wpAny_pyNext_zip_end_held hh D hz hT hTI g1 g2 p1.isList p2.isList (.inl (by simp; omega)) fun h' old => ?_
    refine wpAny_pure ?_
    refine fin H _ acc c vs (I.turnedL (t' := s.toks) (ch := [z, i1, i2]) (fun q o hq e => ?_) (fun q hq => fr q ?_)) (Same.refl _) (old S _ nS.1 nS.2.2.1 nS.2.2.2.1 hS) hv (by omega) hp
    · simp only [List.mem_cons, List.not_mem_nil, or_false, not_or] at hq
      exact old q o hq.1 hq.2.1 hq.2.2 e
    · simp only [List.mem_cons, List.not_mem_nil, or_false] at hq ⊢
      rcases hq with h | h | h <;> simp [h]
  | succ k ih =>
    intro i s H acc c f vs hk hi I sH fr hz hT hTI g1 g2 hS q1 q2 hv hvl hp fin
    obtain ⟨oT, hT⟩ := hT
    obtain ⟨its, rl, p1, _⟩ := I.list q1
    obtain ⟨jts, rt, p2, _⟩ := I.list q2
    have lt : i < xs.length := by omega
    have e1 : xs[i]? = some (xs[i]) := List.getElem?_eq_getElem lt
    have e2 : ys[i]? = some (ys[i]'(by omega)) := List.getElem?_eq_getElem (by omega)
    generalize xs[i] = x at e1
    generalize ys[i]'(by omega) = y at e2
    obtain ⟨v1, a1, r1⟩ := rl.get e1
    obtain ⟨v2, a2, r2⟩ := rt.get e2
    have as : acc.size = i := by have := hv.length; simpa [hvl] using this.symm
    refine codeAny_builtin F.entry_extend_loop ?_
    rw [Around.under_plainId F.plain_extend_loop]
    show wpAny _ _ (pyNext (.ref z) >>= _) _ _ _
    refine wpAny_bind ?_
    refine wpAny_pyNext_zip_item_held D hz hT hTI g1 g2 p1.isList p2.isList (x := v1) (y := v2) (by simpa using a1) (by simpa using a2) fun h' hz' g1' g2' hpr hsz old => ?_
    show wpAny _ _ (updateSeq S (fun w => w.push (.ref s.heap.objs.size)) >>= _) _ _ _
    refine wpAny_bind ?_
    have hS' := old S _ nS.1 nS.2.2.1 nS.2.2.2.1 hS
    have aS : acc.size ≤ sizeLine := le_line (by omega)
    refine wpAny_updateSeq (xs := acc) (n := c) hS' rfl ?_ aS (by rw [Array.size_push]; have : acc.size ≤ sizeLine := aS; omega)
    refine wpAny_pure ⟨plainId_quiet F.plain_extend_loop _, ?_⟩
    have neS : ∀ q, q ≠ S → (h'.update S (Obj.mapSeq fun w => w.push (.ref s.heap.objs.size))).get? q = h'.get? q := fun q n => Heap.get?_update_ne _ _ _ _ n
    have hSn : (h'.update S (Obj.mapSeq fun w => w.push (.ref s.heap.objs.size))).get? S = some { cls := Value.type "list", data := Data.seq (acc.push (.ref s.heap.objs.size)) (c + 1) } := by
      rw [Heap.get?_update_self _ hS' rfl]
      simp [Obj.mapSeq]
    have ltS : S < s.heap.objs.size := Heap.lt_size hS
    have nTS : s.heap.objs.size ≠ S := Nat.ne_of_gt ltS
    have J := I.turnedNew (h' := h'.update S (Obj.mapSeq fun w => w.push (.ref s.heap.objs.size))) (t' := s.toks) (ch := [z, i1, i2, S]) (T := s.heap.objs.size) (ob := .tup [x, y]) (fun q o hq e => by
      simp only [List.mem_cons, List.not_mem_nil, or_false, not_or] at hq
      rw [neS q hq.2.2.2]
      exact old q o hq.1 hq.2.1 hq.2.2.1 e) fr (Nat.le_refl _) ⟨(by show 2 ≤ sizeLine; decide), [v1, v2], .cons r1 (.cons r2 .nil), ⟨_, by rw [neS _ nTS]; exact hpr, rfl, 0, rfl⟩⟩
    have hn : H s.heap.objs.size = none := I.hok.fresh (Nat.le_refl _)
    have sm := same_new hn (.tup [x, y])
    refine ih (i + 1) _ (upd H s.heap.objs.size (.tup [x, y])) (acc.push (.ref s.heap.objs.size)) (c + 1) true (vs ++ [.ref s.heap.objs.size]) (by omega) lt J (sH.trans sm) (fun q hq => fpOk_upd (fr q hq) ?_) ?_ ⟨oT, ?_⟩ ?_ ?_ ?_ hSn (sqL_same sm q1) (sqL_same sm q2) ?_ (by simp [hvl]) ((hp.same sm).snoc (by rw [hvl]; exact e1) (by rw [hvl]; exact e2) (sH.free hn) upd_same) (fun H' s' acc' c' vs' I' S' => fin H' s' acc' c' vs' I' (sm.trans S'))
    · -- the fixed ones are not the new one
      have lq : ∀ q ∈ [z, i1, i2, S], q < s.heap.objs.size := fun q hq => by
        obtain ⟨o1, g1, _⟩ := g1
        obtain ⟨o2, g2, _⟩ := g2
        simp only [List.mem_cons, List.not_mem_nil, or_false] at hq
        rcases hq with rfl | rfl | rfl | rfl
        · exact Heap.lt_size hz
        · exact Heap.lt_size g1
        · exact Heap.lt_size g2
        · exact ltS
      exact Nat.ne_of_lt (lq q hq)
    · show (h'.update S _).get? z = _
      rw [neS z nS.1.symm]; exact hz'
    · show (h'.update S _).get? T = _
      rw [neS T nS.2.2.2.2.symm]; exact old T _ nT.1 nT.2.1 nT.2.2 hT
    · show (h'.update S _).get? TI = _
      rw [neS TI nS.2.1.symm]; exact old TI _ D.TIz D.TIi1 D.TIi2 hTI
    · exact g1'.at fun o e => by rw [← e]; exact neS i1 nS.2.2.1.symm
    · exact g2'.at fun o e => by rw [← e]; exact neS i2 nS.2.2.2.1.symm
    · rw [Array.toList_push]; exact vals_snoc hv rfl
theorem zl_all {X : Cx} {pins : List (Addr × Obj)} {σ : L2.St} {z TI TO i1 i2 a b S : Addr} {res : Value} {A : Around} {R : Result → Shared → Prop} (hh : A.in1.handled = none) (D : ZipApart z TI TO i1 i2 a b)
    (nS : S ≠ z ∧ S ≠ TI ∧ S ≠ TO ∧ S ≠ i1 ∧ S ≠ i2) {xs ys : List V} (hl : xs.length = ys.length) (h100 : xs.length ≤ 1000) {s : Shared} {H : Hp} {c : Nat} {u0 u1 : Value} (I : L2.Inv X pins σ H s) (fr : ∀ q ∈ [z, TO, i1, i2, S], FpOk X pins H q) (hz : IsZip s.heap z TI TO .none) (hTI : IsPair s.heap TI (.ref i1) (.ref i2)) (hTO : IsPair s.heap TO u0 u1)
    (g1 : s.heap.IsListIter i1 a 0) (g2 : s.heap.IsListIter i2 b 0) (hS : s.heap.get? S = some { cls := Value.type "list", data := Data.seq #[] c }) (q1 : SqL X.K H a xs) (q2 : SqL X.K H b ys)
    (fin : ∀ (H' : Hp) (s' : Shared) (acc' : Array Value) (c' : Nat) (vs' : List V), L2.Inv X pins σ H' s' → Same H H' → s'.heap.get? S = some { cls := Value.type "list", data := Data.seq acc' c' } → Vals vs' acc'.toList → vs'.length = xs.length → ZipAt H H' xs ys vs' → R (.ok (.ret res)) s') :
    codeAny (model X.prog X.w) A (Code.builtin "list.extend.loop" { pos := [.ref S, .ref z, res] }) R s := by
  obtain ⟨its, rl, p1, _⟩ := I.list q1
  obtain ⟨jts, rt, p2, _⟩ := I.list q2
  refine codeAny_builtin F.entry_extend_loop ?_
  rw [Around.under_plainId F.plain_extend_loop]
  show wpAny _ _ (pyNext (.ref z) >>= _) _ _ _
  refine wpAny_bind ?_
  have n1 : its.length = xs.length := rl.length.symm
  by_cases lt : 0 < xs.length
  · have e1 : xs[0]? = some (xs[0]) := List.getElem?_eq_getElem lt
    have e2 : ys[0]? = some (ys[0]'(by omega)) := List.getElem?_eq_getElem (by omega)
    generalize xs[0] = x at e1
    generalize ys[0]'(by omega) = y at e2
    obtain ⟨v1, a1, r1⟩ := rl.get e1
    obtain ⟨v2, a2, r2⟩ := rt.get e2
    refine wpAny_pyNext_zip_item D hz hTI hTO g1 g2 p1.isList p2.isList (x := v1) (y := v2) (by simpa using a1) (by simpa using a2) fun h' hz' hTO' g1' g2' hpr hsz old => ?_
    show wpAny _ _ (updateSeq S (fun w => w.push (.ref s.heap.objs.size)) >>= _) _ _ _
    refine wpAny_bind ?_
    have hS' := old S _ nS.1 nS.2.2.1 nS.2.2.2.1 nS.2.2.2.2 hS
    refine wpAny_updateSeq (xs := #[]) (n := c) hS' rfl ?_ (le_line (by simp)) (by simp)
    refine wpAny_pure ⟨plainId_quiet F.plain_extend_loop _, ?_⟩
    have neS : ∀ q, q ≠ S → (h'.update S (Obj.mapSeq fun w => w.push (.ref s.heap.objs.size))).get? q = h'.get? q := fun q n => Heap.get?_update_ne _ _ _ _ n
    have hSn : (h'.update S (Obj.mapSeq fun w => w.push (.ref s.heap.objs.size))).get? S = some { cls := Value.type "list", data := Data.seq (#[].push (.ref s.heap.objs.size)) (c + 1) } := by
      rw [Heap.get?_update_self _ hS' rfl]
      simp [Obj.mapSeq]
    have ltS : S < s.heap.objs.size := Heap.lt_size hS
    have nTS : s.heap.objs.size ≠ S := Nat.ne_of_gt ltS
    have J := I.turnedNew (h' := h'.update S (Obj.mapSeq fun w => w.push (.ref s.heap.objs.size))) (t' := s.toks) (ch := [z, TO, i1, i2, S]) (T := s.heap.objs.size) (ob := .tup [x, y]) (fun q o hq e => by
      simp only [List.mem_cons, List.not_mem_nil, or_false, not_or] at hq
      rw [neS q hq.2.2.2.2]
      exact old q o hq.1 hq.2.1 hq.2.2.1 hq.2.2.2.1 e) fr (Nat.le_refl _) ⟨(by show 2 ≤ sizeLine; decide), [v1, v2], .cons r1 (.cons r2 .nil), ⟨_, by rw [neS _ nTS]; exact hpr, rfl, 0, rfl⟩⟩
    have hn : H s.heap.objs.size = none := I.hok.fresh (Nat.le_refl _)
    have sm := same_new hn (.tup [x, y])
    have lq : ∀ q ∈ [z, TO, i1, i2, S], q < s.heap.objs.size := fun q hq => by
      obtain ⟨o1, g1, _⟩ := g1
      obtain ⟨o2, g2, _⟩ := g2
      simp only [List.mem_cons, List.not_mem_nil, or_false] at hq
      rcases hq with rfl | rfl | rfl | rfl | rfl
      · exact Heap.lt_size hz
      · exact Heap.lt_size hTO
      · exact Heap.lt_size g1
      · exact Heap.lt_size g2
      · exact ltS
    refine zl_held (H0 := H) hh D (T := s.heap.objs.size) ⟨nS.1, nS.2.1, nS.2.2.2.1, nS.2.2.2.2, nTS.symm⟩ ⟨Nat.ne_of_gt (lq z (by simp)), Nat.ne_of_gt (lq i1 (by simp)), Nat.ne_of_gt (lq i2 (by simp))⟩ hl h100 (xs.length - 1) 1 _ (upd H s.heap.objs.size (.tup [x, y])) (#[].push (.ref s.heap.objs.size)) (c + 1) false [.ref s.heap.objs.size] rfl lt J sm (fun q hq => fpOk_upd (fr q ?_) ?_) ?_ ⟨_, (by show (h'.update S _).get? _ = _; rw [neS _ nTS]; exact hpr)⟩ ?_ ?_ ?_ hSn (sqL_same sm q1) (sqL_same sm q2) (.cons rfl .nil) rfl ?_ (fun H' s' acc' c' vs' I' S' => fin H' s' acc' c' vs' I' (sm.trans S'))
    · simp only [List.mem_cons, List.not_mem_nil, or_false] at hq ⊢
      rcases hq with h | h | h | h <;> simp [h]
    · refine Nat.ne_of_lt (lq q ?_)
      simp only [List.mem_cons, List.not_mem_nil, or_false] at hq ⊢
      rcases hq with h | h | h | h <;> simp [h]
    · show (h'.update S _).get? z = _
      rw [neS z nS.1.symm]; exact hz'
    · show (h'.update S _).get? TI = _
      rw [neS TI nS.2.1.symm]; exact old TI _ D.TIz D.TITO D.TIi1 D.TIi2 hTI
    · exact g1'.at fun o e => by rw [← e]; exact neS i1 nS.2.2.2.1.symm
    · exact g2'.at fun o e => by rw [← e]; exact neS i2 nS.2.2.2.2.symm
    · exact ZipAt.snoc (vs := []) (fun j v e => by simp at e) e1 e2 hn upd_same
  · have e0 : xs = [] := List.eq_nil_of_length_eq_zero (by omega)
    refine wpAny_pyNext_zip_end hh D hz hTI hTO g1 g2 p1.isList p2.isList (.inl (by rw [show its = [] from List.eq_nil_of_length_eq_zero (by omega)]; rfl)) fun h' old => ?_
    refine wpAny_pure ?_
    refine fin H _ #[] c [] (I.turnedL (t' := s.toks) (ch := [z, TO, i1, i2]) (fun q o hq e => ?_) (fun q hq => fr q ?_)) (Same.refl _) (old S _ nS.1 nS.2.2.1 nS.2.2.2.1 nS.2.2.2.2 hS) .nil (by rw [e0]) (fun j v e => by simp at e)
    · simp only [List.mem_cons, List.not_mem_nil, or_false, not_or] at hq
      exact old q o hq.1 hq.2.1 hq.2.2.1 hq.2.2.2 e
    · simp only [List.mem_cons, List.not_mem_nil, or_false] at hq ⊢
      rcases hq with h | h | h | h <;> simp [h]
end Bs

set_option Elab.async false
set_option linter.all false
set_option maxRecDepth 100000
set_option maxHeartbeats 4000000
namespace Bs
open PySem PySem.Spec PyProof.Rows L2
theorem nolen_zip : typeLookup (Value.type "zip") (Str.ofString "__len__") = pure none := by
  rw [typeLookup_type, builtinLookup_eq_fast]; rfl
theorem nohint_zip : typeLookup (Value.type "zip") (Str.ofString "__length_hint__") = pure none := by
  rw [typeLookup_type, builtinLookup_eq_fast]; rfl
theorem collect_zip {X : Cx} {pins : List (Addr × Obj)} {σ : L2.St} {z TI TO i1 i2 a b : Addr} {A : Around} {E : Value → Shared → Prop} {Q : List Value → Shared → Prop} (hh : A.in1.handled = none) (D : ZipApart z TI TO i1 i2 a b)
    {xs ys : List V} (hl : xs.length = ys.length) (h100 : xs.length ≤ 1000) {s : Shared} {H : Hp} {u0 u1 : Value} (I : L2.Inv X pins σ H s) (fr : ∀ q ∈ [z, TO, i1, i2], FpOk X pins H q) (hz : IsZip s.heap z TI TO .none) (hTI : IsPair s.heap TI (.ref i1) (.ref i2)) (hTO : IsPair s.heap TO u0 u1)
    (g1 : s.heap.IsListIter i1 a 0) (g2 : s.heap.IsListIter i2 b 0) (q1 : SqL X.K H a xs) (q2 : SqL X.K H b ys)
    (fin : ∀ (H' : Hp) (s' : Shared) (us : List Value) (vs' : List V), L2.Inv X pins σ H' s' → Same H H' → Vals vs' us → vs'.length = xs.length → ZipAt H H' xs ys vs' → Q us s') :
    wpAny (model X.prog X.w) A (collect (.ref z)) Q E s := by
  have ltz : z < s.heap.objs.size := Heap.lt_size hz
  have ltI : TI < s.heap.objs.size := Heap.lt_size hTI
  have ltO : TO < s.heap.objs.size := Heap.lt_size hTO
  have lt1 : i1 < s.heap.objs.size := by obtain ⟨o, g, _⟩ := g1; exact Heap.lt_size g
  have lt2 : i2 < s.heap.objs.size := by obtain ⟨o, g, _⟩ := g2; exact Heap.lt_size g
  have hn : H s.heap.objs.size = none := I.hok.fresh (Nat.le_refl _)
  unfold collect
  refine wpAny_bind ?_
  refine wpAny_runValue ?_
  refine codeAny_builtin F.entry_proto_collect ?_
  rw [Around.under_plainId F.plain_proto_collect]
  show wpAny _ _ (newObj (.type "list") (.seq #[]) >>= _) _ _ _
  refine wpAny_bind ?_
  refine wpAny_newObj_type ?_
  refine wpAny_pure ⟨plainId_quiet F.plain_list_iadd _, ?_⟩
  refine codeAny_builtin F.entry_list_iadd ?_
  rw [Around.under_plainId F.plain_list_iadd]
  have push : ∀ q o, s.heap.get? q = some o → (s.heap.push { cls := Value.type "list", data := Data.seq #[] }).get? q = some o := fun q o e => Heap.get?_push_of_some _ e
  have hS : (s.heap.push { cls := Value.type "list", data := Data.seq #[] }).get? s.heap.objs.size = some { cls := Value.type "list", data := Data.seq #[] } := Heap.get?_push_size s.heap rfl
  have hz1 := push _ _ hz
  have hT : Shared.TypeIs { s with heap := s.heap.push { cls := Value.type "list", data := Data.seq #[] } } (.ref z) "zip" := ⟨_, hz1, rfl⟩
  show wpAny _ _ (typeOf (.ref z) >>= _) _ _ _
  refine wpAny_bind ?_
  refine wpAny_typeOf hT ?_
  have ne : (s.heap.objs.size == z) = false := by simpa using Nat.ne_of_gt ltz
  have cnd : (Builtin.List.listSameRef (.ref s.heap.objs.size) (.ref z) || Value.type "zip" == Value.type "list" || Value.type "zip" == Value.type "tuple") = false := by
    show ((s.heap.objs.size == z) || Value.type "zip" == Value.type "list" || Value.type "zip" == Value.type "tuple") = false
    rw [ne]
    decide
  rw [cnd]
  refine wpAny_ite_false rfl ?_
  refine wpAny_bind ?_
  refine wpAny_pyIter_zip hz1 ?_
  refine wpAny_bind ?_
  refine wpAny_holding ?_
  show wpAny _ _ (specialOf (.ref z) _ >>= _) _ _ _
  refine wpAny_bind ?_
  refine wpAny_specialOf hT nolen_zip ?_
  show wpAny _ _ (specialOf (.ref z) _ >>= _) _ _ _
  refine wpAny_bind ?_
  refine wpAny_specialOf hT nohint_zip ?_
  refine wpAny_pure ?_
  show wpAny _ _ (rule _ >>= _) _ _ _
  refine wpAny_bind ?_
  refine wpAny_rule ?_
  refine wpAny_bind ?_
  show wpAny _ _ (updateSeq s.heap.objs.size (fun w => w.push .none) >>= fun _ => updateSeq s.heap.objs.size fun w => w.pop) _ _ _
  refine wpAny_bind ?_
  refine wpAny_updateSeq (xs := #[]) (n := 0) hS rfl ?_ (le_line (by simp)) (by simp)
  have hS2 : ((s.heap.push { cls := Value.type "list", data := Data.seq #[] }).update s.heap.objs.size (Obj.mapSeq fun w => w.push .none)).get? s.heap.objs.size = some { cls := Value.type "list", data := Data.seq #[Value.none] 1 } := by
    rw [Heap.get?_update_self _ hS rfl]
    rfl
  refine wpAny_updateSeq (xs := #[Value.none]) (n := 1) hS2 rfl ?_ (le_line (by simp)) (by simp)
  have hS3 : (((s.heap.push { cls := Value.type "list", data := Data.seq #[] }).update s.heap.objs.size (Obj.mapSeq fun w => w.push .none)).update s.heap.objs.size (Obj.mapSeq fun w => w.pop)).get? s.heap.objs.size = some { cls := Value.type "list", data := Data.seq #[] 2 } := by
    rw [Heap.get?_update_self _ hS2 rfl]
    rfl
  have old : ∀ q o, s.heap.get? q = some o → (((s.heap.push { cls := Value.type "list", data := Data.seq #[] }).update s.heap.objs.size (Obj.mapSeq fun w => w.push .none)).update s.heap.objs.size (Obj.mapSeq fun w => w.pop)).get? q = some o := fun q o e => by
    have n : q ≠ s.heap.objs.size := Nat.ne_of_lt (Heap.lt_size e)
    rw [Heap.get?_update_ne _ _ _ _ n, Heap.get?_update_ne _ _ _ _ n]
    exact push q o e
  refine wpAny_pure ⟨plainId_quiet F.plain_extend_loop _, ?_⟩
  generalize ((s.heap.push { cls := Value.type "list", data := Data.seq #[] }).update s.heap.objs.size (Obj.mapSeq fun w => w.push .none)).update s.heap.objs.size (Obj.mapSeq fun w => w.pop) = h3 at hS3 old ⊢
  have J : L2.Inv X pins σ H { s with heap := h3 } := I.kept (t' := s.toks) old
  refine zl_all hh D (S := s.heap.objs.size) ⟨Nat.ne_of_gt ltz, Nat.ne_of_gt ltI, Nat.ne_of_gt ltO, Nat.ne_of_gt lt1, Nat.ne_of_gt lt2⟩ hl h100 J (fun q hq => ?_) (old _ _ hz) (old _ _ hTI) (old _ _ hTO) (g1.at fun o e => old _ _ e) (g2.at fun o e => old _ _ e) hS3 q1 q2 fun H' s' acc' c' vs' I' S' hS' hv hvl hp => ?_
  · simp only [List.mem_cons, List.not_mem_nil, or_false] at hq
    rcases hq with h | h | h | h | h
    · exact fr q (by simp [h])
    · exact fr q (by simp [h])
    · exact fr q (by simp [h])
    · exact fr q (by simp [h])
    · rw [h]; exact I.fpOk (Nat.le_refl _) hn
  · show wpAny _ _ (load s.heap.objs.size >>= _) _ _ _
    refine wpAny_bind ?_
    refine wpAny_load hS' ?_
    refine wpAny_pure ?_
    exact fin H' s' acc'.toList vs' I' S' hv hvl hp
end Bs

set_option Elab.async false
set_option linter.all false
set_option maxRecDepth 100000
set_option maxHeartbeats 4000000
namespace Bs
open PySem PySem.Spec PyProof.Rows L2
theorem code_tuple_zip {X : Cx} {pins : List (Addr × Obj)} {σ : L2.St} {z TI TO i1 i2 a b : Addr} {A : Around} {E : Value → Shared → Prop} {Q : Value → Shared → Prop} (hh : A.handled = none) (D : ZipApart z TI TO i1 i2 a b)
    {xs ys : List V} (hl : xs.length = ys.length) (h100 : xs.length ≤ 1000) {s : Shared} {H : Hp} {u0 u1 : Value} (I : L2.Inv X pins σ H s) (fr : ∀ q ∈ [z, TO, i1, i2], FpOk X pins H q) (hz : IsZip s.heap z TI TO .none) (hTI : IsPair s.heap TI (.ref i1) (.ref i2)) (hTO : IsPair s.heap TO u0 u1)
    (g1 : s.heap.IsListIter i1 a 0) (g2 : s.heap.IsListIter i2 b 0) (q1 : SqL X.K H a xs) (q2 : SqL X.K H b ys)
    (fin : ∀ (H' : Hp) (s' : Shared) (us : List Value) (vs' : List V), L2.Inv X pins σ H' s' → Same H H' → Vals vs' us → vs'.length = xs.length → ZipAt H H' xs ys vs' →
      Q (.ref s'.heap.objs.size) { s' with heap := s'.heap.push { cls := Value.type "tuple", data := Data.seq us.toArray } }) :
    codeAny (model X.prog X.w) A (Code.call (.builtin "tuple.__new__") { pos := [.type "tuple", .ref z] }) (wants Q E) s := by
  refine codeAny_of_tree ?_
  refine wpAny_bind ?_
  refine wpAny_of_eq (F.newCall_tuple_1 (.ref z)) ?_
  refine wpAny_pure ⟨plainId_quiet F.plain_tuple_new _, codeAny_builtin F.entry_tuple_new ?_⟩
  rw [Around.under_plainId F.plain_tuple_new]
  have hT : Shared.TypeIs s (.ref z) "zip" := ⟨_, hz, rfl⟩
  refine wpAny_bind ?_
  change wpAny _ _ (pure true) _ _ _
  refine wpAny_pure ?_
  refine wpAny_ite_false rfl ?_
  refine wpAny_bind ?_
  refine wpAny_of_eq sub_tuple_self ?_
  refine wpAny_ite_false rfl ?_
  refine wpAny_ite_false rfl ?_
  refine wpAny_bind ?_
  refine wpAny_of_eq madeHere_tuple ?_
  refine wpAny_bind ?_
  refine wpAny_of_eq init_tuple_lookup ?_
  refine wpAny_ite_true rfl ?_
  refine wpAny_bind ?_
  unfold noKeywords
  refine wpAny_ite_true rfl ?_
  refine wpAny_pure ?_
  refine wpAny_bind ?_
  unfold checkCount
  refine wpAny_ite_false rfl ?_
  refine wpAny_ite_false rfl ?_
  refine wpAny_ite_false rfl ?_
  refine wpAny_pure ?_
  refine wpAny_ite_true rfl ?_
  refine wpAny_bind ?_
  unfold Builtin.Tuple.tupleIsExact
  refine wpAny_bind ?_
  refine wpAny_typeOf hT ?_
  refine wpAny_pure ?_
  refine wpAny_ite_false rfl ?_
  refine wpAny_bind ?_
  refine collect_zip (A := A.in1) (show A.in1.in1.handled = none from hh) D hl h100 I fr hz hTI hTO g1 g2 q1 q2 fun H' s' us vs' I' S' hv hvl hp => ?_
  refine wpAny_bind ?_
  refine wpAny_pure ?_
  refine wpAny_bind ?_
  have ul : us.toArray.size ≤ sizeLine := le_line (by have := hv.length; simp; omega)
  unfold Builtin.Tuple.tupleExact
  refine wpAny_newObj_type ?_ ul
  refine wpAny_pure ?_
  exact fin H' s' us vs' I' S' hv hvl hp
theorem call_tuple_zip {X : Cx} {pins : List (Addr × Obj)} {σ : L2.St} {z TI TO i1 i2 a b : Addr} {A : Around} {E : Value → Shared → Prop} {Q : Value → Shared → Prop} (hh : A.handled = none) (D : ZipApart z TI TO i1 i2 a b)
    {xs ys : List V} (hl : xs.length = ys.length) (h100 : xs.length ≤ 1000) {s : Shared} {H : Hp} {u0 u1 : Value} (I : L2.Inv X pins σ H s) (fr : ∀ q ∈ [z, TO, i1, i2], FpOk X pins H q) (hz : IsZip s.heap z TI TO .none) (hTI : IsPair s.heap TI (.ref i1) (.ref i2)) (hTO : IsPair s.heap TO u0 u1)
    (g1 : s.heap.IsListIter i1 a 0) (g2 : s.heap.IsListIter i2 b 0) (q1 : SqL X.K H a xs) (q2 : SqL X.K H b ys)
    (fin : ∀ (H' : Hp) (s' : Shared) (us : List Value) (vs' : List V), L2.Inv X pins σ H' s' → Same H H' → Vals vs' us → vs'.length = xs.length → ZipAt H H' xs ys vs' →
      Q (.ref s'.heap.objs.size) { s' with heap := s'.heap.push { cls := Value.type "tuple", data := Data.seq us.toArray } }) :
    wpAny (model X.prog X.w) A (call (.type "tuple") [.ref z]) Q E s :=
  callType_codes F.called_tuple (F.typeCall_tuple_1 (.ref z)) F.entry_object_init
    (code_tuple_zip (A := A.in1) (Q := fun v s' => s'.TypeIs v "tuple" ∧ Q v s') hh D hl h100 I fr hz hTI hTO g1 g2 q1 q2 fun H' s' us vs' I' S' hv hvl hp => ⟨⟨_, Heap.get?_push_size s'.heap rfl, rfl⟩, fin H' s' us vs' I' S' hv hvl hp⟩)
    fun obj s₁ h₁ => ⟨h₁.1, F.args_object_init_2 obj (.ref z), object_init_meets F.called_tuple.init.lookup F.called_tuple.made (by decide) X.prog X.w A.in1 (wants (fun r s₂ => r = .none ∧ Q obj s₂) E) s₁ ⟨h₁.1, rfl, h₁.2⟩⟩
def tTupZip (K : PySem.W.Frag) (ta : TA) : TE := fun σ H Q => ta σ H fun vs H1 => ∃ a b xs ys, vs = [V.ref a, V.ref b] ∧ SqL K H1 a xs ∧ SqL K H1 b ys ∧ xs.length = ys.length ∧ xs.length ≤ 1000 ∧ ∀ q H2 ps, Same H1 H2 → H1 q = none → H2 q = some (.tup ps) → ps.length = xs.length → ZipAt H1 H2 xs ys ps → Q (.ref q) H2
/-- tuple(zip(xs, ys)), two lists of one length -/
theorem pe_tupZip {X : Cx} {e f : Expr} {ta : TA} {p p2 pos pos2 : Pos} (hc : X.calm = true) (hg : Gl X "tuple") (hm : X.mg "tuple" = none) (hg2 : Gl X "zip") (hm2 : X.mg "zip" = none) (ha : PA X [e, f] ta)
    (h1 : starEach [e, f] X.env = (false, eval e X.env) :: starEach [f] X.env := by rfl) (h2 : (backTo pos2 (starEach [f] X.env)).any (·.1) = false := by rfl)
    (hs : starEach [.Call (.Name "zip" p2) [e, f] [] pos2] X.env = (false, eval (.Call (.Name "zip" p2) [e, f] [] pos2) X.env) :: starEach [] X.env := by rfl) :
    PE X (.Call (.Name "tuple" p) [.Call (.Name "zip" p2) [e, f] [] pos2] [] pos) (tTupZip X.K ta) := by
  constructor
  intro pins s σ H Q I h
  refine Call_ ?_
  refine ld_blt I hg hm boot_tuple ?_
  refine PyProof.Rows.callWith_type1 (args_cons (Call_ (ld_blt I hg2 hm2 PyProof.Rows.boot_zip (PyProof.Rows.callWith_type1 (thn (ha.run pos2 pins s σ H _ I h) ?_) h1 h2))) hs) hs rfl
  rintro us s1 ⟨vs, G, J, rel, a, b, xs, ys, rfl, q1, q2, hl, h100, q⟩
  cases rel with
  | cons ra rr =>
    cases rr with
    | cons rb rr =>
      cases rr
      cases ra
      cases rb
      obtain ⟨its, rl, p1, _⟩ := J.list q1
      obtain ⟨jts, rt, p2', _⟩ := J.list q2
      refine zip_begins2 (begins_list a its.toArray) (begins_list b jts.toArray) p1.isList p2'.isList fun h' hz hI hO g1 g2 hsz hk => args_nil ?_
      have J2 : L2.Inv X pins σ G { s1 with heap := h' } := J.kept (t' := s1.toks) hk
      refine call_tuple_zip (J.ok.hd hc) (PySem.W.ktu_apart s1.heap.objs.size a b p1.lt p2'.lt) hl h100 J2 (fun c hc => ?_) hz hI hO ⟨_, g1, rfl, rfl⟩ ⟨_, g2, rfl, rfl⟩ q1 q2 fun H' s' us vs' I' S' hv hvl hp => ?_
      · have le : s1.heap.objs.size ≤ c := by
          simp only [List.mem_cons, List.not_mem_nil, or_false] at hc
          rcases hc with rfl | rfl | rfl | rfl
          · exact Nat.le_add_right _ _
          · exact Nat.le_add_right _ _
          · exact Nat.le_refl _
          · exact Nat.le_add_right _ _
        exact J.fpOk le (J.hok.fresh le)
      · have hn : H' s'.heap.objs.size = none := I'.hok.fresh (Nat.le_refl _)
        have hlen : us.toArray.size ≤ sizeLine := le_line (by have := hv.length; simp; omega)
        refine ⟨V.ref s'.heap.objs.size, upd H' s'.heap.objs.size (.tup vs'), I'.laid (t' := s'.toks) (fun c o e => Heap.get?_push_of_some _ e) (Nat.le_refl _) ⟨le_line (by omega), us, hv, IsTup.new _ _⟩, rfl, ?_⟩
        exact q _ _ vs' (S'.trans (same_new hn _)) (S'.free hn) upd_same hvl (hp.same (same_new hn _))
end Bs

set_option Elab.async false
set_option linter.all false
set_option maxRecDepth 100000
set_option maxHeartbeats 4000000
namespace Bs
open PySem PySem.Spec PyProof.Rows L2
/-- xs.extend(t), t a tuple -/
theorem extend_tup (l b : Addr) (items : Array Value) (n : Nat) (items2 : Array Value) (hz : items.size + items2.size ≤ sizeLine) : Meets (Builtin.«list.extend» { pos := [.ref l, .ref b] }) fun x R s =>
    s.heap.get? l = some { cls := Value.type "list", data := Data.seq items n } ∧ IsTup s.heap b items2 ∧
      R (.ok (.ret .none)) { s with heap := s.heap.update l (Obj.mapSeq fun x => x ++ items2) } := by
  rintro prog w A R s ⟨hl, ⟨o, hb, hc, m, hd⟩, q⟩
  have hT : s.TypeIs (.ref b) "tuple" := ⟨o, hb, hc⟩
  show wpAny _ _ (Builtin.List.listExtendWith (.ref l) (.ref b) .none) _ _ _
  unfold Builtin.List.listExtendWith
  refine wpAny_bind ?_
  refine wpAny_typeOf hT ?_
  refine wpAny_ite_true (by simp) ?_
  refine wpAny_bind ?_
  refine wpAny_listItems hb hd ?_
  refine wpAny_bind ?_
  refine wpAny_listItems hl rfl ?_
  refine wpAny_ite_false (by rw [notLongL hz, Bool.and_false]; rfl) ?_
  show wpAny _ _ (updateSeq l (fun x => x ++ items2) >>= _) _ _ _
  refine wpAny_bind ?_
  refine wpAny_updateSeq (xs := items) (n := n) hl rfl ?_ (by omega) (by simp only [Array.size_append]; omega)
  exact wpAny_pure q
def rExtendT (K : PySem.W.Frag) : V → List V → Hp → VK → Prop := fun x vs H Q => ∃ l b xs zs, x = V.ref l ∧ vs = [V.ref b] ∧ H l = some (.lst xs) ∧ SqT K H b zs ∧ xs.length + zs.length ≤ sizeLine ∧ Q .non (upd H l (.lst (xs ++ zs)))
theorem mt_extendT {X : Cx} : MtM X "list.extend" (rExtendT X.K) := by
  rintro pins s σ H x vs v us Q I rx rv ⟨l, b, xs, zs, rfl, rfl, hH, hB, hz, q⟩
  cases rx
  obtain ⟨u, rfl, ru⟩ := Vals.one rv
  cases ru
  obtain ⟨z, its, n, r, hl, e⟩ := I.lstM hH
  obtain ⟨its2, r2, p2, z2⟩ := I.tuple hB
  have l2 := r2.length
  exact call_meets F.slot_list_extend ⟨_, e, rfl⟩ F.entry_list_extend (F.args_list_extend_2 (.ref l) (.ref b)) (extend_tup l b its.toArray n its2.toArray (by simp only [List.size_toArray]; omega)) ⟨e, p2, V.non, upd H l (.lst (xs ++ zs)), I.lset hH e (by simp) (r.append r2) (by rw [List.length_append]; exact hz), rfl, q⟩
end Bs

set_option Elab.async false
set_option linter.all false
set_option maxRecDepth 100000
set_option maxHeartbeats 8000000
namespace Bs
open PySem L2
abbrev sWithB : Stmt := top 8
/-! ### an item with other blocks -/
abbrev RowsM (S : Hp) : List V → List Its → Prop := Paired fun v b => ∃ q xs, v = .ref q ∧ S q = some (.tup xs) ∧ b.At false S xs
theorem RowsM.len {H : Hp} : ∀ {l : List V} {r : List Its}, RowsM H l r → l.length = r.length
  | _, _, .nil => rfl
  | _, _, .cons _ t => by simp [RowsM.len t]
theorem RowsM.same {S M : Hp} (s : Same S M) : ∀ {l : List V} {r : List Its}, RowsM S l r → RowsM M l r
  | _, _, .nil => .nil
  | _, _, .cons ⟨q, xs, e, h, g⟩ t => .cons ⟨q, xs, e, s _ _ h, g.same s⟩ (RowsM.same s t)
theorem RowsM.app {H : Hp} {v : V} {p : Its} (h : ∃ q xs, v = .ref q ∧ H q = some (.tup xs) ∧ p.At false H xs) : ∀ {l : List V} {r : List Its}, RowsM H l r → RowsM H (l ++ [v]) (r ++ [p])
  | _, _, .nil => .cons h .nil
  | _, _, .cons q t => .cons q (RowsM.app h t)
theorem rowsM_E {M : Hp} {z : Str} {ys : Its} : ∀ {bs : Blks} {l : List V}, RowsM M l (bs.list.map (·.repl z ys)) → (bs.repl z ys).AtE false M l
  | .nil, l, h => by
    simp only [Blks.list, List.map_nil] at h
    cases h
    simp only [Blks.repl, Blks.AtE]
  | .cons v b r, l, h => by
    simp only [Blks.list, List.map_cons] at h
    cases h with
    | cons a t =>
      obtain ⟨q, xs, rfl, h1, h2⟩ := a
      simp only [Blks.repl, Blks.AtE]
      exact ⟨q, xs, _, rfl, .inl h1, h2, rowsM_E t⟩
theorem rowsM_S {M : Hp} {z : Str} {ys : Its} : ∀ {bs : Blks} {l ps : List V}, RowsM M l (bs.list.map (·.repl z ys)) → ps.length = l.length → (∀ (j : Nat) (v : V), ps[j]? = some v → ∃ p x y, v = V.ref p ∧ (bs.vals.map V.int)[j]? = some x ∧ l[j]? = some y ∧ M p = some (.tup [x, y])) → (bs.repl z ys).AtS false M ps
  | .nil, l, ps, h, hl, hp => by
    simp only [Blks.list, List.map_nil] at h
    cases h
    have : ps = [] := List.eq_nil_of_length_eq_zero hl
    subst this
    simp only [Blks.repl, Blks.AtS]
  | .cons v b r, l, ps, h, hl, hp => by
    simp only [Blks.list, List.map_cons] at h
    cases h with
    | cons a t =>
      obtain ⟨q, xs, rfl, h1, h2⟩ := a
      cases ps with
      | nil => simp at hl
      | cons p0 ps =>
        obtain ⟨p, x, y, e1, e2, e3, e4⟩ := hp 0 p0 rfl
        simp only [Blks.vals, List.map_cons, List.getElem?_cons_zero, Option.some.injEq] at e2 e3
        subst e1 e2 e3
        simp only [Blks.repl, Blks.AtS]
        refine ⟨p, q, xs, ps, rfl, e4, .inl h1, h2, rowsM_S t (by simpa using hl) fun j u e => ?_⟩
        obtain ⟨p', x', y', f1, f2, f3, f4⟩ := hp (j + 1) u (by simpa using e)
        exact ⟨p', x', y', f1, by simpa [Blks.vals] using f2, by simpa using f3, f4⟩
theorem at_false {H : Hp} {q : Addr} {xs : List V} (h : RowAt true H q xs) : RowAt false H q xs := .inl (rowT h)
def spWithB : Sp := fun vs H Q _ => ∃ (v : V) (L : Addr) (y : It) (z : Str) (ys : Its) (bl : List V) (S : Hp), vs = [v, .ref L] ∧ Same S H ∧ y.At true S v ∧ y.blocks.length ≤ 8 ∧ H L = some (.lst bl) ∧ RowsM S bl (y.blocks.map (·.repl z ys)) ∧
  ∀ v' H', Same H H' → (∀ M, Same S M → (∀ b xs, H b = none → H' b = some (.tup xs) → M b = some (.tup xs)) → (y.repl z ys).At false M v') → Q v' H'
section
variable {P : Program} {w : World} {K : PySem.W.Frag} {mg : Str → Option Value} {base : Heap} {f : Addr} {fd : FuncData}
abbrev nWB : List Str := ["item", "blocks", "values", "value", "_"]
theorem scWithB : FnScope nWB ["item", "blocks"] (defScope sWithB) := ⟨rfl, rfl, rfl, by decide +kernel, rfl, by decide +kernel, by decide +kernel⟩
theorem ok_withb (F : Fun K "with_blocks" "with_blocks" sWithB f fd) (mt : mg "tuple" = none) (mz : mg "zip" = none) : FnOk P w K mg base CX0 1 f fd ["item", "blocks"] spWithB := by
  refine F.ok scWithB (fun vs H Q E h => ?_) (fun cdv A outer s H vs Q E hr h => ?_)
  · obtain ⟨v, L, y, z, ys, bl, S, rfl, _⟩ := h
    rfl
  · obtain ⟨v, L, y, z, ys, bl, S, rfl, sS, hat, hb8, hL, hrows, q⟩ := h
    obtain ⟨p, rest, rfl, hp, hlen⟩ := At_head (hat.same sS)
    have hT : SqT K H p _ := SqT.of hp
    refine ⟨_, pss_cons (ps_if (pt_cmpR op_eq (pe_ix ix_tup (pv 0) pe_int (fun _ _ => rfl)) pe_str (nomark _)) (pss_one (ps_ret (pe_op op_catT (pe_slice sl_tup (pv 0) po_none (po_some pe_int)) (pe_tup (pa_cons (pe_ix ix_list (pv 1) pe_int (fun _ _ => rfl)) pa_nil))))) pss_nil)
      (pss_cons (ps_if (pt_cmpR op_eq (pe_ix ix_tup (pv 0) pe_int (fun _ _ => rfl)) pe_str (nomark _)) (pss_one (ps_ret (pe_op op_catT (pe_slice sl_tup (pv 0) po_none (po_some pe_int)) (pe_tup (pa_cons (pe_tupleOf (by rfl) mt (pv 1)) pa_nil))))) pss_nil)
      (pss_cons (ps_if (pt_cmpR op_eq (pe_ix ix_tup (pv 0) pe_int (fun _ _ => rfl)) pe_str (nomark _))
        (pss_cons (ps_setLc (i := 2) (own := [("value", 3), ("_", 4)]) (g := gTup K 2 (gCons (gName 3) (gCons (gName 4) gNil))) (tt := tYes) rfl scWithB.nd rfl rfl (sw_true rfl rfl rfl (by decide +kernel)) (pi_tup (pe_ix ix_tup (pv 0) pe_int (fun _ _ => rfl)))
            (blkOk_by (own := [("value", 3), ("_", 4)]) (N := nWB) (sc := defScope sWithB) (by decide +kernel)) (fun _ _ _ _ _ => pg_tup rfl (pgs_cons (pg_name (i := 3) scWithB.nd rfl (Or.inl rfl)) (pgs_cons (pg_name (i := 4) scWithB.nd rfl (Or.inl rfl)) pgs_nil))) (fun _ _ _ _ _ => pts_nil) (fun _ _ _ _ _ => pv 3))
        (pss_one (ps_ret (pe_op op_catT (pe_slice sl_tup (pv 0) po_none (po_some pe_int)) (pe_tup (pa_cons (pe_tupZip rfl (by rfl) mt (by rfl) mz (pa_cons (pv 2) (pa_cons (pv 1) pa_nil))) pa_nil)))))) pss_nil)
      (pss_one (ps_ret (pv 0))))), ?_⟩
    refine ⟨_, rfl, p, _, 0, _, rfl, rfl, hT, atI_nat (j := 0) rfl, rfl, _, rfl, ?_⟩
    cases hb : y.blocky with
    | false =>
      obtain ⟨f1, f2, f3⟩ := kind_flat hb
      refine ite2 (fun z => absurd (of_decide_eq_true z) (kne f1)) (fun _ => ?_)
      refine ⟨_, rfl, p, _, 0, _, rfl, rfl, hT, atI_nat (j := 0) rfl, rfl, _, rfl, ite2 (fun z => absurd (of_decide_eq_true z) (kne f2)) (fun _ => ?_)⟩
      refine ⟨_, rfl, p, _, 0, _, rfl, rfl, hT, atI_nat (j := 0) rfl, rfl, _, rfl, ite2 (fun z => absurd (of_decide_eq_true z) (kne f3)) (fun _ => ?_)⟩
      refine ⟨_, rfl, q _ H (Same.refl H) fun M sM _ => ?_⟩
      have er : y.repl z ys = y := by cases y <;> first | (cases hb; done) | rfl
      rw [er]
      have a := hat.same sM
      cases y <;> first | (cases hb; done) | (simp only [It.At] at a ⊢; exact a)
    | true =>
      cases y with
      | rep n' amt b =>
        refine ite2 (fun _ => ?_) (fun z => (z (decide_eq_true rfl)).elim)
        simp only [It.At] at hat
        obtain ⟨p', qb, xb, ep, hp', hrow', hb'⟩ := hat
        cases ep
        simp only [It.blocks, List.map_cons, List.map_nil] at hrows
        cases hrows with
        | cons a0 t0 =>
        cases t0
        obtain ⟨q0, xs0, rfl, h0, a0⟩ := a0
        refine ⟨_, rfl, 3, rfl, p, _, rfl, SqT.of (sS _ _ hp'), by simp only [List.length_cons, List.length_nil]; decide, fun p1 hp1 => ?_⟩
        have s1 := same_new hp1 (.tup (cutV [.str "repeat", .str n', kV amt, .ref qb] none (some 3)))
        refine ⟨_, rfl, L, _, 0, _, rfl, rfl, SqL.of (s1 _ _ hL), atI_nat (j := 0) rfl, (by show 1 ≤ sizeLine; decide), fun t ht => ?_⟩
        have s2 := same_new ht (.tup [.ref q0])
        refine ⟨p1, t, [.str "repeat", .str n', kV amt], [.ref q0], rfl, rfl, SqT.of (s2 _ _ upd_same), SqT.of upd_same, by simp, by show 4 ≤ sizeLine; decide, fun z => absurd z (by simp), fun _ p3 hp3 => ?_⟩
        refine q _ _ (s1.trans (s2.trans (same_new hp3 _))) fun M sM nM => ?_
        simp only [It.repl, It.At]
        exact ⟨p3, q0, xs0, rfl, nM _ _ ((s1.trans s2).free hp3) upd_same, .inl (sM _ _ h0), a0.same sM⟩
      | eit n' bs =>
        refine ite2 (fun z => absurd (of_decide_eq_true z) (kne (by simp only [It.kind]; decide +kernel))) (fun _ => ?_)
        refine ⟨_, rfl, p, _, 0, _, rfl, rfl, hT, atI_nat (j := 0) rfl, rfl, _, rfl, ite2 (fun _ => ?_) (fun z => (z (decide_eq_true rfl)).elim)⟩
        simp only [It.At] at hat
        obtain ⟨p', qb, xb, ep, hp', hrow', hb'⟩ := hat
        cases ep
        refine ⟨_, rfl, 2, rfl, p, _, rfl, SqT.of (sS _ _ hp'), by simp only [List.length_cons, List.length_nil]; decide, fun p1 hp1 => ?_⟩
        have s1 := same_new hp1 (.tup (cutV [.str "either", .str n', .ref qb] none (some 2)))
        refine ⟨_, rfl, .inl ⟨L, bl, rfl, SqL.of (s1 _ _ hL), fun t0 ht0 => ⟨(by show 1 ≤ sizeLine; decide), fun t ht => ?_⟩⟩⟩
        have s2 := same_new ht0 (.tup bl)
        have s3 := same_new ht (.tup [.ref t0])
        refine ⟨p1, t, [.str "either", .str n'], [.ref t0], rfl, rfl, SqT.of (s3 _ _ (s2 _ _ upd_same)), SqT.of upd_same, by simp, by show 3 ≤ sizeLine; decide, fun z => absurd z (by simp), fun _ p3 hp3 => ?_⟩
        have s4 := same_new hp3 (.tup ([.str "either", .str n'] ++ [.ref t0]))
        refine q _ _ (s1.trans (s2.trans (s3.trans s4))) fun M sM nM => ?_
        simp only [It.repl, It.At]
        exact ⟨p3, t0, bl, rfl, nM _ _ ((s1.trans (s2.trans s3)).free hp3) upd_same, .inl (nM _ _ (s1.free ht0) ((s3.trans s4) _ _ upd_same)), rowsM_E (hrows.same sM)⟩
      | swi n' tag bs =>
        refine ite2 (fun z => absurd (of_decide_eq_true z) (kne (by simp only [It.kind]; decide +kernel))) (fun _ => ?_)
        refine ⟨_, rfl, p, _, 0, _, rfl, rfl, hT, atI_nat (j := 0) rfl, rfl, _, rfl, ite2 (fun z => absurd (of_decide_eq_true z) (kne (by simp only [It.kind]; decide +kernel))) (fun _ => ?_)⟩
        refine ⟨_, rfl, p, _, 0, _, rfl, rfl, hT, atI_nat (j := 0) rfl, rfl, _, rfl, ite2 (fun _ => ?_) (fun z => (z (decide_eq_true rfl)).elim)⟩
        simp only [It.At] at hat
        obtain ⟨p', qb, xb, ep, hp', hrow', hb'⟩ := hat
        cases ep
        have hq := sS _ _ (rowT hrow')
        have el := hb'.len
        have hb8 : bs.list.length ≤ 8 := hb8
        rw [listB_len] at hb8
        have hbl : bl.length = bs.len := by rw [hrows.len]; simp [It.blocks, listB_len]
        refine ⟨_, rfl, p, _, 3, _, rfl, rfl, SqT.of (sS _ _ hp'), atI_nat (j := 3) rfl, qb, rfl, ⟨_, SqT.of hq⟩, fun D hD => lc_tup (K := K) (a := qb) (xs := xb) (fun i H' => Same H H' ∧ H' D = some (.lst ((bs.vals.take i).map V.int))) ⟨same_new hD _, upd_same⟩ (fun i H' _ z => SqT.of (z.1 _ _ hq)) ?_ ?_⟩
        · rintro i v H2 hi ⟨s2, hacc⟩
          obtain ⟨c, b, pc, q9, zs, gb, rfl, hpc, hrw, hb2⟩ := AtS_item hb' hi
          refine ⟨pc, _, rfl, SqT.of ((sS.trans s2) _ _ hpc), rfl, _, _, rfl, _, _, rfl, rfl, rfl, yes_go ⟨_, rfl, _, hacc, small1000 (by rw [List.length_map, List.length_take, vals_len]; omega), same_set s2 hD, ?_⟩⟩
          rw [upd_same, take_more (vals_get gb), List.map_append]
          rfl
        rintro H2 ⟨s2, hacc⟩
        rw [el, ← vals_len, List.take_length] at hacc
        refine ⟨_, rfl, 3, rfl, p, _, rfl, SqT.of ((sS.trans s2) _ _ hp'), by simp only [List.length_cons, List.length_nil]; decide, fun p1 hp1 => ?_⟩
        have s3 := same_new hp1 (.tup (cutV [.str "switch", .str n', .str tag, .ref qb] none (some 3)))
        refine ⟨_, rfl, _, rfl, D, L, bs.vals.map V.int, bl, rfl, SqL.of (s3 _ _ hacc), SqL.of ((s2.trans s3) _ _ hL), by rw [List.length_map, vals_len, hbl], by rw [List.length_map, vals_len]; omega, fun q4 H4 ps S4 hq4 h4 pl hps => ?_⟩
        refine ⟨(by show 1 ≤ sizeLine; decide), fun t ht => ?_⟩
        have s5 := same_new ht (.tup [.ref q4])
        refine ⟨p1, t, [.str "switch", .str n', .str tag], [.ref q4], rfl, rfl, SqT.of (s5 _ _ (S4 _ _ upd_same)), SqT.of upd_same, by simp, by show 4 ≤ sizeLine; decide, fun z => absurd z (by simp), fun _ p6 hp6 => ?_⟩
        have s6 := same_new hp6 (.tup ([.str "switch", .str n', .str tag] ++ [.ref q4]))
        have s23 := s2.trans s3
        refine q _ _ (s23.trans (S4.trans (s5.trans s6))) fun M sM nM => ?_
        simp only [It.repl, It.At]
        refine ⟨p6, q4, ps, rfl, nM _ _ ((s23.trans (S4.trans s5)).free hp6) upd_same, .inl (nM _ _ (s23.free hq4) ((s5.trans s6) _ _ h4)), rowsM_S (hrows.same sM) (by rw [pl, List.length_map, vals_len, hbl]) ?_⟩
        intro j v e
        obtain ⟨pp, xx, yy, e1, e2, e3, e0, e4⟩ := hps j v e
        exact ⟨pp, xx, yy, e1, e2, e3, nM _ _ (s23.free e0) ((s5.trans s6) _ _ e4)⟩
      | _ => cases hb
end
end Bs

set_option Elab.async false
set_option linter.all false
set_option maxRecDepth 100000
set_option maxHeartbeats 8000000
namespace Bs
open PySem L2
abbrev sEdited : Stmt := top 10
/-! ### the edited items -/
/-- what G holds, and all tuples -/
def tl (G H : Hp) : Hp := fun b => match G b with
  | some o => some o
  | none => match H b with
    | some (.tup xs) => some (.tup xs)
    | _ => none
theorem tl_G {G H : Hp} : Same G (tl G H) := fun b o e => by unfold tl; rw [e]
theorem tl_tup {G H : Hp} (s : Same G H) {b : Addr} {xs : List V} (h : H b = some (.tup xs)) : tl G H b = some (.tup xs) := by
  unfold tl
  cases e : G b with
  | some o => have := s _ _ e; rw [h] at this; cases this; rfl
  | none => rw [h]
theorem tl_le {G H : Hp} (s : Same G H) : Same (tl G H) H := fun b o e => by
  unfold tl at e
  cases g : G b with
  | some u => rw [g] at e; cases e; exact s _ _ g
  | none =>
    rw [g] at e
    cases h : H b with
    | none => rw [h] at e; cases e
    | some u => rw [h] at e; cases u <;> first | (cases e; rfl) | cases e
theorem tl_kp {G H H' : Hp} (s : Same G H) (s' : Same G H') (k : ∀ b xs, H b = some (.tup xs) → H' b = some (.tup xs)) : Same (tl G H) (tl G H') := fun b o e => by
  cases g : G b with
  | some u => unfold tl at e ⊢; rw [g] at e ⊢; exact e
  | none =>
    unfold tl at e
    rw [g] at e
    cases h : H b with
    | none => rw [h] at e; cases e
    | some u =>
      rw [h] at e
      cases u with
      | tup xs => cases e; exact tl_tup s' (k _ _ h)
      | _ => cases e
theorem kp_tl {G H : Hp} (s : Same G H) : Kp true H (tl G H) := ⟨fun b xs h => tl_tup s h, fun z => by cases z⟩
mutual
theorem It.At.unfz {H : Hp} : ∀ {x : It} {v : V}, x.At true H v → x.At false H v
  | .num .., _, h => by simp only [It.At] at h ⊢; exact h
  | .byt .., _, h => by simp only [It.At] at h ⊢; exact h
  | .txt .., _, h => by simp only [It.At] at h ⊢; exact h
  | .chk .., _, h => by simp only [It.At] at h ⊢; exact h
  | .pad .., _, h => by simp only [It.At] at h ⊢; exact h
  | .rep .., _, h => by simp only [It.At] at h ⊢; obtain ⟨p, q, xs, e, h, r, b⟩ := h; exact ⟨p, q, xs, e, h, at_false r, Its.At.unfz b⟩
  | .eit .., _, h => by simp only [It.At] at h ⊢; obtain ⟨p, q, xs, e, h, r, b⟩ := h; exact ⟨p, q, xs, e, h, at_false r, Blks.AtE.unfz b⟩
  | .swi .., _, h => by simp only [It.At] at h ⊢; obtain ⟨p, q, xs, e, h, r, b⟩ := h; exact ⟨p, q, xs, e, h, at_false r, Blks.AtS.unfz b⟩
theorem Its.At.unfz {H : Hp} : ∀ {x : Its} {v : List V}, x.At true H v → x.At false H v
  | .nil, _, h => by simp only [Its.At] at h ⊢; exact h
  | .cons .., _, h => by simp only [Its.At] at h ⊢; obtain ⟨v, l', e, h, r⟩ := h; exact ⟨v, l', e, It.At.unfz h, Its.At.unfz r⟩
theorem Blks.AtE.unfz {H : Hp} : ∀ {x : Blks} {v : List V}, x.AtE true H v → x.AtE false H v
  | .nil, _, h => by simp only [Blks.AtE] at h ⊢; exact h
  | .cons .., _, h => by simp only [Blks.AtE] at h ⊢; obtain ⟨q, xs, l', e, r, h, t⟩ := h; exact ⟨q, xs, l', e, at_false r, Its.At.unfz h, Blks.AtE.unfz t⟩
theorem Blks.AtS.unfz {H : Hp} : ∀ {x : Blks} {v : List V}, x.AtS true H v → x.AtS false H v
  | .nil, _, h => by simp only [Blks.AtS] at h ⊢; exact h
  | .cons .., _, h => by simp only [Blks.AtS] at h ⊢; obtain ⟨p, q, xs, l', e, hp, r, h, t⟩ := h; exact ⟨p, q, xs, l', e, hp, at_false r, Its.At.unfz h, Blks.AtS.unfz t⟩
end
def spEdited (n : Nat) : Sp := fun vs H Q _ => ∃ (G : Hp) (a m : Addr) (x ys : Its) (xs es : List V) (z : Str) (d : Int), vs = [.ref a, .str z, .ref m] ∧ d + n = 3 ∧ x.ok d = true ∧ x.len ≤ 12 ∧ ys.len ≤ 2 ∧ Same G H ∧ H a = some (.tup xs) ∧ x.At true H xs ∧ H m = some (.tup es) ∧ ys.At false G es ∧
  ∀ r zs H', Same H H' → H' r = some (.tup zs) → (x.repl z ys).At false (tl G H') zs → Q (.ref r) H'
theorem okB_mem : ∀ {bs : Blks} {d : Int} {b : Its}, bs.ok d = true → b ∈ bs.list → b.len ≤ 12
  | .nil, _, _, _, m => by simp [Blks.list] at m
  | .cons v c r, d, b, h, m => by
    rw [Blks.ok, Bool.and_eq_true, Bool.and_eq_true] at h
    rcases List.mem_cons.mp m with e | m
    · rw [e]; exact of_decide_eq_true h.1.1
    · exact okB_mem h.2 m
theorem blocks_len {y : It} {d : Int} (ok : y.ok d = true) {b : Its} (hb : b ∈ y.blocks) : b.len ≤ 12 := by
  cases y with
  | rep n a c =>
    have : b = c := by simpa [It.blocks] using hb
    rw [It.ok, Bool.and_eq_true, Bool.and_eq_true, Bool.and_eq_true] at ok
    rw [this]; exact of_decide_eq_true ok.2.2.1
  | eit n bs => rw [It.ok, Bool.and_eq_true, Bool.and_eq_true, Bool.and_eq_true] at ok; exact okB_mem ok.2.2.2 hb
  | swi n t bs => rw [It.ok, Bool.and_eq_true, Bool.and_eq_true, Bool.and_eq_true] at ok; exact okB_mem ok.2.2.2 hb
  | _ => simp [It.blocks] at hb
section
variable {P : Program} {w : World} {K : PySem.W.Frag} {mg : Str → Option Value} {base : Heap} {f : Addr} {fd : FuncData}
abbrev nEd : List Str := ["items", "name", "made", "found", "item", "block"]
theorem scEdited : FnScope nEd ["items", "name", "made"] (defScope sEdited) := ⟨rfl, rfl, rfl, by decide +kernel, rfl, by decide +kernel, by decide +kernel⟩
theorem ok_edited {n k : Nat} (hk : 1 ≤ k) (F : Fun K "edited" "edited" sEdited f fd) (gW : Cal P w K mg base CX0 1 "with_blocks" ["item", "blocks"] spWithB) (gB : Cal P w K mg base CX0 1 "blocks_of" ["item"] spBlocks) (gS : Cal P w K mg base CX0 k "edited" ["items", "name", "made"] (spSub spEdited n)) (mt : mg "tuple" = none) :
    FnOk P w K mg base CX0 (k + 1) f fd ["items", "name", "made"] (spEdited n) := by
  refine F.ok scEdited (fun vs H Q E h => ?_) (fun cdv A outer s H vs Q E hr h => ?_)
  · obtain ⟨G, a, m, x, ys, xs, es, z, d, rfl, _⟩ := h
    rfl
  · obtain ⟨G, a, m, x, ys, xs, es, z, d, rfl, hd, ok, h12, y1, sG, ha, hat, hm, hes, q⟩ := h
    have hr1 : Room 1 _ := hr.mono hk
    refine ⟨_, pss_cons (ps_set (i := 3) scEdited.nd rfl (.inl rfl) (pe_lst pa_nil))
      (pss_cons (ps_for PassesOwn.never rfl (pi_tup (pv 0)) (pg_name (i := 4) scEdited.nd rfl (.inl rfl))
        (pss_one (ps_if (pt_cmpR op_eq (pe_ix ix_tup (pv 4) pe_int (fun _ _ => rfl)) (pv 1) (nomark _))
          (pss_one (ps_expr (pe_bm PySem.F.plainAttrs_list PySem.F.slot_list_extend PySem.F.type_list_extend mt_extendT (pv 3) (pa_cons (pv 2) pa_nil))))
          (pss_one (ps_expr (pe_bm PySem.F.plainAttrs_list PySem.F.slot_list_append PySem.F.type_list_append mt_append (pv 3) (pa_cons (pe_cal gW hr1 pass0 (pa_cons (pv 4) (pa_cons (pe_lc (own := [("block", 5)]) (g := gName 5) (tt := tYes) rfl scEdited.nd (pi_tup (pe_cal gB hr1 pass0 (pa_cons (pv 4) pa_nil)))
              (blkOk_by (own := [("block", 5)]) (N := nEd) (sc := defScope sEdited) (by decide +kernel)) (fun _ _ _ _ _ => pg_name (i := 5) scEdited.nd rfl (Or.inl rfl)) (fun _ _ _ _ _ => pts_nil) (fun _ _ _ _ _ => pe_cal gS hr pass0 (pa_cons (pv 5) (pa_cons (pv 1) (pa_cons (pv 2) pa_nil))))) pa_nil))) pa_nil)))))))
      (pss_one (ps_ret (pe_tupleOf (by rfl) mt (pv 3))))), ?_⟩
    refine ⟨(by show 0 ≤ sizeLine; decide), fun D hD => ?_⟩
    have s0 := same_new hD (.lst [])
    have el := hat.len
    refine ⟨_, rfl, a, rfl, ⟨_, SqT.of (s0 _ _ ha)⟩, for_tup (K := K) (a := a) (xs := xs) (fun i σ H' => ∃ i4 i5, σ = [some (.ref a), some (.str z), some (.ref m), some (.ref D), i4, i5] ∧ Same H H' ∧ ∃ acc, H' D = some (.lst acc) ∧ ((x.take i).repl z ys).At false (tl G H') acc)
      ⟨none, none, rfl, s0, [], upd_same, by simp [Its.take, Its.repl, Its.At]⟩ (fun i σ H' _ z => by obtain ⟨_, _, _, z, _⟩ := z; exact SqT.of (z _ _ ha)) ?_ ?_⟩
    rotate_left
    · rintro σ H2 ⟨i4, i5, rfl, s2, acc, hacc, hat2⟩
      rw [el, take_all] at hat2
      refine ⟨_, rfl, .inl ⟨D, acc, rfl, SqL.of hacc, fun p hp => ?_⟩⟩
      have s3 := same_new hp (.tup acc)
      exact q p acc _ (s2.trans s3) upd_same (hat2.same (tl_kp (sG.trans s2) (sG.trans (s2.trans s3)) fun b xs e => s3 _ _ e))
    rintro i v σ H2 hi ⟨i4, i5, rfl, s2, acc, hacc, hat2⟩
    obtain ⟨y, gy, ay⟩ := At_item (hat.same s2) hi
    have oky := get_okd ok gy
    obtain ⟨b8, bok⟩ := blocks_ok oky
    obtain ⟨p, rest, rfl, hp, hlenp⟩ := At_head ay
    have sG2 := sG.trans s2
    have hT : SqT K H2 p _ := SqT.of hp
    have al : acc.length ≤ 24 := by
      rw [hat2.len]
      have h1 := repl_len2 (z := z) y1 (x.take i)
      have h2 := take_len_le x i
      omega
    have sl : acc.length < sizeLine := small1000 (by omega)
    have tk := repl_take (z := z) (ys := ys) gy
    have kD : ∀ {H3 : Hp} (u : HO), Same H2 H3 → ∀ b xs, H2 b = some (.tup xs) → (upd H3 D u) b = some (.tup xs) := fun u s b xs e => by rw [upd_ne (ne_of e hacc (by intro z; cases z))]; exact s _ _ e
    refine ⟨_, rfl, p, _, 1, _, rfl, rfl, hT, atI_nat (j := 1) rfl, _, rfl, rfl, _, rfl, ?_⟩
    by_cases hz : y.name = z
    · rw [decide_eq_true (show V.str y.name = V.str z by rw [hz])]
      refine iteT ?_
      have eone : y.one z ys = ys := by unfold It.one; rw [if_pos hz]
      rw [eone] at tk
      refine ⟨_, rfl, .inl ⟨rfl, _, SqL.of hacc⟩, _, rfl, D, m, acc, es, rfl, rfl, hacc, SqT.of (s2 _ _ hm), le_line (by have := hes.len; omega), ?_⟩
      have S3 : Same H (upd H2 D (.lst (acc ++ es))) := same_set s2 hD
      refine ⟨_, _, rfl, S3, _, upd_same, ?_⟩
      rw [tk]
      exact app_at (hat2.same (tl_kp sG2 (sG.trans S3) (kD _ (Same.refl _)))) (hes.same tl_G)
    · rw [decide_eq_false (kne hz)]
      refine iteF ?_
      have eone : y.one z ys = .cons (y.repl z ys) .nil := by unfold It.one; rw [if_neg hz]
      rw [eone] at tk
      refine ⟨_, rfl, .inl ⟨rfl, _, SqL.of hacc⟩, _, rfl, _, rfl, .ref p, y, rfl, ay, by omega, fun r1 zs1 H3 s3 hr1' hrows1 => ?_⟩
      have sG3 := sG2.trans s3
      have hacc3 := s3 _ _ hacc
      refine ⟨r1, rfl, ⟨_, SqT.of hr1'⟩, fun D2 hD2 => lc_tup (K := K) (a := r1) (xs := zs1) (fun j H' => Same H3 H' ∧ ∃ ac, H' D2 = some (.lst ac) ∧ RowsM (tl G H') ac ((y.blocks.take j).map (·.repl z ys))) ⟨same_new hD2 _, [], upd_same, .nil⟩ (fun j H' _ z => SqT.of (z.1 _ _ hr1')) ?_ ?_⟩
      · rintro j u H4 hj ⟨s4, ac, hac, hrm⟩
        obtain ⟨b, q9, xb, gb, rfl, hq9, hb9⟩ := (hrows1.kp (.of s4)).get hj
        have mb := List.mem_of_getElem? gb
        obtain ⟨d2, bk⟩ := bok b mb
        have sG4 := sG3.trans s4
        cases n with
        | zero => exfalso; omega
        | succ n =>
        refine ⟨rfl, yes_go ?_⟩
        refine ⟨_, rfl, _, rfl, _, rfl, G, q9, m, b, ys, xb, es, z, d + 1, rfl, by omega, bk, blocks_len oky mb, y1, sG4, hq9, hb9, (s2.trans (s3.trans s4)) _ _ hm, hes, fun r zs H5 s5 h5 a5 => ?_⟩
        have hac5 := s5 _ _ hac
        have al2 : ac.length ≤ 8 := by rw [hrm.len, List.length_map, List.length_take]; omega
        have S6 : Same H3 (upd H5 D2 (.lst (ac ++ [.ref r]))) := same_set (s4.trans s5) hD2
        have k56 : ∀ b xs, H5 b = some (.tup xs) → (upd H5 D2 (.lst (ac ++ [.ref r]))) b = some (.tup xs) := fun b xs e => by rw [upd_ne (ne_of e hac5 (by intro z; cases z))]; exact e
        have sG6 := sG3.trans S6
        refine ⟨ac, hac5, small1000 (by omega), S6, ac ++ [.ref r], upd_same, ?_⟩
        rw [take_more gb, List.map_append]
        exact RowsM.app ⟨r, zs, rfl, tl_tup sG6 (k56 _ _ h5), a5.same (tl_kp (sG4.trans s5) sG6 k56)⟩ (hrm.same (tl_kp sG4 sG6 fun b xs e => k56 _ _ (s5 _ _ e)))
      · rintro H4 ⟨s4, ac, hac, hrm⟩
        rw [hrows1.len, List.take_length] at hrm
        have sG4 := sG3.trans s4
        refine ⟨.ref p, D2, y, z, ys, ac, tl G H4, rfl, tl_le sG4, (ay.same (s3.trans s4)).kp (kp_tl sG4), b8, hac, hrm, fun v' H7 s7 hM => ?_⟩
        have s27 := s3.trans (s4.trans s7)
        have hacc7 := s27 _ _ hacc
        refine ⟨D, acc, _, rfl, rfl, hacc7, sl, ?_⟩
        have S8 : Same H (upd H7 D (.lst (acc ++ [v']))) := same_set (s2.trans s27) hD
        have k78 : ∀ b xs, H7 b = some (.tup xs) → (upd H7 D (.lst (acc ++ [v']))) b = some (.tup xs) := fun b xs e => by rw [upd_ne (ne_of e hacc7 (by intro z; cases z))]; exact e
        have sG8 := sG.trans S8
        refine ⟨_, _, rfl, S8, _, upd_same, ?_⟩
        rw [tk]
        refine app_at (hat2.same (tl_kp sG2 sG8 fun b xs e => k78 _ _ (s27 _ _ e))) ?_
        simp only [Its.At]
        exact ⟨v', [], rfl, hM _ (tl_kp sG4 sG8 fun b xs e => k78 _ _ (s7 _ _ e)) (fun b xs _ e => tl_tup sG8 (k78 _ _ e)), rfl⟩
end
end Bs

set_option Elab.async false
set_option linter.all false
set_option maxRecDepth 100000
set_option maxHeartbeats 4000000
/-! What the later laws share: small words. -/
namespace Bm
open PySem L2
def top (i : Nat) : Stmt := PySem.Challenge.pw_byteshape_k62_features.main.body.getD i (.Pass ⟨0, 0, 0, 0⟩)
/-! ### names -/
abbrev letters : Str := "abcdefghijklmnopqrstuvwxyz"
abbrev digits : Str := "0123456789"
def isLetter (c : Nat) : Bool := decide (c ∈ letters.cps.toList)
def isDigit (c : Nat) : Bool := decide (c ∈ digits.cps.toList)
def isSign (c : Nat) : Bool := isLetter c || isDigit c
def nameOk : List Nat → Bool
  | [] => false
  | c :: r => decide (r.length < 12) && (isLetter c && (c :: r).all isSign)
def isName (z : Str) : Bool := nameOk z.cps.toList

/-! ### small words -/
theorem same_new {H : Hp} {p : Addr} (h : H p = none) (o : HO) : Same H (upd H p o) := fun b u q => by rw [upd_ne (ne_of_none q h)]; exact q
theorem same_set {H H' : Hp} {p : Addr} {o : HO} (s : Same H H') (h : H p = none) : Same H (upd H' p o) := fun b u q => by rw [upd_ne (ne_of_none q h)]; exact s b u q
theorem yes_go {te : TE} {σ : L2.St} {H : Hp} {R : V → Hp → Prop} {N : Hp → Prop} (h : te σ H R) : tYes σ H fun b H3 => if b = true then te σ H3 R else N H3 := by
  show if true = true then te σ H R else N H
  rw [if_pos rfl]
  exact h
theorem sizeLine_big : 16777216 = sizeLine := by decide
theorem le_line {n : Nat} (h : n ≤ 16777216) : n ≤ sizeLine := by rw [← sizeLine_big]; exact h
theorem lt_line {n : Nat} (h : n < 16777216) : n < sizeLine := by rw [← sizeLine_big]; exact h
theorem kne {a b : Str} (h : a ≠ b) : ¬ V.str a = V.str b := fun z => h (V.str.inj z)
theorem with_rest {t u : TS} {D : Ends} {σ : L2.St} {H : Hp} (Pv : L2.St → Hp → Prop) (h2 : ∀ σ' H', Pv σ' H' → u D σ' H') (h1 : (∀ σ' H', Pv σ' H' → u D σ' H') → tSeq t u D σ H) : tSeq t u D σ H := h1 h2
theorem nx_go {D : Ends} {σ : L2.St} {H : Hp} (h : D.nx σ H) : tNext D σ H := h
theorem g_nx {i : Nat} {v : V} {σ : L2.St} {H : Hp} {N : L2.St → Hp → Prop} (h : N (σ.set i (some v)) H) : gName i v σ H N := h
theorem seq_asg {te : TE} {g : TG} {u : TS} {D : Ends} {σ : L2.St} {H : Hp} (h : te σ H fun x H1 => g x σ H1 (u D)) : tSeq (tAsg te g) u D σ H := h
theorem slen0 (x y : Str) : (x ++ y).length = x.length + y.length := by
  show (x.cps ++ y.cps).size = _
  rw [Array.size_append]; rfl
theorem slen_tl (z : Str) : z.length = z.cps.toList.length := by simp [Str.length]
def rInt1 : List V → Hp → VK → Prop := fun xs H Q => (∃ i, xs = [.int i] ∧ Q (.int i) H) ∨ ∃ k, xs = [.bl k] ∧ Q (.int (if k then 1 else 0)) H
def spSub (sp : Nat → Sp) : Nat → Sp
  | 0 => fun _ _ _ _ => False
  | n + 1 => sp n
theorem ifT {a b : Str} {p q : Prop} (e : a = b) (h : p) : if decide (V.str a = V.str b) = true then p else q := by
  rw [if_pos (decide_eq_true (by rw [e]))]; exact h
theorem ifN {a b : Str} {p q : Prop} (e : a ≠ b) (h : q) : if decide (V.str a = V.str b) = true then p else q := by
  rw [if_neg (fun z => e (V.str.inj (of_decide_eq_true z)))]; exact h
theorem ifP {i j : Int} {p q : Prop} (e : i = j) (h : p) : if decide (V.int i = V.int j) = true then p else q := by
  rw [if_pos (decide_eq_true (by rw [e]))]; exact h
theorem ifQ {i j : Int} {p q : Prop} (e : ¬ i = j) (h : q) : if decide (V.int i = V.int j) = true then p else q := by
  rw [if_neg (fun z => e (V.int.inj (of_decide_eq_true z)))]; exact h
theorem ifB {b : Bool} {p q : Prop} (e : b = true) (h : p) : if b = true then p else q := by rw [if_pos e]; exact h
theorem ifF {b : Bool} {p q : Prop} (e : b = false) (h : q) : if b = true then p else q := by rw [e]; exact iteF h
theorem map_snoc (ns : List Int) (i : Int) : ns.map V.int ++ [V.int i] = (ns ++ [i]).map V.int := by rw [List.map_append]; rfl
theorem cutV_to (xs : List V) (j : Nat) : cutV xs none (some (j : Int)) = xs.take j := by
  unfold cutV
  rw [HT.sIx_none, HT.sIx_nat, List.drop_zero, Nat.sub_zero]
  by_cases c : j ≤ xs.length
  · rw [Nat.min_eq_left c]
  · rw [Nat.min_eq_right (by omega), List.take_length, List.take_of_length_le (by omega)]
theorem cutV_from (xs : List V) (j : Nat) : cutV xs (some (j : Int)) none = xs.drop j := by
  unfold cutV
  rw [HT.sIx_none, HT.sIx_nat]
  by_cases c : j ≤ xs.length
  · rw [Nat.min_eq_left c, List.take_of_length_le (by rw [List.length_drop]; omega)]
  · rw [Nat.min_eq_right (by omega), List.drop_length, List.take_nil, List.drop_eq_nil_of_le (by omega)]
theorem cutV_part (xs : List V) (i j : Nat) : cutV xs (some (i : Int)) (some (j : Int)) = (xs.drop i).take (j - i) := by
  unfold cutV
  rw [HT.sIx_nat, HT.sIx_nat]
  by_cases c : i ≤ xs.length
  · rw [Nat.min_eq_left c]
    by_cases d : j ≤ xs.length
    · rw [Nat.min_eq_left d]
    · rw [Nat.min_eq_right (by omega), List.take_of_length_le (by rw [List.length_drop]; omega), List.take_of_length_le (by rw [List.length_drop]; omega)]
  · rw [Nat.min_eq_right (show xs.length ≤ i by omega), List.drop_length, List.take_nil, List.drop_eq_nil_of_le (show xs.length ≤ i by omega), List.take_nil]
theorem at_mem {xs : List V} {r : Int} (h0 : 0 ≤ r) (h1 : r < (xs.length : Int)) : ∃ v, v ∈ xs ∧ atI xs r = some v := by
  obtain ⟨n, rfl⟩ := Int.eq_ofNat_of_zero_le h0
  have hn : n < xs.length := by omega
  exact ⟨xs[n], List.getElem_mem hn, atI_nat (List.getElem?_eq_getElem hn)⟩
/-- one of some ints -/
theorem at_ints {is : List Int} {r : Int} (h0 : 0 ≤ r) (h1 : r < (is.length : Int)) : ∃ i, i ∈ is ∧ atI (is.map V.int) r = some (.int i) := by
  obtain ⟨v, hv, e⟩ := at_mem (xs := is.map V.int) h0 (by rw [List.length_map]; exact h1)
  obtain ⟨i, hi, rfl⟩ := List.mem_map.mp hv
  exact ⟨i, hi, e⟩
theorem ixN_nat {n j : Nat} (h : j < n) : ixN n (j : Int) = some j := by
  unfold ixN
  rw [if_pos (by omega), if_pos (by omega)]
  simp
theorem passE0 {X : Cx} {P : Program} {w : World} : Passes (L2.CX P w) X E0 := fun _ _ _ _ _ _ _ h => by
  obtain ⟨_, _, _, _, _, _, _, _, _, _, _, _, h⟩ := h
  exact h.elim
theorem str_app (z y : Str) : (z ++ y).cps.toList = z.cps.toList ++ y.cps.toList := by
  show (z.cps ++ y.cps).toList = _
  simp
theorem cutS_to (z : Str) (p : Nat) : (cutS z none (some (p : Int))).cps.toList = z.cps.toList.take p := by
  have h : ∀ z : Str, z.length = z.cps.toList.length := fun z => by simp [Str.length]
  unfold cutS
  rw [HT.sIx_none, HT.sIx_nat, h, List.drop_zero, Nat.sub_zero]
  by_cases c : p ≤ z.cps.toList.length
  · rw [Nat.min_eq_left c]
  · rw [Nat.min_eq_right (by omega), List.take_length, List.take_of_length_le (by omega)]
theorem cutS_from (z : Str) (p : Nat) : (cutS z (some (p : Int)) none).cps.toList = z.cps.toList.drop p := by
  have h : ∀ z : Str, z.length = z.cps.toList.length := fun z => by simp [Str.length]
  unfold cutS
  rw [HT.sIx_none, HT.sIx_nat, h]
  by_cases c : p ≤ z.cps.toList.length
  · rw [Nat.min_eq_left c, List.take_of_length_le (by rw [List.length_drop]; omega)]
  · rw [Nat.min_eq_right (by omega)]
    rw [List.drop_of_length_le (by omega), List.drop_of_length_le (by omega)]
    simp
abbrev chs : Str := "abcdefghijklmnopqrstuvwxyz0123456789"
theorem chs_len : chs.cps.toList.length = 36 := by decide +kernel
theorem chs_sign : ∀ c ∈ chs.cps.toList, isSign c = true := by decide +kernel
theorem chs_letter : ∀ c ∈ chs.cps.toList.take 26, isLetter c = true := by decide +kernel
theorem chs_nodup : chs.cps.toList.Nodup := by decide +kernel
theorem ch_at (i : Int) (h0 : 0 ≤ i) (h1 : i < 36) : ∃ c, atI chs.cps.toList i = some c ∧ chs.cps.toList[i.toNat]? = some c ∧ isSign c = true ∧ (i < 26 → isLetter c = true) := by
  obtain ⟨n, rfl⟩ := Int.eq_ofNat_of_zero_le h0
  have hn : n < chs.cps.toList.length := by rw [chs_len]; omega
  have e : chs.cps.toList[n]? = some chs.cps.toList[n] := List.getElem?_eq_getElem hn
  refine ⟨chs.cps.toList[n], atI_nat e, e, chs_sign _ (List.getElem_mem hn), fun h => chs_letter _ ?_⟩
  refine List.mem_of_getElem? (i := n) ?_
  rw [List.getElem?_take, if_pos (by omega)]
  exact e
/-! ### calls in short -/
structure Cal (P : Program) (w : World) (K : PySem.W.Frag) (mg : Str → Option Value) (base : Heap) (CX : CXT) (k : Nat) (x : Str) (ps : List Str) (sp : Sp) : Prop where
  ex : ∃ (f : Addr) (fd : FuncData), mg x = some (.ref f) ∧ PySem.W.keepIn K (.ref f) = true ∧ Binds K fd ps [] ∧ FnOk P w K mg base CX k f fd ps sp
def tCl (sp : Sp) (E : XK) (t : TA) : TE := fun σ H Q => t σ H fun vs H1 => sp vs H1 Q E
theorem tCall_nil {sp : Sp} {E : XK} {t : TA} : tCall sp [] E t = tCl sp E t := by
  funext σ H Q
  show t σ H (fun vs H1 => sp (vs ++ []) H1 Q E) = _
  congr
  funext vs H1
  rw [List.append_nil]
/-- x(e, ..), x a def of the text -/
theorem pe_cal {X : Cx} {CX : CXT} {k : Nat} {x : Str} {ps : List Str} {sp : Sp} {E : XK} {e : Expr} {es : List Expr} {t : TA} {p pos : Pos} (G : Cal X.prog X.w X.K X.mg X.base CX k x ps sp) (hr : Room k X.A) (hx : Passes CX X E) (ha : PA X (e :: es) t) (hg : Gl X x := by rfl)
    (hdb : (x == ("__debug__" : Str)) = false := by decide) (he : starEach (e :: es) X.env = (false, eval e X.env) :: starEach es X.env := by rfl) (hpl : (backTo pos (starEach es X.env)).any (·.1) = false := by rfl) :
    PE X (.Call (.Name x p) (e :: es) [] pos) (tCl sp E t) := by
  obtain ⟨f, fd, h1, h2, h3, h4⟩ := G.ex
  rw [← tCall_nil]
  exact pe_call h4 hr hg h1 h2 h3 .nil hx ha hdb he hpl
/-- x in a list or a tuple -/
def RowR (K : PySem.W.Frag) (a : Addr) (R : L2.It → Hp → Prop) (H : Hp) : Prop := ((∃ xs, SqL K H a xs) ∧ R (Itl K a) H) ∨ ((∃ xs, SqT K H a xs) ∧ R (Itt K a) H)
def iRow (K : PySem.W.Frag) (tl : TE) : TI := fun σ H R => tl σ H fun x H1 => ∃ a, x = .ref a ∧ RowR K a R H1
theorem pi_row {X : Cx} {tg l : Expr} {tl : TE} (hl : PE X l tl) : PI X tg l (iRow X.K tl) := by
  refine ⟨fun pins s σ H R I h => thn (hl.run pins s σ H _ I h) fun v s1 ⟨x, H1, I1, r1, a, ex, q1⟩ => ?_⟩
  subst ex
  cases r1
  rcases q1 with ⟨⟨xs, hq⟩, q⟩ | ⟨⟨xs, hq⟩, q⟩
  · obtain ⟨its, rv, p, hz⟩ := I1.list hq
    exact wpAny_pyIter_list p.isList (pi_one (tk := s1.toks) I1 _ (turn_list a _) ⟨_, Heap.get?_push_size _ rfl, rfl, rfl⟩ q)
  · obtain ⟨its, rv, p, hz⟩ := I1.tuple hq
    exact PySem.wpAny_pyIter_tuple (show s1.heap.IsTuple a its.toArray from p) (pi_one (tk := s1.toks) I1 _ (turn_tuple a _) ⟨_, Heap.get?_push_size _ rfl, rfl, rfl⟩ q)
theorem row_t {K : PySem.W.Frag} {H : Hp} {p : Addr} {xs : List V} {R : L2.It → Hp → Prop} (hp : H p = some (.tup xs)) (h : ∀ J, Walk J xs.length (fun H' => Same H H') (YAt xs) → R J H) : RowR K p R H :=
  .inr ⟨⟨xs, SqT.of hp⟩, h _ (walk_tup.mono (fun H' s => SqT.of (s _ _ hp)) fun _ _ _ _ _ _ y => y)⟩
theorem row_l {K : PySem.W.Frag} {H : Hp} {p : Addr} {xs : List V} {R : L2.It → Hp → Prop} (hp : H p = some (.lst xs)) (h : ∀ J, Walk J xs.length (fun H' => Same H H') (YAt xs) → R J H) : RowR K p R H :=
  .inl ⟨⟨xs, SqL.of hp⟩, h _ (walk_list.mono (fun H' s => SqL.of (s _ _ hp)) fun _ _ _ _ _ _ y => y)⟩
/-- the same, what is looked at since an earlier heap -/
theorem row_t2 {K : PySem.W.Frag} {H0 H : Hp} {p : Addr} {xs : List V} {R : L2.It → Hp → Prop} (hp : H0 p = some (.tup xs)) (s0 : Same H0 H) (h : ∀ J, Walk J xs.length (fun H' => Same H0 H') (YAt xs) → R J H) : RowR K p R H :=
  .inr ⟨⟨xs, SqT.of (s0 _ _ hp)⟩, h _ (walk_tup.mono (fun H' s => SqT.of (s _ _ hp)) fun _ _ _ _ _ _ y => y)⟩
theorem row_l2 {K : PySem.W.Frag} {H0 H : Hp} {p : Addr} {xs : List V} {R : L2.It → Hp → Prop} (hp : H0 p = some (.lst xs)) (s0 : Same H0 H) (h : ∀ J, Walk J xs.length (fun H' => Same H0 H') (YAt xs) → R J H) : RowR K p R H :=
  .inl ⟨⟨xs, SqL.of (s0 _ _ hp)⟩, h _ (walk_list.mono (fun H' s => SqL.of (s _ _ hp)) fun _ _ _ _ _ _ y => y)⟩
theorem Cal.mono {P : Program} {w : World} {K : PySem.W.Frag} {mg : Str → Option Value} {base : Heap} {CX : CXT} {j k : Nat} {x : Str} {ps : List Str} {sp : Sp} (g : Cal P w K mg base CX j x ps sp) (h : j ≤ k) : Cal P w K mg base CX k x ps sp := by
  obtain ⟨f, fd, a, b, c, d⟩ := g.ex
  exact ⟨f, fd, a, b, c, d.mono h⟩
end Bm

set_option Elab.async false
set_option linter.all false
set_option maxRecDepth 100000
set_option maxHeartbeats 4000000
/-! the law's own numbers -/
namespace Bm
open PySem L2
abbrev sRow : Stmt := top 55
abbrev sNums : Stmt := top 56
/-- small numbers -/
def Nb (ns : List Int) : Prop := ∀ n ∈ ns, 0 ≤ n ∧ n < 1009
theorem Nb.nil : Nb [] := fun _ h => by cases h
theorem Nb.snoc {ns : List Int} {i : Int} (h : Nb ns) (hi : 0 ≤ i ∧ i < 1009) : Nb (ns ++ [i]) := fun n hn => (List.mem_append.mp hn).elim (h n) fun k => by rw [List.mem_singleton.mp k]; exact hi
theorem Nb.take {ns : List Int} (h : Nb ns) (k : Nat) : Nb (ns.take k) := fun n hn => h n (List.mem_of_mem_take hn)
theorem mod_nb (x : Int) : 0 ≤ x % 1009 ∧ x % 1009 < 1009 := ⟨Int.emod_nonneg x (by decide), Int.emod_lt_of_pos x (by decide)⟩
/-- ints of any size come back, so many -/
def spRow : Sp := fun vs H Q _ => ∃ c m : Int, vs = [.int c, .int m] ∧ 0 ≤ m ∧ m ≤ 900 ∧ ∀ p (ns : List Int) H', Same H H' → H p = none → H' p = some (.lst (ns.map V.int)) → ns.length = m.toNat → Nb ns → Q (.ref p) H'
def spNums (m : Nat) (K : PySem.W.Frag) : Sp := fun vs H Q _ => ∃ (a : Addr) (ns : List Int), vs = [.ref a, .int (m : Int)] ∧ m ≤ 400 ∧ SqL K H a (ns.map V.int) ∧ ns.length ≤ 63 ∧ ∀ p (rs : List Int) H', Same H H' → H' p = some (.lst (rs.map V.int)) → rs.length = m → Nb rs → Q (.ref p) H'
section
variable {P : Program} {w : World} {K : PySem.W.Frag} {mg : Str → Option Value} {base : Heap} {f C : Addr} {fd : FuncData}
abbrev nRow : List Str := ["cell", "many", "row", "rest", "mixed", "k"]
theorem scRow : FnScope nRow ["cell", "many"] (defScope sRow) := ⟨rfl, rfl, rfl, by decide +kernel, rfl, by decide +kernel, by decide +kernel⟩
theorem ok_row (F : Fun K "_law_row" "_law_row" sRow f fd) (mabs : mg "abs" = none) (mint : mg "int" = none) (mr : mg "range" = none) : FnOk P w K mg base CX0 1 f fd ["cell", "many"] spRow := by
  refine F.ok scRow (fun vs H Q E h => ?_) (fun cdv A outer s H vs Q E hr h => ?_)
  · obtain ⟨c, m, rfl, _⟩ := h
    rfl
  · obtain ⟨c, m, rfl, h0, h1, q⟩ := h
    refine ⟨_, pss_cons (ps_set (i := 2) scRow.nd rfl (.inl rfl) (pe_lst pa_nil))
      (pss_cons (ps_set (i := 3) scRow.nd rfl (.inl rfl) (pe_callB call_abs (by rfl) mabs (by decide +kernel) (pa_cons (pv 0) pa_nil)))
      (pss_cons (ps_set (i := 4) scRow.nd rfl (.inl rfl) (pe_op op_mod (pe_callTy call_int1 (by rfl) mint (by decide +kernel) (pa_cons (pe_op op_add (pe_op op_mul (pv 3) pe_int) pe_int) pa_nil)) pe_int))
      (pss_cons (ps_for PassesOwn.never rfl (pi_range1 (by rfl) mr (pa_cons (pv 1) pa_nil)) (pg_name (i := 5) scRow.nd rfl (.inl rfl))
        (pss_cons (ps_set (i := 4) scRow.nd rfl (.inl rfl) (pe_op op_mod (pe_callTy call_int1 (by rfl) mint (by decide +kernel) (pa_cons (pe_op op_add (pe_op op_mul (pv 4) pe_int) (pe_op op_mul pe_int (pe_op op_add (pv 5) pe_int))) pa_nil)) pe_int))
        (pss_one (ps_if (pt_cmpR op_ge (pe_callB call_abs (by rfl) mabs (by decide +kernel) (pa_cons (pv 0) pa_nil)) (pe_op op_pow pe_int pe_int) (nomark _))
          (pss_cons (ps_expr (pe_bm PySem.F.plainAttrs_list PySem.F.slot_list_append PySem.F.type_list_append mt_append (pv 2) (pa_cons (pe_op op_mod (pe_callTy call_int1 (by rfl) mint (by decide +kernel) (pa_cons (pv 3) pa_nil)) pe_int) pa_nil)))
            (pss_one (ps_set (i := 3) scRow.nd rfl (.inl rfl) (pe_op op_fdiv (pv 3) pe_int))))
          (pss_one (ps_expr (pe_bm PySem.F.plainAttrs_list PySem.F.slot_list_append PySem.F.type_list_append mt_append (pv 2) (pa_cons (pe_op op_mod (pe_callTy call_int1 (by rfl) mint (by decide +kernel) (pa_cons (pe_op op_fdiv (pv 4) pe_int) pa_nil)) pe_int) pa_nil))))))))
      (pss_one (ps_ret (pv 2)))))), ?_⟩
    refine ⟨(by show 0 ≤ sizeLine; decide), fun D hD => ?_⟩
    refine ⟨_, rfl, _, rfl, _, rfl, _, _, rfl, rfl, .inr ⟨by decide, by decide⟩, _, _, rfl, rfl, .inl ⟨_, rfl, _, _, rfl, rfl, (by show (0 : Int) < 2147483647; decide), ?_⟩⟩
    refine ⟨_, rfl, m, rfl, by omega, by omega, for_range (lo := 0) (n := m.toNat) (fun i σ H' => ∃ rest mixed k5, σ = [some (.int c), some (.int m), some (.ref D), some (.int rest), some (.int mixed), k5] ∧ Same H H' ∧ ∃ ns : List Int, ns.length = i ∧ Nb ns ∧ H' D = some (.lst (ns.map V.int)))
      ⟨_, _, none, rfl, same_new hD _, [], rfl, Nb.nil, upd_same⟩ ?_ ?_⟩
    · rintro i σ H2 hi ⟨rest, mixed, k5, rfl, s2, ns, hn, hb, hD2⟩
      refine ⟨_, rfl, _, _, rfl, rfl, .inr ⟨by decide, by decide⟩, _, rfl, _, _, rfl, rfl, _, _, rfl, rfl, .inl ⟨by decide, by decide⟩, _, _, rfl, rfl, .inl ⟨_, rfl, _, _, rfl, rfl, (by show (0 : Int) < 2147483629; decide), ?_⟩⟩
      have hz : (ns.map V.int).length < sizeLine := small1000 (by rw [List.length_map]; omega)
      refine ⟨_, rfl, _, rfl, _, _, rfl, rfl, ⟨by decide, by decide, by decide⟩, _, _, rfl, rfl, _, rfl, ite2 (fun _ => ?_) (fun _ => ?_)⟩
      · refine ⟨_, rfl, .inl ⟨rfl, _, SqL.of hD2⟩, _, rfl, .inl ⟨_, rfl, _, _, rfl, rfl, (by show (0 : Int) < 1009; decide), D, _, _, rfl, rfl, hD2, hz, ?_⟩⟩
        rw [map_snoc]
        refine ⟨_, rfl, _, _, rfl, rfl, ⟨by decide, by decide⟩, ?_⟩
        exact ⟨_, _, _, rfl, same_set s2 hD, _, by rw [List.length_append, hn]; rfl, hb.snoc (mod_nb _), upd_same⟩
      · refine ⟨_, rfl, .inl ⟨rfl, _, SqL.of hD2⟩, _, rfl, _, _, rfl, rfl, ⟨by decide, by decide⟩, .inl ⟨_, rfl, _, _, rfl, rfl, (by show (0 : Int) < 1009; decide), D, _, _, rfl, rfl, hD2, hz, ?_⟩⟩
        rw [map_snoc]
        exact ⟨_, _, _, rfl, same_set s2 hD, _, by rw [List.length_append, hn]; rfl, hb.snoc (mod_nb _), upd_same⟩
    · rintro σ H2 ⟨rest, mixed, k5, rfl, s2, ns, hn, hb, hD2⟩
      exact ⟨_, rfl, q D ns H2 s2 hD hD2 hn hb⟩
theorem cut_ints (ns : List Int) (h : Nat) : cutV (ns.map V.int) none (some (h : Int)) = (ns.take h).map V.int := by
  unfold cutV
  rw [HT.sIx_none, HT.sIx_nat, List.drop_zero, Nat.sub_zero, List.map_take]
  by_cases hh : h ≤ (ns.map V.int).length
  · rw [Nat.min_eq_left hh]
  · rw [Nat.min_eq_right (by omega), List.take_length, List.take_of_length_le (by omega)]
abbrev nNums : List Str := ["script", "many", "cells", "each", "numbers", "cell", "number"]
theorem scNums : FnScope nNums ["script", "many"] (defScope sNums) := ⟨rfl, rfl, rfl, by decide +kernel, rfl, by decide +kernel, by decide +kernel⟩
theorem ok_nums {m k : Nat} (hk : 1 ≤ k) (F : Fun K "_law_numbers" "_law_numbers" sNums f fd) (gR : Cal P w K mg base CX0 1 "_law_row" ["cell", "many"] spRow) (mmax : mg "max" = none) (ml : mg "len" = none) : FnOk P w K mg base CX0 2 f fd ["script", "many"] (spNums m K) := by
  refine F.ok scNums (fun vs H Q E h => ?_) (fun cdv A outer s H vs Q E hr h => ?_)
  · obtain ⟨a, ns, rfl, _⟩ := h
    rfl
  · obtain ⟨a, ns, rfl, hm4, ha, hlen, q⟩ := h
    refine ⟨_, pss_cons (ps_set (i := 2) scNums.nd rfl (.inl rfl) (pe_slice sl_list (pv 0) po_none (po_some pe_int)))
      (pss_cons (ps_set (i := 3) scNums.nd rfl (.inl rfl) (pe_op op_add pe_int (pe_op op_fdiv (pv 1) (pe_callB (call_max2 rfl) (by rfl) mmax (by decide +kernel) (pa_cons pe_int (pa_cons (pe_callB call_len (by rfl) ml boot_len (pa_cons (pv 2) pa_nil)) pa_nil))))))
      (pss_cons (ps_set (i := 4) scNums.nd rfl (.inl rfl) (pe_lst pa_nil))
      (pss_cons (ps_for PassesOwn.never rfl (pi_list (pv 2)) (pg_name (i := 5) scNums.nd rfl (.inl rfl))
        (pss_one (ps_for PassesOwn.never rfl (pi_list (pe_cal gR (hr.mono (by decide)) pass0 (pa_cons (pv 5) (pa_cons (pv 3) pa_nil)))) (pg_name (i := 6) scNums.nd rfl (.inl rfl))
          (pss_one (ps_expr (pe_bm PySem.F.plainAttrs_list PySem.F.slot_list_append PySem.F.type_list_append mt_append (pv 4) (pa_cons (pv 6) pa_nil)))))))
      (pss_cons (ps_while PassesOwn.never (pt_cmpR op_lt (pe_callB call_len (by rfl) ml boot_len (pa_cons (pv 4) pa_nil)) (pv 1) (nomark _))
        (pss_one (ps_expr (pe_bm PySem.F.plainAttrs_list PySem.F.slot_list_append PySem.F.type_list_append mt_append (pv 4) (pa_cons pe_int pa_nil)))))
      (pss_one (ps_ret (pe_slice sl_list (pv 4) po_none (po_some (pv 1))))))))), ?_⟩
    refine ⟨_, rfl, 63, rfl, a, _, rfl, ha, fun pc hpc => ?_⟩
    rw [show ((63 : Int) = ((63 : Nat) : Int)) from rfl, cut_ints]
    have lc : (ns.take 63).length ≤ 63 := by rw [List.length_take]; omega
    generalize hcs : ns.take 63 = cs at lc ⊢
    have s1 := same_new hpc (.lst (cs.map V.int))
    have hc1 : upd H pc (.lst (cs.map V.int)) pc = some (.lst (cs.map V.int)) := upd_same
    generalize upd H pc _ = H1 at s1 hc1 ⊢
    refine ⟨_, rfl, _, rfl, _, _, rfl, .inl ⟨_, SqL.of hc1, rfl⟩, _, _, rfl, ?_⟩
    rw [List.length_map]
    have hmx : (1 : Int) ≤ (if (cs.length : Int) > 1 then (cs.length : Int) else 1) ∧ (if (cs.length : Int) > 1 then (cs.length : Int) else 1) ≤ 63 := by split <;> omega
    generalize hmm : (if (cs.length : Int) > 1 then (cs.length : Int) else 1) = mx at hmx
    have he : (1 : Int) ≤ 1 + (m : Int) / mx ∧ 1 + (m : Int) / mx ≤ (m : Int) + 1 := by
      have h1 : (0 : Int) ≤ (m : Int) / mx := Int.ediv_nonneg (by omega) (by omega)
      have h2 : (m : Int) / mx ≤ (m : Int) := Int.ediv_le_self _ (by omega)
      omega
    refine ⟨_, _, rfl, rfl, ⟨by omega, by omega⟩, _, _, rfl, rfl, ?_⟩
    refine ⟨(by show 0 ≤ sizeLine; decide), fun D hD => ?_⟩
    have zz : ∀ n : Nat, n ≤ 27000 → n < sizeLine := fun n h => Nat.lt_of_le_of_lt h (by decide)
    refine ⟨_, rfl, pc, rfl, ⟨_, SqL.of (same_new hD (.lst []) _ _ hc1)⟩, for_list (K := K) (a := pc) (xs := cs.map V.int) (fun i σ H' => ∃ i5 i6, σ = [some (.ref a), some (.int (m : Int)), some (.ref pc), some (.int (1 + (m : Int) / mx)), some (.ref D), i5, i6] ∧ Same H1 H' ∧ ∃ ms : List Int, ms.length ≤ i * (m + 1) ∧ Nb ms ∧ H' D = some (.lst (ms.map V.int)))
      ⟨none, none, rfl, same_new hD _, [], Nat.zero_le _, Nb.nil, upd_same⟩ (fun i σ H' _ z => by obtain ⟨_, _, _, z, _⟩ := z; exact SqL.of (z _ _ hc1)) ?_ ?_⟩
    · rintro i v σ H2 hi ⟨i5, i6, rfl, s2, ms, hm, hb, hD2⟩
      have hil : i < (cs.map V.int).length := (List.getElem?_eq_some_iff.mp hi).1
      rw [List.length_map] at hil
      have nl : i * (m + 1) ≤ 62 * 401 := Nat.mul_le_mul (by omega) (by omega)
      have nl2 : (i + 1) * (m + 1) = i * (m + 1) + (m + 1) := Nat.succ_mul _ _
      obtain ⟨z, rfl⟩ : ∃ z, v = V.int z := by
        rw [List.getElem?_map] at hi
        cases e : cs[i]? with
        | none => rw [e] at hi; cases hi
        | some z => rw [e] at hi; exact ⟨z, (Option.some.inj hi).symm⟩
      refine ⟨_, rfl, _, rfl, z, _, rfl, by omega, by omega, fun pr rs H3 s3 hnew hr3 hrl hrb => ?_⟩
      refine ⟨pr, rfl, ⟨_, SqL.of hr3⟩, for_list (K := K) (a := pr) (xs := rs.map V.int) (fun j σ H' => ∃ i6, σ = [some (.ref a), some (.int (m : Int)), some (.ref pc), some (.int (1 + (m : Int) / mx)), some (.ref D), some (.int z), i6] ∧ Same H1 H' ∧ H' pr = some (.lst (rs.map V.int)) ∧ pr ≠ D ∧ ∃ ms : List Int, ms.length ≤ i * (m + 1) + j ∧ Nb ms ∧ H' D = some (.lst (ms.map V.int)))
        ⟨_, rfl, s2.trans s3, hr3, ?_, ms, by omega, hb, s3 _ _ hD2⟩ (fun j σ H' _ z => by obtain ⟨_, _, _, z, _⟩ := z; exact SqL.of z) ?_ ?_⟩
      · exact fun z => ne_of_none hD2 hnew z.symm
      · rintro j v σ H4 hj ⟨i6, rfl, s4, hr4, ne, ms', hm', hb', hD4⟩
        have hjl : j < (rs.map V.int).length := (List.getElem?_eq_some_iff.mp hj).1
        rw [List.length_map] at hjl
        obtain ⟨y, rfl, hy⟩ : ∃ z, v = V.int z ∧ (0 ≤ z ∧ z < 1009) := by
          rw [List.getElem?_map] at hj
          cases e : rs[j]? with
          | none => rw [e] at hj; cases hj
          | some z => rw [e] at hj; exact ⟨z, (Option.some.inj hj).symm, hrb z (List.mem_of_getElem? e)⟩
        refine ⟨_, rfl, .inl ⟨rfl, _, SqL.of hD4⟩, _, rfl, D, _, _, rfl, rfl, hD4, zz _ (by rw [List.length_map]; omega), ?_⟩
        rw [map_snoc]
        exact ⟨_, rfl, same_set s4 hD, by rw [upd_ne ne]; exact hr4, ne, _, by rw [List.length_append]; simp; omega, hb'.snoc hy, upd_same⟩
      · rintro σ H4 ⟨i6, rfl, s4, hr4, ne, ms', hm', hb', hD4⟩
        rw [List.length_map] at hm'
        exact ⟨_, _, rfl, s4, ms', by omega, hb', hD4⟩
    · rintro σ H2 ⟨i5, i6, rfl, s2, ms, hm, hb, hD2⟩
      rw [List.length_map] at hm
      have nl : cs.length * (m + 1) ≤ 63 * 401 := Nat.mul_le_mul (by omega) (by omega)
      refine ⟨fun mm σ H' => σ = [some (.ref a), some (.int (m : Int)), some (.ref pc), some (.int (1 + (m : Int) / mx)), some (.ref D), i5, i6] ∧ Same H1 H' ∧ ∃ ms : List Int, ms.length ≤ 25500 ∧ mm = m - ms.length ∧ Nb ms ∧ H' D = some (.lst (ms.map V.int)), ⟨_, rfl, s2, ms, by omega, rfl, hb, hD2⟩, ?_⟩
      rintro mm σ H3 ⟨rfl, s3, ms', hm', rfl, hb', hD3⟩
      refine ⟨_, rfl, _, _, rfl, .inl ⟨_, SqL.of hD3, rfl⟩, _, rfl, _, _, rfl, rfl, _, rfl, ite2 (fun e => ?_) (fun e => ?_)⟩
      · have e := of_decide_eq_true e
        rw [List.length_map] at e
        refine ⟨_, fun σ' H' z => z, ?_⟩
        refine ⟨_, rfl, .inl ⟨rfl, _, SqL.of hD3⟩, D, _, _, rfl, rfl, hD3, zz _ (by rw [List.length_map]; omega), ?_⟩
        rw [show ms'.map V.int ++ [V.int 0] = (ms' ++ [0]).map V.int from map_snoc _ _]
        exact ⟨m - (ms' ++ [0]).length, by rw [List.length_append]; simp; omega, rfl, same_set s3 hD, _, by rw [List.length_append]; simp; omega, rfl, hb'.snoc ⟨by decide, by decide⟩, upd_same⟩
      · have e : ¬ _ := fun z => e (decide_eq_true z)
        rw [List.length_map] at e
        refine ⟨_, rfl, _, rfl, (m : Int), rfl, D, _, rfl, SqL.of hD3, fun r hr4 => ?_⟩
        rw [cut_ints]
        exact q r (ms'.take m) _ (s1.trans (s3.trans (same_new hr4 _))) upd_same (by rw [List.length_take]; omega) (hb'.take _)
end
end Bm

set_option Elab.async false
set_option linter.all false
set_option maxRecDepth 100000
set_option maxHeartbeats 8000000
/-! the names -/
namespace Bm
open PySem L2
abbrev sNames : Stmt := top 57
theorem joinL_nil : ∀ ps : List (List Nat), TL.joinL [] ps = ps.flatten
  | [] => rfl
  | [p] => by simp [TL.joinL]
  | p :: q :: r => by rw [TL.joinL, joinL_nil (q :: r)]; simp
theorem join0_tl (ys : List Str) : (Txt.join "" ys).cps.toList = (ys.map fun z => z.cps.toList).flatten := by
  rw [← joinL_nil]
  show TL.tl (Txt.join "" ys) = _
  rw [TL.join_eq, TL.tl_join, show TL.tl ("" : Str) = [] from by decide +kernel]
/-- the k-th name: c the number, own the rest or the rest less its first sign -/
structure IsNm (c : Int) (own : List Nat) (p : Nat) (k : Nat) (z : Str) : Prop where
  e : ∃ a b, z.cps.toList = a :: (own.take p ++ b :: own.drop p) ∧ chs.cps.toList[((c + 3 * (k : Int)) % 26).toNat]? = some a ∧ chs.cps.toList[((c + 5 * (k : Int)) % 36).toNat]? = some b ∧ isLetter a = true ∧ isSign b = true
def ownOf (rest : List Nat) (c : Int) (k : Nat) : List Nat := if (c / 121 + (k : Int)) % 3 = 0 then rest.drop 1 else rest
theorem nm_ok {c : Int} {own : List Nat} {p k : Nat} {z : Str} (h : IsNm c own p k z) (hl : own.length ≤ 10) (hs : own.all isSign = true) : isName z = true := by
  obtain ⟨a, b, e, _, _, ha, hb⟩ := h.e
  unfold isName
  have sa : isSign a = true := by rw [isSign, ha]; rfl
  have tl := List.take_append_drop p own
  rw [← tl, List.all_append, Bool.and_eq_true] at hs
  rw [e, nameOk, decide_eq_true (by rw [List.length_append, List.length_cons, List.length_take, List.length_drop]; omega), ha, List.all_cons, sa, List.all_append, hs.1, List.all_cons, hb, hs.2]
  rfl
theorem ch_inj (x y : Int) (m : Int) (q : Nat) (h0 : 0 < m) (h36 : m ≤ 36) (h1 : chs.cps.toList[(x % m).toNat]? = some q) (h2 : chs.cps.toList[(y % m).toNat]? = some q) : x % m = y % m := by
  have z1 := Int.emod_nonneg x (show m ≠ 0 by omega)
  have z2 := Int.emod_lt_of_pos x h0
  have z3 := Int.emod_nonneg y (show m ≠ 0 by omega)
  have z4 := Int.emod_lt_of_pos y h0
  have hlt : (x % m).toNat < chs.cps.toList.length := by rw [chs_len]; omega
  have := (List.getElem?_inj hlt chs_nodup).mp (h1.trans h2.symm)
  omega
theorem nm_ne {c : Int} {rest : List Nat} {pl i j : Nat} {z y : Str} (hi : IsNm c (ownOf rest c i) (min pl (ownOf rest c i).length) i z) (hj : IsNm c (ownOf rest c j) (min pl (ownOf rest c j).length) j y) (hij : i < j) (hj28 : j < 28) : z ≠ y := by
  intro ez
  obtain ⟨a, b, e, ha, hb, _, _⟩ := hi.e
  obtain ⟨a', b', e', ha', hb', _, _⟩ := hj.e
  rw [ez, e'] at e
  injection e with e1 e2
  have l2 := congrArg List.length e2
  simp only [List.length_append, List.length_cons, List.length_take, List.length_drop] at l2
  have m26 := ch_inj _ _ 26 a (by decide) (by decide) ha (e1 ▸ ha')
  have ji : j = i + 26 := by omega
  have eo : ownOf rest c j = ownOf rest c i := by
    unfold ownOf at l2 ⊢
    split
    · split
      · rfl
      · rename_i h1 h2
        rw [if_pos h1, if_neg h2, List.length_drop] at l2
        have : rest.length = 0 := by omega
        rw [List.length_eq_zero_iff.mp this]; rfl
    · split
      · rename_i h1 h2
        rw [if_neg h1, if_pos h2, List.length_drop] at l2
        have : rest.length = 0 := by omega
        rw [List.length_eq_zero_iff.mp this]; rfl
      · rfl
  rw [eo] at e2
  have e3 := List.append_cancel_left e2
  injection e3 with e4 _
  have m36 := ch_inj _ _ 36 b (by decide) (by decide) hb (e4 ▸ hb')
  omega
def spNames : Sp := fun vs H Q _ => ∃ (c : Int) (m : Nat), vs = [.int c, .int (m : Int)] ∧ m ≤ 28 ∧ ∀ p (zs : List Str) H', Same H H' → H p = none → H' p = some (.lst (zs.map V.str)) → zs.length = m → zs.Nodup → (∀ z ∈ zs, isName z = true ∧ 2 ≤ z.length) → (∀ (i j : Nat) (z y : Str), zs[i]? = some z → zs[j]? = some y → i < j → j < i + 26 → z.cps.toList.head? ≠ y.cps.toList.head?) → Q (.ref p) H'
section
variable {P : Program} {w : World} {K : PySem.W.Frag} {mg : Str → Option Value} {base : Heap} {f : Addr} {fd : FuncData}
abbrev nNames : List Str := ["number", "many", "letters", "size", "k", "rest", "place", "names", "own", "spot"]
theorem scNames : FnScope nNames ["number", "many"] (defScope sNames) := ⟨rfl, rfl, rfl, by decide +kernel, rfl, by decide +kernel, by decide +kernel⟩
theorem ok_names (F : Fun K "_law_names" "_law_names" sNames f fd) (ml : mg "len" = none) (mr : mg "range" = none) (mint : mg "int" = none) (mmin : mg "min" = none) : FnOk P w K mg base CX0 1 f fd ["number", "many"] spNames := by
  refine F.ok scNames (fun vs H Q E h => ?_) (fun cdv A outer s H vs Q E hr h => ?_)
  · obtain ⟨c, m, rfl, _⟩ := h
    rfl
  · obtain ⟨c, m, rfl, hm, q⟩ := h
    refine ⟨_, (pss_cons (ps_set (i := 2) scNames.nd rfl (.inr rfl) pe_str)
      (pss_cons (ps_set (i := 3) scNames.nd rfl (.inl rfl) (pe_op op_mod (pe_callTy (r := rInt1) call_int1 (by rfl) mint (by decide +kernel) (pa_cons (pv 0) pa_nil)) pe_int))
      (pss_cons (ps_set (i := 5) scNames.nd rfl (.inl rfl) (pe_join pe_str (pe_lc (own := [("k", 4)]) (g := gName 4) (tt := tYes) rfl scNames.nd (pi_range1 (by rfl) mr (pa_cons (pv 3) pa_nil)) (blkOk_by (own := [("k", 4)]) (N := nNames) (sc := defScope sNames) (by decide +kernel)) (fun _ _ _ _ _ => pg_name (i := 4) scNames.nd rfl (Or.inl rfl)) (fun _ _ _ _ _ => pts_nil) (fun _ _ _ _ _ => (pe_ix ix_str (pv 2) (pe_op op_mod (pe_callTy (r := rInt1) call_int1 (by rfl) mint (by decide +kernel) (pa_cons (pe_op op_add (pv 0) (pe_op op_mul (pe_op op_mul pe_int (pv 4)) (pv 4))) pa_nil)) pe_int) (fun _ _ => rfl))))))
      (pss_cons (ps_set (i := 6) scNames.nd rfl (.inl rfl) (pe_op op_mod (pe_callTy (r := rInt1) call_int1 (by rfl) mint (by decide +kernel) (pa_cons (pe_op op_fdiv (pv 0) pe_int) pa_nil)) (pe_op op_add (pv 3) pe_int)))
      (pss_cons (ps_set (i := 7) scNames.nd rfl (.inl rfl) (pe_lst pa_nil))
      (pss_cons (ps_for PassesOwn.never rfl (pi_range1 (by rfl) mr (pa_cons (pv 1) pa_nil)) (pg_name (i := 4) scNames.nd rfl (.inl rfl))
      (pss_cons (ps_set (i := 8) scNames.nd rfl (.inl rfl) (pv 5))
      (pss_cons (ps_if (pt_cmpR op_eq (pe_op op_mod (pe_callTy (r := rInt1) call_int1 (by rfl) mint (by decide +kernel) (pa_cons (pe_op op_add (pe_op op_fdiv (pv 0) pe_int) (pv 4)) pa_nil)) pe_int) pe_int (nomark _)) (pss_one (ps_set (i := 8) scNames.nd rfl (.inl rfl) (pe_slice sl_str (pv 5) (po_some pe_int) po_none))) pss_nil)
      (pss_cons (ps_set (i := 9) scNames.nd rfl (.inl rfl) (pe_callB (call_min2 rfl) (by rfl) mmin (by decide +kernel) (pa_cons (pv 6) (pa_cons (pe_callB call_len_str (by rfl) ml boot_len (pa_cons (pv 8) pa_nil)) pa_nil))))
      (pss_one (ps_expr (pe_bm PySem.F.plainAttrs_list PySem.F.slot_list_append PySem.F.type_list_append mt_append (pv 7) (pa_cons (pe_op op_add_str (pe_op op_add_str (pe_op op_add_str (pe_ix ix_str (pv 2) (pe_op op_mod (pe_callTy (r := rInt1) call_int1 (by rfl) mint (by decide +kernel) (pa_cons (pe_op op_add (pv 0) (pe_op op_mul pe_int (pv 4))) pa_nil)) pe_int) (fun _ _ => rfl)) (pe_slice sl_str (pv 8) po_none (po_some (pv 9)))) (pe_ix ix_str (pv 2) (pe_op op_mod (pe_callTy (r := rInt1) call_int1 (by rfl) mint (by decide +kernel) (pa_cons (pe_op op_add (pv 0) (pe_op op_mul pe_int (pv 4))) pa_nil)) pe_int) (fun _ _ => rfl))) (pe_slice sl_str (pv 8) (po_some (pv 9)) po_none)) pa_nil))))))))
      (pss_one (ps_ret (pv 7))))))))), ?_⟩
    have zz : ∀ n : Nat, n ≤ 2000 → n ≤ sizeLine := fun n h => Nat.le_trans h (by decide)
    obtain ⟨sz, hsz⟩ := Int.eq_ofNat_of_zero_le (Int.emod_nonneg c (show (11 : Int) ≠ 0 by decide))
    have hsz1 : sz ≤ 10 := by have := Int.emod_lt_of_pos c (show (0 : Int) < 11 by decide); omega
    refine ⟨_, rfl, .inl ⟨_, rfl, _, _, rfl, rfl, (by show (0 : Int) < 11; decide), ?_⟩⟩
    dsimp only
    rw [hsz]
    refine seq_asg ?_
    refine ⟨⟨_, rfl⟩, _, rfl, (sz : Int), rfl, by omega, by omega, fun L hL => lc_range (lo := 0) (n := sz) (fun i H1 => ∃ ys : List Str, H1 L = some (.lst (ys.map V.str)) ∧ Same H H1 ∧ ys.length = i ∧ ∀ y ∈ ys, ∃ ch, y.cps.toList = [ch] ∧ isSign ch = true)
      ⟨[], upd_same, same_new hL _, rfl, fun y hy => by cases hy⟩ ?_ ?_⟩
    · rintro i H1 hi ⟨ys, hys, s1, hyl, hya⟩
      obtain ⟨ch, hc, _, sc, _⟩ := ch_at ((c + 7 * (0 + (i : Int)) * (0 + (i : Int))) % 36) (Int.emod_nonneg _ (by decide)) (Int.emod_lt_of_pos _ (by decide))
      refine ⟨rfl, yes_go ?_⟩
      refine ⟨_, rfl, _, rfl, _, rfl, _, _, rfl, rfl, .inl ⟨by decide, by decide⟩, _, rfl, _, _, rfl, rfl, .inr ⟨by omega, by omega⟩, _, _, rfl, rfl, .inl ⟨_, rfl, _, _, rfl, rfl, (by show (0 : Int) < 36; decide), _, _, ch, rfl, rfl, by decide +kernel, hc, ?_⟩⟩
      refine ⟨_, hys, small1000 (by rw [List.length_map]; omega), ys ++ [⟨#[ch]⟩], by rw [upd_same, List.map_append]; rfl, same_set s1 hL, by rw [List.length_append, hyl]; rfl, fun y hy => ?_⟩
      rcases List.mem_append.mp hy with hy | hy
      · exact hya y hy
      · rw [List.mem_singleton.mp hy]; exact ⟨ch, rfl, sc⟩
    rintro H1 ⟨ys, hys, s1, hyl, hya⟩
    have one : ∀ (l : List Str), (∀ y ∈ l, ∃ ch, y.cps.toList = [ch] ∧ isSign ch = true) → ((l.map fun z => z.cps.toList).flatten).length = l.length ∧ ((l.map fun z => z.cps.toList).flatten).all isSign = true ∧ (l.map (·.length)).sum = l.length := fun l => by
      induction l with
      | nil => exact fun _ => ⟨rfl, rfl, rfl⟩
      | cons y r ih =>
        intro hl
        obtain ⟨h1, h2, h3⟩ := ih fun z hz => hl z (List.mem_cons_of_mem _ hz)
        obtain ⟨ch, e, sc⟩ := hl y (List.mem_cons_self ..)
        have ly : y.length = 1 := by rw [slen_tl, e]; rfl
        refine ⟨by simp only [List.map_cons, List.flatten_cons, List.length_append, e, h1, List.length_cons, List.length_nil]; omega, by simp only [List.map_cons, List.flatten_cons, List.all_append, e, h2, List.all_cons, sc, List.all_nil]; rfl, by simp only [List.map_cons, List.sum_cons, h3, List.length_cons, ly]; omega⟩
    obtain ⟨o1, o2, o3⟩ := one ys hya
    refine ⟨_, L, ys, rfl, rfl, .inl (SqL.of hys), ?_, ?_⟩
    · rw [o3, show ("" : Str).length = 0 from by decide +kernel]; omega
    rw [← join0_tl] at o1 o2
    generalize Txt.join "" ys = rest at o1 o2 ⊢
    have rl : rest.length = sz := by rw [slen_tl, o1, hyl]
    clear one hya hys o3 hL
    -- place
    refine ⟨_, rfl, _, _, rfl, rfl, ⟨by decide, by decide⟩, .inl ⟨_, rfl, _, rfl, _, _, rfl, rfl, _, _, rfl, rfl, (by show (0 : Int) < (sz : Int) + 1; omega), ?_⟩⟩
    obtain ⟨pl, hpl⟩ := Int.eq_ofNat_of_zero_le (Int.emod_nonneg (c / 11) (show (sz : Int) + 1 ≠ 0 by omega))
    dsimp only
    rw [hpl]
    refine seq_asg ?_
    refine ⟨(by show 0 ≤ sizeLine; decide), fun D hD => ?_⟩
    refine ⟨_, rfl, (m : Int), rfl, by omega, by omega, for_range (lo := 0) (n := m) (fun i σ H' => ∃ k4 own8 spot9, σ = [some (.int c), some (.int (m : Int)), some (.str chs), some (.int (sz : Int)), k4, some (.str rest), some (.int (pl : Int)), some (.ref D), own8, spot9] ∧ Same H1 H' ∧ ∃ zs : List Str, H' D = some (.lst (zs.map V.str)) ∧ zs.length = i ∧
      ∀ (j : Nat) (z : Str), zs[j]? = some z → IsNm c (ownOf rest.cps.toList c j) (min pl (ownOf rest.cps.toList c j).length) j z) ⟨none, none, none, rfl, same_new hD _, [], upd_same, rfl, fun j z hz => by simp at hz⟩ ?_ ?_⟩
    · rintro i σ H2 hi ⟨k4, own8, spot9, rfl, s2, zs, hzs, hzl, hza⟩
      refine ⟨_, rfl, g_nx ?_⟩
      dsimp only
      refine with_rest (fun σ Hx => ∃ own : Str, σ = [some (.int c), some (.int (m : Int)), some (.str chs), some (.int (sz : Int)), some (.int (0 + (i : Int))), some (.str rest), some (.int (pl : Int)), some (.ref D), some (.str own), spot9] ∧ Hx = H2 ∧ own.cps.toList = ownOf rest.cps.toList c i) ?_ fun go => ?_
      rotate_left
      · refine ⟨_, rfl, _, _, rfl, rfl, ⟨by decide, by decide⟩, _, rfl, _, _, rfl, rfl, .inl ⟨_, rfl, _, _, rfl, rfl, (by show (0 : Int) < 3; decide), rfl, _, rfl, ite2 (fun e => ?_) (fun e => ?_)⟩⟩
        · have e : (c / 121 + (0 + (i : Int))) % 3 = 0 := V.int.inj (of_decide_eq_true e)
          refine ⟨_, rfl, 1, rfl, rest, rfl, zz _ (by omega), ?_⟩
          refine go _ _ ⟨_, rfl, rfl, ?_⟩
          rw [show (1 : Int) = ((1 : Nat) : Int) from rfl, cutS_from, ownOf, if_pos (by omega)]
        · have e : ¬ (c / 121 + (0 + (i : Int))) % 3 = 0 := fun z => e (decide_eq_true (by show V.int ((c / 121 + (0 + (i : Int))) % 3) = _; rw [z]))
          exact go _ _ ⟨_, rfl, rfl, by rw [ownOf, if_neg (by omega)]⟩
      rintro σ Hx ⟨own, rfl, rfl, how⟩
      have ol : own.length ≤ 10 := by
        rw [slen_tl, how, ownOf]
        split
        · rw [List.length_drop, ← slen_tl]; omega
        · rw [← slen_tl]; omega
      refine ⟨_, rfl, _, rfl, own, rfl, zz _ (by omega), _, _, rfl, ?_⟩
      have esp : (if (own.length : Int) < (pl : Int) then (own.length : Int) else (pl : Int)) = ((min pl own.length : Nat) : Int) := by split <;> omega
      rw [esp]
      generalize hsp : min pl own.length = sp
      obtain ⟨a, ha, ha2, sa, la0⟩ := ch_at ((c + 3 * (0 + (i : Int))) % 26) (Int.emod_nonneg _ (by decide)) (by have := Int.emod_lt_of_pos (c + 3 * (0 + (i : Int))) (show (0 : Int) < 26 by decide); omega)
      have la := la0 (Int.emod_lt_of_pos _ (by decide))
      obtain ⟨b, hb, hb2, sb, _⟩ := ch_at ((c + 5 * (0 + (i : Int))) % 36) (Int.emod_nonneg _ (by decide)) (Int.emod_lt_of_pos _ (by decide))
      have lt := cutS_to own sp
      have lf := cutS_from own sp
      have l1 : (cutS own none (some (sp : Int))).length ≤ 10 := by rw [slen_tl, lt, List.length_take, ← slen_tl]; omega
      have l2 : (cutS own (some (sp : Int)) none).length ≤ 10 := by rw [slen_tl, lf, List.length_drop, ← slen_tl]; omega
      refine ⟨_, rfl, .inl ⟨rfl, _, SqL.of hzs⟩, _, rfl, _, rfl, _, rfl, _, _, rfl, rfl, .inl ⟨by decide, by decide⟩, _, _, rfl, rfl, .inl ⟨_, rfl, _, _, rfl, rfl, (by show (0 : Int) < 26; decide), _, _, a, rfl, rfl, by decide +kernel, ha, _, rfl, _, rfl, _, rfl, own, rfl, zz _ (by omega), _, _, rfl, rfl, zz _ (by show 1 + _ ≤ 2000; omega), ?_⟩⟩
      refine ⟨_, rfl, _, rfl, _, rfl, _, _, rfl, rfl, .inl ⟨by decide, by decide⟩, _, _, rfl, rfl, .inl ⟨_, rfl, _, _, rfl, rfl, (by show (0 : Int) < 36; decide), _, _, b, rfl, rfl, by decide +kernel, hb, _, _, rfl, rfl, zz _ (by rw [slen0]; show 1 + _ + 1 ≤ 2000; omega), ?_⟩⟩
      refine ⟨_, rfl, _, rfl, _, rfl, own, rfl, zz _ (by omega), _, _, rfl, rfl, zz _ (by rw [slen0, slen0]; show 1 + _ + 1 + _ ≤ 2000; omega), ?_⟩
      refine ⟨D, _, _, rfl, rfl, hzs, small1000 (by rw [List.length_map]; omega), ?_⟩
      refine ⟨_, _, _, rfl, same_set s2 hD, zs ++ [(⟨#[a]⟩ : Str) ++ cutS own none (some (sp : Int)) ++ (⟨#[b]⟩ : Str) ++ cutS own (some (sp : Int)) none], by rw [upd_same, List.map_append]; rfl, by rw [List.length_append, hzl]; rfl, fun j z hz => ?_⟩
      by_cases hj : j < zs.length
      · rw [List.getElem?_append_left hj] at hz
        exact hza j z hz
      · rw [List.getElem?_append_right (by omega)] at hz
        have hj0 : j - zs.length = 0 := by
          apply Decidable.byContradiction
          intro k
          rw [List.getElem?_eq_none (by rw [List.length_singleton]; omega)] at hz
          cases hz
        rw [hj0] at hz
        have hz := Option.some.inj hz
        have ej : j = i := by omega
        subst ej
        rw [Int.zero_add] at ha2 hb2
        refine ⟨a, b, ?_, ha2, hb2, la, sb⟩
        rw [← how, ← slen_tl, hsp, ← hz, str_app, str_app, str_app, lt, lf]
        simp
    rintro σ H2 ⟨k4, own8, spot9, rfl, s2, zs, hzs, hzl, hza⟩
    have rest10 : ∀ k, (ownOf rest.cps.toList c k).length ≤ 10 ∧ (ownOf rest.cps.toList c k).all isSign = true := fun k => by
      unfold ownOf
      split
      · refine ⟨by rw [List.length_drop, ← slen_tl]; omega, ?_⟩
        rw [List.all_eq_true] at o2 ⊢
        exact fun x hx => o2 x (List.mem_of_mem_drop hx)
      · exact ⟨by rw [← slen_tl]; omega, o2⟩
    refine ⟨_, rfl, q D zs H2 (s1.trans s2) (s1.free hD) hzs hzl ?_ ?_ ?_⟩
    · refine List.pairwise_iff_getElem.mpr fun i j hi hj hij => ?_
      exact nm_ne (hza i _ (List.getElem?_eq_getElem hi)) (hza j _ (List.getElem?_eq_getElem hj)) hij (by omega)
    · intro z hz
      obtain ⟨j, hj, e⟩ := List.mem_iff_getElem.mp hz
      have hz := hza j z (by rw [List.getElem?_eq_getElem hj, e])
      refine ⟨nm_ok hz (rest10 j).1 (rest10 j).2, ?_⟩
      obtain ⟨a, b, e, _⟩ := hz.e
      rw [slen_tl, e]
      simp only [List.length_cons, List.length_append]
      omega
    · intro i j z y hi hj hij h26 e
      obtain ⟨a, b, ea, ha, _⟩ := (hza i z hi).e
      obtain ⟨a', b', ea', ha', _⟩ := (hza j y hj).e
      rw [ea, ea'] at e
      simp only [List.head?_cons, Option.some.injEq] at e
      subst e
      have := ch_inj _ _ 26 a (by decide) (by decide) ha ha'
      omega
end
end Bm

set_option Elab.async false
set_option linter.all false
set_option maxRecDepth 100000
set_option maxHeartbeats 4000000
/-! items of the later laws: blocks hold plain items alone -/
namespace Bm
open PySem L2
inductive Sm where
  | num (n : Str) (size : Int) (order : Str) (low high : Int)
  | byt (n : Str) (amt : Key)
  | txt (n : Str) (stop most : Int)
  | chk (n : Str) (m : Int)
  | pad (n : Str) (m b : Int)
inductive I2 where
  | sm (x : Sm)
  | rep (n : Str) (amt : Key) (b : List Sm)
  | eit (n : Str) (bs : List (List Sm))
  | swi (n t : Str) (cs : List (Int × List Sm))
def Sm.name : Sm → Str
  | .num n .. => n | .byt n .. => n | .txt n .. => n | .chk n .. => n | .pad n .. => n
def Sm.kind : Sm → Str
  | .num .. => "number" | .byt .. => "bytes" | .txt .. => "text" | .chk .. => "check" | .pad .. => "pad"
def I2.name : I2 → Str
  | .sm x => x.name | .rep n .. => n | .eit n .. => n | .swi n .. => n
def I2.kind : I2 → Str
  | .sm x => x.kind | .rep .. => "repeat" | .eit .. => "either" | .swi .. => "switch"
def Sm.more : Sm → List V
  | .num _ s o lo hi => [.int s, .str o, .int lo, .int hi]
  | .byt _ a => [kV a]
  | .txt _ s m => [.int s, .int m]
  | .chk _ m => [.int m]
  | .pad _ m b => [.int m, .int b]
def Sm.row (x : Sm) : List V := .str x.kind :: .str x.name :: x.more
def SmAt (H : Hp) (v : V) (x : Sm) : Prop := ∃ p, v = .ref p ∧ H p = some (.tup x.row)
def BkAt (H : Hp) (v : V) (b : List Sm) : Prop := ∃ p xs, v = .ref p ∧ H p = some (.tup xs) ∧ Paired (SmAt H) xs b
def CsAt (H : Hp) (v : V) (c : Int × List Sm) : Prop := ∃ r u, v = .ref r ∧ H r = some (.tup [.int c.1, u]) ∧ BkAt H u c.2
def I2At (H : Hp) (v : V) : I2 → Prop
  | .sm x => SmAt H v x
  | .rep n a b => ∃ p u, v = .ref p ∧ H p = some (.tup [.str "repeat", .str n, kV a, u]) ∧ BkAt H u b
  | .eit n bs => ∃ p q xs, v = .ref p ∧ H p = some (.tup [.str "either", .str n, .ref q]) ∧ H q = some (.tup xs) ∧ Paired (BkAt H) xs bs
  | .swi n t cs => ∃ p q xs, v = .ref p ∧ H p = some (.tup [.str "switch", .str n, .str t, .ref q]) ∧ H q = some (.tup xs) ∧ Paired (CsAt H) xs cs
abbrev ItsAt (H : Hp) : List V → List I2 → Prop := Paired (I2At H)
/-- tuples are kept -/
def Tk (H H' : Hp) : Prop := ∀ b xs, H b = some (.tup xs) → H' b = some (.tup xs)
theorem sTk {H H' : Hp} (s : Same H H') : Tk H H' := fun _ _ h => s _ _ h
theorem Tk.refl (H : Hp) : Tk H H := fun _ _ h => h
theorem Tk.trans {H H1 H2 : Hp} (a : Tk H H1) (b : Tk H1 H2) : Tk H H2 := fun _ _ h => b _ _ (a _ _ h)
theorem Tk.wr {H : Hp} {D : Addr} {xs : List V} {o : HO} (h : H D = some (.lst xs)) : Tk H (upd H D o) := fun b ys e => by
  rw [upd_ne (ne_of e h (by intro z; cases z))]; exact e
theorem row_tk {K : PySem.W.Frag} {H0 H : Hp} {p : Addr} {xs : List V} {R : L2.It → Hp → Prop} (hp : H0 p = some (.tup xs)) (s0 : Tk H0 H) (h : ∀ J, Walk J xs.length (fun H' => Tk H0 H') (YAt xs) → R J H) : RowR K p R H :=
  .inr ⟨⟨xs, SqT.of (s0 _ _ hp)⟩, h _ (walk_tup.mono (fun H' s => SqT.of (s _ _ hp)) fun _ _ _ _ _ _ y => y)⟩
theorem SmAt.tk {H H' : Hp} (s : Tk H H') {v : V} {x : Sm} (h : SmAt H v x) : SmAt H' v x := by
  obtain ⟨p, e, h⟩ := h; exact ⟨p, e, s _ _ h⟩
theorem BkAt.tk {H H' : Hp} (s : Tk H H') {v : V} {b : List Sm} (h : BkAt H v b) : BkAt H' v b := by
  obtain ⟨p, xs, e, h, q⟩ := h; exact ⟨p, xs, e, s _ _ h, L2.Paired.mapP q fun _ _ k => k.tk s⟩
theorem CsAt.tk {H H' : Hp} (s : Tk H H') {v : V} {c : Int × List Sm} (h : CsAt H v c) : CsAt H' v c := by
  obtain ⟨r, u, e, h, q⟩ := h; exact ⟨r, u, e, s _ _ h, q.tk s⟩
theorem I2At.tk {H H' : Hp} (s : Tk H H') {v : V} : ∀ {x : I2}, I2At H v x → I2At H' v x
  | .sm x, h => by simp only [I2At] at h ⊢; exact h.tk s
  | .rep n a b, h => by simp only [I2At] at h ⊢; obtain ⟨p, u, e, h, q⟩ := h; exact ⟨p, u, e, s _ _ h, q.tk s⟩
  | .eit n bs, h => by simp only [I2At] at h ⊢; obtain ⟨p, q, xs, e, h, g, k⟩ := h; exact ⟨p, q, xs, e, s _ _ h, s _ _ g, L2.Paired.mapP k fun _ _ k => k.tk s⟩
  | .swi n t cs, h => by simp only [I2At] at h ⊢; obtain ⟨p, q, xs, e, h, g, k⟩ := h; exact ⟨p, q, xs, e, s _ _ h, s _ _ g, L2.Paired.mapP k fun _ _ k => k.tk s⟩
theorem ItsAt.tk {H H' : Hp} (s : Tk H H') {l : List V} {r : List I2} (h : ItsAt H l r) : ItsAt H' l r := L2.Paired.mapP h fun _ _ k => k.tk s
theorem pget {α β : Type} {F : α → β → Prop} : ∀ {xs : List α} {ys : List β}, Paired F xs ys → ∀ {i : Nat} {x : α}, xs[i]? = some x → ∃ y, ys[i]? = some y ∧ F x y
  | _, _, .nil, i, x, h => by simp at h
  | _, _, .cons r t, 0, x, h => by simp at h; subst h; exact ⟨_, rfl, r⟩
  | _, _, .cons r t, i + 1, x, h => by
    simp at h
    obtain ⟨y, e, f⟩ := pget t h
    exact ⟨y, by simpa using e, f⟩
theorem plen {α β : Type} {F : α → β → Prop} : ∀ {xs : List α} {ys : List β}, Paired F xs ys → xs.length = ys.length
  | _, _, .nil => rfl
  | _, _, .cons _ t => by simp [plen t]
theorem papp {α β : Type} {F : α → β → Prop} : ∀ {xs xs' : List α} {ys ys' : List β}, Paired F xs ys → Paired F xs' ys' → Paired F (xs ++ xs') (ys ++ ys')
  | _, _, _, _, .nil, h => h
  | _, _, _, _, .cons r t, h => .cons r (papp t h)
theorem I2At.head {H : Hp} {v : V} : ∀ {x : I2}, I2At H v x → ∃ p rest, v = .ref p ∧ H p = some (.tup (.str x.kind :: .str x.name :: rest))
  | .sm x, h => by simp only [I2At] at h; obtain ⟨p, e, h⟩ := h; exact ⟨p, _, e, h⟩
  | .rep n a b, h => by simp only [I2At] at h; obtain ⟨p, u, e, h, q⟩ := h; exact ⟨p, _, e, h⟩
  | .eit n bs, h => by simp only [I2At] at h; obtain ⟨p, q, xs, e, h, g, k⟩ := h; exact ⟨p, _, e, h⟩
  | .swi n t cs, h => by simp only [I2At] at h; obtain ⟨p, q, xs, e, h, g, k⟩ := h; exact ⟨p, _, e, h⟩
/-! ### what is drawn -/
def hd (z : Str) : Option Nat := z.cps.toList.head?
def Sm.plain : Sm → Prop
  | .num _ s o lo hi => s = 1 ∧ o = "big" ∧ 0 ≤ lo ∧ lo ≤ hi ∧ hi ≤ 255
  | .byt _ a => a = .inl 1 ∨ a = .inl 2
  | _ => False
def amOk (most : Int) (ahead : List Str) (a : Key) : Prop := (∃ i, a = .inl i ∧ 0 ≤ i ∧ i ≤ most) ∨ ∃ z, a = .inr z ∧ z ∈ ahead
def I2.ok (ahead : List Str) : I2 → Prop
  | .sm (.num _ s o lo hi) => (o = "big" ∨ o = "little") ∧ 0 ≤ lo ∧ lo ≤ hi ∧ ((s = 1 ∧ hi ≤ 7) ∨ (s = 2 ∧ hi ≤ 65535))
  | .sm (.byt _ a) => amOk 3 ahead a
  | .sm (.txt _ s m) => (0 ≤ s ∧ s ≤ 255) ∧ 0 ≤ m ∧ m ≤ 3
  | .sm (.chk _ m) => 1 ≤ m ∧ m ≤ 5
  | .sm (.pad _ m b) => (m = 1 ∨ m = 2 ∨ m = 4) ∧ 0 ≤ b ∧ b ≤ 255
  | .rep _ a b => amOk 2 ahead a ∧ (1 ≤ b.length ∧ b.length ≤ 2) ∧ ∀ x ∈ b, x.plain
  | .eit _ bs => (2 ≤ bs.length ∧ bs.length ≤ 3) ∧ (∀ b ∈ bs, b.length ≤ 2 ∧ ∀ x ∈ b, x.plain) ∧ ∀ b ∈ bs.drop 1, 1 ≤ b.length
  | .swi _ t cs => t ∈ ahead ∧ (1 ≤ cs.length ∧ cs.length ≤ 3) ∧ (∀ c ∈ cs, (0 ≤ c.1 ∧ c.1 ≤ 6) ∧ c.2.length ≤ 2 ∧ ∀ x ∈ c.2, x.plain) ∧ (cs.map (·.1)).Nodup
def I2.tells : I2 → List Str
  | .sm (.num n s _ _ _) => if s = 1 then [n] else []
  | _ => []
def I2.names : I2 → List Str
  | .sm x => [x.name]
  | .rep n _ b => n :: b.map Sm.name
  | .eit n bs => n :: bs.flatMap fun b => b.map Sm.name
  | .swi n _ cs => n :: cs.flatMap fun c => c.2.map Sm.name
def I2.isChk : I2 → Bool
  | .sm (.chk ..) => true
  | _ => false
def OkL (ahead : List Str) : List I2 → Prop
  | [] => True
  | x :: r => x.ok ahead ∧ OkL (ahead ++ x.tells) r
structure Drawn (l : List I2) : Prop where
  n1 : 1 ≤ l.length
  n4 : l.length ≤ 4
  ok : OkL [] l
  nd : (l.flatMap I2.names).Nodup
  nm : ∀ z ∈ l.flatMap I2.names, isName z = true ∧ 2 ≤ z.length
  hds : ∀ x ∈ l, (x.names.map hd).Nodup
  top : (l.map fun x => hd x.name).Nodup
  chk : (l.filter I2.isChk).length ≤ 1
theorem OkL.snoc {x : I2} : ∀ {l : List I2} {ahead : List Str}, OkL ahead l → x.ok (ahead ++ l.flatMap I2.tells) → OkL ahead (l ++ [x])
  | [], ahead, _, h => ⟨by simpa using h, trivial⟩
  | y :: r, ahead, h, g => ⟨h.1, OkL.snoc h.2 (by simpa [List.append_assoc] using g)⟩
theorem name_in (x : I2) : x.name ∈ x.names := by cases x <;> simp [I2.name, I2.names]
end Bm

set_option Elab.async false
set_option linter.all false
set_option maxRecDepth 100000
set_option maxHeartbeats 8000000
/-! items are drawn -/
namespace Bm
open PySem L2
abbrev sSimp : Stmt := top 58
abbrev sBlk : Stmt := top 59
theorem num_at {ns : List Int} (hb : Nb ns) {i : Int} (h0 : 0 ≤ i) (h1 : i < (ns.length : Int)) : ∃ c, atI (ns.map V.int) i = some (.int c) ∧ 0 ≤ c ∧ c < 1009 := by
  obtain ⟨c, m, e⟩ := at_ints (is := ns) h0 h1
  exact ⟨c, e, hb c m⟩
theorem str_at {zs : List Str} {i : Int} (h0 : 0 ≤ i) (h1 : i < (zs.length : Int)) : ∃ z, atI (zs.map V.str) i = some (.str z) ∧ z ∈ zs := by
  obtain ⟨v, m, e⟩ := at_mem (xs := zs.map V.str) h0 (by rw [List.length_map]; exact h1)
  obtain ⟨z, hz, rfl⟩ := List.mem_map.mp m
  exact ⟨z, e, hz⟩
theorem str_get {zs : List Str} {j : Nat} {z : Str} (h : zs[j]? = some z) : atI (zs.map V.str) (j : Int) = some (.str z) := atI_nat (by rw [List.getElem?_map, h]; rfl)
def spSimp : Sp := fun vs H Q _ => ∃ (pn : Addr) (ns : List Int) (at0 : Nat) (z : Str), vs = [.ref pn, .int (at0 : Int), .str z] ∧ H pn = some (.lst (ns.map V.int)) ∧ Nb ns ∧ at0 + 2 < ns.length ∧
  ∀ (x : Sm) v' H', Same H H' → SmAt H' v' x → x.plain → x.name = z → Q v' H'
def spBlk : Sp := fun vs H Q _ => ∃ (pn pz : Addr) (ns : List Int) (zs : List Str) (at0 m : Nat), vs = [.ref pn, .int (at0 : Int), .ref pz, .int (m : Int)] ∧ H pn = some (.lst (ns.map V.int)) ∧ Nb ns ∧ at0 + 6 ≤ ns.length ∧ m ≤ 2 ∧ H pz = some (.lst (zs.map V.str)) ∧ m ≤ zs.length ∧
  ∀ (b : List Sm) v' H', Same H H' → BkAt H' v' b → b.length = m → (∀ x ∈ b, x.plain) → b.map Sm.name = zs.take m → Q v' H'
section
variable {P : Program} {w : World} {K : PySem.W.Frag} {mg : Str → Option Value} {base : Heap} {f : Addr} {fd : FuncData}
abbrev nSimp : List Str := ["numbers", "at", "name", "low"]
theorem scSimp : FnScope nSimp ["numbers", "at", "name"] (defScope sSimp) := ⟨rfl, rfl, rfl, by decide +kernel, rfl, by decide +kernel, by decide +kernel⟩
theorem ok_simp (F : Fun K "_law_simple" "_law_simple" sSimp f fd) (mint : mg "int" = none) (mmin : mg "min" = none) : FnOk P w K mg base CX0 1 f fd ["numbers", "at", "name"] spSimp := by
  refine F.ok scSimp (fun vs H Q E h => ?_) (fun cdv A outer s H vs Q E hr h => ?_)
  · obtain ⟨pn, ns, at0, z, rfl, _⟩ := h
    rfl
  · obtain ⟨pn, ns, at0, z, rfl, hn, hb, hlen, q⟩ := h
    refine ⟨_, (pss_cons (ps_if (pt_cmpR op_eq (pe_op op_mod (pe_callTy (r := rInt1) call_int1 (by rfl) mint (by decide +kernel) (pa_cons (pe_ix ix_list (pv 0) (pv 1) (fun _ _ => rfl)) pa_nil)) pe_int) pe_int (nomark _)) (pss_one (ps_ret (pe_tup (pa_cons pe_str (pa_cons (pv 2) (pa_cons (pe_op op_add pe_int (pe_op op_mod (pe_callTy (r := rInt1) call_int1 (by rfl) mint (by decide +kernel) (pa_cons (pe_ix ix_list (pv 0) (pe_op op_add (pv 1) pe_int) (fun _ _ => rfl)) pa_nil)) pe_int)) pa_nil)))))) pss_nil)
      (pss_cons (ps_set (i := 3) scSimp.nd rfl (.inl rfl) (pe_op op_mod (pe_callTy (r := rInt1) call_int1 (by rfl) mint (by decide +kernel) (pa_cons (pe_ix ix_list (pv 0) (pe_op op_add (pv 1) pe_int) (fun _ _ => rfl)) pa_nil)) pe_int))
      (pss_one (ps_ret (pe_tup (pa_cons pe_str (pa_cons (pv 2) (pa_cons pe_int (pa_cons pe_str (pa_cons (pv 3) (pa_cons (pe_callB (call_min2 rfl) (by rfl) mmin (by decide +kernel) (pa_cons pe_int (pa_cons (pe_op op_add (pv 3) (pe_op op_mod (pe_callTy (r := rInt1) call_int1 (by rfl) mint (by decide +kernel) (pa_cons (pe_ix ix_list (pv 0) (pe_op op_add (pv 1) pe_int) (fun _ _ => rfl)) pa_nil)) pe_int)) pa_nil))) pa_nil))))))))))), ?_⟩
    obtain ⟨c0, h0, _⟩ := num_at hb (i := (at0 : Int)) (by omega) (by omega)
    obtain ⟨c1, h1, _⟩ := num_at hb (i := (at0 : Int) + 1) (by omega) (by omega)
    obtain ⟨c2, h2, _⟩ := num_at hb (i := (at0 : Int) + 2) (by omega) (by omega)
    refine ⟨_, rfl, _, rfl, pn, _, _, _, rfl, rfl, SqL.of hn, h0, .inl ⟨_, rfl, _, _, rfl, rfl, (by show (0 : Int) < 3; decide), rfl, _, rfl, ite2 (fun _ => ?_) (fun _ => ?_)⟩⟩
    · refine ⟨_, rfl, _, rfl, _, rfl, _, _, rfl, rfl, pn, _, _, _, rfl, rfl, SqL.of hn, h1, .inl ⟨_, rfl, _, _, rfl, rfl, (by show (0 : Int) < 2; decide), _, _, rfl, rfl, (by show 3 ≤ sizeLine; decide), fun t ht => ?_⟩⟩
      refine q (.byt z (.inl (1 + c1 % 2))) _ _ (same_new ht _) ⟨t, rfl, upd_same⟩ ?_ rfl
      have e : c1 % 2 = 0 ∨ c1 % 2 = 1 := by omega
      rcases e with e | e
      · exact .inl (by rw [e]; rfl)
      · exact .inr (by rw [e]; rfl)
    · refine ⟨_, rfl, _, rfl, _, _, rfl, rfl, pn, _, _, _, rfl, rfl, SqL.of hn, h1, .inl ⟨_, rfl, _, _, rfl, rfl, (by show (0 : Int) < 256; decide), ?_⟩⟩
      refine ⟨_, rfl, _, rfl, _, rfl, _, rfl, _, rfl, _, _, rfl, rfl, pn, _, _, _, rfl, rfl, SqL.of hn, h2, .inl ⟨_, rfl, _, _, rfl, rfl, (by show (0 : Int) < 6; decide), _, _, rfl, rfl, _, _, rfl, (by show 6 ≤ sizeLine; decide), fun t ht => ?_⟩⟩
      refine q (.num z 1 "big" (c1 % 256) (if c1 % 256 + c2 % 6 < 255 then c1 % 256 + c2 % 6 else 255)) _ _ (same_new ht _) ⟨t, rfl, upd_same⟩ ⟨rfl, rfl, by omega, ?_, ?_⟩ rfl
      · split <;> omega
      · split <;> omega
abbrev nBlk : List Str := ["numbers", "at", "names", "many", "k"]
theorem scBlk : FnScope nBlk ["numbers", "at", "names", "many"] (defScope sBlk) := ⟨rfl, rfl, rfl, by decide +kernel, rfl, by decide +kernel, by decide +kernel⟩
theorem ok_blk (F : Fun K "_law_block" "_law_block" sBlk f fd) (gS : Cal P w K mg base CX0 1 "_law_simple" ["numbers", "at", "name"] spSimp) (mr : mg "range" = none) (mt : mg "tuple" = none) : FnOk P w K mg base CX0 2 f fd ["numbers", "at", "names", "many"] spBlk := by
  refine F.ok scBlk (fun vs H Q E h => ?_) (fun cdv A outer s H vs Q E hr h => ?_)
  · obtain ⟨pn, pz, ns, zs, at0, m, rfl, _⟩ := h
    rfl
  · obtain ⟨pn, pz, ns, zs, at0, m, rfl, hn, hb, hlen, hm, hz, hmz, q⟩ := h
    refine ⟨_, (pss_one (ps_ret (pe_tupleOf (by rfl) mt (pe_lc (own := [("k", 4)]) (g := gName 4) (tt := tYes) rfl scBlk.nd (pi_range1 (by rfl) mr (pa_cons (pv 3) pa_nil)) (blkOk_by (own := [("k", 4)]) (N := nBlk) (sc := defScope sBlk) (by decide +kernel)) (fun _ _ _ _ _ => pg_name (i := 4) scBlk.nd rfl (Or.inl rfl)) (fun _ _ _ _ _ => pts_nil) (fun _ _ _ _ _ => (pe_cal gS hr pass0 (pa_cons (pv 0) (pa_cons (pe_op op_add (pv 1) (pe_op op_mul pe_int (pv 4))) (pa_cons (pe_ix (r := rIxL K) ix_list (pv 2) (pv 4) (fun _ _ => rfl)) pa_nil))))))))), ?_⟩
    refine ⟨_, rfl, (m : Int), rfl, by omega, by omega, fun D hD => lc_range (lo := 0) (n := m) (fun i H1 => Same H H1 ∧ ∃ acc b, H1 D = some (.lst acc) ∧ Paired (SmAt H1) acc b ∧ b.length = i ∧ (∀ x ∈ b, x.plain) ∧ b.map Sm.name = zs.take i)
      ⟨same_new hD _, [], [], upd_same, .nil, rfl, (fun x hx => by cases hx), by simp⟩ ?_ ?_⟩
    · rintro i H1 hi ⟨s1, acc, b, hacc, pa, bl, bp, bn⟩
      have hi2 : i < zs.length := by omega
      refine ⟨rfl, yes_go ?_⟩
      refine ⟨_, rfl, _, rfl, _, rfl, _, _, rfl, rfl, .inl ⟨by decide, by decide⟩, _, _, rfl, rfl, _, rfl, _, rfl, pz, _, _, _, rfl, rfl, SqL.of (s1 _ _ hz), by rw [Int.zero_add]; exact str_get (List.getElem?_eq_getElem hi2), ?_⟩
      refine ⟨pn, ns, at0 + 3 * i, zs[i], by simp, s1 _ _ hn, hb, by omega, fun x v' H2 s2 hx px nx => ?_⟩
      have hacc2 := s2 _ _ hacc
      refine ⟨acc, hacc2, small1000 (by rw [plen pa, bl]; omega), same_set (s1.trans s2) hD, acc ++ [v'], b ++ [x], upd_same, papp (L2.Paired.mapP pa fun _ _ k => k.tk ((sTk s2).trans (.wr hacc2))) (.cons (hx.tk (.wr hacc2)) .nil), by rw [List.length_append, bl]; rfl, fun y hy => ?_, ?_⟩
      · rcases List.mem_append.mp hy with hy | hy
        · exact bp y hy
        · rw [List.mem_singleton.mp hy]; exact px
      · rw [List.map_append, bn, List.take_add_one, List.getElem?_eq_getElem hi2]
        simp [nx]
    · rintro H1 ⟨s1, acc, b, hacc, pa, bl, bp, bn⟩
      refine .inl ⟨D, acc, rfl, SqL.of hacc, fun p hp => ?_⟩
      have s2 := same_new hp (.tup acc)
      exact q b _ _ (s1.trans s2) ⟨p, acc, rfl, upd_same, L2.Paired.mapP pa fun _ _ k => k.tk (sTk s2)⟩ bl bp bn
end
end Bm

set_option Elab.async false
set_option linter.all false
set_option maxRecDepth 100000
set_option maxHeartbeats 8000000
/-! an item with blocks -/
namespace Bm
open PySem L2
abbrev sNest : Stmt := top 60
def spNest : Sp := fun vs H Q _ => ∃ (pn pz pa : Addr) (ns : List Int) (zs ah : List Str) (at0 : Nat) (z : Str), vs = [.ref pn, .int (at0 : Int), .ref pz, .ref pa] ∧ H pn = some (.lst (ns.map V.int)) ∧ Nb ns ∧ at0 + 20 ≤ ns.length ∧ H pz = some (.lst (zs.map V.str)) ∧ zs.length = 7 ∧ zs[0]? = some z ∧ H pa = some (.lst (ah.map V.str)) ∧ ah.length ≤ 4 ∧
  ∀ (x : I2) v' H', Same H H' → I2At H' v' x → x.ok ah → x.name = z → x.names.Sublist zs → x.isChk = false → x.tells = [] → Q v' H'
theorem step_sub {zs l : List Str} {j m : Nat} (h : l.Sublist ((zs.drop 1).take (2 * j))) (hm : m ≤ 2) : (l ++ (zs.drop (1 + 2 * j)).take m).Sublist ((zs.drop 1).take (2 * (j + 1))) := by
  rw [show 2 * (j + 1) = 2 * j + 2 by omega, List.take_add, List.drop_drop]
  refine h.append ?_
  rw [show (1 + 2 * j) = 1 + 2 * j from rfl]
  exact List.take_sublist_take_left hm
theorem all_sub {zs l : List Str} {z : Str} {k : Nat} (h : l.Sublist ((zs.drop 1).take k)) (h0 : zs[0]? = some z) : (z :: l).Sublist zs := by
  cases zs with
  | nil => simp at h0
  | cons a r =>
    simp at h0
    subst h0
    exact (h.trans (List.take_sublist _ _)).cons_cons _
section
variable {P : Program} {w : World} {K : PySem.W.Frag} {mg : Str → Option Value} {base : Heap} {f : Addr} {fd : FuncData}
abbrev nNest : List Str := ["numbers", "at", "names", "ahead", "kind", "count", "cases", "k", "value", "size", "choices"]
theorem scNest : FnScope nNest ["numbers", "at", "names", "ahead"] (defScope sNest) := ⟨rfl, rfl, rfl, by decide +kernel, rfl, by decide +kernel, by decide +kernel⟩
theorem ok_nest (F : Fun K "_law_nested" "_law_nested" sNest f fd) (gB : Cal P w K mg base CX0 2 "_law_block" ["numbers", "at", "names", "many"] spBlk) (mint : mg "int" = none) (ml : mg "len" = none) (mr : mg "range" = none) (mt : mg "tuple" = none) : FnOk P w K mg base CX0 3 f fd ["numbers", "at", "names", "ahead"] spNest := by
  refine F.ok scNest (fun vs H Q E h => ?_) (fun cdv A outer s H vs Q E hr h => ?_)
  · obtain ⟨pn, pz, pa, ns, zs, ah, at0, z, rfl, _⟩ := h
    rfl
  · obtain ⟨pn, pz, pa, ns, zs, ah, at0, z, rfl, hn, hb, hlen, hz, hzl, hz0, ha, hal, q⟩ := h
    refine ⟨_, (pss_cons (ps_set (i := 4) scNest.nd rfl (.inl rfl) (pe_op op_mod (pe_callTy (r := rInt1) call_int1 (by rfl) mint (by decide +kernel) (pa_cons (pe_ix ix_list (pv 0) (pv 1) (fun _ _ => rfl)) pa_nil)) pe_int))
      (pss_cons (ps_if (pt_cmpR op_eq (pv 4) pe_int (nomark _)) (pss_cons (ps_set (i := 5) scNest.nd rfl (.inl rfl) (pe_op op_mod (pe_callTy (r := rInt1) call_int1 (by rfl) mint (by decide +kernel) (pa_cons (pe_ix ix_list (pv 0) (pe_op op_add (pv 1) pe_int) (fun _ _ => rfl)) pa_nil)) pe_int))
      (pss_cons (ps_if (PW.pt (pw_and (pt_cmpR op_gt (pe_callB call_len (by rfl) ml boot_len (pa_cons (pv 3) pa_nil)) pe_int (nomark _)) (pw_and1 (pt_cmpR op_eq (pe_op op_mod (pe_callTy (r := rInt1) call_int1 (by rfl) mint (by decide +kernel) (pa_cons (pe_ix ix_list (pv 0) (pe_op op_add (pv 1) pe_int) (fun _ _ => rfl)) pa_nil)) pe_int) pe_int (nomark _))))) (pss_one (ps_set (i := 5) scNest.nd rfl (.inl rfl) (pe_ix ix_list (pv 3) (pe_op op_mod (pe_callTy (r := rInt1) call_int1 (by rfl) mint (by decide +kernel) (pa_cons (pe_ix ix_list (pv 0) (pe_op op_add (pv 1) pe_int) (fun _ _ => rfl)) pa_nil)) (pe_callB call_len (by rfl) ml boot_len (pa_cons (pv 3) pa_nil))) (fun _ _ => rfl)))) pss_nil)
      (pss_one (ps_ret (pe_tup (pa_cons pe_str (pa_cons (pe_ix ix_list (pv 2) pe_int (fun _ _ => rfl)) (pa_cons (pv 5) (pa_cons (pe_cal gB hr pass0 (pa_cons (pv 0) (pa_cons (pe_op op_add (pv 1) pe_int) (pa_cons (pe_slice sl_list (pv 2) (po_some pe_int) po_none) (pa_cons (pe_op op_add pe_int (pe_op op_mod (pe_callTy (r := rInt1) call_int1 (by rfl) mint (by decide +kernel) (pa_cons (pe_op op_fdiv (pe_ix ix_list (pv 0) (pe_op op_add (pv 1) pe_int) (fun _ _ => rfl)) pe_int) pa_nil)) pe_int)) pa_nil))))) pa_nil))))))))) pss_nil)
      (pss_cons (ps_if (PW.pt (pw_and (pt_cmpR op_eq (pv 4) pe_int (nomark _)) (pw_and1 (pt_cmpR op_gt (pe_callB call_len (by rfl) ml boot_len (pa_cons (pv 3) pa_nil)) pe_int (nomark _))))) (pss_cons (ps_set (i := 6) scNest.nd rfl (.inl rfl) (pe_lst pa_nil))
      (pss_cons (ps_for PassesOwn.never rfl (pi_range1 (by rfl) mr (pa_cons (pe_op op_add pe_int (pe_op op_mod (pe_callTy (r := rInt1) call_int1 (by rfl) mint (by decide +kernel) (pa_cons (pe_ix ix_list (pv 0) (pe_op op_add (pv 1) pe_int) (fun _ _ => rfl)) pa_nil)) pe_int)) pa_nil)) (pg_name (i := 7) scNest.nd rfl (.inl rfl))
        (pss_cons (ps_set (i := 8) scNest.nd rfl (.inl rfl) (pe_op op_add (pe_op op_mod (pe_callTy (r := rInt1) call_int1 (by rfl) mint (by decide +kernel) (pa_cons (pe_ix ix_list (pv 0) (pe_op op_add (pv 1) pe_int) (fun _ _ => rfl)) pa_nil)) pe_int) (pe_op op_mul pe_int (pv 7))))
      (pss_cons (ps_set (i := 9) scNest.nd rfl (.inl rfl) (pe_op op_mod (pe_callTy (r := rInt1) call_int1 (by rfl) mint (by decide +kernel) (pa_cons (pe_op op_fdiv (pe_ix ix_list (pv 0) (pe_op op_add (pv 1) pe_int) (fun _ _ => rfl)) (pe_op op_add pe_int (pv 7))) pa_nil)) pe_int))
      (pss_one (ps_expr (pe_bm PySem.F.plainAttrs_list PySem.F.slot_list_append PySem.F.type_list_append mt_append (pv 6) (pa_cons (pe_tup (pa_cons (pv 8) (pa_cons (pe_cal gB hr pass0 (pa_cons (pv 0) (pa_cons (pe_op op_add (pe_op op_add (pv 1) pe_int) (pe_op op_mul pe_int (pv 7))) (pa_cons (pe_slice sl_list (pv 2) (po_some (pe_op op_add pe_int (pe_op op_mul pe_int (pv 7)))) po_none) (pa_cons (pv 9) pa_nil))))) pa_nil))) pa_nil)))))))
      (pss_one (ps_ret (pe_tup (pa_cons pe_str (pa_cons (pe_ix ix_list (pv 2) pe_int (fun _ _ => rfl)) (pa_cons (pe_ix ix_list (pv 3) (pe_op op_mod (pe_callTy (r := rInt1) call_int1 (by rfl) mint (by decide +kernel) (pa_cons (pe_ix ix_list (pv 0) (pe_op op_add (pv 1) pe_int) (fun _ _ => rfl)) pa_nil)) (pe_callB call_len (by rfl) ml boot_len (pa_cons (pv 3) pa_nil))) (fun _ _ => rfl)) (pa_cons (pe_tupleOf (by rfl) mt (pv 6)) pa_nil))))))))) pss_nil)
      (pss_cons (ps_set (i := 10) scNest.nd rfl (.inl rfl) (pe_lst (pa_cons (pe_cal gB hr pass0 (pa_cons (pv 0) (pa_cons (pe_op op_add (pv 1) pe_int) (pa_cons (pe_slice sl_list (pv 2) (po_some pe_int) po_none) (pa_cons (pe_op op_mod (pe_callTy (r := rInt1) call_int1 (by rfl) mint (by decide +kernel) (pa_cons (pe_ix ix_list (pv 0) (pe_op op_add (pv 1) pe_int) (fun _ _ => rfl)) pa_nil)) pe_int) pa_nil))))) pa_nil)))
      (pss_cons (ps_for PassesOwn.never rfl (pi_range1 (by rfl) mr (pa_cons (pe_op op_add pe_int (pe_op op_mod (pe_callTy (r := rInt1) call_int1 (by rfl) mint (by decide +kernel) (pa_cons (pe_op op_fdiv (pe_ix ix_list (pv 0) (pe_op op_add (pv 1) pe_int) (fun _ _ => rfl)) pe_int) pa_nil)) pe_int)) pa_nil)) (pg_name (i := 7) scNest.nd rfl (.inl rfl))
        (pss_one (ps_expr (pe_bm PySem.F.plainAttrs_list PySem.F.slot_list_append PySem.F.type_list_append mt_append (pv 10) (pa_cons (pe_cal gB hr pass0 (pa_cons (pv 0) (pa_cons (pe_op op_add (pe_op op_add (pv 1) pe_int) (pe_op op_mul pe_int (pv 7))) (pa_cons (pe_slice sl_list (pv 2) (po_some (pe_op op_add pe_int (pe_op op_mul pe_int (pv 7)))) po_none) (pa_cons (pe_op op_add pe_int (pe_op op_mod (pe_callTy (r := rInt1) call_int1 (by rfl) mint (by decide +kernel) (pa_cons (pe_op op_fdiv (pe_ix ix_list (pv 0) (pe_op op_add (pv 1) pe_int) (fun _ _ => rfl)) pe_int) pa_nil)) pe_int)) pa_nil))))) pa_nil)))))
      (pss_one (ps_ret (pe_tup (pa_cons pe_str (pa_cons (pe_ix ix_list (pv 2) pe_int (fun _ _ => rfl)) (pa_cons (pe_tupleOf (by rfl) mt (pv 10)) pa_nil))))))))))), ?_⟩
    have hz0a : atI (zs.map V.str) 0 = some (.str z) := str_get (j := 0) hz0
    obtain ⟨c0, h0, _⟩ := num_at hb (i := (at0 : Int)) (by omega) (by omega)
    obtain ⟨c1, h1, b1⟩ := num_at hb (i := (at0 : Int) + 1) (by omega) (by omega)
    obtain ⟨c2, h2, b2⟩ := num_at hb (i := (at0 : Int) + 2) (by omega) (by omega)
    obtain ⟨c3, h3, b3⟩ := num_at hb (i := (at0 : Int) + 3) (by omega) (by omega)
    obtain ⟨c19, h19, _⟩ := num_at hb (i := (at0 : Int) + 19) (by omega) (by omega)
    have pick : ∀ c : Int, 0 < ah.length → ∃ y, atI (ah.map V.str) (c % ((ah.map V.str).length : Int)) = some (.str y) ∧ y ∈ ah := fun c h => by
      rw [List.length_map]
      exact str_at (Int.emod_nonneg _ (by omega)) (Int.emod_lt_of_pos _ (by omega))
    refine ⟨_, rfl, _, rfl, pn, _, _, _, rfl, rfl, SqL.of hn, h0, .inl ⟨_, rfl, _, _, rfl, rfl, (by show (0 : Int) < 3; decide), ?_⟩⟩
    refine ⟨_, rfl, rfl, _, rfl, ite2 (fun _ => ?_) (fun _ => ?_)⟩
    · -- a repeat
      refine ⟨_, rfl, _, rfl, _, _, rfl, rfl, pn, _, _, _, rfl, rfl, SqL.of hn, h1, .inl ⟨_, rfl, _, _, rfl, rfl, (by show (0 : Int) < 3; decide), ?_⟩⟩
      refine g_nx ?_
      dsimp only
      refine with_rest (fun σ Hx => ∃ a : Key, σ = [some (.ref pn), some (.int (at0 : Int)), some (.ref pz), some (.ref pa), some (.int (c0 % 3)), some (kV a), none, none, none, none, none] ∧ Hx = H ∧ amOk 2 ah a) ?_ fun go => ?_
      rotate_left
      · have g0 := go _ _ ⟨.inl (c1 % 3), rfl, rfl, .inl ⟨_, rfl, by omega, by omega⟩⟩
        refine ⟨_, rfl, _, _, rfl, .inl ⟨_, SqL.of ha, rfl⟩, _, _, rfl, rfl, _, rfl, ?_⟩
        refine ite2 (fun e => ?_) (fun _ => iteF g0)
        have e : (0 : Int) < ((ah.map V.str).length : Int) := of_decide_eq_true e
        rw [List.length_map] at e
        refine ⟨_, rfl, _, rfl, _, _, rfl, rfl, pn, _, _, _, rfl, rfl, SqL.of hn, h2, .inl ⟨_, rfl, _, _, rfl, rfl, (by show (0 : Int) < 2; decide), rfl, _, rfl, ite2 (fun _ => ?_) (fun _ => g0)⟩⟩
        obtain ⟨y, hy, ym⟩ := pick c3 (by omega)
        refine ⟨_, rfl, _, rfl, _, rfl, _, _, rfl, rfl, pn, _, _, _, rfl, rfl, SqL.of hn, h3, .inl ⟨_, rfl, _, rfl, _, _, rfl, .inl ⟨_, SqL.of ha, rfl⟩, _, _, rfl, rfl, (by show (0 : Int) < ((ah.map V.str).length : Int); rw [List.length_map]; omega), pa, _, _, _, rfl, rfl, SqL.of ha, hy, ?_⟩⟩
        exact go _ _ ⟨.inr y, rfl, rfl, .inr ⟨y, rfl, ym⟩⟩
      rintro σ Hx ⟨a, rfl, rfl, am⟩
      refine ⟨_, rfl, pz, _, 0, _, rfl, rfl, SqL.of hz, hz0a, _, rfl, _, rfl, _, rfl, _, _, rfl, rfl, _, rfl, 1, rfl, pz, _, rfl, SqL.of hz, fun pz1 g1 => ?_⟩
      rw [show (1 : Int) = ((1 : Nat) : Int) from rfl, cutV_from, ← List.map_drop]
      have s1 := same_new g1 (.lst ((zs.drop 1).map V.str))
      have k1 := upd_same (H := Hx) (a := pz1) (o := .lst ((zs.drop 1).map V.str))
      generalize upd Hx pz1 (.lst ((zs.drop 1).map V.str)) = H1 at s1 k1 ⊢
      obtain ⟨m, hm, hm1, hm2⟩ : ∃ m : Nat, (1 : Int) + c2 / 2 % 2 = (m : Int) ∧ 1 ≤ m ∧ m ≤ 2 := by
        have : c2 / 2 % 2 = 0 ∨ c2 / 2 % 2 = 1 := by omega
        rcases this with e | e
        · exact ⟨1, by rw [e]; rfl, by decide, by decide⟩
        · exact ⟨2, by rw [e]; rfl, by decide, by decide⟩
      refine ⟨_, rfl, _, rfl, _, _, rfl, rfl, pn, _, _, _, rfl, rfl, SqL.of (s1 _ _ hn), h2, _, _, rfl, rfl, ⟨by decide, by decide⟩, .inl ⟨_, rfl, _, _, rfl, rfl, (by show (0 : Int) < 2; decide), _, _, rfl, rfl, ?_⟩⟩
      refine ⟨pn, pz1, ns, zs.drop 1, at0 + 4, m, by rw [← hm]; rfl, s1 _ _ hn, hb, by omega, hm2, k1, by rw [List.length_drop]; omega, fun b v' H2 s2 hbk bl bp bn => ⟨(by show 4 ≤ sizeLine; decide), fun t ht => ?_⟩⟩
      have s3 := same_new ht (.tup [.str "repeat", .str z, kV a, v'])
      refine q (.rep z a b) _ _ (s1.trans (s2.trans s3)) ⟨t, v', rfl, upd_same, hbk.tk (sTk s3)⟩ ⟨am, ⟨by omega, by omega⟩, bp⟩ rfl ?_ rfl rfl
      refine all_sub (k := 2) ?_ hz0
      rw [bn]
      exact List.take_sublist_take_left hm2
    refine nx_go ?_
    dsimp only
    refine with_rest (fun σ Hx => σ = [some (.ref pn), some (.int (at0 : Int)), some (.ref pz), some (.ref pa), some (.int (c0 % 3)), none, none, none, none, none, none] ∧ Hx = H) ?_ fun go => ?_
    rotate_left
    · -- a switch
      refine ⟨_, rfl, rfl, _, rfl, ite2 (fun _ => ?_) (fun _ => iteF (go _ _ ⟨rfl, rfl⟩))⟩
      refine ⟨_, rfl, _, _, rfl, .inl ⟨_, SqL.of ha, rfl⟩, _, _, rfl, rfl, _, rfl, ite2 (fun e => ?_) (fun _ => go _ _ ⟨rfl, rfl⟩)⟩
      have e : (0 : Int) < ((ah.map V.str).length : Int) := of_decide_eq_true e
      rw [List.length_map] at e
      refine ⟨(by show 0 ≤ sizeLine; decide), fun D hD => ?_⟩
      have hn0 := same_new hD (.lst []) _ _ hn
      refine ⟨_, rfl, _, rfl, _, _, rfl, rfl, pn, _, _, _, rfl, rfl, SqL.of hn0, h1, .inl ⟨_, rfl, _, _, rfl, rfl, (by show (0 : Int) < 3; decide), _, _, rfl, rfl, _, rfl, by omega, by omega, ?_⟩⟩
      refine for_range (lo := 0) (n := (1 + c1 % 3).toNat) (fun i σ H' => ∃ k7 v8 s9, σ = [some (.ref pn), some (.int (at0 : Int)), some (.ref pz), some (.ref pa), some (.int (c0 % 3)), none, some (.ref D), k7, v8, s9, none] ∧ Same H H' ∧ ∃ acc cs, H' D = some (.lst acc) ∧ Paired (CsAt H') acc cs ∧ cs.length = i ∧
        (∀ c ∈ cs, (0 ≤ c.1 ∧ c.1 ≤ 6) ∧ c.2.length ≤ 2 ∧ ∀ x ∈ c.2, x.plain) ∧ cs.map (·.1) = (List.range i).map (fun k : Nat => c2 % 3 + 2 * (k : Int)) ∧ (cs.flatMap fun c => c.2.map Sm.name).Sublist ((zs.drop 1).take (2 * i)))
        ⟨none, none, none, rfl, same_new hD _, [], [], upd_same, .nil, rfl, (fun c hc => by cases hc), rfl, List.nil_sublist _⟩ ?_ ?_
      · rintro i σ H2 hi ⟨k7, v8, s9, rfl, s2, acc, cs, hacc, pc, cl, cp, cv, csub⟩
        have i3 : i < 3 := by omega
        refine ⟨_, rfl, _, rfl, _, _, rfl, rfl, pn, _, _, _, rfl, rfl, SqL.of (s2 _ _ hn), h2, .inl ⟨_, rfl, _, _, rfl, rfl, (by show (0 : Int) < 3; decide), _, rfl, _, _, rfl, rfl, .inl ⟨by decide, by decide⟩, _, _, rfl, rfl, ?_⟩⟩
        refine g_nx ?_
        obtain ⟨m, hm⟩ := Int.eq_ofNat_of_zero_le (Int.emod_nonneg (c3 / (1 + (0 + (i : Int)))) (show (3 : Int) ≠ 0 by decide))
        have hm3 := Int.emod_lt_of_pos (c3 / (1 + (0 + (i : Int)))) (show (0 : Int) < 3 by decide)
        refine ⟨_, rfl, _, rfl, _, _, rfl, rfl, pn, _, _, _, rfl, rfl, SqL.of (s2 _ _ hn), h3, _, rfl, _, _, rfl, rfl, _, _, rfl, rfl, ⟨by omega, by omega⟩, .inl ⟨_, rfl, _, _, rfl, rfl, (by show (0 : Int) < 3; decide), ?_⟩⟩
        refine g_nx ?_
        refine ⟨_, rfl, .inl ⟨rfl, _, SqL.of hacc⟩, _, rfl, _, rfl, _, rfl, _, _, rfl, rfl, _, rfl, _, _, rfl, rfl, .inl ⟨by decide, by decide⟩, _, _, rfl, rfl, _, rfl, _, rfl, _, _, rfl, rfl, .inl ⟨by decide, by decide⟩, _, _, rfl, rfl, _, rfl, pz, _, rfl, SqL.of (s2 _ _ hz), fun pz1 g1 => ?_⟩
        rw [show (1 : Int) + 2 * (0 + (i : Int)) = ((1 + 2 * i : Nat) : Int) by omega, cutV_from, ← List.map_drop]
        have s3 := same_new g1 (.lst ((zs.drop (1 + 2 * i)).map V.str))
        have k3 := upd_same (H := H2) (a := pz1) (o := .lst ((zs.drop (1 + 2 * i)).map V.str))
        generalize upd H2 pz1 (.lst ((zs.drop (1 + 2 * i)).map V.str)) = H3 at s3 k3 ⊢
        have s23 := s2.trans s3
        refine ⟨_, rfl, ?_⟩
        refine ⟨pn, pz1, ns, zs.drop (1 + 2 * i), at0 + 4 + 5 * i, m, by rw [← hm, show ((at0 + 4 + 5 * i : Nat) : Int) = (at0 : Int) + 4 + 5 * (0 + (i : Int)) by omega], s23 _ _ hn, hb, by omega, by omega, k3, by rw [List.length_drop]; omega, fun b v' H4 s4 hbk bl bp bn => ⟨(by show 2 ≤ sizeLine; decide), fun t ht => ?_⟩⟩
        have s5 := same_new ht (.tup [.int (c2 % 3 + 2 * (0 + (i : Int))), v'])
        have hacc5 := (s3.trans (s4.trans s5)) _ _ hacc
        have S5 := s23.trans (s4.trans s5)
        refine ⟨D, _, _, rfl, rfl, hacc5, small1000 (by rw [plen pc, cl]; omega), ?_⟩
        refine ⟨_, _, _, rfl, same_set S5 hD, acc ++ [.ref t], cs ++ [(c2 % 3 + 2 * (i : Int), b)], upd_same, papp (L2.Paired.mapP pc fun _ _ k => k.tk ((sTk (s3.trans (s4.trans s5))).trans (.wr hacc5))) (.cons ?_ .nil), by rw [List.length_append, cl]; rfl, fun c hc => ?_, ?_, ?_⟩
        · refine CsAt.tk (.wr hacc5) ⟨t, v', rfl, ?_, hbk.tk (sTk s5)⟩
          rw [Int.zero_add]
          exact upd_same
        · rcases List.mem_append.mp hc with hc | hc
          · exact cp c hc
          · rw [List.mem_singleton.mp hc]; exact ⟨⟨by show 0 ≤ c2 % 3 + 2 * (i : Int); omega, by show c2 % 3 + 2 * (i : Int) ≤ 6; omega⟩, by show b.length ≤ 2; omega, bp⟩
        · rw [List.map_append, cv, List.range_succ, List.map_append]; rfl
        · rw [List.flatMap_append, List.flatMap_cons, List.flatMap_nil, List.append_nil, bn]
          exact step_sub csub (by omega)
      rintro σ H2 ⟨k7, v8, s9, rfl, s2, acc, cs, hacc, pc, cl, cp, cv, csub⟩
      obtain ⟨y, hy, ym⟩ := pick c19 (by omega)
      refine ⟨_, rfl, pz, _, 0, _, rfl, rfl, SqL.of (s2 _ _ hz), hz0a, _, rfl, _, rfl, _, rfl, _, _, rfl, rfl, pn, _, _, _, rfl, rfl, SqL.of (s2 _ _ hn), h19, .inl ⟨_, rfl, _, rfl, _, _, rfl, .inl ⟨_, SqL.of (s2 _ _ ha), rfl⟩, _, _, rfl, rfl, (by show (0 : Int) < ((ah.map V.str).length : Int); rw [List.length_map]; omega), pa, _, _, _, rfl, rfl, SqL.of (s2 _ _ ha), hy, _, rfl, .inl ⟨D, acc, rfl, SqL.of hacc, fun p hp => ⟨(by show 4 ≤ sizeLine; decide), fun t ht => ?_⟩⟩⟩⟩
      have s3 := same_new hp (.tup acc)
      have s4 := same_new ht (.tup [.str "switch", .str z, .str y, .ref p])
      refine q (.swi z y cs) _ _ (s2.trans (s3.trans s4)) ⟨t, p, acc, rfl, upd_same, s4 _ _ upd_same, L2.Paired.mapP pc fun _ _ k => k.tk (sTk (s3.trans s4))⟩ ⟨ym, ⟨by omega, by omega⟩, cp, ?_⟩ rfl (all_sub csub hz0) rfl rfl
      rw [cv]
      refine List.Pairwise.map _ (fun a b h e => ?_) List.nodup_range
      exact h (by omega)
    rintro σ Hx ⟨rfl, rfl⟩
    -- an either
    refine ⟨_, rfl, _, rfl, _, _, rfl, rfl, _, rfl, 1, rfl, pz, _, rfl, SqL.of hz, fun pz1 g1 => ?_⟩
    rw [show (1 : Int) = ((1 : Nat) : Int) from rfl, cutV_from, ← List.map_drop]
    have s1 := same_new g1 (.lst ((zs.drop 1).map V.str))
    have k1 := upd_same (H := Hx) (a := pz1) (o := .lst ((zs.drop 1).map V.str))
    generalize upd Hx pz1 (.lst ((zs.drop 1).map V.str)) = H1 at s1 k1 ⊢
    obtain ⟨m, hm⟩ := Int.eq_ofNat_of_zero_le (Int.emod_nonneg c1 (show (3 : Int) ≠ 0 by decide))
    have hm3 := Int.emod_lt_of_pos c1 (show (0 : Int) < 3 by decide)
    refine ⟨_, rfl, _, rfl, _, _, rfl, rfl, pn, _, _, _, rfl, rfl, SqL.of (s1 _ _ hn), h1, .inl ⟨_, rfl, _, _, rfl, rfl, (by show (0 : Int) < 3; decide), ?_⟩⟩
    refine ⟨pn, pz1, ns, zs.drop 1, at0 + 2, m, by rw [← hm]; rfl, s1 _ _ hn, hb, by omega, by omega, k1, by rw [List.length_drop]; omega, fun b0 v0 H2 s2 hbk0 bl0 bp0 bn0 => ⟨(by show 1 ≤ sizeLine; decide), fun D hD => ?_⟩⟩
    have s12 := s1.trans s2
    have hn0 := same_new hD (.lst [v0]) _ _ (s12 _ _ hn)
    refine ⟨_, rfl, _, rfl, _, _, rfl, rfl, pn, _, _, _, rfl, rfl, SqL.of hn0, h1, _, _, rfl, rfl, ⟨by decide, by decide⟩, .inl ⟨_, rfl, _, _, rfl, rfl, (by show (0 : Int) < 2; decide), _, _, rfl, rfl, _, rfl, by omega, by omega, ?_⟩⟩
    refine for_range (lo := 0) (n := (1 + c1 / 3 % 2).toNat) (fun i σ H' => ∃ k7, σ = [some (.ref pn), some (.int (at0 : Int)), some (.ref pz), some (.ref pa), some (.int (c0 % 3)), none, none, k7, none, none, some (.ref D)] ∧ Same H2 H' ∧ ∃ acc bs, H' D = some (.lst acc) ∧ Paired (BkAt H') acc bs ∧ bs.length = i + 1 ∧
        (∀ b ∈ bs, b.length ≤ 2 ∧ ∀ x ∈ b, x.plain) ∧ (∀ b ∈ bs.drop 1, 1 ≤ b.length) ∧ (bs.flatMap fun b => b.map Sm.name).Sublist ((zs.drop 1).take (2 * (i + 1))))
        ⟨none, rfl, same_new hD _, [v0], [b0], upd_same, .cons (hbk0.tk (sTk (same_new hD _))) .nil, rfl, (fun b hb => by rw [List.mem_singleton.mp hb]; exact ⟨by omega, bp0⟩), (fun b hb => by simp at hb), ?_⟩ ?_ ?_
    · rw [List.flatMap_cons, List.flatMap_nil, List.append_nil, bn0]
      exact List.take_sublist_take_left (by omega)
    · rintro i σ H3 hi ⟨k7, rfl, s3, acc, bs, hacc, pc, cl, cp, cd, csub⟩
      have i2 : i < 2 := by omega
      have S3 := s12.trans s3
      refine ⟨_, rfl, .inl ⟨rfl, _, SqL.of hacc⟩, _, rfl, _, rfl, _, _, rfl, rfl, _, rfl, _, _, rfl, rfl, .inl ⟨by decide, by decide⟩, _, _, rfl, rfl, _, rfl, _, rfl, _, _, rfl, rfl, .inl ⟨by decide, by decide⟩, _, _, rfl, rfl, _, rfl, pz, _, rfl, SqL.of (S3 _ _ hz), fun pz2 g2 => ?_⟩
      rw [show (3 : Int) + 2 * (0 + (i : Int)) = ((1 + 2 * (i + 1) : Nat) : Int) by omega, cutV_from, ← List.map_drop]
      have s4 := same_new g2 (.lst ((zs.drop (1 + 2 * (i + 1))).map V.str))
      have k4 := upd_same (H := H3) (a := pz2) (o := .lst ((zs.drop (1 + 2 * (i + 1))).map V.str))
      generalize upd H3 pz2 (.lst ((zs.drop (1 + 2 * (i + 1))).map V.str)) = H4 at s4 k4 ⊢
      have S4 := S3.trans s4
      obtain ⟨m2, hm2, m21, m22⟩ : ∃ m : Nat, (1 : Int) + c1 / 6 % 2 = (m : Int) ∧ 1 ≤ m ∧ m ≤ 2 := by
        have : c1 / 6 % 2 = 0 ∨ c1 / 6 % 2 = 1 := by omega
        rcases this with e | e
        · exact ⟨1, by rw [e]; rfl, by decide, by decide⟩
        · exact ⟨2, by rw [e]; rfl, by decide, by decide⟩
      refine ⟨_, rfl, _, rfl, _, _, rfl, rfl, pn, _, _, _, rfl, rfl, SqL.of (S4 _ _ hn), h1, _, _, rfl, rfl, ⟨by decide, by decide⟩, .inl ⟨_, rfl, _, _, rfl, rfl, (by show (0 : Int) < 2; decide), _, _, rfl, rfl, ?_⟩⟩
      refine ⟨pn, pz2, ns, zs.drop (1 + 2 * (i + 1)), at0 + 8 + 5 * i, m2, by rw [← hm2, show ((at0 + 8 + 5 * i : Nat) : Int) = (at0 : Int) + 8 + 5 * (0 + (i : Int)) by omega]; rfl, S4 _ _ hn, hb, by omega, by omega, k4, by rw [List.length_drop]; omega, fun b v' H5 s5 hbk bl bp bn => ?_⟩
      have hacc5 := (s4.trans s5) _ _ hacc
      refine ⟨D, _, _, rfl, rfl, hacc5, small1000 (by rw [plen pc, cl]; omega), ?_⟩
      refine ⟨_, rfl, same_set (s3.trans (s4.trans s5)) hD, acc ++ [v'], bs ++ [b], upd_same, papp (L2.Paired.mapP pc fun _ _ k => k.tk ((sTk (s4.trans s5)).trans (.wr hacc5))) (.cons (hbk.tk (.wr hacc5)) .nil), by rw [List.length_append, cl]; rfl, fun c hc => ?_, fun c hc => ?_, ?_⟩
      · rcases List.mem_append.mp hc with hc | hc
        · exact cp c hc
        · rw [List.mem_singleton.mp hc]; exact ⟨by omega, bp⟩
      · rw [List.drop_append_of_le_length (by omega)] at hc
        rcases List.mem_append.mp hc with hc | hc
        · exact cd c hc
        · rw [List.mem_singleton.mp hc]; omega
      · rw [List.flatMap_append, List.flatMap_cons, List.flatMap_nil, List.append_nil, bn]
        exact step_sub csub (by omega)
    rintro σ H3 ⟨k7, rfl, s3, acc, bs, hacc, pc, cl, cp, cd, csub⟩
    have S3 := s12.trans s3
    refine ⟨_, rfl, pz, _, 0, _, rfl, rfl, SqL.of (S3 _ _ hz), hz0a, _, rfl, .inl ⟨D, acc, rfl, SqL.of hacc, fun p hp => ⟨(by show 3 ≤ sizeLine; decide), fun t ht => ?_⟩⟩⟩
    have s4 := same_new hp (.tup acc)
    have s5 := same_new ht (.tup [.str "either", .str z, .ref p])
    exact q (.eit z bs) _ _ (S3.trans (s4.trans s5)) ⟨t, p, acc, rfl, upd_same, s5 _ _ upd_same, L2.Paired.mapP pc fun _ _ k => k.tk (sTk (s4.trans s5))⟩ ⟨⟨by omega, by omega⟩, cp, cd⟩ rfl (all_sub csub hz0) rfl rfl
end
end Bm

set_option Elab.async false
set_option linter.all false
set_option maxRecDepth 100000
set_option maxHeartbeats 8000000
/-! all items -/
namespace Bm
open PySem L2
abbrev sItem : Stmt := top 61
abbrev sItems : Stmt := top 62
def spItem : Sp := fun vs H Q _ => ∃ (pn pz pa : Addr) (ns : List Int) (zs ah : List Str) (at0 : Nat) (z : Str) (ck : Bool), vs = [.ref pn, .int (at0 : Int), .ref pz, .ref pa, .bl ck] ∧ H pn = some (.lst (ns.map V.int)) ∧ Nb ns ∧ at0 + 20 ≤ ns.length ∧ H pz = some (.lst (zs.map V.str)) ∧ zs.length = 7 ∧ zs[0]? = some z ∧ H pa = some (.lst (ah.map V.str)) ∧ ah.length ≤ 4 ∧
  ∀ (x : I2) v' H', Same H H' → I2At H' v' x → x.ok ah → x.name = z → x.names.Sublist zs → (x.isChk = true → ck = false) → Q v' H'
def spItems : Sp := fun vs H Q _ => ∃ (pn : Addr) (ns : List Int) (at0 : Nat), vs = [.ref pn, .int (at0 : Int)] ∧ H pn = some (.lst (ns.map V.int)) ∧ Nb ns ∧ at0 + 82 ≤ ns.length ∧
  ∀ (l : List I2) p xs H', Same H H' → H' p = some (.tup xs) → ItsAt H' xs l → Drawn l → Q (.ref p) H'
theorem one_sub {zs : List Str} {z : Str} (h : zs[0]? = some z) : [z].Sublist zs := by
  cases zs with
  | nil => simp at h
  | cons a r => simp at h; subst h; exact (List.nil_sublist r).cons_cons _
theorem hds_nodup {zs : List Str} (hh : ∀ (i j : Nat) (z y : Str), zs[i]? = some z → zs[j]? = some y → i < j → j < i + 26 → z.cps.toList.head? ≠ y.cps.toList.head?) (a : Nat) : (((zs.drop a).take 7).map hd).Nodup := by
  refine List.pairwise_iff_getElem.mpr fun i j hi hj hij => ?_
  rw [List.length_map, List.length_take, List.length_drop] at hi hj
  simp only [List.getElem_map, List.getElem_take, List.getElem_drop]
  exact hh (a + i) (a + j) _ _ (List.getElem?_eq_getElem (by omega)) (List.getElem?_eq_getElem (by omega)) (by omega) (by omega)
section
variable {P : Program} {w : World} {K : PySem.W.Frag} {mg : Str → Option Value} {base : Heap} {f : Addr} {fd : FuncData}
abbrev nItem : List Str := ["numbers", "at", "names", "ahead", "checked", "kind", "order", "low"]
theorem scItem : FnScope nItem ["numbers", "at", "names", "ahead", "checked"] (defScope sItem) := ⟨rfl, rfl, rfl, by decide +kernel, rfl, by decide +kernel, by decide +kernel⟩
theorem ok_item (F : Fun K "_law_item" "_law_item" sItem f fd) (gN : Cal P w K mg base CX0 3 "_law_nested" ["numbers", "at", "names", "ahead"] spNest) (mint : mg "int" = none) (ml : mg "len" = none) (mmin : mg "min" = none) : FnOk P w K mg base CX0 4 f fd ["numbers", "at", "names", "ahead", "checked"] spItem := by
  refine F.ok scItem (fun vs H Q E h => ?_) (fun cdv A outer s H vs Q E hr h => ?_)
  · obtain ⟨pn, pz, pa, ns, zs, ah, at0, z, ck, rfl, _⟩ := h
    rfl
  · obtain ⟨pn, pz, pa, ns, zs, ah, at0, z, ck, rfl, hn0, hb, hlen, hz0', hzl, hz0, ha0, hal, q0⟩ := h
    refine ⟨_, (pss_cons (ps_set (i := 5) scItem.nd rfl (.inl rfl) (pe_op op_mod (pe_callTy (r := rInt1) call_int1 (by rfl) mint (by decide +kernel) (pa_cons (pe_ix ix_list (pv 0) (pv 1) (fun _ _ => rfl)) pa_nil)) pe_int))
      (pss_cons (ps_set (i := 6) scItem.nd rfl (.inl rfl) (pe_ix ix_tup (pe_tup (pa_cons pe_str (pa_cons pe_str pa_nil))) (pe_op op_mod (pe_callTy (r := rInt1) call_int1 (by rfl) mint (by decide +kernel) (pa_cons (pe_ix ix_list (pv 0) (pe_op op_add (pv 1) pe_int) (fun _ _ => rfl)) pa_nil)) pe_int) (fun _ _ => rfl)))
      (pss_cons (ps_if (pt_cmpR op_lt (pv 5) pe_int (nomark _)) (pss_cons (ps_set (i := 7) scItem.nd rfl (.inl rfl) (pe_op op_mod (pe_callTy (r := rInt1) call_int1 (by rfl) mint (by decide +kernel) (pa_cons (pe_ix ix_list (pv 0) (pe_op op_add (pv 1) pe_int) (fun _ _ => rfl)) pa_nil)) pe_int))
      (pss_one (ps_ret (pe_tup (pa_cons pe_str (pa_cons (pe_ix ix_list (pv 2) pe_int (fun _ _ => rfl)) (pa_cons pe_int (pa_cons (pv 6) (pa_cons (pv 7) (pa_cons (pe_op op_add (pv 7) (pe_op op_mod (pe_callTy (r := rInt1) call_int1 (by rfl) mint (by decide +kernel) (pa_cons (pe_ix ix_list (pv 0) (pe_op op_add (pv 1) pe_int) (fun _ _ => rfl)) pa_nil)) pe_int)) pa_nil)))))))))) pss_nil)
      (pss_cons (ps_if (pt_cmpR op_eq (pv 5) pe_int (nomark _)) (pss_cons (ps_set (i := 7) scItem.nd rfl (.inl rfl) (pe_op op_mul (pe_ix ix_list (pv 0) (pe_op op_add (pv 1) pe_int) (fun _ _ => rfl)) pe_int))
      (pss_one (ps_ret (pe_tup (pa_cons pe_str (pa_cons (pe_ix ix_list (pv 2) pe_int (fun _ _ => rfl)) (pa_cons pe_int (pa_cons (pv 6) (pa_cons (pv 7) (pa_cons (pe_callB (call_min2 rfl) (by rfl) mmin (by decide +kernel) (pa_cons pe_int (pa_cons (pe_op op_add (pv 7) (pe_op op_mul (pe_ix ix_list (pv 0) (pe_op op_add (pv 1) pe_int) (fun _ _ => rfl)) (pe_op op_add pe_int (pe_op op_mod (pe_callTy (r := rInt1) call_int1 (by rfl) mint (by decide +kernel) (pa_cons (pe_ix ix_list (pv 0) (pe_op op_add (pv 1) pe_int) (fun _ _ => rfl)) pa_nil)) pe_int)))) pa_nil))) pa_nil)))))))))) pss_nil)
      (pss_cons (ps_if (PW.pt (pw_and (pt_cmpR op_eq (pv 5) pe_int (nomark _)) (pw_and1 (pt_cmpR op_gt (pe_callB call_len (by rfl) ml boot_len (pa_cons (pv 3) pa_nil)) pe_int (nomark _))))) (pss_one (ps_ret (pe_tup (pa_cons pe_str (pa_cons (pe_ix ix_list (pv 2) pe_int (fun _ _ => rfl)) (pa_cons (pe_ix ix_list (pv 3) (pe_op op_mod (pe_callTy (r := rInt1) call_int1 (by rfl) mint (by decide +kernel) (pa_cons (pe_ix ix_list (pv 0) (pe_op op_add (pv 1) pe_int) (fun _ _ => rfl)) pa_nil)) (pe_callB call_len (by rfl) ml boot_len (pa_cons (pv 3) pa_nil))) (fun _ _ => rfl)) pa_nil)))))) pss_nil)
      (pss_cons (ps_if (pt_cmpR op_eq (pv 5) pe_int (nomark _)) (pss_one (ps_ret (pe_tup (pa_cons pe_str (pa_cons (pe_ix ix_list (pv 2) pe_int (fun _ _ => rfl)) (pa_cons (pe_op op_mod (pe_callTy (r := rInt1) call_int1 (by rfl) mint (by decide +kernel) (pa_cons (pe_ix ix_list (pv 0) (pe_op op_add (pv 1) pe_int) (fun _ _ => rfl)) pa_nil)) pe_int) pa_nil)))))) pss_nil)
      (pss_cons (ps_if (pt_cmpR op_eq (pv 5) pe_int (nomark _)) (pss_one (ps_ret (pe_tup (pa_cons pe_str (pa_cons (pe_ix ix_list (pv 2) pe_int (fun _ _ => rfl)) (pa_cons (pe_op op_mod (pe_callTy (r := rInt1) call_int1 (by rfl) mint (by decide +kernel) (pa_cons (pe_ix ix_list (pv 0) (pe_op op_add (pv 1) pe_int) (fun _ _ => rfl)) pa_nil)) pe_int) (pa_cons (pe_op op_mod (pe_callTy (r := rInt1) call_int1 (by rfl) mint (by decide +kernel) (pa_cons (pe_ix ix_list (pv 0) (pe_op op_add (pv 1) pe_int) (fun _ _ => rfl)) pa_nil)) pe_int) pa_nil))))))) pss_nil)
      (pss_cons (ps_if (PW.pt (pw_and (pt_cmpR op_eq (pv 5) pe_int (nomark _)) (pw_and1 (pt_not (pt_val (pv 4)))))) (pss_one (ps_ret (pe_tup (pa_cons pe_str (pa_cons (pe_ix ix_list (pv 2) pe_int (fun _ _ => rfl)) (pa_cons (pe_op op_add pe_int (pe_op op_mod (pe_callTy (r := rInt1) call_int1 (by rfl) mint (by decide +kernel) (pa_cons (pe_ix ix_list (pv 0) (pe_op op_add (pv 1) pe_int) (fun _ _ => rfl)) pa_nil)) pe_int)) pa_nil)))))) pss_nil)
      (pss_cons (ps_if (pt_cmpR op_eq (pv 5) pe_int (nomark _)) (pss_one (ps_ret (pe_tup (pa_cons pe_str (pa_cons (pe_ix ix_list (pv 2) pe_int (fun _ _ => rfl)) (pa_cons (pe_ix ix_tup (pe_tup (pa_cons pe_int (pa_cons pe_int (pa_cons pe_int pa_nil)))) (pe_op op_mod (pe_callTy (r := rInt1) call_int1 (by rfl) mint (by decide +kernel) (pa_cons (pe_ix ix_list (pv 0) (pe_op op_add (pv 1) pe_int) (fun _ _ => rfl)) pa_nil)) pe_int) (fun _ _ => rfl)) (pa_cons (pe_op op_mod (pe_callTy (r := rInt1) call_int1 (by rfl) mint (by decide +kernel) (pa_cons (pe_ix ix_list (pv 0) (pe_op op_add (pv 1) pe_int) (fun _ _ => rfl)) pa_nil)) pe_int) pa_nil))))))) pss_nil)
      (pss_one (ps_ret (pe_cal gN hr pass0 (pa_cons (pv 0) (pa_cons (pv 1) (pa_cons (pv 2) (pa_cons (pv 3) pa_nil)))))))))))))))), ?_⟩
    have hz0a : atI (zs.map V.str) 0 = some (.str z) := str_get (j := 0) hz0
    obtain ⟨c0, h0, b0⟩ := num_at hb (i := (at0 : Int)) (by omega) (by omega)
    obtain ⟨c1, h1, b1⟩ := num_at hb (i := (at0 : Int) + 1) (by omega) (by omega)
    obtain ⟨c2, h2, b2⟩ := num_at hb (i := (at0 : Int) + 2) (by omega) (by omega)
    obtain ⟨c3, h3, b3⟩ := num_at hb (i := (at0 : Int) + 3) (by omega) (by omega)
    obtain ⟨c4, h4, b4⟩ := num_at hb (i := (at0 : Int) + 4) (by omega) (by omega)
    refine ⟨_, rfl, _, rfl, pn, _, _, _, rfl, rfl, SqL.of hn0, h0, .inl ⟨_, rfl, _, _, rfl, rfl, (by show (0 : Int) < 10; decide), ?_⟩⟩
    -- an order
    obtain ⟨ov, om, ho⟩ := at_mem (xs := [V.str "big", V.str "little"]) (r := c3 % 2) (Int.emod_nonneg _ (by decide)) (Int.emod_lt_of_pos _ (by decide))
    obtain ⟨o, rfl, oo⟩ : ∃ o : Str, ov = .str o ∧ (o = "big" ∨ o = "little") := by
      simp only [List.mem_cons, List.not_mem_nil, or_false] at om
      rcases om with rfl | rfl
      · exact ⟨_, rfl, .inl rfl⟩
      · exact ⟨_, rfl, .inr rfl⟩
    refine ⟨(by show 2 ≤ sizeLine; decide), fun t0 g0 => ?_⟩
    have s0 := same_new g0 (.tup [.str "big", .str "little"])
    have hn := s0 _ _ hn0
    have hz := s0 _ _ hz0'
    have ha := s0 _ _ ha0
    have kt := upd_same (H := H) (a := t0) (o := .tup [.str "big", .str "little"])
    have q : ∀ (x : I2) v' H', Same (upd H t0 (.tup [.str "big", .str "little"])) H' → I2At H' v' x → x.ok ah → x.name = z → x.names.Sublist zs → (x.isChk = true → ck = false) → Q v' H' := fun x v' H' s => q0 x v' H' (s0.trans s)
    generalize upd H t0 (.tup [.str "big", .str "little"]) = H1 at hn hz ha kt q ⊢
    clear s0 q0 hn0 hz0' ha0
    refine ⟨_, rfl, _, rfl, _, _, rfl, rfl, pn, _, _, _, rfl, rfl, SqL.of hn, h3, .inl ⟨_, rfl, _, _, rfl, rfl, (by show (0 : Int) < 2; decide), t0, _, _, _, rfl, rfl, SqT.of kt, ho, ?_⟩⟩
    have sub1 := one_sub hz0
    -- numbers
    refine ⟨_, rfl, _, _, rfl, rfl, _, rfl, ite2 (fun _ => ?_) (fun _ => ?_)⟩
    · refine ⟨_, rfl, _, rfl, _, _, rfl, rfl, pn, _, _, _, rfl, rfl, SqL.of hn, h1, .inl ⟨_, rfl, _, _, rfl, rfl, (by show (0 : Int) < 4; decide), ?_⟩⟩
      refine ⟨_, rfl, pz, _, 0, _, rfl, rfl, SqL.of hz, hz0a, _, rfl, _, rfl, _, rfl, _, rfl, _, rfl, _, _, rfl, rfl, pn, _, _, _, rfl, rfl, SqL.of hn, h2, .inl ⟨_, rfl, _, _, rfl, rfl, (by show (0 : Int) < 5; decide), _, _, rfl, rfl, (by show 6 ≤ sizeLine; decide), fun t ht => ?_⟩⟩
      exact q (.sm (.num z 1 o (c1 % 4) (c1 % 4 + c2 % 5))) _ _ (same_new ht _) ⟨t, rfl, upd_same⟩ ⟨oo, by omega, by omega, .inl ⟨rfl, by omega⟩⟩ rfl sub1 (fun z => by cases z)
    refine ⟨_, rfl, rfl, _, rfl, ite2 (fun _ => ?_) (fun _ => ?_)⟩
    · refine ⟨_, rfl, _, rfl, _, _, rfl, rfl, pn, _, _, _, rfl, rfl, SqL.of hn, h1, _, _, rfl, rfl, .inr ⟨by decide, by decide⟩, ?_⟩
      refine ⟨_, rfl, pz, _, 0, _, rfl, rfl, SqL.of hz, hz0a, _, rfl, _, rfl, _, rfl, _, rfl, _, rfl, _, _, rfl, rfl, pn, _, _, _, rfl, rfl, SqL.of hn, h2, _, rfl, _, rfl, _, _, rfl, rfl, pn, _, _, _, rfl, rfl, SqL.of hn, h4, .inl ⟨_, rfl, _, _, rfl, rfl, (by show (0 : Int) < 60; decide), _, _, rfl, rfl, _, _, rfl, rfl, .inl ⟨by omega, by omega⟩, _, _, rfl, rfl, _, _, rfl, (by show 6 ≤ sizeLine; decide), fun t ht => ?_⟩⟩
      have p0 : 0 ≤ c2 * (1 + c4 % 60) := Int.mul_nonneg (by omega) (by omega)
      refine q (.sm (.num z 2 o (c1 * 65) (if c1 * 65 + c2 * (1 + c4 % 60) < 65535 then c1 * 65 + c2 * (1 + c4 % 60) else 65535))) _ _ (same_new ht _) ⟨t, rfl, upd_same⟩ ⟨oo, by omega, ?_, .inr ⟨rfl, ?_⟩⟩ rfl sub1 (fun z => by cases z)
      · split <;> omega
      · split <;> omega
    -- bytes
    refine nx_go ?_
    dsimp only
    refine with_rest (fun σ Hx => σ = [some (.ref pn), some (.int (at0 : Int)), some (.ref pz), some (.ref pa), some (.bl ck), some (.int (c0 % 10)), some (.str o), none] ∧ Hx = H1) ?_ fun go => ?_
    rotate_left
    · refine ⟨_, rfl, rfl, _, rfl, ite2 (fun _ => ?_) (fun _ => iteF (go _ _ ⟨rfl, rfl⟩))⟩
      refine ⟨_, rfl, _, _, rfl, .inl ⟨_, SqL.of ha, rfl⟩, _, _, rfl, rfl, _, rfl, ite2 (fun e => ?_) (fun _ => go _ _ ⟨rfl, rfl⟩)⟩
      have e : (0 : Int) < ((ah.map V.str).length : Int) := of_decide_eq_true e
      obtain ⟨y, hy, ym⟩ : ∃ y, atI (ah.map V.str) (c1 % ((ah.map V.str).length : Int)) = some (.str y) ∧ y ∈ ah := by
        rw [List.length_map] at e ⊢
        exact str_at (Int.emod_nonneg _ (by omega)) (Int.emod_lt_of_pos _ (by omega))
      refine ⟨_, rfl, pz, _, 0, _, rfl, rfl, SqL.of hz, hz0a, _, rfl, _, rfl, _, rfl, _, _, rfl, rfl, pn, _, _, _, rfl, rfl, SqL.of hn, h1, .inl ⟨_, rfl, _, rfl, _, _, rfl, .inl ⟨_, SqL.of ha, rfl⟩, _, _, rfl, rfl, e, pa, _, _, _, rfl, rfl, SqL.of ha, hy, (by show 3 ≤ sizeLine; decide), fun t ht => ?_⟩⟩
      exact q (.sm (.byt z (.inr y))) _ _ (same_new ht _) ⟨t, rfl, upd_same⟩ (.inr ⟨y, rfl, ym⟩) rfl sub1 (fun z => by cases z)
    rintro σ Hx ⟨rfl, rfl⟩
    refine ⟨_, rfl, rfl, _, rfl, ite2 (fun _ => ?_) (fun _ => ?_)⟩
    · refine ⟨_, rfl, pz, _, 0, _, rfl, rfl, SqL.of hz, hz0a, _, rfl, _, rfl, _, _, rfl, rfl, pn, _, _, _, rfl, rfl, SqL.of hn, h1, .inl ⟨_, rfl, _, _, rfl, rfl, (by show (0 : Int) < 4; decide), (by show 3 ≤ sizeLine; decide), fun t ht => ?_⟩⟩
      exact q (.sm (.byt z (.inl (c1 % 4)))) _ _ (same_new ht _) ⟨t, rfl, upd_same⟩ (.inl ⟨_, rfl, by omega, by omega⟩) rfl sub1 (fun z => by cases z)
    -- text
    refine ⟨_, rfl, rfl, _, rfl, ite2 (fun _ => ?_) (fun _ => ?_)⟩
    · refine ⟨_, rfl, pz, _, 0, _, rfl, rfl, SqL.of hz, hz0a, _, rfl, _, rfl, _, _, rfl, rfl, pn, _, _, _, rfl, rfl, SqL.of hn, h1, .inl ⟨_, rfl, _, _, rfl, rfl, (by show (0 : Int) < 256; decide), ?_⟩⟩
      refine ⟨_, rfl, _, rfl, _, _, rfl, rfl, pn, _, _, _, rfl, rfl, SqL.of hn, h2, .inl ⟨_, rfl, _, _, rfl, rfl, (by show (0 : Int) < 4; decide), (by show 4 ≤ sizeLine; decide), fun t ht => ?_⟩⟩
      exact q (.sm (.txt z (c1 % 256) (c2 % 4))) _ _ (same_new ht _) ⟨t, rfl, upd_same⟩ ⟨⟨by omega, by omega⟩, by omega, by omega⟩ rfl sub1 (fun z => by cases z)
    -- a check
    refine nx_go ?_
    dsimp only
    refine with_rest (fun σ Hx' => σ = [some (.ref pn), some (.int (at0 : Int)), some (.ref pz), some (.ref pa), some (.bl ck), some (.int (c0 % 10)), some (.str o), none] ∧ Hx' = Hx) ?_ fun go => ?_
    rotate_left
    · refine ⟨_, rfl, rfl, _, rfl, ite2 (fun _ => ?_) (fun _ => iteF (go _ _ ⟨rfl, rfl⟩))⟩
      refine ⟨_, rfl, _, rfl, ?_⟩
      cases ck with
      | true => exact iteF (go _ _ ⟨rfl, rfl⟩)
      | false =>
        refine iteT ?_
        refine ⟨_, rfl, pz, _, 0, _, rfl, rfl, SqL.of hz, hz0a, _, rfl, _, rfl, _, _, rfl, rfl, pn, _, _, _, rfl, rfl, SqL.of hn, h1, .inl ⟨_, rfl, _, _, rfl, rfl, (by show (0 : Int) < 5; decide), _, _, rfl, rfl, (by show 3 ≤ sizeLine; decide), fun t ht => ?_⟩⟩
        exact q (.sm (.chk z (1 + c1 % 5))) _ _ (same_new ht _) ⟨t, rfl, upd_same⟩ ⟨by omega, by omega⟩ rfl sub1 (fun _ => rfl)
    rintro σ Hx' ⟨rfl, rfl⟩
    -- a pad
    refine ⟨_, rfl, rfl, _, rfl, ite2 (fun _ => ?_) (fun _ => ?_)⟩
    · obtain ⟨m, mm, hm⟩ := at_ints (is := [1, 2, 4]) (r := c1 % 3) (Int.emod_nonneg _ (by decide)) (Int.emod_lt_of_pos _ (by decide))
      have m3 : m = 1 ∨ m = 2 ∨ m = 4 := by simpa using mm
      refine ⟨_, rfl, pz, _, 0, _, rfl, rfl, SqL.of hz, hz0a, (by show 3 ≤ sizeLine; decide), fun t1 g1 => ?_⟩
      have s1 := same_new g1 (.tup [.int 1, .int 2, .int 4])
      refine ⟨_, rfl, _, rfl, _, _, rfl, rfl, pn, _, _, _, rfl, rfl, SqL.of (s1 _ _ hn), h1, .inl ⟨_, rfl, _, _, rfl, rfl, (by show (0 : Int) < 3; decide), t1, _, _, _, rfl, rfl, SqT.of upd_same, hm, ?_⟩⟩
      refine ⟨_, rfl, _, rfl, _, _, rfl, rfl, pn, _, _, _, rfl, rfl, SqL.of (s1 _ _ hn), h2, .inl ⟨_, rfl, _, _, rfl, rfl, (by show (0 : Int) < 256; decide), (by show 4 ≤ sizeLine; decide), fun t ht => ?_⟩⟩
      exact q (.sm (.pad z m (c2 % 256))) _ _ (s1.trans (same_new ht _)) ⟨t, rfl, upd_same⟩ ⟨m3, by omega, by omega⟩ rfl sub1 (fun z => by cases z)
    refine ⟨_, rfl, _, rfl, _, rfl, _, rfl, pn, pz, pa, ns, zs, ah, at0, z, rfl, hn, hb, hlen, hz, hzl, hz0, ha, hal, fun x v' H2 s2 a1 a2 a3 a4 a5 _ => q x v' H2 s2 a1 a2 a3 a4 (fun e => by rw [a5] at e; cases e)⟩
abbrev nItems : List Str := ["numbers", "at", "names", "items", "ahead", "checked", "k", "item"]
theorem scItems : FnScope nItems ["numbers", "at"] (defScope sItems) := ⟨rfl, rfl, rfl, by decide +kernel, rfl, by decide +kernel, by decide +kernel⟩
theorem kind_sm {x : I2} (h : x.kind = "number") : ∃ n s o lo hi, x = .sm (.num n s o lo hi) := by
  cases x with
  | sm y => cases y with
    | num n s o lo hi => exact ⟨n, s, o, lo, hi, rfl⟩
    | _ => exact absurd h (by simp only [I2.kind, Sm.kind]; decide +kernel)
  | _ => exact absurd h (by simp only [I2.kind]; decide +kernel)
theorem kind_chk (x : I2) : decide (V.str x.kind = V.str "check") = x.isChk := by
  cases x with
  | sm y => cases y with
    | chk n m => exact decide_eq_true rfl
    | _ => exact decide_eq_false (kne (by simp only [I2.kind, Sm.kind]; decide +kernel))
  | _ => exact decide_eq_false (kne (by simp only [I2.kind]; decide +kernel))
theorem tells_len (x : I2) : x.tells.length ≤ 1 := by
  cases x with
  | sm y => cases y with
    | num n s o lo hi => simp only [I2.tells]; split <;> simp
    | _ => simp [I2.tells]
  | _ => simp [I2.tells]
theorem tells_not {x : I2} (h : x.kind ≠ "number") : x.tells = [] := by
  cases x with
  | sm y => cases y with
    | num n s o lo hi => exact absurd rfl h
    | _ => rfl
  | _ => rfl
theorem ok_items (F : Fun K "_law_items" "_law_items" sItems f fd) (gM : Cal P w K mg base CX0 1 "_law_names" ["number", "many"] spNames) (gI : Cal P w K mg base CX0 4 "_law_item" ["numbers", "at", "names", "ahead", "checked"] spItem) (mint : mg "int" = none) (mr : mg "range" = none) (mt : mg "tuple" = none) : FnOk P w K mg base CX0 5 f fd ["numbers", "at"] spItems := by
  refine F.ok scItems (fun vs H Q E h => ?_) (fun cdv A outer s H vs Q E hr h => ?_)
  · obtain ⟨pn, ns, at0, rfl, _⟩ := h
    rfl
  · obtain ⟨pn, ns, at0, rfl, hn, hb, hlen, q⟩ := h
    have hr1 : Room 1 _ := hr.mono (by decide)
    refine ⟨_, (pss_cons (ps_set (i := 2) scItems.nd rfl (.inl rfl) (pe_cal gM hr1 pass0 (pa_cons (pe_ix ix_list (pv 0) (pv 1) (fun _ _ => rfl)) (pa_cons pe_int pa_nil))))
      (pss_cons (ps_set (i := 3) scItems.nd rfl (.inl rfl) (pe_lst pa_nil))
      (pss_cons (ps_set (i := 4) scItems.nd rfl (.inl rfl) (pe_lst pa_nil))
      (pss_cons (ps_set (i := 5) scItems.nd rfl (.inl rfl) pe_bl)
      (pss_cons (ps_for PassesOwn.never rfl (pi_range1 (by rfl) mr (pa_cons (pe_op op_add pe_int (pe_op op_mod (pe_callTy (r := rInt1) call_int1 (by rfl) mint (by decide +kernel) (pa_cons (pe_ix ix_list (pv 0) (pe_op op_add (pv 1) pe_int) (fun _ _ => rfl)) pa_nil)) pe_int)) pa_nil)) (pg_name (i := 6) scItems.nd rfl (.inl rfl))
        (pss_cons (ps_set (i := 7) scItems.nd rfl (.inl rfl) (pe_cal gI hr pass0 (pa_cons (pv 0) (pa_cons (pe_op op_add (pe_op op_add (pv 1) pe_int) (pe_op op_mul pe_int (pv 6))) (pa_cons (pe_slice sl_list (pv 2) (po_some (pe_op op_mul pe_int (pv 6))) (po_some (pe_op op_add (pe_op op_mul pe_int (pv 6)) pe_int))) (pa_cons (pv 4) (pa_cons (pv 5) pa_nil)))))))
      (pss_cons (ps_if (PW.pt (pw_and (pt_cmpR op_eq (pe_ix ix_tup (pv 7) pe_int (fun _ _ => rfl)) pe_str (nomark _)) (pw_and1 (pt_cmpR op_eq (pe_ix ix_tup (pv 7) pe_int (fun _ _ => rfl)) pe_int (nomark _))))) (pss_one (ps_expr (pe_bm PySem.F.plainAttrs_list PySem.F.slot_list_append PySem.F.type_list_append mt_append (pv 4) (pa_cons (pe_ix ix_tup (pv 7) pe_int (fun _ _ => rfl)) pa_nil)))) pss_nil)
      (pss_cons (ps_set (i := 5) scItems.nd rfl (.inl rfl) (pe_or (pv 5) (pe_one (pe_cmpR op_eq (pe_ix ix_tup (pv 7) pe_int (fun _ _ => rfl)) pe_str (nomark _)))))
      (pss_one (ps_expr (pe_bm PySem.F.plainAttrs_list PySem.F.slot_list_append PySem.F.type_list_append mt_append (pv 3) (pa_cons (pv 7) pa_nil))))))))
      (pss_one (ps_ret (pe_tupleOf (by rfl) mt (pv 3))))))))), ?_⟩
    obtain ⟨c0, h0, b0⟩ := num_at hb (i := (at0 : Int)) (by omega) (by omega)
    obtain ⟨c1, h1, b1⟩ := num_at hb (i := (at0 : Int) + 1) (by omega) (by omega)
    refine ⟨_, rfl, _, rfl, pn, _, _, _, rfl, rfl, SqL.of hn, h0, c0, 28, rfl, by decide, fun pz zs H1 s1 _ hz hzl hzd hzn hzh => ?_⟩
    refine ⟨(by show 0 ≤ sizeLine; decide), fun D1 g1 => ?_⟩
    have s2 := same_new g1 (.lst [])
    have k1 := upd_same (H := H1) (a := D1) (o := .lst [])
    refine ⟨(by show 0 ≤ sizeLine; decide), fun D2 g2 => ?_⟩
    have nD : D1 ≠ D2 := fun e => by rw [← e, upd_same] at g2; cases g2
    have s3 := same_new g2 (.lst [])
    have k2 := upd_same (H := upd H1 D1 (.lst [])) (a := D2) (o := .lst [])
    have k1' := s3 _ _ k1
    have g20 : H1 D2 = none := s2.free g2
    have S1 := s1.trans (s2.trans s3)
    generalize upd (upd H1 D1 (.lst [])) D2 (.lst []) = H2 at s3 k2 k1' S1 ⊢
    have S12 := s2.trans s3
    clear s2 s3
    refine ⟨_, rfl, _, rfl, _, _, rfl, rfl, pn, _, _, _, rfl, rfl, SqL.of (S1 _ _ hn), h1, .inl ⟨_, rfl, _, _, rfl, rfl, (by show (0 : Int) < 4; decide), _, _, rfl, rfl, _, rfl, by omega, by omega, ?_⟩⟩
    refine for_range (lo := 0) (n := (1 + c1 % 4).toNat) (fun i σ H' => ∃ (ck : Bool) (k6 i7 : Option V), σ = [some (.ref pn), some (.int (at0 : Int)), some (.ref pz), some (.ref D1), some (.ref D2), some (.bl ck), k6, i7] ∧ Same H1 H' ∧ ∃ acc l, H' D1 = some (.lst acc) ∧ ItsAt H' acc l ∧ l.length = i ∧ H' D2 = some (.lst ((l.flatMap I2.tells).map V.str)) ∧
      OkL [] l ∧ (l.flatMap I2.names).Sublist (zs.take (7 * i)) ∧ (∀ x ∈ l, (x.names.map hd).Nodup) ∧ (∀ (j : Nat) (x : I2), l[j]? = some x → zs[7 * j]? = some x.name) ∧ (l.filter I2.isChk).length ≤ (if ck = true then 1 else 0))
      ⟨false, none, none, rfl, S12, [], [], k1', .nil, rfl, k2, trivial, List.nil_sublist _, (fun x hx => by cases hx), (fun j x hx => by simp at hx), Nat.le_refl _⟩ ?_ ?_
    · rintro i σ H3 hi ⟨ck, k6, i7, rfl, s3, acc, l, hacc, pl, ll, hah, okl, sub, hds, top, chk⟩
      have i4 : i < 4 := by omega
      have S3 := s1.trans s3
      obtain ⟨z0, hz0⟩ : ∃ z0, zs[7 * i]? = some z0 := ⟨zs[7 * i]'(by omega), List.getElem?_eq_getElem _⟩
      have tl : (l.flatMap I2.tells).length ≤ l.length := by
        clear hah okl sub hds top chk pl ll
        induction l with
        | nil => simp
        | cons x r ih => rw [List.flatMap_cons, List.length_append, List.length_cons]; have := tells_len x; omega
      refine ⟨_, rfl, _, rfl, _, _, rfl, rfl, _, rfl, _, _, rfl, rfl, .inl ⟨by decide, by decide⟩, _, _, rfl, rfl, _, rfl, _, rfl, _, _, rfl, rfl, .inl ⟨by decide, by decide⟩, _, rfl, _, rfl, _, _, rfl, rfl, .inl ⟨by decide, by decide⟩, _, _, rfl, rfl, _, rfl, pz, _, rfl, SqL.of (s3 _ _ hz), fun pz1 g1' => ?_⟩
      rw [show (7 : Int) * (0 + (i : Int)) + 7 = ((7 * i + 7 : Nat) : Int) by omega, show (7 : Int) * (0 + (i : Int)) = ((7 * i : Nat) : Int) by omega, cutV_part, ← List.map_drop, ← List.map_take, show 7 * i + 7 - 7 * i = 7 by omega]
      have s4 := same_new g1' (.lst (((zs.drop (7 * i)).take 7).map V.str))
      have k4 := upd_same (H := H3) (a := pz1) (o := .lst (((zs.drop (7 * i)).take 7).map V.str))
      generalize upd H3 pz1 (.lst (((zs.drop (7 * i)).take 7).map V.str)) = H4 at s4 k4 ⊢
      have S4 := S3.trans s4
      refine ⟨_, rfl, _, rfl, pn, pz1, D2, ns, (zs.drop (7 * i)).take 7, l.flatMap I2.tells, at0 + 2 + 20 * i, z0, ck, by rw [show ((at0 + 2 + 20 * i : Nat) : Int) = (at0 : Int) + 2 + 20 * (0 + (i : Int)) by omega], S4 _ _ hn, hb, by omega, k4, by rw [List.length_take, List.length_drop]; omega, by rw [List.getElem?_take, if_pos (by decide), List.getElem?_drop]; exact hz0, s4 _ _ hah, by omega, fun x v' H5 s5 hx xok xn xsub xck => ?_⟩
      have hacc5 := (s4.trans s5) _ _ hacc
      have hah5 := (s4.trans s5) _ _ hah
      have S5 := s3.trans (s4.trans s5)
      obtain ⟨p, rest, rfl, hp⟩ := hx.head
      have pl5 : ItsAt H5 acc l := pl.tk (sTk (s4.trans s5))
      refine g_nx ?_
      dsimp only
      refine with_rest (fun σ Hx => σ = [some (.ref pn), some (.int (at0 : Int)), some (.ref pz), some (.ref D1), some (.ref D2), some (.bl ck), some (.int (0 + (i : Int))), some (.ref p)] ∧ Same H1 Hx ∧ Hx D1 = some (.lst acc) ∧ Hx D2 = some (.lst (((l ++ [x]).flatMap I2.tells).map V.str)) ∧ Tk H5 Hx) ?_ fun go => ?_
      rotate_left
      · have no : x.tells = [] → Same H1 H5 ∧ H5 D1 = some (.lst acc) ∧ H5 D2 = some (.lst (((l ++ [x]).flatMap I2.tells).map V.str)) ∧ Tk H5 H5 := fun e => ⟨S5, hacc5, by rw [List.flatMap_append, List.flatMap_cons, List.flatMap_nil, List.append_nil, e, List.append_nil]; exact hah5, Tk.refl _⟩
        refine ⟨_, rfl, p, _, 0, _, rfl, rfl, SqT.of hp, atI_nat (j := 0) rfl, rfl, _, rfl, ite2 (fun e => ?_) (fun e => ?_)⟩
        · have e : x.kind = "number" := V.str.inj (of_decide_eq_true e)
          obtain ⟨n, sz, o, lo, hi', rfl⟩ := kind_sm e
          obtain ⟨p', ep, hp'⟩ := hx
          cases ep
          refine ⟨_, rfl, p, _, 2, _, rfl, rfl, SqT.of hp', atI_nat (j := 2) rfl, rfl, _, rfl, ite2 (fun e => ?_) (fun e => ?_)⟩
          · have e : sz = 1 := V.int.inj (of_decide_eq_true e)
            subst e
            refine ⟨_, rfl, .inl ⟨rfl, _, SqL.of hah5⟩, _, rfl, p, _, 1, _, rfl, rfl, SqT.of hp', atI_nat (j := 1) rfl, D2, _, _, rfl, rfl, hah5, small1000 (by rw [List.length_map]; omega), ?_⟩
            refine go _ _ ⟨rfl, same_set S5 g20, by rw [upd_ne nD]; exact hacc5, ?_, .wr hah5⟩
            rw [upd_same, List.flatMap_append, List.map_append]
            rfl
          · have e : ¬ sz = 1 := fun z => e (decide_eq_true (by show V.int sz = V.int 1; rw [z]))
            exact go _ _ ⟨rfl, no (by simp only [I2.tells]; rw [if_neg e])⟩
        · have e : x.kind ≠ "number" := fun z => e (decide_eq_true (by rw [z]))
          exact iteF (go _ _ ⟨rfl, no (tells_not e)⟩)
      rintro σ Hx ⟨rfl, sx, hax, hahx, tkx⟩
      have hpx := tkx _ _ hp
      have fin : ∀ (ck2 : Bool), ck2 = (ck || x.isChk) → ∃ (ck' : Bool) (k6 i7 : Option V), ([some (.ref pn), some (.int (at0 : Int)), some (.ref pz), some (.ref D1), some (.ref D2), some (.bl ck2), some (.int (0 + (i : Int))), some (.ref p)] : L2.St) = [some (.ref pn), some (.int (at0 : Int)), some (.ref pz), some (.ref D1), some (.ref D2), some (.bl ck'), k6, i7] ∧ Same H1 (upd Hx D1 (.lst (acc ++ [.ref p]))) ∧ ∃ acc' l', (upd Hx D1 (.lst (acc ++ [.ref p]))) D1 = some (.lst acc') ∧ ItsAt (upd Hx D1 (.lst (acc ++ [.ref p]))) acc' l' ∧ l'.length = i + 1 ∧ (upd Hx D1 (.lst (acc ++ [.ref p]))) D2 = some (.lst ((l'.flatMap I2.tells).map V.str)) ∧
          OkL [] l' ∧ (l'.flatMap I2.names).Sublist (zs.take (7 * (i + 1))) ∧ (∀ x ∈ l', (x.names.map hd).Nodup) ∧ (∀ (j : Nat) (x : I2), l'[j]? = some x → zs[7 * j]? = some x.name) ∧ (l'.filter I2.isChk).length ≤ (if ck' = true then 1 else 0) := fun ck2 e2 => by
        refine ⟨ck2, _, _, rfl, same_set sx g1, acc ++ [.ref p], l ++ [x], upd_same, papp (pl5.tk (tkx.trans (.wr hax))) (.cons (hx.tk (tkx.trans (.wr hax))) .nil), by rw [List.length_append, ll]; rfl, by rw [upd_ne nD.symm]; exact hahx, okl.snoc (by simpa using xok), ?_, fun y hy => ?_, fun j y hy => ?_, ?_⟩
        · rw [List.flatMap_append, List.flatMap_cons, List.flatMap_nil, List.append_nil, show 7 * (i + 1) = 7 * i + 7 by omega, List.take_add]
          exact sub.append xsub
        · rcases List.mem_append.mp hy with hy | hy
          · exact hds y hy
          · rw [List.mem_singleton.mp hy]; exact (xsub.map hd).nodup (hds_nodup hzh (7 * i))
        · by_cases hj : j < l.length
          · rw [List.getElem?_append_left hj] at hy
            exact top j y hy
          · rw [List.getElem?_append_right (by omega)] at hy
            have hj0 : j - l.length = 0 := by
              apply Decidable.byContradiction
              intro k
              rw [List.getElem?_eq_none (by rw [List.length_singleton]; omega)] at hy
              cases hy
            rw [hj0] at hy
            have hy := Option.some.inj hy
            have ej : j = i := by omega
            rw [ej, ← hy, xn]
            exact hz0
        · rw [List.filter_append, List.length_append, e2]
          cases hc : x.isChk with
          | true =>
            have := xck hc
            subst this
            simp only [List.filter_cons, hc, List.filter_nil]
            simp at chk ⊢
            omega
          | false =>
            simp only [List.filter_cons, hc, List.filter_nil]
            cases ck <;> simp at chk ⊢ <;> omega
      refine ⟨_, rfl, ck, rfl, ?_⟩
      cases ck with
      | true =>
        refine iteT ?_
        refine ⟨_, rfl, .inl ⟨rfl, _, SqL.of hax⟩, _, rfl, D1, _, _, rfl, rfl, hax, small1000 (by rw [plen pl, ll]; omega), ?_⟩
        exact fin true rfl
      | false =>
        refine iteF ?_
        refine ⟨_, rfl, p, _, 0, _, rfl, rfl, SqT.of hpx, atI_nat (j := 0) rfl, rfl, ?_⟩
        refine g_nx ?_
        dsimp only
        rw [kind_chk]
        refine ⟨_, rfl, .inl ⟨rfl, _, SqL.of hax⟩, _, rfl, D1, _, _, rfl, rfl, hax, small1000 (by rw [plen pl, ll]; omega), ?_⟩
        exact fin x.isChk rfl
    rintro σ H3 ⟨ck, k6, i7, rfl, s3, acc, l, hacc, pl, ll, hah, okl, sub, hds, top, chk⟩
    refine ⟨_, rfl, .inl ⟨D1, acc, rfl, SqL.of hacc, fun p hp => ?_⟩⟩
    have s4 := same_new hp (.tup acc)
    have sub28 : (l.flatMap I2.names).Sublist zs := sub.trans (List.take_sublist _ _)
    refine q l p acc _ (s1.trans (s3.trans s4)) upd_same (pl.tk (sTk s4)) ⟨by omega, by omega, okl, sub28.nodup hzd, fun z hz' => hzn z (sub28.subset hz'), hds, ?_, ?_⟩
    · refine List.pairwise_iff_getElem.mpr fun i j hi hj hij => ?_
      rw [List.length_map] at hi hj
      simp only [List.getElem_map]
      exact hzh (7 * i) (7 * j) _ _ (top i _ (List.getElem?_eq_getElem hi)) (top j _ (List.getElem?_eq_getElem hj)) (by omega) (by omega)
    · exact Nat.le_trans chk (by split <;> decide)
end
end Bm

set_option Elab.async false
set_option linter.all false
set_option maxRecDepth 100000
set_option maxHeartbeats 8000000
/-! files are written: plain items -/
namespace Bm
open PySem L2
/-! ### what is known: the last of a name counts -/
def PrAt (H : Hp) (v : V) (p : Str × Int) : Prop := ∃ t, v = .ref t ∧ H t = some (.tup [.str p.1, .int p.2])
theorem PrAt.tk {H H' : Hp} (s : Tk H H') {v : V} {p : Str × Int} (h : PrAt H v p) : PrAt H' v p := by
  obtain ⟨t, e, h⟩ := h; exact ⟨t, e, s _ _ h⟩
def findK (kn : List (Str × Int)) : Key → Int
  | .inl i => i
  | .inr z => kn.foldl (fun f p => if p.1 = z then p.2 else f) 0
theorem findK_mem (kn : List (Str × Int)) (z : Str) (Pr : Int → Prop) (h0 : Pr 0) (h : ∀ p ∈ kn, p.1 = z → Pr p.2) : Pr (findK kn (.inr z)) := by
  have : ∀ (l : List (Str × Int)) (f : Int), Pr f → (∀ p ∈ l, p.1 = z → Pr p.2) → Pr (l.foldl (fun f p => if p.1 = z then p.2 else f) f) := fun l => by
    induction l with
    | nil => exact fun f hf _ => hf
    | cons a r ih =>
      intro f hf hl
      rw [List.foldl_cons]
      refine ih _ ?_ fun p hp => hl p (List.mem_cons_of_mem _ hp)
      split
      · next e => exact hl a (List.mem_cons_self ..) e
      · exact hf
  exact this kn 0 h0 h
def spFind : Sp := fun vs H Q _ => ∃ (pk : Addr) (ks : List V) (kn : List (Str × Int)) (a : Key), vs = [.ref pk, kV a] ∧ H pk = some (.lst ks) ∧ Paired (PrAt H) ks kn ∧ Q (.int (findK kn a)) H
/-! ### all but one list is kept -/
def But (p : Addr) (H H' : Hp) : Prop := ∀ b o, b ≠ p → H b = some o → H' b = some o
theorem But.refl (p : Addr) (H : Hp) : But p H H := fun _ _ _ h => h
theorem But.trans {p : Addr} {H H1 H2 : Hp} (a : But p H H1) (b : But p H1 H2) : But p H H2 := fun c o n h => b c o n (a c o n h)
theorem But.of {p : Addr} {H H' : Hp} (s : Same H H') : But p H H' := fun _ _ _ h => s _ _ h
theorem But.tk {p : Addr} {xs : List V} {H H' : Hp} (h : H p = some (.lst xs)) (b : But p H H') : Tk H H' := fun c ys e => b c _ (ne_of e h (by intro z; cases z)) e
theorem But.wr (p : Addr) (H : Hp) (o : HO) : But p H (upd H p o) := fun b u n e => by rw [upd_ne n]; exact e
theorem But.nil {p q : Addr} {H H' : Hp} (b : But p H H') (n : q ≠ p) (h : H' q = none) : H q = none := by
  cases e : H q with
  | none => rfl
  | some o => rw [b q o n e] at h; cases h
theorem But.new {p q : Addr} {H : Hp} {o : HO} (h : H q = none) : But p H (upd H q o) := .of (same_new h o)
/-- the state of the writer: bytes, a count, what is known -/
structure StAt (H : Hp) (st b : Addr) (c : Int) (k : Addr) (bs : List Int) (kn : List (Str × Int)) : Prop where
  hs : H st = some (.lst [.ref b, .int c, .ref k])
  hb : H b = some (.lst (bs.map V.int))
  hk : ∃ ks, H k = some (.lst ks) ∧ Paired (PrAt H) ks kn
  nb : b ≠ st
  nk : k ≠ st
theorem StAt.put {H H' : Hp} {st b k : Addr} {c : Int} {bs : List Int} {kn : List (Str × Int)} (h : StAt H st b c k bs kn) (u : But st H H') {b' k' : Addr} {c' : Int} (e : H' st = some (.lst [.ref b', .int c', .ref k'])) (eb : b' = b) (ek : k' = k) : StAt H' st b' c' k' bs kn := by
  subst eb ek
  obtain ⟨ks, hk, pk⟩ := h.hk
  exact ⟨e, u _ _ h.nb h.hb, ⟨ks, u _ _ h.nk hk, L2.Paired.mapP pk fun _ _ q => q.tk (But.tk h.hs u)⟩, h.nb, h.nk⟩
theorem StAt.same {H H' : Hp} {st b k : Addr} {c : Int} {bs : List Int} {kn : List (Str × Int)} (h : StAt H st b c k bs kn) (s : Same H H') : StAt H' st b c k bs kn := h.put (.of s) (s _ _ h.hs) rfl rfl
def spTake : Sp := fun vs H Q _ => ∃ (pn st b k : Addr) (ns : List Int) (at0 many : Nat) (c : Int), vs = [.ref pn, .int (at0 : Int), .int (many : Int), .ref st] ∧ H pn = some (.lst (ns.map V.int)) ∧ Nb ns ∧ 0 < many ∧ many < 1000000 ∧ at0 + many ≤ ns.length ∧ pn ≠ st ∧ H st = some (.lst [.ref b, .int c, .ref k]) ∧
  ∀ r, 0 ≤ r → r < 1009 → Q (.int r) (upd H st (.lst [.ref b, .int (c + 1), .ref k]))
def Sm.okW : Sm → Prop
  | .num _ s o lo hi => 0 ≤ lo ∧ lo ≤ hi ∧ hi ≤ 65535 ∧ (s ≠ 2 → hi ≤ 255) ∧ (s = 2 → o = "big" ∨ o = "little")
  | .byt _ a => ∀ i, a = .inl i → 0 ≤ i ∧ i ≤ 65535
  | .txt _ s m => (0 ≤ s ∧ s ≤ 255) ∧ 0 ≤ m ∧ m ≤ 1000
  | .chk _ m => 1 ≤ m ∧ m ≤ 256
  | .pad _ m b => (1 ≤ m ∧ m ≤ 1000) ∧ 0 ≤ b ∧ b ≤ 255
def KnOk (kn : List (Str × Int)) : Prop := ∀ p ∈ kn, 0 ≤ p.2 ∧ p.2 ≤ 65535
def By (bs : List Int) : Prop := ∀ b ∈ bs, 0 ≤ b ∧ b ≤ 255
theorem By.app {a b : List Int} (h : By a) (g : By b) : By (a ++ b) := fun x hx => (List.mem_append.mp hx).elim (h x) (g x)
def wtS : Sm → Nat
  | .num .. => 2
  | .byt _ (.inl i) => i.toNat
  | .byt _ (.inr _) => 65535
  | .txt _ _ m => (m + 1).toNat
  | .chk .. => 1
  | .pad _ m _ => m.toNat
def Sm.simp : Sm → Prop
  | .num .. => True | .byt .. => True | .txt .. => True | _ => False
def spPutS : Sp := fun vs H Q _ => ∃ (v : V) (x : Sm) (pn st b k : Addr) (ns : List Int) (at0 many : Nat) (c : Int) (bs : List Int) (kn : List (Str × Int)), vs = [v, .ref pn, .int (at0 : Int), .int (many : Int), .ref st] ∧ SmAt H v x ∧ x.okW ∧ x.simp ∧ H pn = some (.lst (ns.map V.int)) ∧ Nb ns ∧ 0 < many ∧ many < 1000000 ∧ at0 + many ≤ ns.length ∧ pn ≠ st ∧
  StAt H st b c k bs kn ∧ KnOk kn ∧ kn.length ≤ 2000000 ∧
  ∀ (r : Addr) (ws : List Int) (c' : Int) (k' : Addr) (kn' : List (Str × Int)) H', But st H H' → StAt H' st b c' k' bs kn' → KnOk kn' → r ≠ st → H' r = some (.lst (ws.map V.int)) → By ws → ws.length ≤ wtS x → kn'.length ≤ kn.length + ws.length → Q (.ref r) H'
end Bm

set_option Elab.async false
set_option linter.all false
set_option maxRecDepth 100000
set_option maxHeartbeats 8000000
/-! files are written: blocks -/
namespace Bm
open PySem L2
def wtB (b : List Sm) : Nat := (b.map wtS).sum
def I2.wt : I2 → Nat
  | .sm x => wtS x
  | .rep _ _ b => 65535 * wtB b
  | .eit _ bs => (bs.map wtB).sum
  | .swi _ _ cs => (cs.map fun c => wtB c.2).sum
def wtL (l : List I2) : Nat := (l.map I2.wt).sum
def I2.okW : I2 → Prop
  | .sm x => x.okW
  | .rep _ a b => (∀ i, a = .inl i → 0 ≤ i ∧ i ≤ 65535) ∧ ∀ x ∈ b, x.okW
  | .eit _ bs => 1 ≤ bs.length ∧ ∀ b ∈ bs, ∀ x ∈ b, x.okW
  | .swi _ _ cs => cs.length ≤ 1000 ∧ ∀ c ∈ cs, ∀ x ∈ c.2, x.okW
def I2.flat : I2 → Prop
  | .sm _ => True
  | _ => False
theorem wtL_sm (b : List Sm) : wtL (b.map .sm) = wtB b := by
  unfold wtL wtB
  rw [List.map_map]
  rfl
theorem bk_its {H : Hp} {u : V} {b : List Sm} (h : BkAt H u b) : ∃ p xs, u = .ref p ∧ H p = some (.tup xs) ∧ ItsAt H xs (b.map .sm) := by
  obtain ⟨p, xs, e, hp, q⟩ := h
  refine ⟨p, xs, e, hp, ?_⟩
  clear hp e
  induction q with
  | nil => exact .nil
  | cons r t ih => exact .cons r ih
theorem sum_mem {α : Type} (f : α → Nat) : ∀ {l : List α} {x : α}, x ∈ l → f x ≤ (l.map f).sum
  | a :: r, x, h => by
    rw [List.map_cons, List.sum_cons]
    rcases List.mem_cons.mp h with rfl | h
    · omega
    · have := sum_mem f h; omega
/-- what the writer leaves -/
def Left (H : Hp) (st : Addr) (H' : Hp) (m : Nat) : Prop := But st H H' ∧ ∃ b c k bs kn, StAt H' st b c k bs kn ∧ KnOk kn ∧ By bs ∧ bs.length ≤ m ∧ kn.length ≤ bs.length
theorem Left.more {H H4 : Hp} {st b k b2 : Addr} {c : Int} {bs ws : List Int} {kn : List (Str × Int)} {m : Nat} (u : But st H H4) (sa : StAt H4 st b c k bs kn) (kok : KnOk kn) (byb : By bs) (wb : By ws) (len : bs.length + ws.length ≤ m) (kl : kn.length ≤ bs.length + ws.length) (g : H4 b2 = none) :
    Left H st (upd (upd H4 b2 (.lst (bs.map V.int ++ ws.map V.int))) st (.lst [.ref b2, .int c, .ref k])) m := by
  have n2 : b2 ≠ st := fun e => by rw [e, sa.hs] at g; cases g
  obtain ⟨ks, hk, pk⟩ := sa.hk
  have nk2 : k ≠ b2 := ne_of_none hk g
  have u2 : But st H4 (upd (upd H4 b2 (.lst (bs.map V.int ++ ws.map V.int))) st (.lst [.ref b2, .int c, .ref k])) := (But.new g).trans (.wr _ _ _)
  refine ⟨u.trans u2, b2, c, k, bs ++ ws, kn, ⟨upd_same, by rw [upd_ne n2, upd_same, List.map_append], ⟨ks, u2 _ _ sa.nk hk, L2.Paired.mapP pk fun _ _ z => z.tk (But.tk sa.hs u2)⟩, n2, sa.nk⟩, kok, byb.app wb, by rw [List.length_append]; exact len, by rw [List.length_append]; exact kl⟩
def spPutB (n : Nat) : Sp := fun vs H Q _ => ∃ (p pn st : Addr) (xs : List V) (l : List I2) (ns : List Int) (at0 many m : Nat), vs = [.ref p, .ref pn, .int (at0 : Int), .int (many : Int), .ref st] ∧ H p = some (.tup xs) ∧ ItsAt H xs l ∧ (∀ x ∈ l, x.okW ∧ (n = 0 → x.flat)) ∧ H pn = some (.lst (ns.map V.int)) ∧ Nb ns ∧ 0 < many ∧ many < 1000000 ∧ at0 + many ≤ ns.length ∧ pn ≠ st ∧
  Left H st H m ∧ m + wtL l ≤ 2000000 ∧ ∀ r H', Left H st H' (m + wtL l) → Q (.bl r) H'
/-! ### what is drawn can be written -/
theorem plain_okW {x : Sm} (h : x.plain) : x.okW ∧ wtS x ≤ 2 := by
  cases x with
  | num n s o lo hi =>
    obtain ⟨rfl, rfl, h1, h2, h3⟩ := h
    exact ⟨⟨h1, h2, by omega, fun _ => h3, fun z => by cases z⟩, Nat.le_refl _⟩
  | byt n a =>
    rcases h with rfl | rfl
    · exact ⟨fun i e => by cases e; decide, by simp [wtS]⟩
    · exact ⟨fun i e => by cases e; decide, by simp [wtS]⟩
  | _ => exact h.elim
theorem plain_wtB {b : List Sm} (h : ∀ x ∈ b, x.plain) : wtB b ≤ 2 * b.length := by
  unfold wtB
  induction b with
  | nil => simp
  | cons a r ih =>
    rw [List.map_cons, List.sum_cons, List.length_cons]
    have := (plain_okW (h a (List.mem_cons_self ..))).2
    have := ih fun x hx => h x (List.mem_cons_of_mem _ hx)
    omega
theorem ok_okW {x : I2} {ah : List Str} (h : x.ok ah) : x.okW ∧ x.wt ≤ 262140 := by
  cases x with
  | sm y => cases y with
    | num n s o lo hi =>
      obtain ⟨h1, h2, h3, h4⟩ := h
      exact ⟨⟨h2, h3, by omega, fun _ => by omega, fun _ => h1⟩, by simp [I2.wt, wtS]⟩
    | byt n a =>
      refine ⟨fun i e => ?_, ?_⟩
      · rcases h with ⟨j, e2, h1, h2⟩ | ⟨z, e2, _⟩
        · rw [e] at e2; cases e2; omega
        · rw [e] at e2; cases e2
      · rcases h with ⟨j, rfl, h1, h2⟩ | ⟨z, rfl, _⟩
        · simp only [I2.wt, wtS]; omega
        · simp only [I2.wt, wtS]; omega
    | txt n s m => obtain ⟨h1, h2⟩ := h; exact ⟨⟨h1, by omega, by omega⟩, by simp only [I2.wt, wtS]; omega⟩
    | chk n m => obtain ⟨h1, h2⟩ := h; exact ⟨⟨h1, by omega⟩, by simp [I2.wt, wtS]⟩
    | pad n m b => obtain ⟨h1, h2⟩ := h; exact ⟨⟨⟨by omega, by omega⟩, h2⟩, by simp only [I2.wt, wtS]; omega⟩
  | rep n a b =>
    obtain ⟨h1, h2, h3⟩ := h
    refine ⟨⟨fun i e => ?_, fun y hy => (plain_okW (h3 y hy)).1⟩, ?_⟩
    · rcases h1 with ⟨j, e2, q1, q2⟩ | ⟨z, e2, _⟩
      · rw [e] at e2; cases e2; omega
      · rw [e] at e2; cases e2
    · have := plain_wtB h3; simp only [I2.wt]; omega
  | eit n bs =>
    obtain ⟨h1, h2, h3⟩ := h
    refine ⟨⟨by omega, fun b hb y hy => (plain_okW ((h2 b hb).2 y hy)).1⟩, ?_⟩
    have : ∀ l : List (List Sm), (∀ b ∈ l, b.length ≤ 2 ∧ ∀ x ∈ b, x.plain) → (l.map wtB).sum ≤ 4 * l.length := fun l => by
      induction l with
      | nil => simp
      | cons a r ih =>
        intro hl
        rw [List.map_cons, List.sum_cons, List.length_cons]
        have := plain_wtB (hl a (List.mem_cons_self ..)).2
        have := (hl a (List.mem_cons_self ..)).1
        have := ih fun x hx => hl x (List.mem_cons_of_mem _ hx)
        omega
    have := this bs h2
    simp only [I2.wt]; omega
  | swi n t cs =>
    obtain ⟨h1, h2, h3, h4⟩ := h
    refine ⟨⟨by omega, fun c hc y hy => (plain_okW ((h3 c hc).2.2 y hy)).1⟩, ?_⟩
    have : ∀ l : List (Int × List Sm), (∀ c ∈ l, c.2.length ≤ 2 ∧ ∀ x ∈ c.2, x.plain) → (l.map fun c => wtB c.2).sum ≤ 4 * l.length := fun l => by
      induction l with
      | nil => simp
      | cons a r ih =>
        intro hl
        rw [List.map_cons, List.sum_cons, List.length_cons]
        have := plain_wtB (hl a (List.mem_cons_self ..)).2
        have := (hl a (List.mem_cons_self ..)).1
        have := ih fun x hx => hl x (List.mem_cons_of_mem _ hx)
        omega
    have := this cs fun c hc => (h3 c hc).2
    simp only [I2.wt]; omega
theorem okL_mem : ∀ {l : List I2} {ah : List Str} {x : I2}, OkL ah l → x ∈ l → ∃ ah', x.ok ah'
  | a :: r, ah, x, h, m => by
    rcases List.mem_cons.mp m with rfl | m
    · exact ⟨ah, h.1⟩
    · exact okL_mem h.2 m
theorem Drawn.okW {l : List I2} (h : Drawn l) : (∀ x ∈ l, x.okW) ∧ wtL l ≤ 2000000 := by
  refine ⟨fun x hx => by obtain ⟨ah, k⟩ := okL_mem h.ok hx; exact (ok_okW k).1, ?_⟩
  have : ∀ r : List I2, (∀ x ∈ r, x ∈ l) → wtL r ≤ 262140 * r.length := fun r => by
    induction r with
    | nil => intro _; exact Nat.le_refl _
    | cons a r ih =>
      intro hr
      obtain ⟨ah, k⟩ := okL_mem h.ok (hr a (List.mem_cons_self ..))
      have := (ok_okW k).2
      have := ih fun x hx => hr x (List.mem_cons_of_mem _ hx)
      unfold wtL at this ⊢
      rw [List.map_cons, List.sum_cons, List.length_cons]
      omega
  have := this l fun _ h => h
  have := h.n4
  omega
end Bm

set_option Elab.async false
set_option linter.all false
set_option maxRecDepth 100000
set_option maxHeartbeats 4000000
/-! how files are read: the reader of the laws, as a function -/
namespace Bm
open PySem L2
inductive SV where
  | num (i : Int)
  | byt (l : List Int)
abbrev C0 := List (Str × SV)
inductive Vl where
  | sm (s : SV)
  | rds (r : List C0)
  | tak (k : Nat) (c : C0)
  | con (c : C0)
abbrev C1 := List (Str × Vl)
structure Pt (α : Type) where
  at0 : Nat
  path : List Int
  vals : List (Str × α)
  known : List (Str × Int)
abbrev Stop := Int × Option Str
/-! ### one plain item -/
def num1 (lo hi : Int) (at0 : Nat) (value : Int) : Except Stop (Nat × Int) := if value < lo ∨ value > hi then .error ((at0 : Int), none) else .ok (at0 + 1, value)
def numRun (n : Str) (size : Int) (order : Str) (lo hi : Int) (f : List Int) (at0 : Nat) : Except Stop (Nat × Int) :=
  match f[at0]? with
  | none => .error ((at0 : Int), some n)
  | some b => if size = 2 then
      (if (if order = "little" then (hi - b) / 256 else hi - 256 * b) < 0 ∨ (if order = "little" then (lo - b + 255) / 256 else lo - 256 * b) > 255 ∨ (if order = "little" then (lo - b + 255) / 256 else lo - 256 * b) > (if order = "little" then (hi - b) / 256 else hi - 256 * b) then .error ((at0 : Int), none)
      else match f[at0 + 1]? with
        | none => .error (((at0 + 1 : Nat) : Int), some n)
        | some c => num1 lo hi (at0 + 1) (if order = "little" then b + 256 * c else 256 * b + c))
    else num1 lo hi at0 b
/-- a text: k bytes were looked at, m are left -/
def txtGo (n : Str) (stop : Int) (f : List Int) (at0 : Nat) (k : Nat) : Nat → Except Stop (Nat × List Int)
  | 0 => .error (((at0 + k : Nat) : Int) - 1, none)
  | m + 1 => match f[at0 + k]? with
    | none => .error ((f.length : Int), some n)
    | some b => if b = stop then .ok (at0 + k + 1, (f.drop at0).take k) else txtGo n stop f at0 (k + 1) m
/-- so many bytes that are told -/
def scanGo (n : Str) (byte : Int) (f : List Int) (at0 : Nat) (k : Nat) : Nat → Except Stop Unit
  | 0 => .ok ()
  | m + 1 => match f[at0 + k]? with
    | none => .error ((f.length : Int), some n)
    | some b => if b = byte then scanGo n byte f at0 (k + 1) m else .error (((at0 + k : Nat) : Int), none)
def padLen (at0 : Nat) (m : Int) : Nat := (-(at0 : Int) % m).toNat
def smRun (f : List Int) (at0 : Nat) (kn : List (Str × Int)) : Sm → Except Stop (Nat × Option SV)
  | .num n s o lo hi => (numRun n s o lo hi f at0).map fun r => (r.1, some (.num r.2))
  | .byt n a => if at0 + (findK kn a).toNat > f.length then .error ((f.length : Int), some n) else .ok (at0 + (findK kn a).toNat, some (.byt ((f.drop at0).take (findK kn a).toNat)))
  | .txt n s m => (txtGo n s f at0 0 (m + 1).toNat).map fun r => (r.1, some (.byt r.2))
  | .chk n m => (scanGo n ((f.take at0).sum % m) f at0 0 1).map fun _ => (at0 + 1, none)
  | .pad n m b => (scanGo n b f at0 0 (padLen at0 m)).map fun _ => (at0 + padLen at0 m, none)
def knOf : Sm → Option SV → List (Str × Int)
  | .num n .., some (.num v) => [(n, v)]
  | _, _ => []
def ptS {α : Type} (inj : SV → α) (f : List Int) (x : Sm) (p : Pt α) : List (Pt α) × List Stop :=
  match smRun f p.at0 p.known x with
  | .error s => ([], [s])
  | .ok (a, v) => ([⟨a, p.path, p.vals ++ (v.map fun v => (x.name, inj v)).toList, p.known ++ knOf x v⟩], [])
/-- item by item -/
def runL {α β : Type} (step : β → Pt α → List (Pt α) × List Stop) : List β → List (Pt α) → List (Pt α) × List Stop
  | [], ps => (ps, [])
  | x :: r, ps => ((runL step r (ps.flatMap fun p => (step x p).1)).1, (ps.flatMap fun p => (step x p).2) ++ (runL step r (ps.flatMap fun p => (step x p).1)).2)
def runS (f : List Int) (b : List Sm) (p : Pt SV) : List (Pt SV) × List Stop := runL (ptS id f) b [p]
/-! ### blocks -/
abbrev Rw := Nat × List Int × List C0
def rowStep (f : List Int) (b : List Sm) (kn : List (Str × Int)) (r : Rw) : List Rw × List Stop :=
  ((runS f b ⟨r.1, r.2.1, [], kn⟩).1.map fun t => (t.at0, t.path, r.2.2 ++ [t.vals]), (runS f b ⟨r.1, r.2.1, [], kn⟩).2)
def rounds (f : List Int) (b : List Sm) (kn : List (Str × Int)) : Nat → List Rw → List Rw × List Stop
  | 0, rs => (rs, [])
  | m + 1, rs => ((rounds f b kn m (rs.flatMap fun r => (rowStep f b kn r).1)).1, (rs.flatMap fun r => (rowStep f b kn r).2) ++ (rounds f b kn m (rs.flatMap fun r => (rowStep f b kn r).1)).2)
def eitGo (f : List Int) (n : Str) (p : Pt Vl) : Nat → List (List Sm) → List (Pt Vl) × List Stop
  | _, [] => ([], [])
  | k, b :: r => ((runS f b ⟨p.at0, p.path ++ [(k : Int)], [], p.known⟩).1.map (fun t => (⟨t.at0, t.path, p.vals ++ [(n, .tak k t.vals)], p.known⟩ : Pt Vl)) ++ (eitGo f n p (k + 1) r).1, (runS f b ⟨p.at0, p.path ++ [(k : Int)], [], p.known⟩).2 ++ (eitGo f n p (k + 1) r).2)
def stepI (f : List Int) (x : I2) (p : Pt Vl) : List (Pt Vl) × List Stop := match x with
  | .sm y => ptS Vl.sm f y p
  | .rep n a b => ((rounds f b p.known (findK p.known a).toNat [(p.at0, p.path, [])]).1.map fun r => ⟨r.1, r.2.1, p.vals ++ [(n, .rds r.2.2)], p.known⟩, (rounds f b p.known (findK p.known a).toNat [(p.at0, p.path, [])]).2)
  | .eit n bs => eitGo f n p 0 bs
  | .swi n t cs => match cs.find? fun c => c.1 = findK p.known (.inr t) with
    | none => ([], [((p.at0 : Int) - 1, none)])
    | some c => ((runS f c.2 ⟨p.at0, p.path, [], p.known⟩).1.map fun t => ⟨t.at0, t.path, p.vals ++ [(n, .con t.vals)], p.known⟩, (runS f c.2 ⟨p.at0, p.path, [], p.known⟩).2)
def runI (f : List Int) (l : List I2) (p : Pt Vl) : List (Pt Vl) × List Stop := runL (stepI f) l [p]
/-! ### in the heap -/
def SVAt (H : Hp) (v : V) : SV → Prop
  | .num i => v = .int i
  | .byt l => ∃ p, v = .ref p ∧ H p = some (.lst (l.map V.int))
def EnAt {α : Type} (R : Hp → V → α → Prop) (H : Hp) (v : V) (e : Str × α) : Prop := ∃ t u, v = .ref t ∧ H t = some (.tup [.str e.1, u]) ∧ R H u e.2
def CtAt {α : Type} (R : Hp → V → α → Prop) (H : Hp) (v : V) (c : List (Str × α)) : Prop := ∃ p xs, v = .ref p ∧ H p = some (.lst xs) ∧ Paired (EnAt R H) xs c
def VlAt (H : Hp) (v : V) : Vl → Prop
  | .sm s => SVAt H v s
  | .rds r => ∃ p xs, v = .ref p ∧ H p = some (.lst xs) ∧ Paired (CtAt SVAt H) xs r
  | .tak k c => ∃ t u, v = .ref t ∧ H t = some (.tup [.int (k : Int), u]) ∧ CtAt SVAt H u c
  | .con c => CtAt SVAt H v c
/-- kept where all is kept -/
def Mon {α : Type} (R : Hp → V → α → Prop) : Prop := ∀ (H H' : Hp) (v : V) (x : α), Same H H' → R H v x → R H' v x
theorem mon_sv : Mon SVAt := fun H H' v x s h => by
  cases x with
  | num i => exact h
  | byt l => obtain ⟨p, e, hp⟩ := h; exact ⟨p, e, s _ _ hp⟩
theorem mon_en {α : Type} {R : Hp → V → α → Prop} (m : Mon R) : Mon (EnAt R) := fun _ _ _ _ s h => by
  obtain ⟨t, u, e, ht, hu⟩ := h; exact ⟨t, u, e, s _ _ ht, m _ _ _ _ s hu⟩
theorem mon_ct {α : Type} {R : Hp → V → α → Prop} (m : Mon R) : Mon (CtAt R) := fun _ _ _ _ s h => by
  obtain ⟨p, xs, e, hp, q⟩ := h; exact ⟨p, xs, e, s _ _ hp, L2.Paired.mapP q fun _ _ k => mon_en m _ _ _ _ s k⟩
theorem mon_vl : Mon VlAt := fun H H' v x s h => by
  cases x with
  | sm y => exact mon_sv _ _ _ y s h
  | rds r => obtain ⟨p, xs, e, hp, q⟩ := h; exact ⟨p, xs, e, s _ _ hp, L2.Paired.mapP q fun _ _ k => mon_ct mon_sv _ _ _ _ s k⟩
  | tak k c => obtain ⟨t, u, e, ht, q⟩ := h; exact ⟨t, u, e, s _ _ ht, mon_ct mon_sv _ _ _ _ s q⟩
  | con c => exact mon_ct mon_sv _ _ _ _ s h
def PtAt {α : Type} (R : Hp → V → α → Prop) (H : Hp) (v : V) (p : Pt α) : Prop := ∃ t pp vv kk vs ks, v = .ref t ∧ H t = some (.tup [.int (p.at0 : Int), .ref pp, .ref vv, .ref kk]) ∧ H pp = some (.tup (p.path.map V.int)) ∧ H vv = some (.lst vs) ∧ Paired (EnAt R H) vs p.vals ∧ H kk = some (.lst ks) ∧ Paired (PrAt H) ks p.known
theorem mon_pt {α : Type} {R : Hp → V → α → Prop} (m : Mon R) : Mon (PtAt R) := fun _ _ _ _ s h => by
  obtain ⟨t, pp, vv, kk, vs, ks, e, h1, h2, h3, h4, h5, h6⟩ := h
  exact ⟨t, pp, vv, kk, vs, ks, e, s _ _ h1, s _ _ h2, s _ _ h3, L2.Paired.mapP h4 fun _ _ k => mon_en m _ _ _ _ s k, s _ _ h5, L2.Paired.mapP h6 fun _ _ k => k.tk (sTk s)⟩
def stV : Option Str → V
  | none => .non
  | some z => .str z
def SpAt (H : Hp) (v : V) (s : Stop) : Prop := ∃ t, v = .ref t ∧ H t = some (.tup [.int s.1, stV s.2])
theorem mon_sp : Mon SpAt := fun _ _ _ _ s h => by
  obtain ⟨t, e, h⟩ := h; exact ⟨t, e, s _ _ h⟩
/-- what was new stays so: own lists are not taken in -/
def Nu (G H G' : Hp) : Prop := ∀ b, G b = none → H b ≠ none → G' b = none
/-- what stood at the beginning, and what is new -/
def mix (G H H' : Hp) : Hp := fun b => match G b with
  | some o => some o
  | none => match H b with
    | none => H' b
    | some _ => none
theorem mix_old {G H H' : Hp} {b : Addr} {o : HO} (h : G b = some o) : mix G H H' b = some o := by unfold mix; rw [h]
theorem mix_new {G H H' : Hp} {b : Addr} {o : HO} (sG : Same G H) (h : H b = none) (h2 : H' b = some o) : mix G H H' b = some o := by
  unfold mix
  rw [sG.free h, h]
  exact h2
theorem mix_in {G H H' : Hp} {b : Addr} {o : HO} (e : mix G H H' b = some o) : G b = some o ∨ (G b = none ∧ H b = none ∧ H' b = some o) := by
  unfold mix at e
  cases c : G b with
  | some u => rw [c] at e; exact .inl e
  | none =>
    rw [c] at e
    cases d : H b with
    | none => rw [d] at e; exact .inr ⟨rfl, rfl, e⟩
    | some u => rw [d] at e; cases e
theorem mix_nu {G H H' : Hp} : Nu G H (mix G H H') := fun b h1 h2 => by
  unfold mix
  rw [h1]
  cases d : H b with
  | none => exact absurd d h2
  | some u => rfl
/-! ### how many -/
def PtOk {α : Type} (f : List Int) (p : Pt α) : Prop := p.at0 ≤ f.length ∧ KnOk p.known ∧ p.known.length ≤ 100000 ∧ p.vals.length ≤ 100000
end Bm

set_option Elab.async false
set_option linter.all false
set_option maxRecDepth 100000
set_option maxHeartbeats 8000000
/-! plain items are read -/
namespace Bm
open PySem L2
def spRunS (ok : Sm → Prop) : Sp := fun vs H Q _ => ∃ (v vp : V) (pf st : Addr) (G : Hp) (α : Type) (R : Hp → V → α → Prop) (inj : SV → α) (x : Sm) (f : List Int) (p : Pt α) (sts : List V), vs = [v, .ref pf, vp, .ref st] ∧ Mon R ∧ (∀ H v s, SVAt H v s → R H v (inj s)) ∧ SmAt G v x ∧ x.okW ∧ ok x ∧ G pf = some (.lst (f.map V.int)) ∧ By f ∧ f.length ≤ 2000000 ∧ PtAt R G vp p ∧ PtOk f p ∧ Same G H ∧ G st = none ∧ H st = some (.lst sts) ∧ sts.length ≤ 100000 ∧
  ∀ r ps nst G' H', Same G G' → Same G' H' → Nu G H G' → But st H H' → G' r = some (.lst ps) → Paired (PtAt R G') ps (ptS inj f x p).1 → H' st = some (.lst (sts ++ nst)) → Paired (SpAt G') nst (ptS inj f x p).2 → Q (.ref r) H'
/-- a part is refused -/
theorem stop_go {α : Type} {R : Hp → V → α → Prop} {inj : SV → α} {f : List Int} {x : Sm} {p : Pt α} {G H H1 : Hp} {st t r : Addr} {sts : List V} {Q : VK} {s : Stop} (sG : Same G H) (gs : G st = none) (s1 : Same H H1) (hs : H st = some (.lst sts)) (e : ptS inj f x p = ([], [s])) (ht : H1 t = none) (hr : (upd (upd H1 t (.tup [.int s.1, stV s.2])) st (.lst (sts ++ [.ref t]))) r = none)
    (q : ∀ r ps nst G' H', Same G G' → Same G' H' → Nu G H G' → But st H H' → G' r = some (.lst ps) → Paired (PtAt R G') ps (ptS inj f x p).1 → H' st = some (.lst (sts ++ nst)) → Paired (SpAt G') nst (ptS inj f x p).2 → Q (.ref r) H') :
    Q (.ref r) (upd (upd (upd H1 t (.tup [.int s.1, stV s.2])) st (.lst (sts ++ [.ref t]))) r (.lst [])) := by
  have nts : t ≠ st := fun z => by have := s1 _ _ hs; rw [← z, ht] at this; cases this
  have nrs : r ≠ st := fun z => by rw [z, upd_same] at hr; cases hr
  have nrt : r ≠ t := fun z => by rw [z, upd_ne nts, upd_same] at hr; cases hr
  have hr1 : H1 r = none := by rw [upd_ne nrs, upd_ne nrt] at hr; exact hr
  have hr0 : H r = none := s1.free hr1
  have ht0 : H t = none := s1.free ht
  refine q r [] [.ref t] (upd (upd G t (.tup [.int s.1, stV s.2])) r (.lst [])) _ ?_ ?_ ?_ ?_ upd_same ?_ ?_ ?_
  · intro b o e
    rw [upd_ne (fun z => by rw [z] at e; have := sG _ _ e; rw [hr0] at this; cases this), upd_ne (fun z => by rw [z] at e; have := sG _ _ e; rw [ht0] at this; cases this)]
    exact e
  · intro b o e
    by_cases h1 : b = r
    · rw [h1, upd_same] at e ⊢; exact e
    · rw [upd_ne h1] at e ⊢
      by_cases h2 : b = t
      · rw [h2, upd_same] at e; rw [h2, upd_ne nts, upd_same]; exact e
      · rw [upd_ne h2] at e
        have h3 : b ≠ st := fun z => by rw [z, gs] at e; cases e
        rw [upd_ne h3, upd_ne h2]
        exact s1 _ _ (sG _ _ e)
  · intro b h1 h2
    rw [upd_ne (fun z => h2 (by rw [z]; exact hr0)), upd_ne (fun z => h2 (by rw [z]; exact ht0))]
    exact h1
  · intro b o n e
    rw [upd_ne (ne_of_none e hr0), upd_ne n, upd_ne (ne_of_none e ht0)]
    exact s1 _ _ e
  · rw [e]; exact .nil
  · rw [upd_ne nrs.symm, upd_same]
  · rw [e]; exact .cons ⟨t, rfl, by rw [upd_ne nrt.symm]; exact upd_same⟩ .nil
/-- a part goes on -/
theorem goes_go {α : Type} {R : Hp → V → α → Prop} {inj : SV → α} {f : List Int} {x : Sm} {p p' : Pt α} {G H H' : Hp} {st r : Addr} {sts : List V} {v' : V} {Q : VK} (sG : Same G H) (s1 : Same H H') (hs : H st = some (.lst sts)) (e : ptS inj f x p = ([p'], [])) (hr : H r = none) (hr' : H' r = some (.lst [v'])) (hp : PtAt R (mix G H H') v' p')
    (q : ∀ r ps nst G' H', Same G G' → Same G' H' → Nu G H G' → But st H H' → G' r = some (.lst ps) → Paired (PtAt R G') ps (ptS inj f x p).1 → H' st = some (.lst (sts ++ nst)) → Paired (SpAt G') nst (ptS inj f x p).2 → Q (.ref r) H') : Q (.ref r) H' := by
  refine q r [v'] [] (mix G H H') H' (fun b o e => mix_old e) (fun b o e => (mix_in e).elim (fun h => s1 _ _ (sG _ _ h)) fun h => h.2.2) mix_nu (.of s1) (mix_new sG hr hr') ?_ (by rw [List.append_nil]; exact s1 _ _ hs) ?_
  · rw [e]; exact .cons hp .nil
  · rw [e]; exact .nil
theorem or_if {p q : Prop} [Decidable p] [Decidable q] {X Y Z : Prop} (k : (if decide q = true then X else Y) → Z) (h1 : p ∨ q → X) (h2 : ¬ (p ∨ q) → Y) : if decide p = true then (if true = true then X else Y) else Z := by
  by_cases hp : p
  · rw [if_pos (decide_eq_true hp)]; exact iteT (h1 (.inl hp))
  · rw [if_neg (by simpa using hp)]
    refine k ?_
    by_cases hq : q
    · rw [if_pos (decide_eq_true hq)]; exact h1 (.inr hq)
    · rw [if_neg (by simpa using hq)]; exact h2 (fun h => h.elim hp hq)
theorem in_at {f : List Int} {i : Nat} {b : Int} (h : f[i]? = some b) : atI (f.map V.int) (i : Int) = some (.int b) := atI_nat (by rw [List.getElem?_map, h]; rfl)
end Bm

set_option Elab.async false
set_option linter.all false
set_option maxRecDepth 100000
set_option maxHeartbeats 4000000
/-! the reader as a function: lengths, and plain blocks among the others -/
namespace Bm
open PySem L2
def liftE (e : Str × SV) : Str × Vl := (e.1, .sm e.2)
def liftP (p : Pt SV) : Pt Vl := ⟨p.at0, p.path, p.vals.map liftE, p.known⟩
theorem ptS_lift (f : List Int) (y : Sm) (p : Pt SV) : ptS Vl.sm f y (liftP p) = ((ptS id f y p).1.map liftP, (ptS id f y p).2) := by
  unfold ptS
  show (match smRun f p.at0 p.known y with | .error s => _ | .ok (a, v) => _) = _
  cases smRun f p.at0 p.known y with
  | error s => rfl
  | ok r =>
    obtain ⟨a, v⟩ := r
    cases v with
    | none => simp [liftP]
    | some v => simp [liftP, liftE]
theorem flatMap_map_eq {α β γ : Type} (g : α → β) (h : β → List γ) (l : List α) : (l.map g).flatMap h = l.flatMap fun a => h (g a) := by
  rw [List.flatMap_map]
theorem run_lift (f : List Int) : ∀ (b : List Sm) (ps : List (Pt SV)), runL (stepI f) (b.map .sm) (ps.map liftP) = ((runL (ptS id f) b ps).1.map liftP, (runL (ptS id f) b ps).2)
  | [], ps => rfl
  | y :: r, ps => by
    have e1 : (ps.map liftP).flatMap (fun p => (stepI f (.sm y) p).1) = (ps.flatMap fun p => (ptS id f y p).1).map liftP := by
      rw [List.flatMap_map, List.map_flatMap]
      refine congrArg (fun g => List.flatMap g ps) (funext fun p => ?_)
      show (ptS Vl.sm f y (liftP p)).1 = _
      rw [ptS_lift]
    have e2 : (ps.map liftP).flatMap (fun p => (stepI f (.sm y) p).2) = ps.flatMap fun p => (ptS id f y p).2 := by
      rw [List.flatMap_map]
      refine congrArg (fun g => List.flatMap g ps) (funext fun p => ?_)
      show (ptS Vl.sm f y (liftP p)).2 = _
      rw [ptS_lift]
    rw [List.map_cons, runL, e1, e2, run_lift f r, runL]
theorem runI_block (f : List Int) (b : List Sm) (p : Pt SV) : runI f (b.map .sm) (liftP p) = ((runS f b p).1.map liftP, (runS f b p).2) := run_lift f b [p]
/-! ### how many -/
theorem ptS_len {α : Type} (inj : SV → α) (f : List Int) (y : Sm) (p : Pt α) : (ptS inj f y p).1.length + (ptS inj f y p).2.length = 1 := by
  unfold ptS
  cases smRun f p.at0 p.known y with
  | error s => rfl
  | ok r => rfl
theorem flatMap_len {α β : Type} (h : α → List β) (k : Nat) (l : List α) (hk : ∀ a ∈ l, (h a).length ≤ k) : (l.flatMap h).length ≤ k * l.length := by
  induction l with
  | nil => simp
  | cons a r ih =>
    rw [List.flatMap_cons, List.length_append, List.length_cons, Nat.mul_succ]
    have := hk a (List.mem_cons_self ..)
    have := ih fun b hb => hk b (List.mem_cons_of_mem _ hb)
    omega
theorem flat2_len {α β γ : Type} (g : α → List β) (h : α → List γ) (l : List α) (hk : ∀ a ∈ l, (g a).length + (h a).length ≤ 1) : (l.flatMap g).length + (l.flatMap h).length ≤ l.length := by
  induction l with
  | nil => simp
  | cons a r ih =>
    rw [List.flatMap_cons, List.flatMap_cons, List.length_append, List.length_append, List.length_cons]
    have := hk a (List.mem_cons_self ..)
    have := ih fun b hb => hk b (List.mem_cons_of_mem _ hb)
    omega
theorem runL1_len (f : List Int) : ∀ (b : List Sm) (ps : List (Pt SV)), (runL (ptS id f) b ps).1.length + (runL (ptS id f) b ps).2.length ≤ ps.length
  | [], ps => by simp [runL]
  | y :: r, ps => by
    have a := runL1_len f r (ps.flatMap fun p => (ptS id f y p).1)
    have c := flat2_len (fun p => (ptS id f y p).1) (fun p => (ptS id f y p).2) ps fun p _ => Nat.le_of_eq (ptS_len id f y p)
    rw [runL]
    simp only [List.length_append]
    omega
theorem runS_len (f : List Int) (b : List Sm) (p : Pt SV) : (runS f b p).1.length + (runS f b p).2.length ≤ 1 := runL1_len f b [p]
theorem rowStep_len (f : List Int) (b : List Sm) (kn : List (Str × Int)) (r : Rw) : (rowStep f b kn r).1.length + (rowStep f b kn r).2.length ≤ 1 := by
  unfold rowStep
  rw [List.length_map]
  exact runS_len ..
theorem rounds_len (f : List Int) (b : List Sm) (kn : List (Str × Int)) : ∀ (m : Nat) (rs : List Rw), (rounds f b kn m rs).1.length + (rounds f b kn m rs).2.length ≤ rs.length
  | 0, rs => by simp [rounds]
  | m + 1, rs => by
    have a := rounds_len f b kn m (rs.flatMap fun r => (rowStep f b kn r).1)
    have c := flat2_len (fun r => (rowStep f b kn r).1) (fun r => (rowStep f b kn r).2) rs fun r _ => rowStep_len f b kn r
    rw [rounds]
    simp only [List.length_append]
    omega
theorem eitGo_len (f : List Int) (n : Str) (p : Pt Vl) : ∀ (bs : List (List Sm)) (k : Nat), (eitGo f n p k bs).1.length + (eitGo f n p k bs).2.length ≤ bs.length
  | [], k => by simp [eitGo]
  | b :: r, k => by
    have a := eitGo_len f n p r (k + 1)
    have c := runS_len f b ⟨p.at0, p.path ++ [(k : Int)], [], p.known⟩
    rw [eitGo, List.length_append, List.length_append, List.length_map, List.length_cons]
    omega
def I2.okR : I2 → Prop
  | .sm _ => True
  | .rep _ _ b => b.length ≤ 4
  | .eit _ bs => bs.length ≤ 3 ∧ ∀ b ∈ bs, b.length ≤ 4
  | .swi _ _ cs => ∀ c ∈ cs, c.2.length ≤ 4
theorem step_len (f : List Int) (x : I2) (p : Pt Vl) (h : x.okR) : (stepI f x p).1.length + (stepI f x p).2.length ≤ 3 := by
  cases x with
  | sm y => have := ptS_len Vl.sm f y p; simp only [stepI]; omega
  | rep n a b =>
    have := rounds_len f b p.known (findK p.known a).toNat [(p.at0, p.path, [])]
    simp only [stepI, List.length_map, List.length_cons, List.length_nil] at this ⊢
    omega
  | eit n bs => have := eitGo_len f n p bs 0; have h := h.1; simp only [stepI]; omega
  | swi n t cs =>
    simp only [stepI]
    split
    · simp
    · next c _ =>
      have := runS_len f c.2 ⟨p.at0, p.path, [], p.known⟩
      simp only [List.length_map]
      omega
/-! ### parts stay in bounds -/
def PtC {α : Type} (f : List Int) (c : Nat) (p : Pt α) : Prop := p.at0 ≤ f.length ∧ KnOk p.known ∧ p.known.length ≤ c ∧ p.vals.length ≤ c ∧ p.path.length ≤ c
theorem PtC.mono {α : Type} {f : List Int} {c d : Nat} {p : Pt α} (h : PtC f c p) (k : c ≤ d) : PtC f d p := ⟨h.1, h.2.1, by have := h.2.2.1; omega, by have := h.2.2.2.1; omega, by have := h.2.2.2.2; omega⟩
theorem num1_ok {lo hi v : Int} {a : Nat} {r : Nat × Int} (h : num1 lo hi a v = .ok r) : r.1 = a + 1 ∧ lo ≤ r.2 ∧ r.2 ≤ hi := by
  unfold num1 at h
  split at h
  · cases h
  · next c => cases h; simp only [not_or] at c; exact ⟨rfl, by omega, by omega⟩
theorem get_lt {f : List Int} {i : Nat} {b : Int} (h : f[i]? = some b) : i < f.length := by
  apply Decidable.byContradiction
  intro k
  rw [List.getElem?_eq_none (by omega)] at h; cases h
theorem numRun_ok {n o : Str} {s lo hi : Int} {f : List Int} {a : Nat} {r : Nat × Int} (h : numRun n s o lo hi f a = .ok r) : r.1 ≤ f.length ∧ lo ≤ r.2 ∧ r.2 ≤ hi := by
  unfold numRun at h
  cases hb : f[a]? with
  | none => rw [hb] at h; cases h
  | some b =>
    rw [hb] at h
    have h0 := get_lt hb
    simp only at h
    by_cases c2 : s = 2
    · rw [if_pos c2] at h
      generalize (if o = "little" then (hi - b) / 256 else hi - 256 * b) = high at h
      generalize (if o = "little" then (lo - b + 255) / 256 else lo - 256 * b) = low at h
      by_cases c3 : high < 0 ∨ low > 255 ∨ low > high
      · rw [if_pos c3] at h; cases h
      · rw [if_neg c3] at h
        cases hc : f[a + 1]? with
        | none => rw [hc] at h; cases h
        | some c =>
          rw [hc] at h
          have h1 := get_lt hc
          obtain ⟨e, k⟩ := num1_ok h
          exact ⟨by omega, k⟩
    · rw [if_neg c2] at h
      obtain ⟨e, k⟩ := num1_ok h
      exact ⟨by omega, k⟩
theorem txtGo_ok {n : Str} {stop : Int} {f : List Int} {a : Nat} : ∀ {m k : Nat} {r : Nat × List Int}, txtGo n stop f a k m = .ok r → r.1 ≤ f.length
  | 0, k, r, h => by rw [txtGo] at h; cases h
  | m + 1, k, r, h => by
    rw [txtGo] at h
    cases hb : f[a + k]? with
    | none => rw [hb] at h; cases h
    | some b =>
      rw [hb] at h
      simp only at h
      have := get_lt hb
      split at h
      · cases h; show a + k + 1 ≤ _; omega
      · exact txtGo_ok h
theorem scanGo_ok {n : Str} {byte : Int} {f : List Int} {a : Nat} : ∀ {m k : Nat}, scanGo n byte f a k m = .ok () → a + k ≤ f.length → a + k + m ≤ f.length
  | 0, k, _, g => by omega
  | m + 1, k, h, g => by
    rw [scanGo] at h
    cases hb : f[a + k]? with
    | none => rw [hb] at h; cases h
    | some b =>
      rw [hb] at h
      simp only at h
      have := get_lt hb
      split at h
      · have := scanGo_ok h (by omega); omega
      · cases h
theorem map_ok {ε α β : Type} {g : α → β} {e : Except ε α} {r : β} (h : e.map g = .ok r) : ∃ a, e = .ok a ∧ r = g a := by
  cases e with
  | error s => cases h
  | ok a => cases h; exact ⟨a, rfl, rfl⟩
theorem smRun_ok {f : List Int} {a : Nat} {kn : List (Str × Int)} {y : Sm} {r : Nat × Option SV} (h : smRun f a kn y = .ok r) (g : a ≤ f.length) : r.1 ≤ f.length := by
  cases y with
  | num n s o lo hi => obtain ⟨q, e, rfl⟩ := map_ok h; exact (numRun_ok e).1
  | byt n am =>
    simp only [smRun] at h
    split at h
    · cases h
    · cases h; simp only; omega
  | txt n s m => obtain ⟨q, e, rfl⟩ := map_ok h; exact txtGo_ok e
  | chk n m => obtain ⟨q, e, rfl⟩ := map_ok h; have := scanGo_ok (k := 0) e (by omega); simp only; omega
  | pad n m b => obtain ⟨q, e, rfl⟩ := map_ok h; have := scanGo_ok (k := 0) e (by omega); simp only; omega
theorem ptS_c {α : Type} {inj : SV → α} {f : List Int} {y : Sm} {p p' : Pt α} {c : Nat} (w : y.okW) (h : PtC f c p) (m : p' ∈ (ptS inj f y p).1) : PtC f (c + 1) p' := by
  unfold ptS at m
  cases e : smRun f p.at0 p.known y with
  | error s => rw [e] at m; cases m
  | ok r =>
    obtain ⟨a, v⟩ := r
    rw [e] at m
    simp only [List.mem_singleton] at m
    subst m
    obtain ⟨h1, h2, h3, h4, h5⟩ := h
    refine ⟨smRun_ok e h1, ?_, ?_, ?_, by show p.path.length ≤ c + 1; omega⟩
    · intro q hq
      rcases List.mem_append.mp hq with hq1 | hq2
      · exact h2 q hq1
      · cases y with
        | num n s o lo hi =>
          obtain ⟨r, er, e2⟩ := map_ok e
          cases e2
          simp only [knOf, List.mem_singleton] at hq2
          subst hq2
          obtain ⟨w1, w2, w3, _⟩ := w
          obtain ⟨_, g1, g2⟩ := numRun_ok er
          exact ⟨by show 0 ≤ r.2; omega, by show r.2 ≤ 65535; omega⟩
        | _ => simp [knOf] at hq2
    · rw [List.length_append]
      have : (knOf y v).length ≤ 1 := by
        unfold knOf
        split <;> simp
      show p.known.length + _ ≤ c + 1
      omega
    · rw [List.length_append]
      have : ((v.map fun v => (y.name, inj v)).toList).length ≤ 1 := by cases v <;> simp
      show p.vals.length + _ ≤ c + 1
      omega
end Bm

set_option Elab.async false
set_option linter.all false
set_option maxRecDepth 100000
set_option maxHeartbeats 8000000
/-! blocks are read, item by item -/
namespace Bm
open PySem L2
/-- what stands for good (G), grown since G0, H0; st is written on -/
structure Wd (G0 H0 : Hp) (st : Addr) (G H : Hp) : Prop where
  gg : Same G0 G
  gh : Same G H
  nu : Nu G0 H0 G
  bt : But st H0 H
  gs : G st = none
theorem Wd.free {G0 H0 G H : Hp} {st a : Addr} (w : Wd G0 H0 st G H) (h : H a = none) (hs : H st ≠ none) : H0 a = none ∧ a ≠ st := by
  have n : a ≠ st := fun e => hs (by rw [← e]; exact h)
  exact ⟨w.bt.nil n h, n⟩
theorem Wd.new {G0 H0 G H : Hp} {st a : Addr} {o : HO} (w : Wd G0 H0 st G H) (h : H a = none) (hs : H st ≠ none) : Wd G0 H0 st (upd G a o) (upd H a o) := by
  obtain ⟨f1, f2⟩ := w.free h hs
  have ga : G a = none := w.gh.free h
  refine ⟨fun b u e => ?_, fun b u e => ?_, fun b h1 h2 => ?_, fun b u n e => ?_, ?_⟩
  · rw [upd_ne (ne_of_none (w.gg _ _ e) ga)]; exact w.gg _ _ e
  · by_cases c : b = a
    · rw [c, upd_same] at e ⊢; exact e
    · rw [upd_ne c] at e ⊢; exact w.gh _ _ e
  · rw [upd_ne (fun z => h2 (by rw [z]; exact f1))]; exact w.nu b h1 h2
  · rw [upd_ne (ne_of_none e f1)]; exact w.bt _ _ n e
  · rw [upd_ne f2.symm]; exact w.gs
theorem Wd.call {G0 H0 G H G' H' : Hp} {st : Addr} (w : Wd G0 H0 st G H) (hs : H st ≠ none) (s1 : Same G G') (s2 : Same G' H') (nu : Nu G H G') (b : But st H H') : Wd G0 H0 st G' H' := by
  refine ⟨w.gg.trans s1, s2, fun c h1 h2 => nu c (w.nu c h1 h2) ?_, w.bt.trans b, nu st w.gs hs⟩
  by_cases e : c = st
  · rw [e]; exact hs
  · cases k : H0 c with
    | none => exact absurd k h2
    | some o => rw [w.bt _ _ e k]; exact fun z => by cases z
theorem Wd.wr {G0 H0 G H : Hp} {st a : Addr} {o : HO} (w : Wd G0 H0 st G H) (ga : G a = none) (h : H0 a = none ∨ a = st) : Wd G0 H0 st G (upd H a o) := by
  refine ⟨w.gg, fun b u e => ?_, w.nu, fun b u n e => ?_, w.gs⟩
  · rw [upd_ne (ne_of_none e ga)]; exact w.gh _ _ e
  · rw [upd_ne (fun z => h.elim (fun h => by rw [z, h] at e; cases e) fun h => n (z.trans h))]; exact w.bt _ _ n e
theorem Wd.start {G H : Hp} {st : Addr} (sG : Same G H) (gs : G st = none) : Wd G H st G H := ⟨Same.refl _, sG, fun _ h _ => h, .refl _ _, gs⟩
theorem runL_snoc {α β : Type} (step : β → Pt α → List (Pt α) × List Stop) (x : β) : ∀ (l : List β) (ps : List (Pt α)), runL step (l ++ [x]) ps = (((runL step l ps).1.flatMap fun p => (step x p).1), (runL step l ps).2 ++ (runL step l ps).1.flatMap fun p => (step x p).2)
  | [], ps => by simp [runL]
  | y :: r, ps => by rw [List.cons_append, runL, runL_snoc step x r, runL]; simp [List.append_assoc]
theorem runI_len (f : List Int) (p : Pt Vl) : ∀ (l : List I2) (i : Nat), (∀ x ∈ l, x.okR) → (runL (stepI f) (l.take i) [p]).1.length ≤ 3 ^ i ∧ (runL (stepI f) (l.take i) [p]).2.length ≤ 2 * 3 ^ i := fun l i h => by
  induction i with
  | zero => simp [runL]
  | succ i ih =>
    cases e : l[i]? with
    | none => rw [List.take_add_one, e, Option.toList, List.append_nil]; have := Nat.pow_succ (n := 3) (m := i); omega
    | some x =>
      rw [List.take_add_one, e, Option.toList, runL_snoc]
      have hx := h x (List.mem_of_getElem? e)
      have a1 := flatMap_len (fun p => (stepI f x p).1) 3 (runL (stepI f) (l.take i) [p]).1 fun p _ => by have := step_len f x p hx; omega
      have a2 := flatMap_len (fun p => (stepI f x p).2) 3 (runL (stepI f) (l.take i) [p]).1 fun p _ => by have := step_len f x p hx; omega
      simp only [List.length_append]
      rw [Nat.pow_succ]
      omega
theorem runLc {f : List Int} : ∀ {b : List Sm} {ps : List (Pt SV)} {c : Nat} {p' : Pt SV}, (∀ y ∈ b, y.okW) → (∀ p ∈ ps, PtC f c p) → p' ∈ (runL (ptS id f) b ps).1 → PtC f (c + b.length) p'
  | [], ps, c, p', _, h, m => h p' m
  | y :: r, ps, c, p', w, h, m => by
    rw [runL] at m
    have := runLc (c := c + 1) (fun z hz => w z (List.mem_cons_of_mem _ hz)) (fun p hp => by
      obtain ⟨q, hq, hp⟩ := List.mem_flatMap.mp hp
      exact ptS_c (w y (List.mem_cons_self ..)) (h q hq) hp) m
    rw [List.length_cons]
    exact this.mono (by omega)
theorem runSc {f : List Int} {b : List Sm} {p p' : Pt SV} {c : Nat} (w : ∀ y ∈ b, y.okW) (h : PtC f c p) (m : p' ∈ (runS f b p).1) : PtC f (c + b.length) p' := runLc w (fun q hq => by rw [List.mem_singleton.mp hq]; exact h) m
theorem runL_path {f : List Int} : ∀ {b : List Sm} {ps : List (Pt SV)} {z : List Int} {p' : Pt SV}, (∀ p ∈ ps, p.path = z) → p' ∈ (runL (ptS id f) b ps).1 → p'.path = z
  | [], ps, z, p', h, m => h p' m
  | y :: r, ps, z, p', h, m => by
    rw [runL] at m
    refine runL_path (fun p hp => ?_) m
    obtain ⟨q, hq, hp⟩ := List.mem_flatMap.mp hp
    have e : p.path = q.path := by
      unfold ptS at hp
      cases c : smRun f q.at0 q.known y with
      | error s => rw [c] at hp; cases hp
      | ok r => rw [c] at hp; simp only [List.mem_singleton] at hp; rw [hp]
    rw [e]; exact h q hq
theorem runS_path {f : List Int} {b : List Sm} {p p' : Pt SV} (m : p' ∈ (runS f b p).1) : p'.path = p.path := runL_path (fun q hq => by rw [List.mem_singleton.mp hq]) m
theorem roundsc {f : List Int} {b : List Sm} {kn : List (Str × Int)} {z : List Int} (w : ∀ y ∈ b, y.okW) (k : KnOk kn) : ∀ {m : Nat} {rs : List Rw} {r : Rw}, (∀ r ∈ rs, r.1 ≤ f.length ∧ r.2.1 = z) → r ∈ (rounds f b kn m rs).1 → r.1 ≤ f.length ∧ r.2.1 = z
  | 0, rs, r, h, hm => h r hm
  | m + 1, rs, r, h, hm => by
    rw [rounds] at hm
    refine roundsc w k (m := m) (fun q hq => ?_) hm
    obtain ⟨r0, hr0, hq⟩ := List.mem_flatMap.mp hq
    unfold rowStep at hq
    obtain ⟨t, ht, rfl⟩ := List.mem_map.mp hq
    have h0 := h r0 hr0
    exact ⟨(runSc (c := kn.length + r0.2.1.length) w ⟨h0.1, k, by show kn.length ≤ _; omega, Nat.zero_le _, by show r0.2.1.length ≤ _; omega⟩ ht).1, (runS_path ht).trans h0.2⟩
theorem eitGoc {f : List Int} {n : Str} {p p' : Pt Vl} {c : Nat} (h : PtC f c p) : ∀ {bs : List (List Sm)} {k : Nat}, (∀ b ∈ bs, ∀ y ∈ b, y.okW) → p' ∈ (eitGo f n p k bs).1 → PtC f (c + 1) p'
  | [], k, _, m => by simp [eitGo] at m
  | b :: r, k, w, m => by
    rw [eitGo] at m
    rcases List.mem_append.mp m with m | m
    · obtain ⟨t, ht, rfl⟩ := List.mem_map.mp m
      have := (runSc (c := c + 1) (w b (List.mem_cons_self ..)) ⟨h.1, h.2.1, (by have := h.2.2.1; show p.known.length ≤ _; omega), Nat.zero_le _, (by have := h.2.2.2.2; simp only [List.length_append, List.length_singleton]; omega)⟩ ht).1
      exact ⟨this, h.2.1, by have := h.2.2.1; show p.known.length ≤ _; omega, by have := h.2.2.2.1; simp only [List.length_append, List.length_singleton]; omega, by have := h.2.2.2.2; show t.path.length ≤ _; rw [runS_path ht]; simp only [List.length_append, List.length_singleton]; omega⟩
    · exact eitGoc h (fun b hb => w b (List.mem_cons_of_mem _ hb)) m
theorem step_c {f : List Int} {x : I2} {p p' : Pt Vl} {c : Nat} (w : x.okW) (h : PtC f c p) (m : p' ∈ (stepI f x p).1) : PtC f (c + 1) p' := by
  cases x with
  | sm y => exact ptS_c w h m
  | rep n a b =>
    obtain ⟨r, hr, rfl⟩ := List.mem_map.mp m
    have := roundsc (f := f) (z := p.path) w.2 h.2.1 (fun q hq => by rw [List.mem_singleton.mp hq]; exact ⟨h.1, rfl⟩) hr
    exact ⟨this.1, h.2.1, by have := h.2.2.1; show p.known.length ≤ _; omega, by have := h.2.2.2.1; simp only [List.length_append, List.length_singleton]; omega, by have hp := h.2.2.2.2; show r.2.1.length ≤ _; rw [this.2]; omega⟩
  | eit n bs => exact eitGoc h w.2 m
  | swi n t cs =>
    simp only [stepI] at m
    split at m
    · simp at m
    · next cc e =>
      obtain ⟨q, hq, rfl⟩ := List.mem_map.mp m
      have := (runSc (c := c) (w.2 cc (List.mem_of_find?_eq_some e)) ⟨h.1, h.2.1, h.2.2.1, Nat.zero_le _, h.2.2.2.2⟩ hq).1
      exact ⟨this, h.2.1, by have := h.2.2.1; show p.known.length ≤ _; omega, by have := h.2.2.2.1; simp only [List.length_append, List.length_singleton]; omega, by have := h.2.2.2.2; show q.path.length ≤ _; rw [runS_path hq]; show p.path.length ≤ _; omega⟩
theorem runIc {f : List Int} : ∀ {l : List I2} {ps : List (Pt Vl)} {c : Nat} {p' : Pt Vl}, (∀ y ∈ l, y.okW) → (∀ p ∈ ps, PtC f c p) → p' ∈ (runL (stepI f) l ps).1 → PtC f (c + l.length) p'
  | [], ps, c, p', _, h, m => h p' m
  | y :: r, ps, c, p', w, h, m => by
    rw [runL] at m
    have := runIc (c := c + 1) (fun z hz => w z (List.mem_cons_of_mem _ hz)) (fun p hp => by
      obtain ⟨q, hq, hp⟩ := List.mem_flatMap.mp hp
      exact step_c (w y (List.mem_cons_self ..)) (h q hq) hp) m
    rw [List.length_cons]
    exact this.mono (by omega)
/-- an item with blocks -/
def spRunK (n : Nat) : Sp := fun vs H Q _ => ∃ (v vp : V) (pf st : Addr) (G : Hp) (x : I2) (f : List Int) (p : Pt Vl) (sts : List V) (c : Nat), vs = [v, .ref pf, vp, .ref st] ∧ I2At G v x ∧ x.okW ∧ x.okR ∧ ¬ x.flat ∧ G pf = some (.lst (f.map V.int)) ∧ By f ∧ f.length ≤ 2000000 ∧ PtAt VlAt G vp p ∧ PtC f c p ∧ c ≤ 55000 ∧ Same G H ∧ G st = none ∧ H st = some (.lst sts) ∧ sts.length ≤ 60000 ∧
  ∀ r ps nst G' H', Same G G' → Same G' H' → Nu G H G' → But st H H' → G' r = some (.lst ps) → Paired (PtAt VlAt G') ps (stepI f x p).1 → H' st = some (.lst (sts ++ nst)) → Paired (SpAt G') nst (stepI f x p).2 → Q (.ref r) H'
def spRunB (n : Nat) : Sp := fun vs H Q _ => ∃ (pb : Addr) (vp : V) (pf st : Addr) (G : Hp) (xs : List V) (l : List I2) (f : List Int) (p : Pt Vl) (sts : List V) (c : Nat), vs = [.ref pb, .ref pf, vp, .ref st] ∧ G pb = some (.tup xs) ∧ ItsAt G xs l ∧ (∀ x ∈ l, x.okW ∧ x.okR ∧ (n = 0 → x.flat)) ∧ l.length ≤ 4 ∧ G pf = some (.lst (f.map V.int)) ∧ By f ∧ f.length ≤ 2000000 ∧ PtAt VlAt G vp p ∧ PtC f c p ∧ c + 10000 * n ≤ 60000 ∧ Same G H ∧ G st = none ∧ H st = some (.lst sts) ∧ sts.length + 20000 * n ≤ 70000 ∧
  ∀ r ps nst G' H', Same G G' → Same G' H' → Nu G H G' → But st H H' → G' r = some (.lst ps) → Paired (PtAt VlAt G') ps (runI f l p).1 → H' st = some (.lst (sts ++ nst)) → Paired (SpAt G') nst (runI f l p).2 → Q (.ref r) H'
def RbIn (pb pf st pl2 : Addr) (vp v : V) (G0 H0 G3 : Hp) (sts nst : List V) (P : List (Pt Vl)) (S : List Stop) (σ : L2.St) (H' : Hp) : Prop := ∃ (fo : Addr) (i7 i8 : Option V) (G' : Hp) (fs ns2 : List V), σ = [some (.ref pb), some (.ref pf), some vp, some (.ref st), some (.ref pl2), some v, some (.ref fo), i7, i8] ∧ Same G3 G' ∧ Wd G0 H0 st G' H' ∧ H' st = some (.lst (sts ++ (nst ++ ns2))) ∧ G' fo = some (.lst fs) ∧ Paired (PtAt VlAt G') fs P ∧ Paired (SpAt G') ns2 S
theorem kind_in (y : Sm) (h : y.kind ≠ "number") : y.kind = "bytes" ∨ y.kind = "text" ∨ y.kind = "check" ∨ y.kind = "pad" := by
  cases y with
  | num => exact absurd rfl h
  | byt => exact .inl rfl
  | txt => exact .inr (.inl rfl)
  | chk => exact .inr (.inr (.inl rfl))
  | pad => exact .inr (.inr (.inr rfl))
end Bm

set_option Elab.async false
set_option linter.all false
set_option maxRecDepth 100000
set_option maxHeartbeats 8000000
/-! items with blocks are read -/
namespace Bm
open PySem L2
theorem rounds_snoc (f : List Int) (b : List Sm) (kn : List (Str × Int)) : ∀ (m : Nat) (rs : List Rw), rounds f b kn (m + 1) rs = (((rounds f b kn m rs).1.flatMap fun r => (rowStep f b kn r).1), (rounds f b kn m rs).2 ++ (rounds f b kn m rs).1.flatMap fun r => (rowStep f b kn r).2)
  | 0, rs => by simp [rounds]
  | m + 1, rs => by rw [rounds, rounds_snoc f b kn m, rounds]; simp [List.append_assoc]
def eitOne (f : List Int) (n : Str) (p : Pt Vl) (k : Nat) (b : List Sm) : List (Pt Vl) × List Stop := ((runS f b ⟨p.at0, p.path ++ [(k : Int)], [], p.known⟩).1.map (fun t => (⟨t.at0, t.path, p.vals ++ [(n, .tak k t.vals)], p.known⟩ : Pt Vl)), (runS f b ⟨p.at0, p.path ++ [(k : Int)], [], p.known⟩).2)
theorem eitGo_snoc (f : List Int) (n : Str) (p : Pt Vl) (b : List Sm) : ∀ (bs : List (List Sm)) (k : Nat), eitGo f n p k (bs ++ [b]) = ((eitGo f n p k bs).1 ++ (eitOne f n p (k + bs.length) b).1, (eitGo f n p k bs).2 ++ (eitOne f n p (k + bs.length) b).2)
  | [], k => by simp [eitGo, eitOne]
  | a :: r, k => by
    rw [List.cons_append, eitGo, eitGo_snoc f n p b r, eitGo, List.length_cons, show k + 1 + r.length = k + (r.length + 1) by omega]
    simp [List.append_assoc]
/-- an own list is taken in -/
theorem Wd.take {G0 H0 G H : Hp} {st a : Addr} {o : HO} (w : Wd G0 H0 st G H) (ga : G a = none) (h0 : H0 a = none) (n : a ≠ st) (h : H a = some o) : Wd G0 H0 st (upd G a o) H := by
  refine ⟨fun b u e => ?_, fun b u e => ?_, fun b h1 h2 => ?_, w.bt, ?_⟩
  · rw [upd_ne (ne_of_none (w.gg _ _ e) ga)]; exact w.gg _ _ e
  · by_cases c : b = a
    · rw [c, upd_same] at e; rw [c, h, e]
    · rw [upd_ne c] at e; exact w.gh _ _ e
  · rw [upd_ne (fun z => h2 (by rw [z]; exact h0))]; exact w.nu b h1 h2
  · rw [upd_ne n.symm]; exact w.gs
theorem Wd.alloc {G0 H0 G H : Hp} {st a : Addr} {o : HO} (w : Wd G0 H0 st G H) (h : H a = none) (hs : H st ≠ none) : ∃ G', Wd G0 H0 st G' (upd H a o) ∧ Same G G' ∧ G' a = some o ∧ ∀ D, G D = none → H D ≠ none → G' D = none :=
  ⟨upd G a o, w.new h hs, fun b u e => by rw [upd_ne (ne_of_none e (w.gh.free h))]; exact e, upd_same, fun D h1 h2 => by rw [upd_ne (fun z => h2 (by rw [z]; exact h))]; exact h1⟩
theorem Wd.same {G0 H0 G H H' : Hp} {st : Addr} (w : Wd G0 H0 st G H) (s : Same H H') : Wd G0 H0 st G H' := ⟨w.gg, w.gh.trans s, w.nu, w.bt.trans (.of s), w.gs⟩
theorem unlift {G : Hp} : ∀ {xs : List V} {c : C0}, Paired (EnAt VlAt G) xs (c.map liftE) → Paired (EnAt SVAt G) xs c
  | [], [], .nil => .nil
  | _ :: _, e :: r, .cons h t => .cons (by obtain ⟨t, u, e1, e2, e3⟩ := h; exact ⟨t, u, e1, e2, e3⟩) (unlift t)
/-- a part of a plain block -/
theorem lift_at {G : Hp} {v : V} {t : Pt SV} (h : PtAt VlAt G v (liftP t)) : ∃ a pp vv kk vs, v = .ref a ∧ G a = some (.tup [.int (t.at0 : Int), .ref pp, .ref vv, .ref kk]) ∧ G pp = some (.tup (t.path.map V.int)) ∧ G vv = some (.lst vs) ∧ Paired (EnAt SVAt G) vs t.vals := by
  obtain ⟨a, pp, vv, kk, vs, ks, e, h1, h2, h3, h4, _, _⟩ := h
  exact ⟨a, pp, vv, kk, vs, e, h1, h2, h3, unlift h4⟩
theorem map_pget {α β : Type} {F : V → β → Prop} {g : α → β} : ∀ {xs : List V} {ys : List α}, Paired F xs (ys.map g) → ∀ {i : Nat} {x : V}, xs[i]? = some x → ∃ y, ys[i]? = some y ∧ F x (g y)
  | [], [], .nil, i, x, h => by simp at h
  | _ :: _, _ :: _, .cons r t, 0, x, h => by simp at h; subst h; exact ⟨_, rfl, r⟩
  | _ :: _, _ :: _, .cons r t, i + 1, x, h => by
    simp at h
    obtain ⟨y, e, f⟩ := map_pget t h
    exact ⟨y, by simpa using e, f⟩
def RwAt (G : Hp) (v : V) (r : Rw) : Prop := ∃ t pp cc cs, v = .ref t ∧ G t = some (.tup [.int (r.1 : Int), .ref pp, .ref cc]) ∧ G pp = some (.tup (r.2.1.map V.int)) ∧ G cc = some (.lst cs) ∧ Paired (CtAt SVAt G) cs r.2.2
theorem mon_rw : Mon RwAt := fun _ _ _ _ s h => by
  obtain ⟨t, pp, cc, cs, e, h1, h2, h3, h4⟩ := h
  exact ⟨t, pp, cc, cs, e, s _ _ h1, s _ _ h2, s _ _ h3, L2.Paired.mapP h4 fun _ _ k => mon_ct mon_sv _ _ _ _ s k⟩
theorem catGo {K : PySem.W.Frag} {a b : Addr} {xs ys : List V} {H : Hp} {Q : VK} (ha : SqT K H a xs) (hb : SqT K H b ys) (hz : xs.length + ys.length ≤ sizeLine) (hy : ys ≠ []) (h : ∀ q H', (q = b ∧ H' = H ∧ xs = []) ∨ (H q = none ∧ H' = upd H q (.tup (xs ++ ys))) → Q (.ref q) H') : rCatA K (.ref a) (.ref b) H Q :=
  ⟨a, b, xs, ys, rfl, rfl, ha, hb, hz, fun e => h b H (.inl ⟨rfl, rfl, e⟩), fun _ e => absurd e hy, fun _ _ p hp => h p _ (.inr ⟨hp, rfl⟩)⟩
theorem rounds_rds {f : List Int} {b : List Sm} {kn : List (Str × Int)} {z : Nat} : ∀ {m : Nat} {rs : List Rw} {r : Rw}, (∀ r ∈ rs, r.2.2.length = z) → r ∈ (rounds f b kn m rs).1 → r.2.2.length = z + m
  | 0, rs, r, h, hm => h r hm
  | m + 1, rs, r, h, hm => by
    rw [rounds] at hm
    rw [rounds_rds (z := z + 1) (m := m) (fun q hq => ?_) hm]
    · omega
    · obtain ⟨r0, hr0, hq⟩ := List.mem_flatMap.mp hq
      unfold rowStep at hq
      obtain ⟨t, ht, rfl⟩ := List.mem_map.mp hq
      show (r0.2.2 ++ [t.vals]).length = _
      rw [List.length_append, h r0 hr0]; rfl
theorem nilGo {σ : L2.St} {H : Hp} {k : List V → Hp → Prop} (h : k [] H) : tNil σ H k := h
end Bm

set_option Elab.async false
set_option linter.all false
set_option maxRecDepth 100000
set_option maxHeartbeats 8000000
/-! a whole file is read -/
namespace Bm
open PySem L2
/-- all that a file means, and the stops -/
def readF (f : List Int) (l : List I2) : List (Pt Vl) × List Stop := runI f l ⟨0, [], [], []⟩
def readE (f : List Int) (l : List I2) : List (Pt Vl) := (readF f l).1.filter fun p => decide (p.at0 = f.length)
def readZ (f : List Int) (l : List I2) : List Stop := (readF f l).2 ++ ((readF f l).1.filter fun p => decide (p.at0 < f.length)).map fun p => ((p.at0 : Int), none)
def MnAt (H : Hp) (v : V) (p : Pt Vl) : Prop := ∃ t pp vv vs, v = .ref t ∧ H t = some (.tup [.ref pp, .ref vv]) ∧ H pp = some (.tup (p.path.map V.int)) ∧ H vv = some (.lst vs) ∧ Paired (EnAt VlAt H) vs p.vals
theorem mon_mn : Mon MnAt := fun _ _ _ _ s h => by
  obtain ⟨t, pp, vv, vs, e, h1, h2, h3, h4⟩ := h
  exact ⟨t, pp, vv, vs, e, s _ _ h1, s _ _ h2, s _ _ h3, L2.Paired.mapP h4 fun _ _ k => mon_en mon_vl _ _ _ _ s k⟩
def rLn (K : PySem.W.Frag) : List V → Hp → VK → Prop := fun xs H Q => ∃ p ys, xs = [.ref p] ∧ (SqL K H p ys ∨ SqT K H p ys) ∧ Q (.int ys.length) H
def spRun : Sp := fun vs H Q _ => ∃ (G : Hp) (pb pf : Addr) (xs : List V) (l : List I2) (f : List Int), vs = [.ref pb, .ref pf] ∧ Same G H ∧ G pb = some (.tup xs) ∧ ItsAt G xs l ∧ (∀ x ∈ l, x.okW ∧ x.okR) ∧ l.length ≤ 4 ∧ G pf = some (.lst (f.map V.int)) ∧ By f ∧ f.length ≤ 2000000 ∧
  ∀ t r s rs ss G' H', Same G G' → Same G' H' → Same H H' → Nu G H G' → G' t = some (.tup [.ref r, .ref s]) → G' r = some (.lst rs) → Paired (MnAt G') rs (readE f l) → G' s = some (.lst ss) → Paired (SpAt G') ss (readZ f l) → Q (.ref t) H'
end Bm

set_option Elab.async false
set_option linter.all false
set_option maxRecDepth 100000
set_option maxHeartbeats 8000000
/-! contents: what written files mean -/
namespace Bm
open PySem L2
theorem ok_okR {x : I2} {ah : List Str} (h : x.ok ah) : x.okR := by
  cases x with
  | sm y => trivial
  | rep n a b => show b.length ≤ 4; have := h.2.1.2; omega
  | eit n bs => exact ⟨h.1.2, fun b hb => by have := (h.2.1 b hb).1; omega⟩
  | swi n t cs => exact fun c hc => by have := (h.2.2.1 c hc).2.1; omega
theorem okL_in : ∀ {l : List I2} {ah : List Str}, OkL ah l → ∀ x ∈ l, ∃ ah, x.ok ah
  | [], _, _, x, hx => by cases hx
  | y :: r, ah, h, x, hx => by
    rcases List.mem_cons.mp hx with rfl | hx
    · exact ⟨_, h.1⟩
    · exact okL_in h.2 x hx
theorem Drawn.okR {l : List I2} (h : Drawn l) : ∀ x ∈ l, x.okR := fun x hx => by
  obtain ⟨_, h⟩ := okL_in h.ok x hx
  exact ok_okR h
/-- a meaning of a file -/
def Mean (l : List I2) (c : C1) : Prop := ∃ f p, By f ∧ f.length ≤ 40 ∧ p ∈ readE f l ∧ c = p.vals
def spCont : Sp := fun vs H Q _ => ∃ (pi pn : Addr) (xs : List V) (l : List I2) (ns : List Int) (at0 many : Nat), vs = [.ref pi, .ref pn, .int (at0 : Int), .int (many : Int)] ∧ H pi = some (.tup xs) ∧ ItsAt H xs l ∧ Drawn l ∧ H pn = some (.lst (ns.map V.int)) ∧ Nb ns ∧ many ≤ 100 ∧ at0 + 7 * many + 30 ≤ ns.length + 7 ∧
  ∀ r rs cs H', Same H H' → H' r = some (.lst rs) → Paired (CtAt VlAt H') rs cs → (∀ c ∈ cs, Mean l c) → cs.length ≤ 2 * many → Q (.ref r) H'
/-- all but one -/
def wo (H : Hp) (D : Addr) : Hp := fun b => if b = D then none else H b
theorem wo_none {H : Hp} {D : Addr} : wo H D D = none := if_pos rfl
theorem wo_ne {H : Hp} {D b : Addr} (h : b ≠ D) : wo H D b = H b := if_neg h
theorem wo_same {H : Hp} {D : Addr} : Same (wo H D) H := fun b o e => by
  by_cases c : b = D
  · rw [c, wo_none] at e; cases e
  · rw [wo_ne c] at e; exact e
theorem wo_up {G H : Hp} {D : Addr} (s : Same G H) (g : G D = none) : Same G (wo H D) := fun b o e => by
  rw [wo_ne (ne_of_none e g)]; exact s _ _ e
theorem ptake {α β : Type} {F : α → β → Prop} : ∀ {xs : List α} {ys : List β}, Paired F xs ys → ∀ n, Paired F (xs.take n) (ys.take n)
  | _, _, .nil, n => by rw [List.take_nil, List.take_nil]; exact .nil
  | _, _, .cons h t, 0 => .nil
  | _, _, .cons h t, n + 1 => .cons h (ptake t n)
end Bm

set_option Elab.async false
set_option linter.all false
set_option maxRecDepth 100000
set_option maxHeartbeats 8000000
/-! data as trees; copies -/
namespace Bm
open PySem L2
inductive Dt where
  | int (i : Int)
  | str (z : Str)
  | lst (l : List Dt)
  | tup (l : List Dt)
def DtAt : Nat → Hp → V → Dt → Prop
  | 0, _, v, .int i => v = .int i
  | 0, _, v, .str z => v = .str z
  | 0, _, _, .lst _ => False
  | 0, _, _, .tup _ => False
  | _ + 1, _, v, .int i => v = .int i
  | _ + 1, _, v, .str z => v = .str z
  | n + 1, H, v, .lst l => ∃ p xs, v = .ref p ∧ H p = some (.lst xs) ∧ Paired (DtAt n H) xs l ∧ l.length ≤ 100000
  | n + 1, H, v, .tup l => ∃ p xs, v = .ref p ∧ H p = some (.tup xs) ∧ Paired (DtAt n H) xs l ∧ l.length ≤ 100000
theorem dt_int {n : Nat} {H : Hp} {v : V} {i : Int} : DtAt n H v (.int i) ↔ v = .int i := by cases n <;> exact Iff.rfl
theorem dt_str {n : Nat} {H : Hp} {v : V} {z : Str} : DtAt n H v (.str z) ↔ v = .str z := by cases n <;> exact Iff.rfl
theorem mon_dt : ∀ {n : Nat} {H H' : Hp} {v : V} {d : Dt}, Same H H' → DtAt n H v d → DtAt n H' v d
  | n, _, _, _, .int i, _, h => dt_int.mpr (dt_int.mp h)
  | n, _, _, _, .str i, _, h => dt_str.mpr (dt_str.mp h)
  | 0, _, _, _, .lst _, _, h => h
  | 0, _, _, _, .tup _, _, h => h
  | n + 1, _, _, _, .lst l, s, h => by obtain ⟨p, xs, e, h, q, b⟩ := h; exact ⟨p, xs, e, s _ _ h, L2.Paired.mapP q fun _ _ k => mon_dt s k, b⟩
  | n + 1, _, _, _, .tup l, s, h => by obtain ⟨p, xs, e, h, q, b⟩ := h; exact ⟨p, xs, e, s _ _ h, L2.Paired.mapP q fun _ _ k => mon_dt s k, b⟩
def OdAt (n : Nat) (H : Hp) (v : V) : Option Dt → Prop
  | none => v = .non
  | some d => DtAt n H v d
theorem mon_od {n : Nat} {H H' : Hp} {v : V} {o : Option Dt} (s : Same H H') (h : OdAt n H v o) : OdAt n H' v o := by
  cases o with
  | none => exact h
  | some d => exact mon_dt s h
/-- a copy is new, through and through (in the ghost that grows) -/
def spCopy (n : Nat) : Sp := fun vs H Q _ => ∃ (G : Hp) (v : V) (d : Option Dt), vs = [v] ∧ Same G H ∧ OdAt n G v d ∧ ∀ u G' H', Same G G' → Same G' H' → Same H H' → Nu G H G' → OdAt n G' u d → (∀ p, u = .ref p → H p = none) → Q u H'
end Bm

set_option Elab.async false
set_option linter.all false
set_option maxRecDepth 100000
set_option maxHeartbeats 8000000
/-! values at spots -/
namespace Bm
open PySem L2
def kD : Key → Dt
  | .inl i => .int i
  | .inr z => .str z
/-- tuples are pairs, a number or a name ahead -/
inductive Wk : Dt → Prop where
  | int (i : Int) : Wk (.int i)
  | str (z : Str) : Wk (.str z)
  | lst {l : List Dt} (h : ∀ x ∈ l, Wk x) : Wk (.lst l)
  | pr (k : Key) {d : Dt} (h : Wk d) : Wk (.tup [kD k, d])
theorem Wk.l {l : List Dt} (h : Wk (.lst l)) : ∀ x ∈ l, Wk x := by cases h; assumption
theorem Wk.t {l : List Dt} (h : Wk (.tup l)) : ∃ k d, l = [kD k, d] ∧ Wk d := by cases h with | pr k h => exact ⟨k, _, rfl, h⟩
/-- what a pair is named by a name tells -/
def prN (z : Str) : Dt → Option Dt
  | .tup [.str a, d] => if a = z then some d else none
  | _ => none
def isL : Dt → Bool
  | .lst _ => true
  | _ => false
def win (k : Key) : Dt → Option Dt
  | .tup [.int i, d] => if k = .inl i then some d else none
  | .tup [.str z, d] => if k = .inr z then some d else none
  | .lst l => match k with
    | .inr z => (l.filterMap (prN z)).head?
    | .inl i => if 0 ≤ i ∧ i < l.length then (l[i.toNat]?).bind fun d => if isL d then some d else none else none
  | _ => none
def vat (d : Dt) (s : List Key) : Option Dt := s.foldl (fun o k => o.bind (win k)) (some d)
theorem win_tup (k k' : Key) (d : Dt) : win k (.tup [kD k', d]) = if k = k' then some d else none := by cases k' <;> rfl
theorem req_k {k k' : Key} {H : Hp} {Q : VK} (h : Q (.bl (decide (k' = k))) H) : rEq (kV k') (kV k) H Q := by
  cases k with
  | inl i => cases k' with
    | inl j => exact ⟨rfl, by simpa [kV] using h⟩
    | inr z => exact ⟨rfl, by simpa [kV] using h⟩
  | inr i => cases k' with
    | inl j => exact ⟨rfl, by simpa [kV] using h⟩
    | inr z => exact ⟨rfl, by simpa [kV] using h⟩
/-- deeper is no harm -/
theorem mon_dn : ∀ {n : Nat} {H : Hp} {v : V} {d : Dt}, DtAt n H v d → DtAt (n + 1) H v d
  | n, _, _, .int i, h => dt_int.mpr (dt_int.mp h)
  | n, _, _, .str i, h => dt_str.mpr (dt_str.mp h)
  | 0, _, _, .lst _, h => h.elim
  | 0, _, _, .tup _, h => h.elim
  | n + 1, _, _, .lst l, h => by obtain ⟨p, xs, e, h, q, b⟩ := h; exact ⟨p, xs, e, h, L2.Paired.mapP q fun _ _ k => mon_dn k, b⟩
  | n + 1, _, _, .tup l, h => by obtain ⟨p, xs, e, h, q, b⟩ := h; exact ⟨p, xs, e, h, L2.Paired.mapP q fun _ _ k => mon_dn k, b⟩
theorem wk_win {k : Key} {d d' : Dt} (h : Wk d) (e : win k d = some d') : Wk d' := by
  cases h with
  | int i => cases e
  | str z => cases e
  | @pr k' d h =>
    rw [win_tup] at e
    split at e
    · cases e; exact h
    · cases e
  | @lst l h =>
    cases k with
    | inl i =>
      have e : (if 0 ≤ i ∧ i < l.length then (l[i.toNat]?).bind fun d => if isL d then some d else none else none) = some d' := e
      split at e
      · cases c : l[i.toNat]? with
        | none => rw [c] at e; cases e
        | some x =>
          rw [c] at e
          have e : (if isL x then some x else none) = some d' := e
          split at e
          · cases e; exact h _ (List.mem_of_getElem? c)
          · cases e
      · cases e
    | inr z =>
      have e : (l.filterMap (prN z)).head? = some d' := e
      have m := List.mem_of_mem_head? e
      obtain ⟨x, hx, ex⟩ := List.mem_filterMap.mp m
      have wx := h x hx
      cases wx with
      | int i => cases ex
      | str i => cases ex
      | lst g => cases ex
      | @pr k'' d g =>
        cases k'' with
        | inl i => cases ex
        | inr a =>
          have ex : (if a = z then some d else none) = some d' := ex
          split at ex
          · cases ex; exact g
          · cases ex
end Bm

set_option Elab.async false
set_option linter.all false
set_option maxRecDepth 100000
set_option maxHeartbeats 4000000
/-! repr of data, where no repr is under way -/
namespace Bm
open PySem L2 PyProof.Rows
mutual
def pyD : Dt → PyData
  | .int i => .int i
  | .str z => .str z
  | .lst l => .list (pyDs l)
  | .tup l => .tuple (pyDs l)
def pyDs : List Dt → List PyData
  | [] => []
  | x :: r => pyD x :: pyDs r
end
section
variable {X : Cx} {pins : List (Addr × Obj)} {σ : L2.St} {H : Hp} {s : Shared}
mutual
theorem reads_dt (I : Inv X pins σ H s) : ∀ {d : Dt} {n : Nat} {v : V} {u : Value}, DtAt n H v d → RelV v u → (pyD d).depth ≤ n ∧ (pyD d).hasDict = false ∧ ∃ as, Reads s.heap u (pyD d) as
  | .int i, n, v, u, h, r => by
    obtain rfl := dt_int.mp h
    obtain ⟨t, rfl⟩ := (show ∃ t, u = Value.int i t from r)
    exact ⟨by simp [pyD, PyData.depth], by simp [pyD, PyData.hasDict], _, by rw [pyD]; exact .int i t⟩
  | .str z, n, v, u, h, r => by
    obtain rfl := dt_str.mp h
    obtain ⟨t, rfl⟩ := (show ∃ t, u = Value.str z t from r)
    exact ⟨by simp [pyD, PyData.depth], by simp [pyD, PyData.hasDict], _, by rw [pyD]; exact .str z t⟩
  | .lst l, 0, v, u, h, r => h.elim
  | .tup l, 0, v, u, h, r => h.elim
  | .lst l, n + 1, v, u, h, r => by
    obtain ⟨p, xs, rfl, hp, pl, ll⟩ := h
    cases (show u = Value.ref p from r)
    obtain ⟨its, rv, ⟨o, m, e, hc, hs, hd⟩, hz⟩ := I.list (SqL.of hp)
    obtain ⟨h1, h2, as, h3⟩ := reads_dts I pl rv
    exact ⟨by simp only [pyD, PyData.depth]; omega, by simp only [pyD, PyData.hasDict]; exact h2, _, by rw [pyD]; exact .list e hc hd (by simpa using h3)⟩
  | .tup l, n + 1, v, u, h, r => by
    obtain ⟨p, xs, rfl, hp, pl, ll⟩ := h
    cases (show u = Value.ref p from r)
    obtain ⟨its, rv, ⟨o, e, hc, m, hd⟩, hz⟩ := I.tuple (SqT.of hp)
    obtain ⟨h1, h2, as, h3⟩ := reads_dts I pl rv
    exact ⟨by simp only [pyD, PyData.depth]; omega, by simp only [pyD, PyData.hasDict]; exact h2, _, by rw [pyD]; exact .tuple e hc hd (by simpa using h3)⟩
theorem reads_dts (I : Inv X pins σ H s) : ∀ {l : List Dt} {n : Nat} {xs : List V} {us : List Value}, Paired (DtAt n H) xs l → Vals xs us → PyData.depthAll (pyDs l) ≤ n ∧ PyData.hasDictAll (pyDs l) = false ∧ ∃ as, ReadsAll s.heap us (pyDs l) as
  | [], n, _, _, .nil, .nil => ⟨by simp [pyDs, PyData.depthAll], by simp [pyDs, PyData.hasDictAll], _, by rw [pyDs]; exact .nil⟩
  | d :: l, n, _, _, .cons h t, .cons r q => by
    obtain ⟨a1, a2, as, a3⟩ := reads_dt I h r
    obtain ⟨b1, b2, bs, b3⟩ := reads_dts I t q
    exact ⟨by simp only [pyDs, PyData.depthAll]; omega, by simp only [pyDs, PyData.hasDictAll, a2, b2]; rfl, _, by rw [pyDs]; exact .cons a3 b3⟩
end
def rRep : List V → Hp → VK → Prop := fun xs H Q => ∃ (n : Nat) (x : V) (d : Dt), xs = [x] ∧ DtAt n H x d ∧ n ≤ 8 ∧ (pyD d).showable = true ∧ (pyD d).shown.length ≤ sizeLine ∧ (∀ z, d ≠ .str z) ∧ Q (.str (pyD d).shown) H
theorem call_rep (hg : X.A.guards = some []) (hu : X.A.units + 9 < cLine) : CallR X (.builtin "repr") rRep := by
  intro pins s σ H xs us Q I r h
  obtain ⟨n, x, d, rfl, hd, n8, hs, hl, hz, q⟩ := h
  obtain ⟨u, rfl, rx⟩ := vals1 r
  have big : ∀ a, u = .ref a → wpAny (model X.prog X.w) X.A (call (.builtin "repr") [u]) (EP X pins σ Q) X.xe s := fun a e => by
    obtain ⟨h1, h2, as, h3⟩ := reads_dt I hd rx
    subst e
    exact repr_of_reads' h3 hs (PyData.noDict_hsm h2) hg (by omega) (fun b o e => e) (fun h' t tk k => ⟨.str _, H, I.kept k, ⟨_, rfl⟩, q⟩) hl
  cases d with
  | int i =>
    obtain rfl := dt_int.mp hd
    obtain ⟨t, rfl⟩ := (show ∃ t, u = Value.int i t from rx)
    have hs : i.natAbs.log2 < 1920 := by simpa [pyD, PyData.showable] using hs
    have q : Q (.str (toString i)) H := by simpa [pyD, PyData.shown] using q
    exact PySem.P.repr_of_int hs ⟨.str _, H, I.tok _, ⟨_, rfl⟩, q⟩
  | str z => exact (hz z rfl).elim
  | lst l =>
    cases n with
    | zero => exact hd.elim
    | succ n =>
    obtain ⟨p, xs, rfl, _⟩ := id hd
    exact big p rx
  | tup l =>
    cases n with
    | zero => exact hd.elim
    | succ n =>
    obtain ⟨p, xs, rfl, _⟩ := id hd
    exact big p rx
end
end Bm

set_option Elab.async false
set_option linter.all false
set_option maxRecDepth 100000
set_option maxHeartbeats 4000000
/-! a law that asks for repr: its promise where no repr is under way (the caller's place is such) -/
namespace Bm
open PySem L2 PySem.Spec PyProof.Rows
/-- FnOk, where no repr is under way -/
structure FnG (P : Program) (w : World) (K : PySem.W.Frag) (mg : Str → Option Value) (base : Heap) (k : Nat) (f : Addr) (fd : FuncData) (ps : List Str) (sp : Sp) : Prop where
  run : ∀ (A : Around) (outer : List Env) (s : Shared) (H : Hp) (args : Args) (us : List Value) (vs : List V) (Q : VK) (E : XK), A.guards = some [] → Room k A → Env0 P w K mg base A outer s H → BindsTo s fd args (ps.zip us) → Vals vs us → sp vs H Q E →
    codeAny (model P w) A (.call (.ref f) args) (CR CX0 outer P w H s Q E) s
theorem okG {P : Program} {w : World} {K : PySem.W.Frag} {mg : Str → Option Value} {base : Heap} {x qual : Str} {st : Stmt} {f : Addr} {fd : FuncData} {N ps : List Str} {k : Nat} {sp : Sp} (F : Fun K x qual st f fd) (S : FnScope N ps (defScope st)) (len : ∀ vs H Q E, sp vs H Q E → vs.length = ps.length)
    (hbody : ∀ (cdv : Value) (A : Around) (outer : List Env) (s : Shared) (H : Hp) (vs : List V) (Q : VK) (E : XK), A.guards = some [] → Room k (A.deeper (envOfC qual (defScope st) s.heap.objs.size f cdv)) → sp vs H Q E →
      ∃ t, PSs (cxOf CX0 P w K mg base N qual (defScope st) f cdv A outer s H E).nox (defBody st) t ∧ t { nx := fun _ H' => Q .non H', rt := Q } (start N vs) H) : FnG P w K mg base (k + 1) f fd ps sp := by
  obtain ⟨oc, od, kV, doc, pm, an, cdv, ct, osl, rfl, lk, hcd⟩ := F.ex
  refine ⟨fun A outer s H args us vs Q E hA hr e0 hb r hsp => ?_⟩
  have hl := len _ _ _ _ hsp
  have old := fun b o e => (e0.bs b o e).1
  refine codeAny_call_function hr.depth (e0.mod.kin.keeps old _ _ lk) rfl S.co S.gen rfl (PySem.W.codeRec_of (e0.mod.kin.keeps old) hcd) (hb _ _ _ _ ?_)
  have hkind : ∀ y ∈ ps.zip us, (defScope st).names.lookup y.1 = some .local ∨ ((defScope st).names.lookup y.1 = some .cell ∧ ((cellsFrom (s.heap.objs.size + 1) (defScope st).names []).lookup y.1).isSome = true) := by
    rintro ⟨n, v⟩ hy
    exact (S.par n (List.of_mem_zip hy).1).imp id fun q => ⟨q, PySem.W.cellsFrom_some _ _ _ (.inl q)⟩
  refine wpAny_newFunctionEnv_cells S.kind hkind fun env he s1 z => ?_
  subst he
  refine ⟨(e0.mod.nolimit.keeps old).keeps z.toInCall.keep, codeAny_func ?_⟩
  obtain ⟨t, ht, hq⟩ := hbody cdv A outer s H vs Q E hA (hr.deeper _) hsp
  refine wpAny_mono (ht.nox.run [] s1 (start N vs) H _ (inv_start S hr.hd e0 hl r z) hq) (fun fl s' hs => ?_) fun e s' hs => hs
  cases fl with
  | ret u => obtain ⟨v, σ', H', J, rv, q⟩ := hs; exact ⟨v, H', J.os, J.bare, J.base, J.hok, rv, q⟩
  | next => obtain ⟨σ', H', J, q⟩ := hs; exact ⟨.non, H', J.os, J.bare, J.base, J.hok, rfl, q⟩
  | brk => obtain ⟨_, _, _, q⟩ := hs; exact False.elim q
  | cont => obtain ⟨_, _, _, q⟩ := hs; exact False.elim q
/-- the call of the law from the caller's place; sp is asked at a heap where at most the script is tracked -/
theorem law_callG {P : Program} {w : World} {K : PySem.W.Frag} {mg mb : Str → Option Value} {k : Nat} {fa a : Addr} {fd : FuncData} {x : Str} {sp : Sp} {s₁ : Shared} {vs : List Value} {ns : List Int}
    (KX : K.In s₁.heap) (hns : s₁.heap.Ns mainGlobals mg) (hb : s₁.heap.Ns builtinsNs mb) (hbb : ∀ x : Str, x ≠ "__name__" → mb x = bootBuiltins x) (hlim : s₁.heap.NoLimit) (hg : s₁.gens = #[])
    (ha : s₁.heap.get? a = some { cls := .type "list", data := .seq vs.toArray }) (hi : IntsAre vs ns) (hl : ns.length ≤ sizeLine) (hr : Room k callerA)
    (F : ∀ base : Heap, K.In base → base.Ns mainGlobals mg → FnG P w K mg base k fa fd [x] sp) (hbind : ∀ (s : Shared) (u : Value), BindsTo s fd ⟨[u], []⟩ [(x, u)])
    (hsp : ∀ H : Hp, Only H → SqL K H a (ns.map V.int) → sp [.ref a] H (fun v _ => v = .bl true) fun _ _ _ => False) :
    codeAny (model P w) callerA (.call (.ref fa) ⟨[.ref a], []⟩) (fun r s' => r = .ok (.ret (.bool true)) ∧ OldK s₁.heap s'.heap ∧ s'.os = s₁.os ∧ AllBare s'.gens) s₁ := by
  have rv := vals_ints hi
  let T : HO := .frz { cls := .type "list", data := .seq vs.toArray } (.lst (ns.map V.int))
  let H : Hp := fun b => if b = a ∧ K.lookup a = none then some T else none
  have inv : ∀ {b : Addr} {u : HO}, H b = some u → b = a ∧ u = T ∧ K.lookup a = none := fun {b u} e => by
    by_cases c : b = a ∧ K.lookup a = none
    · rw [show H b = some T from if_pos c] at e; cases e; exact ⟨c.1, rfl, c.2⟩
    · rw [show H b = none from if_neg c] at e; cases e
  have only : Only H := fun b => by
    cases q : H b with
    | none => exact .inl rfl
    | some u => obtain ⟨_, rfl, _⟩ := inv q; exact .inr ⟨_, _, rfl⟩
  have hS : SqL K H a (ns.map V.int) := by
    cases hk : K.lookup a with
    | some o =>
      have e := KX a o hk
      rw [ha] at e
      cases e
      exact .inr ⟨_, vs.toArray, _, hk, rfl, rfl, rfl, by rw [List.size_toArray, hi.length]; exact hl, by simpa using rv⟩
    | none => exact .inl (.inr ⟨_, if_pos ⟨rfl, hk⟩⟩)
  have hok : HOk P w H s₁.heap := fun b u q => by
    obtain ⟨rfl, rfl, _⟩ := inv q
    exact ⟨ha, by rw [List.length_map]; exact hl, vs, _, rv, ha⟩
  have put : ∀ {b : Addr} {o : Obj}, s₁.heap.get? b = some o → H b = none → (hidT s₁.heap H).get? b = some o := fun e n => hidT_get e n
  have kin : K.In (hidT s₁.heap H) := fun b o e => put (KX b o e) (by
    cases q : H b with
    | none => rfl
    | some u =>
      obtain ⟨rfl, _, hk⟩ := inv q
      rw [hk] at e; cases e)
  have nsK : ∀ {b : Addr} {m : Str → Option Value}, s₁.heap.Ns b m → (hidT s₁.heap H).Ns b m := fun {b m} ⟨o, es, ep, e, d, r⟩ => ⟨o, es, ep, put e (by
    cases q : H b with
    | none => rfl
    | some u =>
      obtain ⟨rfl, _, _⟩ := inv q
      rw [ha] at e
      cases e
      have d' : Data.seq vs.toArray _ = Data.dict es ep := d
      cases d'), d, r⟩
  obtain ⟨mc, l1, l2⟩ := hlim
  have e0 : Env0 P w K mg (hidT s₁.heap H) callerA [] s₁ H := ⟨rfl, ⟨kin, nsK hns, ⟨mb, nsK hb, hbb⟩, mc, nsK l1, l2⟩, fun b o e => of_hidT e, Nat.le_of_eq (hidT_size _ _), trivial, fun b hb => absurd (show b ∈ ([] : List Addr) from hb) (by simp), hok, .of_eq hg⟩
  refine codeAny_mono ((F _ kin (nsK hns)).run callerA [] s₁ H ⟨[.ref a], []⟩ [.ref a] [.ref a] _ _ rfl hr e0 (hbind s₁ (.ref a)) (.cons rfl .nil) (hsp H only hS)) fun r s' h => ?_
  cases r with
  | error e => exact False.elim h
  | ok fl =>
    cases fl with
    | next => exact False.elim h
    | brk => exact False.elim h
    | cont => exact False.elim h
    | ret u =>
      obtain ⟨v, H', os, bare, un, hok', r', q⟩ := h
      obtain rfl : v = .bl true := q
      obtain rfl : u = Value.bool true := r'
      refine ⟨rfl, OldK.of_keep fun b o e => ?_, os, bare⟩
      cases q : H b with
      | none => exact un.keep b o e q (fun z => absurd (show b ∈ ([] : List Addr) from z) (by simp)) (by simp)
      | some u =>
        obtain ⟨rfl, rfl, _⟩ := inv q
        obtain ⟨e1, _⟩ := hok _ _ q
        obtain ⟨e2, _⟩ := hok' _ _ (un.frzs _ _ _ q)
        rw [e] at e1; cases e1
        exact e2
theorem walkG {l : PySem.W.OpenLaw} {n k : Nat} {q : Program} {loose : List Str} {XP : (Str → Option Value) → Heap → Prop} {YP : World → Heap → Prop} {d : DefRec} {K : Params → PySem.W.Frag} {sp : World → Sp} {x : Str}
    (hn : l.most = some n) (hn2 : n ≤ sizeLine) (hdf : d.params.defaults = []) (hr : Room k callerA) (hY : ∀ (w : World) (h : Heap), YP w h → (K w.params).In h)
    (F : ∀ (w : World) (mg : Str → Option Value) (fa : Addr) (h : Heap), (K w.params).In h → h.Ns mainGlobals mg → mg d.name = some (.ref fa) →
      ∃ fd : FuncData, (∀ (s : Shared) (u : Value), BindsTo s fd ⟨[u], []⟩ [(x, u)]) ∧ ∀ base : Heap, (K w.params).In base → base.Ns mainGlobals mg → FnG l.prog w (K w.params) mg base k fa fd [x] (sp w))
    (hsp : ∀ (w : World) (H : Hp) (a : Addr) (ns : List Int), ns.length ≤ n → Only H → SqL (K w.params) H a (ns.map V.int) → sp w [.ref a] H (fun v _ => v = .bl true) fun _ _ _ => False) :
    PySem.W.WalkO q loose XP YP l.row.toRowW d [] (fun f vs => PySem.call f vs) := by
  refine Att.attach_call hn hdf fun w s₀ s₁ mg mb fa o pm cd doc a vs ns G Y ho hd hcd hmg hobj hints hlen hg => ?_
  obtain ⟨fd, hb, hF⟩ := F w mg fa _ (hY w _ Y) G.T.g hmg
  exact law_callG (hY w _ Y) G.T.g G.T.b G.T.builtins G.T.nolimit hg hobj hints (Nat.le_trans hlen hn2) hr hF hb fun H hO hS => hsp w H a ns hlen hO hS
end Bm

set_option Elab.async false
set_option linter.all false
set_option maxRecDepth 100000
set_option maxHeartbeats 4000000
/-! the shape of contents -/
namespace Bm
open PySem L2
def nmd : Sm → Bool
  | .chk .. => false
  | .pad .. => false
  | _ => true
def nmd1 : I2 → Bool
  | .sm y => nmd y
  | _ => true
def SvOk : Sm → SV → Prop
  | .num _ _ _ lo hi, .num i => lo ≤ i ∧ i ≤ hi
  | .byt .., .byt l => By l ∧ l.length ≤ 40
  | .txt .., .byt l => By l ∧ l.length ≤ 40
  | _, _ => False
def C0Ok (b : List Sm) (c : C0) : Prop := Paired (fun (e : Str × SV) (y : Sm) => e.1 = y.name ∧ SvOk y e.2) c (b.filter nmd)
def VlOk : I2 → Vl → Prop
  | .sm y, .sm v => SvOk y v
  | .rep _ _ b, .rds r => r.length ≤ 65535 ∧ (b ≠ [] → (∀ y ∈ b, y.plain) → r.length ≤ 40) ∧ ∀ c ∈ r, C0Ok b c
  | .eit _ bs, .tak k c => ∃ b, bs[k]? = some b ∧ C0Ok b c
  | .swi _ _ cs, .con c => ∃ cc ∈ cs, C0Ok cc.2 c
  | _, _ => False
def C1Ok (l : List I2) (c : C1) : Prop := Paired (fun (e : Str × Vl) (x : I2) => e.1 = x.name ∧ VlOk x e.2) c (l.filter nmd1)
theorem txtGo_sub {n : Str} {stop : Int} {f : List Int} {a : Nat} : ∀ {m k : Nat} {r : Nat × List Int}, txtGo n stop f a k m = .ok r → ∃ j, r.2 = (f.drop a).take j
  | 0, k, r, h => by rw [txtGo] at h; cases h
  | m + 1, k, r, h => by
    rw [txtGo] at h
    cases hb : f[a + k]? with
    | none => rw [hb] at h; cases h
    | some b =>
      rw [hb] at h
      simp only at h
      split at h
      · cases h; exact ⟨k, rfl⟩
      · exact txtGo_sub h
theorem sub_ok {f : List Int} {a j : Nat} (b : By f) (h : f.length ≤ 40) : By ((f.drop a).take j) ∧ ((f.drop a).take j).length ≤ 40 :=
  ⟨fun x hx => b x (List.mem_of_mem_drop (List.mem_of_mem_take hx)), by rw [List.length_take, List.length_drop]; omega⟩
theorem ptS_ok {α : Type} {inj : SV → α} {f : List Int} {y : Sm} {p q : Pt α} (bf : By f) (lf : f.length ≤ 40) (m : q ∈ (ptS inj f y p).1) : ∃ v : Option SV, q.vals = p.vals ++ (v.map fun v => (y.name, inj v)).toList ∧ (∀ u, v = some u → nmd y = true ∧ SvOk y u) ∧ (v = none → nmd y = false) := by
  unfold ptS at m
  cases e : smRun f p.at0 p.known y with
  | error s => rw [e] at m; cases m
  | ok r =>
    obtain ⟨a, v⟩ := r
    rw [e] at m
    simp only [List.mem_singleton] at m
    subst m
    refine ⟨v, rfl, ?_⟩
    cases y with
    | num n s o lo hi =>
      obtain ⟨r, er, e2⟩ := map_ok e
      cases e2
      exact ⟨fun u hu => by cases hu; exact ⟨rfl, (numRun_ok er).2⟩, fun h => by cases h⟩
    | byt n am =>
      simp only [smRun] at e
      split at e
      · cases e
      · cases e; exact ⟨fun u hu => by cases hu; exact ⟨rfl, sub_ok bf lf⟩, fun h => by cases h⟩
    | txt n s mm =>
      obtain ⟨r, er, e2⟩ := map_ok e
      cases e2
      obtain ⟨j, ej⟩ := txtGo_sub er
      exact ⟨fun u hu => by cases hu; rw [ej]; exact ⟨rfl, sub_ok bf lf⟩, fun h => by cases h⟩
    | chk n mm => obtain ⟨r, er, e2⟩ := map_ok e; cases e2; exact ⟨fun u hu => (by cases hu), fun _ => rfl⟩
    | pad n mm b => obtain ⟨r, er, e2⟩ := map_ok e; cases e2; exact ⟨fun u hu => (by cases hu), fun _ => rfl⟩
theorem runL_ok {f : List Int} (bf : By f) (lf : f.length ≤ 40) : ∀ {b : List Sm} {ps : List (Pt SV)} {p' : Pt SV}, p' ∈ (runL (ptS id f) b ps).1 → ∃ p ∈ ps, ∃ c, p'.vals = p.vals ++ c ∧ C0Ok b c
  | [], ps, p', m => ⟨p', m, [], (List.append_nil _).symm, .nil⟩
  | y :: r, ps, p', m => by
    rw [runL] at m
    obtain ⟨q, hq, c, e, hc⟩ := runL_ok bf lf m
    obtain ⟨p, hp, hq⟩ := List.mem_flatMap.mp hq
    obtain ⟨v, ev, h1, h2⟩ := ptS_ok bf lf hq
    cases v with
    | none =>
      refine ⟨p, hp, c, by rw [e, ev]; simp, ?_⟩
      unfold C0Ok
      rw [List.filter_cons_of_neg (by rw [h2 rfl]; simp)]
      exact hc
    | some u =>
      obtain ⟨k1, k2⟩ := h1 u rfl
      refine ⟨p, hp, (y.name, u) :: c, by rw [e, ev]; simp, ?_⟩
      unfold C0Ok
      rw [List.filter_cons_of_pos k1]
      exact .cons ⟨rfl, k2⟩ hc
theorem runS_ok {f : List Int} (bf : By f) (lf : f.length ≤ 40) {b : List Sm} {p p' : Pt SV} (e : p.vals = []) (m : p' ∈ (runS f b p).1) : C0Ok b p'.vals := by
  obtain ⟨q, hq, c, e2, hc⟩ := runL_ok bf lf m
  rw [List.mem_singleton.mp hq, e, List.nil_append] at e2
  rw [e2]; exact hc
theorem rounds_ok {f : List Int} (bf : By f) (lf : f.length ≤ 40) {b : List Sm} {kn : List (Str × Int)} : ∀ {m : Nat} {rs : List Rw} {r : Rw}, (∀ r ∈ rs, ∀ c ∈ r.2.2, C0Ok b c) → r ∈ (rounds f b kn m rs).1 → ∀ c ∈ r.2.2, C0Ok b c
  | 0, rs, r, h, hm => h r hm
  | m + 1, rs, r, h, hm => by
    rw [rounds] at hm
    refine rounds_ok bf lf (m := m) (fun q hq => ?_) hm
    obtain ⟨r0, hr0, hq⟩ := List.mem_flatMap.mp hq
    unfold rowStep at hq
    obtain ⟨t, ht, rfl⟩ := List.mem_map.mp hq
    intro c hc
    rcases List.mem_append.mp hc with hc | hc
    · exact h r0 hr0 c hc
    · rw [List.mem_singleton.mp hc]; exact runS_ok bf lf (by rfl) ht
theorem eitGo_ok {f : List Int} (bf : By f) (lf : f.length ≤ 40) {n : Str} {p q : Pt Vl} : ∀ {bs : List (List Sm)} {k : Nat}, q ∈ (eitGo f n p k bs).1 → ∃ (j : Nat) (b : List Sm) (c : C0), bs[j]? = some b ∧ q.vals = p.vals ++ [(n, .tak (k + j) c)] ∧ C0Ok b c
  | [], k, m => by simp [eitGo] at m
  | b :: r, k, m => by
    rw [eitGo] at m
    rcases List.mem_append.mp m with m | m
    · obtain ⟨t, ht, rfl⟩ := List.mem_map.mp m
      exact ⟨0, b, t.vals, rfl, rfl, runS_ok bf lf (by rfl) ht⟩
    · obtain ⟨j, b', c, h1, h2, h3⟩ := eitGo_ok bf lf m
      exact ⟨j + 1, b', c, by simpa using h1, by rw [h2, show k + 1 + j = k + (j + 1) by omega], h3⟩
theorem sm_adv {f : List Int} {a : Nat} {kn : List (Str × Int)} {y : Sm} {r : Nat × Option SV} (pl : y.plain) (h : smRun f a kn y = .ok r) : a + 1 ≤ r.1 := by
  cases y with
  | num n s o lo hi =>
    obtain ⟨q, e, rfl⟩ := map_ok h
    obtain ⟨rfl, _⟩ := pl
    unfold numRun at e
    cases hb : f[a]? with
    | none => rw [hb] at e; cases e
    | some b =>
      rw [hb] at e
      simp only at e
      rw [if_neg (by decide)] at e
      exact Nat.le_of_eq (num1_ok e).1.symm
  | byt n am =>
    simp only [smRun] at h
    split at h
    · cases h
    · cases h
      rcases pl with rfl | rfl
      · exact Nat.le_refl _
      · exact Nat.le_succ _
  | txt => exact pl.elim
  | chk => exact pl.elim
  | pad => exact pl.elim
theorem ptS_adv {f : List Int} {y : Sm} {p q : Pt SV} (pl : y.plain) (m : q ∈ (ptS id f y p).1) : p.at0 + 1 ≤ q.at0 := by
  unfold ptS at m
  cases e : smRun f p.at0 p.known y with
  | error s => rw [e] at m; cases m
  | ok r =>
    obtain ⟨a, v⟩ := r
    rw [e] at m
    simp only [List.mem_singleton] at m
    rw [m]
    exact sm_adv pl e
theorem runL_adv {f : List Int} : ∀ {b : List Sm} {ps : List (Pt SV)} {p' : Pt SV}, (∀ y ∈ b, y.plain) → p' ∈ (runL (ptS id f) b ps).1 → ∃ p ∈ ps, p.at0 + b.length ≤ p'.at0
  | [], ps, p', _, m => ⟨p', m, Nat.le_refl _⟩
  | y :: r, ps, p', pl, m => by
    rw [runL] at m
    obtain ⟨q, hq, h⟩ := runL_adv (fun z hz => pl z (List.mem_cons_of_mem _ hz)) m
    obtain ⟨p, hp, hq⟩ := List.mem_flatMap.mp hq
    have := ptS_adv (pl y (List.mem_cons_self ..)) hq
    exact ⟨p, hp, by rw [List.length_cons]; omega⟩
theorem rounds_adv {f : List Int} {b : List Sm} {kn : List (Str × Int)} (ne : b ≠ []) (pl : ∀ y ∈ b, y.plain) : ∀ {m : Nat} {rs : List Rw} {r : Rw}, r ∈ (rounds f b kn m rs).1 → ∃ r0 ∈ rs, r0.1 + m ≤ r.1
  | 0, rs, r, hm => ⟨r, hm, Nat.le_refl _⟩
  | m + 1, rs, r, hm => by
    rw [rounds] at hm
    obtain ⟨q, hq, h⟩ := rounds_adv ne pl hm
    obtain ⟨r0, hr0, hq⟩ := List.mem_flatMap.mp hq
    unfold rowStep at hq
    obtain ⟨t, ht, rfl⟩ := List.mem_map.mp hq
    obtain ⟨p, hp, a⟩ := runL_adv pl ht
    rw [List.mem_singleton.mp hp] at a
    have l1 : 1 ≤ b.length := by
      cases b with
      | nil => exact absurd rfl ne
      | cons x r => rw [List.length_cons]; omega
    have a : r0.1 + b.length ≤ t.at0 := a
    have h : t.at0 + m ≤ r.1 := h
    exact ⟨r0, hr0, by omega⟩
theorem step_ok {f : List Int} (bf : By f) (lf : f.length ≤ 40) {x : I2} {p q : Pt Vl} (w : x.okW) (kp : KnOk p.known) (pa : p.at0 ≤ f.length) (m : q ∈ (stepI f x p).1) : ∃ v : Option Vl, q.vals = p.vals ++ (v.map fun v => (x.name, v)).toList ∧ (∀ u, v = some u → nmd1 x = true ∧ VlOk x u) ∧ (v = none → nmd1 x = false) := by
  cases x with
  | sm y =>
    obtain ⟨v, e, h1, h2⟩ := ptS_ok bf lf m
    refine ⟨v.map .sm, by rw [e]; cases v <;> rfl, fun u hu => ?_, fun h => h2 (by cases v with | none => rfl | some z => cases h)⟩
    cases v with
    | none => cases hu
    | some z => cases hu; exact h1 z rfl
  | rep n a b =>
    obtain ⟨r, hr, rfl⟩ := List.mem_map.mp m
    have fb : 0 ≤ findK p.known a ∧ findK p.known a ≤ 65535 := by
      cases a with
      | inl i => exact w.1 i rfl
      | inr z => exact findK_mem p.known z (fun i => 0 ≤ i ∧ i ≤ 65535) ⟨by decide, by decide⟩ fun q hq _ => kp q hq
    have l1 := rounds_rds (z := 0) (fun q hq => by rw [List.mem_singleton.mp hq]; rfl) hr
    refine ⟨some (.rds r.2.2), rfl, fun u hu => ?_, fun h => by cases h⟩
    cases hu
    exact ⟨rfl, by omega, fun ne pl => (by obtain ⟨q, hq, a⟩ := rounds_adv ne pl hr; have := roundsc (z := p.path) w.2 kp (fun q hq => by rw [List.mem_singleton.mp hq]; exact ⟨pa, rfl⟩) hr; have := this.1; omega), rounds_ok bf lf (fun q hq c hc => by rw [List.mem_singleton.mp hq] at hc; cases hc) hr⟩
  | eit n bs =>
    obtain ⟨j, b, c, h1, h2, h3⟩ := eitGo_ok bf lf m
    rw [Nat.zero_add] at h2
    refine ⟨some (.tak j c), h2, fun u hu => ?_, fun h => by cases h⟩
    cases hu
    exact ⟨rfl, b, h1, h3⟩
  | swi n t cs =>
    simp only [stepI] at m
    split at m
    · simp at m
    · next cc e =>
      obtain ⟨t', ht, rfl⟩ := List.mem_map.mp m
      refine ⟨some (.con t'.vals), rfl, fun u hu => ?_, fun h => by cases h⟩
      cases hu
      exact ⟨rfl, cc, List.mem_of_find?_eq_some e, runS_ok bf lf (by rfl) ht⟩
theorem runI_ok {f : List Int} (bf : By f) (lf : f.length ≤ 40) : ∀ {l : List I2} {ps : List (Pt Vl)} {n : Nat} {p' : Pt Vl}, (∀ x ∈ l, x.okW) → (∀ p ∈ ps, PtC f n p) → p' ∈ (runL (stepI f) l ps).1 → ∃ p ∈ ps, ∃ c, p'.vals = p.vals ++ c ∧ C1Ok l c
  | [], ps, n, p', w, k, m => ⟨p', m, [], (List.append_nil _).symm, .nil⟩
  | x :: r, ps, n, p', w, k, m => by
    rw [runL] at m
    obtain ⟨q, hq, c, e, hc⟩ := runI_ok bf lf (n := n + 1) (fun z hz => w z (List.mem_cons_of_mem _ hz)) (fun p hp => by
      obtain ⟨q, hq, hp⟩ := List.mem_flatMap.mp hp
      exact step_c (w x (List.mem_cons_self ..)) (k q hq) hp) m
    obtain ⟨p, hp, hq⟩ := List.mem_flatMap.mp hq
    obtain ⟨v, ev, h1, h2⟩ := step_ok bf lf (w x (List.mem_cons_self ..)) (k p hp).2.1 (k p hp).1 hq
    cases v with
    | none =>
      refine ⟨p, hp, c, by rw [e, ev]; simp, ?_⟩
      unfold C1Ok
      rw [List.filter_cons_of_neg (by rw [h2 rfl]; simp)]
      exact hc
    | some u =>
      obtain ⟨k1, k2⟩ := h1 u rfl
      refine ⟨p, hp, (x.name, u) :: c, by rw [e, ev]; simp, ?_⟩
      unfold C1Ok
      rw [List.filter_cons_of_pos k1]
      exact .cons ⟨rfl, k2⟩ hc
/-- what a file means has the shape of its items -/
theorem Mean.ok {l : List I2} {c : C1} (w : ∀ x ∈ l, x.okW) (h : Mean l c) : C1Ok l c := by
  obtain ⟨f, p, bf, lf, hp, rfl⟩ := h
  have hp := (List.mem_filter.mp hp).1
  obtain ⟨q, hq, c, e, hc⟩ := runI_ok bf lf (n := 0) w (fun q hq => by rw [List.mem_singleton.mp hq]; exact ⟨Nat.zero_le _, fun z hz => (by cases hz), Nat.zero_le _, Nat.zero_le _, Nat.zero_le _⟩) hp
  rw [List.mem_singleton.mp hq] at e
  rw [show p.vals = c from e]; exact hc
end Bm

set_option Elab.async false
set_option linter.all false
set_option maxRecDepth 100000
set_option maxHeartbeats 4000000
/-! contents as trees; what stands at their spots -/
namespace Bm
open PySem L2
def entD {α : Type} (g : α → Dt) (c : List (Str × α)) : Dt := .lst (c.map fun e => .tup [.str e.1, g e.2])
def svD : SV → Dt
  | .num i => .int i
  | .byt l => .lst (l.map .int)
def c0D (c : C0) : Dt := entD svD c
def vlD : Vl → Dt
  | .sm s => svD s
  | .rds r => .lst (r.map c0D)
  | .tak k c => .tup [.int (k : Int), c0D c]
  | .con c => c0D c
def c1D (c : C1) : Dt := entD vlD c
theorem c0_lift (c : C0) : c1D (c.map liftE) = c0D c := by
  unfold c1D c0D entD
  rw [List.map_map]
  rfl
theorem pmap {α γ : Type} {F : V → γ → Prop} {R : V → α → Prop} {g : α → γ} : ∀ {xs : List V} {l : List α}, Paired R xs l → (∀ x a, a ∈ l → R x a → F x (g a)) → Paired F xs (l.map g)
  | _, _, .nil, _ => .nil
  | _, _, .cons h t, k => .cons (k _ _ (List.mem_cons_self ..) h) (pmap t fun x a m => k x a (List.mem_cons_of_mem _ m))
theorem at_up {n : Nat} {H : Hp} {v : V} {d : Dt} (k : Nat) (h : DtAt n H v d) : DtAt (n + k) H v d := by
  induction k with
  | zero => exact h
  | succ k ih => exact mon_dn ih
def SvB : SV → Prop
  | .num _ => True
  | .byt l => l.length ≤ 40
def C0B (c : C0) : Prop := c.length ≤ 100 ∧ ∀ e ∈ c, SvB e.2
def VlB : Vl → Prop
  | .sm s => SvB s
  | .rds r => r.length ≤ 65535 ∧ ∀ c ∈ r, C0B c
  | .tak _ c => C0B c
  | .con c => C0B c
def C1B (c : C1) : Prop := c.length ≤ 100 ∧ ∀ e ∈ c, VlB e.2
theorem at_sv {H : Hp} {v : V} {s : SV} (b : SvB s) (h : SVAt H v s) : DtAt 1 H v (svD s) := by
  cases s with
  | num i => exact dt_int.mpr h
  | byt l =>
    obtain ⟨p, rfl, hp⟩ := h
    refine ⟨p, l.map V.int, rfl, hp, ?_, by rw [List.length_map]; have : l.length ≤ 40 := b; omega⟩
    clear b hp
    induction l with
    | nil => exact .nil
    | cons a r ih => exact .cons rfl ih
theorem at_en {α : Type} {n : Nat} {H : Hp} {v : V} {R : Hp → V → α → Prop} {g : α → Dt} {c : List (Str × α)} (lc : c.length ≤ 100) (k : ∀ u e, e ∈ c → R H u e.2 → DtAt n H u (g e.2)) (h : CtAt R H v c) : DtAt (n + 2) H v (entD g c) := by
  obtain ⟨p, xs, rfl, hp, pe⟩ := h
  refine ⟨p, xs, rfl, hp, pmap pe fun x e m r => ?_, by rw [List.length_map]; omega⟩
  obtain ⟨t, u, rfl, ht, hu⟩ := r
  exact ⟨t, _, rfl, ht, .cons (dt_str.mpr rfl) (.cons (k u e m hu) .nil), by show 2 ≤ 100000; decide⟩
theorem at_c0 {H : Hp} {v : V} {c : C0} (b : C0B c) (h : CtAt SVAt H v c) : DtAt 3 H v (c0D c) := at_en (n := 1) b.1 (fun u e m r => at_sv (b.2 e m) r) h
theorem at_vl {H : Hp} {v : V} {x : Vl} (b : VlB x) (h : VlAt H v x) : DtAt 4 H v (vlD x) := by
  cases x with
  | sm s => exact at_up 3 (at_sv b h)
  | rds r =>
    obtain ⟨p, xs, rfl, hp, pc⟩ := h
    exact ⟨p, xs, rfl, hp, pmap pc fun x c m r => at_c0 (b.2 c m) r, by rw [List.length_map]; have := b.1; omega⟩
  | tak k c =>
    obtain ⟨t, u, rfl, ht, hu⟩ := h
    exact ⟨t, _, rfl, ht, .cons (dt_int.mpr rfl) (.cons (at_c0 b hu) .nil), by show 2 ≤ 100000; decide⟩
  | con c => exact at_up 1 (at_c0 b h)
theorem at_c1 {H : Hp} {v : V} {c : C1} (b : C1B c) (h : CtAt VlAt H v c) : DtAt 6 H v (c1D c) := at_en (n := 4) b.1 (fun u e m r => at_vl (b.2 e m) r) h
/-! ### bounds from the shape -/
theorem C0Ok.len {b : List Sm} {c : C0} (h : C0Ok b c) : c.length ≤ b.length := by
  have := plen h
  have := List.length_filter_le nmd b
  omega
theorem pmem {α β : Type} {R : α → β → Prop} : ∀ {xs : List α} {l : List β}, Paired R xs l → ∀ x ∈ xs, ∃ a ∈ l, R x a
  | _, _, .cons h t, x, hx => by
    rcases List.mem_cons.mp hx with rfl | hx
    · exact ⟨_, List.mem_cons_self .., h⟩
    · obtain ⟨a, m, r⟩ := pmem t x hx; exact ⟨a, List.mem_cons_of_mem _ m, r⟩
theorem SvOk.b {y : Sm} {s : SV} (h : SvOk y s) : SvB s := by
  cases s with
  | num i => trivial
  | byt l => cases y <;> first | exact h.elim | exact h.2
theorem C0Ok.b {b : List Sm} {c : C0} (h : C0Ok b c) (l : b.length ≤ 4) : C0B c := ⟨by have := h.len; omega, fun e he => by
  obtain ⟨y, _, _, k⟩ := pmem h e he
  exact k.b⟩
theorem VlOk.b {x : I2} {v : Vl} (r : x.okR) (h : VlOk x v) : VlB v := by
  cases x with
  | sm y => cases v with
    | sm s => exact SvOk.b h
    | _ => exact h.elim
  | rep n a bk => cases v with
    | rds rs => exact ⟨h.1, fun c hc => (h.2.2 c hc).b r⟩
    | _ => exact h.elim
  | eit n bs => cases v with
    | tak k c => obtain ⟨bk, e, k⟩ := h; exact k.b (r.2 bk (List.mem_of_getElem? e))
    | _ => exact h.elim
  | swi n t cs => cases v with
    | con c => obtain ⟨cc, m, k⟩ := h; exact k.b (r cc m)
    | _ => exact h.elim
theorem C1Ok.b {l : List I2} {c : C1} (h : C1Ok l c) (l4 : l.length ≤ 4) (r : ∀ x ∈ l, x.okR) : C1B c := ⟨by have := plen h; have := List.length_filter_le nmd1 l; omega, fun e he => by
  obtain ⟨x, m, _, k⟩ := pmem h e he
  exact k.b (r x (List.mem_filter.mp m).1)⟩
/-! ### what is well made -/
theorem wk_sv (s : SV) : Wk (svD s) := by
  cases s with
  | num i => exact .int i
  | byt l => exact .lst fun x hx => by obtain ⟨i, _, rfl⟩ := List.mem_map.mp hx; exact .int i
theorem wk_en {α : Type} {g : α → Dt} {c : List (Str × α)} (h : ∀ e ∈ c, Wk (g e.2)) : Wk (entD g c) := .lst fun x hx => by
  obtain ⟨e, m, rfl⟩ := List.mem_map.mp hx
  exact .pr (.inr e.1) (h e m)
theorem wk_c0 (c : C0) : Wk (c0D c) := wk_en fun e _ => wk_sv e.2
theorem wk_vl (x : Vl) : Wk (vlD x) := by
  cases x with
  | sm s => exact wk_sv s
  | rds r => exact .lst fun x hx => by obtain ⟨c, _, rfl⟩ := List.mem_map.mp hx; exact wk_c0 c
  | tak k c => exact .pr (.inl (k : Int)) (wk_c0 c)
  | con c => exact wk_c0 c
theorem wk_c1 (c : C1) : Wk (c1D c) := wk_en fun e _ => wk_vl e.2
/-! ### steps down -/
theorem win_in {α : Type} {g : α → Dt} : ∀ {c : List (Str × α)} {e : Str × α}, (c.map (·.1)).Nodup → e ∈ c → win (.inr e.1) (entD g c) = some (g e.2)
  | a :: r, e, nd, m => by
    show ((((a :: r).map fun e => Dt.tup [.str e.1, g e.2])).filterMap (prN e.1)).head? = _
    rw [List.map_cons]
    rcases List.mem_cons.mp m with rfl | m
    · rw [List.filterMap_cons_some (b := g e.2) (by show (if e.1 = e.1 then some (g e.2) else none) = _; rw [if_pos rfl])]; rfl
    · have ne : a.1 ≠ e.1 := fun z => (List.nodup_cons.mp nd).1 (by show a.1 ∈ _; rw [z]; exact List.mem_map_of_mem m)
      rw [List.filterMap_cons_none (by show (if a.1 = e.1 then some (g a.2) else none) = _; rw [if_neg ne])]
      exact win_in (List.nodup_cons.mp nd).2 m
theorem win_out {α : Type} {g : α → Dt} {c : List (Str × α)} {z : Str} (h : z ∉ c.map (·.1)) : win (.inr z) (entD g c) = none := by
  show (((c.map fun e => Dt.tup [.str e.1, g e.2])).filterMap (prN z)).head? = none
  have : ((c.map fun e => Dt.tup [.str e.1, g e.2])).filterMap (prN z) = [] := by
    rw [List.filterMap_eq_nil_iff]
    intro x hx
    obtain ⟨e, m, rfl⟩ := List.mem_map.mp hx
    show (if e.1 = z then some (g e.2) else none) = none
    rw [if_neg fun k => h (by rw [← k]; exact List.mem_map_of_mem m)]
  rw [this]; rfl
theorem win_sv (k : Key) (s : SV) : win k (svD s) = none := by
  cases s with
  | num i => rfl
  | byt l =>
    cases k with
    | inl i =>
      show (if 0 ≤ i ∧ i < (l.map Dt.int).length then ((l.map Dt.int)[i.toNat]?).bind fun d => if isL d then some d else none else none) = none
      split
      · rw [List.getElem?_map]
        cases l[i.toNat]? <;> rfl
      · rfl
    | inr z =>
      show ((l.map Dt.int).filterMap (prN z)).head? = none
      rw [List.filterMap_eq_nil_iff.mpr fun x hx => by obtain ⟨i, _, rfl⟩ := List.mem_map.mp hx; rfl]; rfl
theorem win_rd {r : List C0} {j : Nat} {c : C0} (h : r[j]? = some c) : win (.inl (j : Int)) (.lst (r.map c0D)) = some (c0D c) := by
  show (if 0 ≤ (j : Int) ∧ (j : Int) < (r.map c0D).length then ((r.map c0D)[(j : Int).toNat]?).bind fun d => if isL d then some d else none else none) = _
  have hj : j < r.length := by
    apply Decidable.byContradiction
    intro k
    rw [List.getElem?_eq_none (by omega)] at h; cases h
  rw [if_pos ⟨by omega, by rw [List.length_map]; omega⟩, Int.toNat_natCast, List.getElem?_map, h]; rfl
theorem win_rd_out {r : List C0} {i : Int} (h : i < 0 ∨ (r.length : Int) ≤ i) : win (.inl i) (.lst (r.map c0D)) = none := by
  show (if 0 ≤ i ∧ i < (r.map c0D).length then ((r.map c0D)[i.toNat]?).bind fun d => if isL d then some d else none else none) = _
  rw [if_neg (by rw [List.length_map]; omega)]
theorem win_rd_name {r : List C0} {z : Str} : win (.inr z) (.lst (r.map c0D)) = none := by
  show ((r.map c0D).filterMap (prN z)).head? = none
  rw [List.filterMap_eq_nil_iff.mpr fun x hx => by obtain ⟨i, _, rfl⟩ := List.mem_map.mp hx; rfl]; rfl
theorem vat_snoc (d : Dt) (s : List Key) (k : Key) : vat d (s ++ [k]) = (vat d s).bind (win k) := by
  unfold vat; rw [List.foldl_append]; rfl
theorem vat_app (d : Dt) (s t : List Key) : vat d (s ++ t) = t.foldl (fun o k => o.bind (win k)) (vat d s) := by
  unfold vat; rw [List.foldl_append]
end Bm

set_option Elab.async false
set_option linter.all false
set_option maxRecDepth 100000
set_option maxHeartbeats 4000000
/-! how long the repr of data can be -/
namespace Bm
open PySem L2
structure Tm (d : Dt) (b : Nat) : Prop where
  bulk : (pyD d).bulk ≤ b
  short : (pyD d).leavesShort 13 = true
  show_ : (pyD d).showable = true
theorem Tm.mono {d : Dt} {a b : Nat} (h : Tm d a) (k : a ≤ b) : Tm d b := ⟨Nat.le_trans h.bulk k, h.short, h.show_⟩
theorem tm_int {i : Int} (h : i.natAbs ≤ 100000) : Tm (.int i) 0 := by
  refine ⟨by simp [pyD, PyData.bulk], ?_, ?_⟩
  · simp only [pyD, PyData.leavesShort]
    exact decide_eq_true (PyData.shown_int_le (by omega))
  · simp only [pyD, PyData.showable]
    refine decide_eq_true ?_
    by_cases z : i.natAbs = 0
    · rw [z]; decide
    · have := (Nat.log2_lt z (k := 17)).mpr (by omega)
      omega
theorem tm_str {z : Str} {n : Nat} (h : z.length ≤ n) (k : ∀ c ∈ z.cps.toList, c < 16 ^ 8) : Tm (.str z) n := by
  refine ⟨by simp only [pyD, PyData.bulk]; exact h, ?_, by simp only [pyD, PyData.showable]⟩
  simp only [pyD, PyData.leavesShort]
  exact List.all_eq_true.mpr fun c hc => decide_eq_true (k c hc)
theorem tm_all {b : Nat} : ∀ {l : List Dt}, (∀ d ∈ l, Tm d b) → PyData.bulkAll (pyDs l) ≤ l.length * (b + 1) ∧ PyData.leavesShortAll 13 (pyDs l) = true ∧ PyData.showableAll (pyDs l) = true
  | [], _ => ⟨by simp [pyDs, PyData.bulkAll], by simp [pyDs, PyData.leavesShortAll], by simp [pyDs, PyData.showableAll]⟩
  | d :: l, h => by
    obtain ⟨h1, h2, h3⟩ := tm_all fun x hx => h x (List.mem_cons_of_mem _ hx)
    have hd := h d (List.mem_cons_self ..)
    refine ⟨?_, ?_, ?_⟩
    · simp only [pyDs, PyData.bulkAll, List.length_cons, Nat.succ_mul]
      have := hd.bulk
      omega
    · simp only [pyDs, PyData.leavesShortAll, hd.short, h2, Bool.and_self]
    · simp only [pyDs, PyData.showableAll, hd.show_, h3, Bool.and_self]
theorem tm_lst {b n : Nat} {l : List Dt} (h : ∀ d ∈ l, Tm d b) (k : l.length ≤ n) : Tm (.lst l) (n * (b + 1)) := by
  obtain ⟨h1, h2, h3⟩ := tm_all h
  exact ⟨by simp only [pyD, PyData.bulk]; exact Nat.le_trans h1 (Nat.mul_le_mul_right _ k), by simp only [pyD, PyData.leavesShort]; exact h2, by simp only [pyD, PyData.showable]; exact h3⟩
theorem tm_tup {b n : Nat} {l : List Dt} (h : ∀ d ∈ l, Tm d b) (k : l.length ≤ n) : Tm (.tup l) (n * (b + 1)) := by
  obtain ⟨h1, h2, h3⟩ := tm_all h
  exact ⟨by simp only [pyD, PyData.bulk]; exact Nat.le_trans h1 (Nat.mul_le_mul_right _ k), by simp only [pyD, PyData.leavesShort]; exact h2, by simp only [pyD, PyData.showable]; exact h3⟩
theorem tm_pair {b : Nat} {x y : Dt} (hx : Tm x b) (hy : Tm y b) : Tm (.tup [x, y]) (2 * (b + 1)) :=
  tm_tup (fun d hd => by
    rcases List.mem_cons.mp hd with rfl | hd
    · exact hx
    · rw [List.mem_singleton.mp hd]; exact hy) (Nat.le_refl _)
theorem Tm.len {d : Dt} {b : Nat} (h : Tm d b) (k : b ≤ 1000000) : (pyD d).shown.length ≤ sizeLine := by
  have := PyData.shown_le_bulk 13 (by decide) (pyD d) h.short
  have h1 := h.bulk
  have : (pyD d).shown.length ≤ 15 * (pyD d).bulk + 13 := this
  show _ ≤ 2 ^ 24
  omega
end Bm

set_option Elab.async false
set_option linter.all false
set_option maxRecDepth 100000
set_option maxHeartbeats 4000000
/-! contents of drawn items: names, sizes -/
namespace Bm
open PySem L2
theorem get_lt' {α : Type} {f : List α} {i : Nat} {b : α} (h : f[i]? = some b) : i < f.length := by
  apply Decidable.byContradiction
  intro k
  rw [List.getElem?_eq_none (by omega)] at h; cases h
def NmS (z : Str) : Prop := z.length ≤ 100 ∧ ∀ c ∈ z.cps.toList, c < 16 ^ 8
theorem tm_sv {y : Sm} {s : SV} (w : y.okW) (h : SvOk y s) : Tm (svD s) 40 := by
  cases s with
  | num i =>
    cases y with
    | num n sz o lo hi =>
      obtain ⟨w1, w2, w3, _⟩ := w
      obtain ⟨h1, h2⟩ := h
      exact (tm_int (by omega)).mono (by decide)
    | _ => exact h.elim
  | byt l =>
    have hb : By l ∧ l.length ≤ 40 := by cases y <;> first | exact h.elim | exact h
    have := tm_lst (b := 0) (n := 40) (l := l.map Dt.int) (fun d hd => by
      obtain ⟨i, hi, rfl⟩ := List.mem_map.mp hd
      have := hb.1 i hi
      exact tm_int (by omega)) (by rw [List.length_map]; exact hb.2)
    exact this
theorem tm_en {α : Type} {g : α → Dt} {c : List (Str × α)} {b : Nat} (l4 : c.length ≤ 4) (h100 : 100 ≤ b) (ns : ∀ e ∈ c, NmS e.1) (h : ∀ e ∈ c, Tm (g e.2) b) : Tm (entD g c) (4 * (2 * (b + 1) + 1)) :=
  tm_lst (fun d hd => by
    obtain ⟨e, he, rfl⟩ := List.mem_map.mp hd
    exact tm_pair ((tm_str (ns e he).1 (ns e he).2).mono h100) (h e he)) (by rw [List.length_map]; exact l4)
theorem tm_c0 {b : List Sm} {c : C0} (h : C0Ok b c) (l4 : b.length ≤ 4) (w : ∀ y ∈ b, y.okW) (ns : ∀ y ∈ b, NmS y.name) : Tm (c0D c) 812 := by
  have := tm_en (g := svD) (c := c) (b := 100) (Nat.le_trans h.len l4) (Nat.le_refl _) (fun e he => by
    obtain ⟨y, hy, e1, _⟩ := pmem h e he
    rw [e1]; exact ns y (List.mem_filter.mp hy).1) (fun e he => by
    obtain ⟨y, hy, _, k⟩ := pmem h e he
    exact (tm_sv (w y (List.mem_filter.mp hy).1) k).mono (by decide))
  exact this.mono (by decide)
/-- what an item has to be for its contents to be small -/
def I2.sml : I2 → Prop
  | .sm y => y.okW
  | .rep _ _ b => b.length ≤ 4 ∧ b ≠ [] ∧ (∀ y ∈ b, y.plain) ∧ ∀ y ∈ b, y.okW
  | .eit _ bs => bs.length ≤ 3 ∧ ∀ b ∈ bs, b.length ≤ 4 ∧ ∀ y ∈ b, y.okW
  | .swi _ _ cs => ∀ c ∈ cs, c.2.length ≤ 4 ∧ ∀ y ∈ c.2, y.okW
theorem tm_vl {x : I2} {v : Vl} (h : VlOk x v) (w : x.sml) (ns : ∀ z ∈ x.names, NmS z) : Tm (vlD v) 32520 := by
  cases x with
  | sm y => cases v with
    | sm s => exact (tm_sv w h).mono (by decide)
    | _ => exact h.elim
  | rep n a bk => cases v with
    | rds rs =>
      obtain ⟨w1, w2, w3, w4⟩ := w
      exact tm_lst (b := 812) (n := 40) (fun d hd => by
        obtain ⟨c, hc, rfl⟩ := List.mem_map.mp hd
        exact tm_c0 (h.2.2 c hc) w1 w4 fun y hy => ns _ (List.mem_cons_of_mem _ (List.mem_map_of_mem hy))) (by rw [List.length_map]; exact h.2.1 w2 w3)
    | _ => exact h.elim
  | eit n bs => cases v with
    | tak k c =>
      obtain ⟨bk, e, o⟩ := h
      have mb := List.mem_of_getElem? e
      have t0 := tm_c0 o (w.2 bk mb).1 (w.2 bk mb).2 fun y hy => ns _ (List.mem_cons_of_mem _ (List.mem_flatMap.mpr ⟨bk, mb, List.mem_map_of_mem hy⟩))
      have kl : k < bs.length := get_lt' e
      have k3 := w.1
      exact (tm_pair ((tm_int (i := (k : Int)) (by omega)).mono (b := 812) (by decide)) t0).mono (by decide)
    | _ => exact h.elim
  | swi n t cs => cases v with
    | con c =>
      obtain ⟨cc, m, o⟩ := h
      exact (tm_c0 o (w cc m).1 (w cc m).2 fun y hy => ns _ (List.mem_cons_of_mem _ (List.mem_flatMap.mpr ⟨cc, m, List.mem_map_of_mem hy⟩))).mono (by decide)
    | _ => exact h.elim
theorem tm_c1 {l : List I2} {c : C1} (h : C1Ok l c) (l4 : l.length ≤ 4) (w : ∀ x ∈ l, x.sml) (ns : ∀ x ∈ l, ∀ z ∈ x.names, NmS z) : Tm (c1D c) 1000000 := by
  have lf := List.length_filter_le nmd1 l
  have := tm_en (g := vlD) (c := c) (b := 32520) (by have := plen h; omega) (by decide) (fun e he => by
    obtain ⟨x, hx, e1, _⟩ := pmem h e he
    rw [e1]; exact ns x (List.mem_filter.mp hx).1 _ (name_in x)) (fun e he => by
    obtain ⟨x, hx, _, k⟩ := pmem h e he
    exact tm_vl k (w x (List.mem_filter.mp hx).1) (ns x (List.mem_filter.mp hx).1))
  exact this.mono (by decide)
/-! ### what is drawn is so -/
theorem plain_sml {b : List Sm} (h : ∀ y ∈ b, y.plain) : ∀ y ∈ b, y.okW := fun y hy => (plain_okW (h y hy)).1
theorem ok_sml {x : I2} {ah : List Str} (h : x.ok ah) : x.sml := by
  cases x with
  | sm y => exact (ok_okW h).1
  | rep n a b =>
    obtain ⟨_, ⟨h1, h2⟩, h3⟩ := h
    exact ⟨by omega, fun e => by rw [e] at h1; simp at h1, h3, plain_sml h3⟩
  | eit n bs =>
    obtain ⟨⟨_, h1⟩, h2, _⟩ := h
    exact ⟨h1, fun b hb => ⟨by have := (h2 b hb).1; omega, plain_sml (h2 b hb).2⟩⟩
  | swi n t cs =>
    obtain ⟨_, _, h2, _⟩ := h
    exact fun c hc => ⟨by have := (h2 c hc).2.1; omega, plain_sml (h2 c hc).2.2⟩
theorem isName_S {z : Str} (h : isName z = true) : NmS z ∧ PyData.strOk z = true := by
  have ch : ∀ c, isSign c = true → c < 128 := fun c hc => by
    have : ∀ x ∈ letters.cps.toList ++ digits.cps.toList, x < 128 := by decide +kernel
    refine this c ?_
    unfold isSign isLetter isDigit at hc
    rw [Bool.or_eq_true] at hc
    exact List.mem_append.mpr (hc.imp of_decide_eq_true of_decide_eq_true)
  unfold isName at h
  cases e : z.cps.toList with
  | nil => rw [e] at h; cases h
  | cons c r =>
    rw [e] at h
    simp only [nameOk, Bool.and_eq_true, decide_eq_true_eq] at h
    obtain ⟨h1, _, h3⟩ := h
    have all : ∀ x ∈ z.cps.toList, x < 128 := fun x hx => ch x (List.all_eq_true.mp h3 x (by rw [← e]; exact hx))
    have ln : z.cps.size = r.length + 1 := by rw [← Array.length_toList, e]; rfl
    refine ⟨⟨by show z.cps.size ≤ 100; omega, fun x hx => Nat.lt_trans (all x hx) (by decide)⟩, ?_⟩
    unfold PyData.strOk
    rw [Array.all_eq_true']
    exact fun x hx => decide_eq_true (Nat.lt_trans (all x (by simpa using hx)) (by decide))
theorem Drawn.nmS {l : List I2} (h : Drawn l) : ∀ x ∈ l, ∀ z ∈ x.names, NmS z := fun x hx z hz => (isName_S (h.nm z (List.mem_flatMap.mpr ⟨x, hx, hz⟩)).1).1
theorem Drawn.sml {l : List I2} (h : Drawn l) : ∀ x ∈ l, x.sml := fun x hx => by obtain ⟨_, h⟩ := okL_in h.ok x hx; exact ok_sml h
end Bm

set_option Elab.async false
set_option linter.all false
set_option maxRecDepth 100000
set_option maxHeartbeats 8000000
/-! what is new since a heap; trees without a depth; copies that are new through and through -/
namespace Bm
open PySem L2
/-- what of H is not in A -/
def nw (A H : Hp) : Hp := fun b => match A b with
  | none => H b
  | some _ => none
/-- all that A has stands in H, too (perhaps otherwise) -/
def Le (A H : Hp) : Prop := ∀ b, H b = none → A b = none
theorem nw_none {A H : Hp} {b : Addr} (h : A b = none) : nw A H b = H b := by unfold nw; rw [h]
theorem nw_some {A H : Hp} {b : Addr} (h : A b ≠ none) : nw A H b = none := by
  unfold nw
  cases e : A b with
  | none => exact absurd e h
  | some o => rfl
theorem nw_in {A H : Hp} : Same (nw A H) H := fun b o e => by
  by_cases c : A b = none
  · rw [nw_none c] at e; exact e
  · rw [nw_some c] at e; cases e
theorem nw_mon {A H H' : Hp} (s : Same H H') : Same (nw A H) (nw A H') := fun b o e => by
  by_cases c : A b = none
  · rw [nw_none c] at e ⊢; exact s _ _ e
  · rw [nw_some c] at e; cases e
theorem nw_sub {A B H : Hp} (l : Le B A) : Same (nw A H) (nw B H) := fun b o e => by
  by_cases c : A b = none
  · rw [nw_none c] at e; rw [nw_none (l b c)]; exact e
  · rw [nw_some c] at e; cases e
theorem nw_wr {A H : Hp} {D : Addr} {o : HO} (h : A D ≠ none) : Same (nw A H) (nw A (upd H D o)) := fun b u e => by
  by_cases c : A b = none
  · rw [nw_none c] at e ⊢
    rw [upd_ne (fun z => h (by rw [← z]; exact c))]; exact e
  · rw [nw_some c] at e; cases e
theorem nw_at {A H : Hp} {b : Addr} {o : HO} (h : A b = none) (e : H b = some o) : nw A H b = some o := by rw [nw_none h]; exact e
theorem Le.refl (A : Hp) : Le A A := fun _ h => h
theorem Le.of {A H : Hp} (s : Same A H) : Le A H := fun _ h => s.free h
theorem Le.trans {A B C : Hp} (a : Le A B) (b : Le B C) : Le A C := fun x h => a x (b x h)
theorem Le.same {A B C : Hp} (a : Le A B) (s : Same B C) : Le A C := a.trans (.of s)
theorem Le.wr {A H : Hp} {D : Addr} {o : HO} (a : Le A H) : Le A (upd H D o) := fun b e => by
  by_cases c : b = D
  · rw [c, upd_same] at e; cases e
  · rw [upd_ne c] at e; exact a b e
/-- the heap with an own list begun -/
theorem Le.own {A H : Hp} {D : Addr} {o : HO} (a : Le A H) : Le A (upd H D o) := a.wr
/-! ### trees, the depth left out -/
mutual
def DtF (H : Hp) : V → Dt → Prop
  | v, .int i => v = .int i
  | v, .str z => v = .str z
  | v, .lst l => ∃ p xs, v = .ref p ∧ H p = some (.lst xs) ∧ DtFs H xs l ∧ l.length ≤ 100000
  | v, .tup l => ∃ p xs, v = .ref p ∧ H p = some (.tup xs) ∧ DtFs H xs l ∧ l.length ≤ 100000
def DtFs (H : Hp) : List V → List Dt → Prop
  | xs, [] => xs = []
  | xs, d :: l => ∃ x r, xs = x :: r ∧ DtF H x d ∧ DtFs H r l
end
theorem dfs_iff {H : Hp} : ∀ {xs : List V} {l : List Dt}, DtFs H xs l ↔ Paired (DtF H) xs l
  | xs, [] => by
    rw [DtFs]
    exact ⟨fun e => by subst e; exact .nil, fun h => by cases h; rfl⟩
  | xs, d :: l => by
    rw [DtFs]
    constructor
    · rintro ⟨x, r, rfl, h, t⟩
      exact .cons h (dfs_iff.mp t)
    · intro h
      cases h with
      | cons h t => exact ⟨_, _, rfl, h, dfs_iff.mpr t⟩
theorem df_int {H : Hp} {v : V} {i : Int} : DtF H v (.int i) ↔ v = .int i := by rw [DtF]
theorem df_str {H : Hp} {v : V} {z : Str} : DtF H v (.str z) ↔ v = .str z := by rw [DtF]
theorem df_lst {H : Hp} {v : V} {l : List Dt} : DtF H v (.lst l) ↔ ∃ p xs, v = .ref p ∧ H p = some (.lst xs) ∧ Paired (DtF H) xs l ∧ l.length ≤ 100000 := by rw [DtF]; simp only [dfs_iff]
theorem df_tup {H : Hp} {v : V} {l : List Dt} : DtF H v (.tup l) ↔ ∃ p xs, v = .ref p ∧ H p = some (.tup xs) ∧ Paired (DtF H) xs l ∧ l.length ≤ 100000 := by rw [DtF]; simp only [dfs_iff]
mutual
theorem mon_df {H H' : Hp} (s : Same H H') : ∀ {d : Dt} {v : V}, DtF H v d → DtF H' v d
  | .int i, v, h => df_int.mpr (df_int.mp h)
  | .str i, v, h => df_str.mpr (df_str.mp h)
  | .lst l, v, h => by rw [DtF] at h ⊢; obtain ⟨p, xs, e, h, q, b⟩ := h; exact ⟨p, xs, e, s _ _ h, mon_dfs s q, b⟩
  | .tup l, v, h => by rw [DtF] at h ⊢; obtain ⟨p, xs, e, h, q, b⟩ := h; exact ⟨p, xs, e, s _ _ h, mon_dfs s q, b⟩
theorem mon_dfs {H H' : Hp} (s : Same H H') : ∀ {l : List Dt} {xs : List V}, DtFs H xs l → DtFs H' xs l
  | [], xs, h => by rw [DtFs] at h ⊢; exact h
  | d :: l, xs, h => by rw [DtFs] at h ⊢; obtain ⟨x, r, e, h, t⟩ := h; exact ⟨x, r, e, mon_df s h, mon_dfs s t⟩
end
theorem mon_pf {H H' : Hp} (s : Same H H') {xs : List V} {l : List Dt} (h : Paired (DtF H) xs l) : Paired (DtF H') xs l := L2.Paired.mapP h fun _ _ k => mon_df s k
def OdF (H : Hp) (v : V) : Option Dt → Prop
  | none => v = .non
  | some d => DtF H v d
theorem mon_of {H H' : Hp} (s : Same H H') {v : V} {o : Option Dt} (h : OdF H v o) : OdF H' v o := by
  cases o with
  | none => exact h
  | some d => exact mon_df s h
theorem odf_some {H : Hp} {v : V} {d : Dt} (h : OdF H v (some d)) : DtF H v d := h
theorem some_odf {H : Hp} {v : V} {d : Dt} (h : DtF H v d) : OdF H v (some d) := h
theorem odf_int {H : Hp} {i : Int} : OdF H (.int i) (some (.int i)) := (df_int (H := H)).mpr rfl
theorem odf_str {H : Hp} {z : Str} : OdF H (.str z) (some (.str z)) := (df_str (H := H)).mpr rfl
def odep : Option Dt → Nat
  | none => 0
  | some d => (pyD d).depth
mutual
theorem df_of : ∀ {n : Nat} {H : Hp} {v : V} {d : Dt}, DtAt n H v d → DtF H v d
  | n, _, _, .int i, h => df_int.mpr (dt_int.mp h)
  | n, _, _, .str i, h => df_str.mpr (dt_str.mp h)
  | 0, _, _, .lst _, h => h.elim
  | 0, _, _, .tup _, h => h.elim
  | n + 1, _, _, .lst l, h => by rw [DtF]; obtain ⟨p, xs, e, h, q, b⟩ := h; exact ⟨p, xs, e, h, dfs_of q, b⟩
  | n + 1, _, _, .tup l, h => by rw [DtF]; obtain ⟨p, xs, e, h, q, b⟩ := h; exact ⟨p, xs, e, h, dfs_of q, b⟩
theorem dfs_of : ∀ {n : Nat} {H : Hp} {xs : List V} {l : List Dt}, Paired (DtAt n H) xs l → DtFs H xs l
  | n, _, _, [], .nil => by rw [DtFs]
  | n, _, _, d :: l, .cons h t => by rw [DtFs]; exact ⟨_, _, rfl, df_of h, dfs_of t⟩
end
mutual
theorem df_to : ∀ {d : Dt} {n : Nat} {H : Hp} {v : V}, DtF H v d → (pyD d).depth ≤ n → DtAt n H v d
  | .int i, n, H, v, h, _ => dt_int.mpr (df_int.mp h)
  | .str i, n, H, v, h, _ => dt_str.mpr (df_str.mp h)
  | .lst l, 0, H, v, h, k => by simp only [pyD, PyData.depth] at k; omega
  | .tup l, 0, H, v, h, k => by simp only [pyD, PyData.depth] at k; omega
  | .lst l, n + 1, H, v, h, k => by
    rw [DtF] at h
    obtain ⟨p, xs, e, h, q, b⟩ := h
    simp only [pyD, PyData.depth] at k
    exact ⟨p, xs, e, h, dfs_to q (by omega), b⟩
  | .tup l, n + 1, H, v, h, k => by
    rw [DtF] at h
    obtain ⟨p, xs, e, h, q, b⟩ := h
    simp only [pyD, PyData.depth] at k
    exact ⟨p, xs, e, h, dfs_to q (by omega), b⟩
theorem dfs_to : ∀ {l : List Dt} {n : Nat} {H : Hp} {xs : List V}, DtFs H xs l → PyData.depthAll (pyDs l) ≤ n → Paired (DtAt n H) xs l
  | [], n, H, xs, h, _ => by rw [DtFs] at h; subst h; exact .nil
  | d :: l, n, H, xs, h, k => by
    rw [DtFs] at h
    obtain ⟨x, r, rfl, h, t⟩ := h
    simp only [pyDs, PyData.depthAll] at k
    exact .cons (df_to h (by omega)) (dfs_to t (by omega))
end
theorem dep_in {l : List Dt} {d : Dt} : d ∈ l → (pyD d).depth ≤ PyData.depthAll (pyDs l) := by
  induction l with
  | nil => intro h; cases h
  | cons a r ih =>
    intro h
    simp only [pyDs, PyData.depthAll]
    rcases List.mem_cons.mp h with rfl | h
    · omega
    · have := ih h; omega
theorem dep_lst {l : List Dt} : (pyD (.lst l)).depth = PyData.depthAll (pyDs l) + 1 := by simp only [pyD, PyData.depth]
theorem dep_tup {l : List Dt} : (pyD (.tup l)).depth = PyData.depthAll (pyDs l) + 1 := by simp only [pyD, PyData.depth]
/-! ### a copy is new, through and through -/
def spNew (n : Nat) : Sp := fun vs H Q _ => ∃ (v : V) (d : Option Dt), vs = [v] ∧ OdF H v d ∧ odep d ≤ n ∧ ∀ u H', Same H H' → OdF (nw H H') u d → Q u H'
end Bm

set_option Elab.async false
set_option linter.all false
set_option maxRecDepth 100000
set_option maxHeartbeats 4000000
/-! what is drawn, as a shape of the program -/
namespace Bm
open PySem L2
def smIt : Sm → Bs.It
  | .num n s o lo hi => .num n s o lo hi
  | .byt n a => .byt n a
  | .txt n s m => .txt n s m
  | .chk n m => .chk n m
  | .pad n m b => .pad n m b
def smIts : List Sm → Bs.Its
  | [] => .nil
  | x :: r => .cons (smIt x) (smIts r)
def blE : List (List Sm) → Bs.Blks
  | [] => .nil
  | b :: r => .cons 0 (smIts b) (blE r)
def blS : List (Int × List Sm) → Bs.Blks
  | [] => .nil
  | c :: r => .cons c.1 (smIts c.2) (blS r)
def i2It : I2 → Bs.It
  | .sm x => smIt x
  | .rep n a b => .rep n a (smIts b)
  | .eit n bs => .eit n (blE bs)
  | .swi n t cs => .swi n t (blS cs)
def its : List I2 → Bs.Its
  | [] => .nil
  | x :: r => .cons (i2It x) (its r)
/-! ### in the heap -/
theorem sm_at {H : Hp} {v : V} {x : Sm} (h : SmAt H v x) : (smIt x).At false H v := by
  obtain ⟨p, e, h⟩ := h
  cases x <;> (simp only [smIt, Bs.It.At]; exact ⟨p, e, h⟩)
theorem sms_at {H : Hp} : ∀ {b : List Sm} {xs : List V}, Paired (SmAt H) xs b → (smIts b).At false H xs
  | [], _, .nil => by simp only [smIts, Bs.Its.At]
  | x :: r, _, .cons h t => by simp only [smIts, Bs.Its.At]; exact ⟨_, _, rfl, sm_at h, sms_at t⟩
theorem blE_at {H : Hp} : ∀ {bs : List (List Sm)} {xs : List V}, Paired (BkAt H) xs bs → (blE bs).AtE false H xs
  | [], _, .nil => by simp only [blE, Bs.Blks.AtE]
  | b :: r, _, .cons h t => by
    obtain ⟨p, ys, rfl, hp, q⟩ := h
    simp only [blE, Bs.Blks.AtE]
    exact ⟨p, ys, _, rfl, .inl hp, sms_at q, blE_at t⟩
theorem blS_at {H : Hp} : ∀ {cs : List (Int × List Sm)} {xs : List V}, Paired (CsAt H) xs cs → (blS cs).AtS false H xs
  | [], _, .nil => by simp only [blS, Bs.Blks.AtS]
  | c :: r, _, .cons h t => by
    obtain ⟨r1, u, rfl, h1, p, ys, rfl, hp, q⟩ := h
    simp only [blS, Bs.Blks.AtS]
    exact ⟨r1, p, ys, _, rfl, h1, .inl hp, sms_at q, blS_at t⟩
theorem i2_at {H : Hp} {v : V} {x : I2} (h : I2At H v x) : (i2It x).At false H v := by
  cases x with
  | sm x => exact sm_at h
  | rep n a b =>
    obtain ⟨p, u, e, h, q, ys, rfl, hq, k⟩ := h
    simp only [i2It, Bs.It.At]
    exact ⟨p, q, ys, e, h, .inl hq, sms_at k⟩
  | eit n bs =>
    obtain ⟨p, q, xs, e, h, g, k⟩ := h
    simp only [i2It, Bs.It.At]
    exact ⟨p, q, xs, e, h, .inl g, blE_at k⟩
  | swi n t cs =>
    obtain ⟨p, q, xs, e, h, g, k⟩ := h
    simp only [i2It, Bs.It.At]
    exact ⟨p, q, xs, e, h, .inl g, blS_at k⟩
theorem its_at {H : Hp} : ∀ {l : List I2} {xs : List V}, ItsAt H xs l → (its l).At false H xs
  | [], _, .nil => by simp only [its, Bs.Its.At]
  | x :: r, _, .cons h t => by simp only [its, Bs.Its.At]; exact ⟨_, _, rfl, i2_at h, its_at t⟩
/-! ### in their order -/
def I2.subs : I2 → List Sm
  | .sm _ => []
  | .rep _ _ b => b
  | .eit _ bs => bs.flatten
  | .swi _ _ cs => (cs.map (·.2)).flatten
theorem names_subs (x : I2) : x.names = x.name :: x.subs.map Sm.name := by
  cases x with
  | sm x => rfl
  | rep n a b => rfl
  | eit n bs => simp only [I2.names, I2.subs, I2.name, List.map_flatten, List.flatMap]
  | swi n t cs => simp only [I2.names, I2.subs, I2.name, List.map_flatten, List.flatMap, List.map_map]; rfl
theorem sm_name (x : Sm) : (smIt x).name = x.name := by cases x <;> rfl
theorem sm_kind (x : Sm) : (smIt x).kind = x.kind := by cases x <;> rfl
theorem i2_name (x : I2) : (i2It x).name = x.name := by cases x <;> first | exact sm_name _ | rfl
theorem i2_kind (x : I2) : (i2It x).kind = x.kind := by cases x <;> first | exact sm_kind _ | rfl
theorem sm_walk (d : Int) (x : Sm) : (smIt x).walk d = [(d, smIt x)] := by cases x <;> simp only [smIt, Bs.It.walk]
theorem sms_walk (d : Int) : ∀ b : List Sm, (smIts b).walk d = b.map fun x => (d, smIt x)
  | [] => by simp only [smIts, Bs.Its.walk, List.map_nil]
  | x :: r => by simp only [smIts, Bs.Its.walk, sm_walk, sms_walk d r, List.map_cons, List.singleton_append]
theorem blE_walk (d : Int) : ∀ bs : List (List Sm), (blE bs).walk d = bs.flatten.map fun x => (d, smIt x)
  | [] => by simp only [blE, Bs.Blks.walk, List.flatten_nil, List.map_nil]
  | b :: r => by simp only [blE, Bs.Blks.walk, sms_walk, blE_walk d r, List.flatten_cons, List.map_append]
theorem blS_walk (d : Int) : ∀ cs : List (Int × List Sm), (blS cs).walk d = (cs.map (·.2)).flatten.map fun x => (d, smIt x)
  | [] => by simp only [blS, Bs.Blks.walk, List.flatten_nil, List.map_nil]
  | b :: r => by simp only [blS, Bs.Blks.walk, sms_walk, blS_walk d r, List.map_cons, List.flatten_cons, List.map_append]
theorem i2_walk (d : Int) (x : I2) : (i2It x).walk d = (d, i2It x) :: x.subs.map fun y => (d + 1, smIt y) := by
  cases x with
  | sm x => simp only [i2It, sm_walk, I2.subs, List.map_nil]
  | rep n a b => simp only [i2It, Bs.It.walk, sms_walk, I2.subs]
  | eit n bs => simp only [i2It, Bs.It.walk, blE_walk, I2.subs]
  | swi n t cs => simp only [i2It, Bs.It.walk, blS_walk, I2.subs]
theorem its_walk (d : Int) : ∀ l : List I2, (its l).walk d = l.flatMap fun x => (i2It x).walk d
  | [] => by simp only [its, Bs.Its.walk, List.flatMap_nil]
  | x :: r => by simp only [its, Bs.Its.walk, its_walk d r, List.flatMap_cons]
theorem walk_names : ∀ l : List I2, ((its l).walk 0).map (·.2.name) = l.flatMap I2.names
  | [] => by simp only [its, Bs.Its.walk, List.map_nil, List.flatMap_nil]
  | x :: r => by
    have ih := walk_names r
    simp only [its, Bs.Its.walk, List.map_append, ih, List.flatMap_cons, i2_walk, List.map_cons, List.map_map, i2_name, names_subs]
    congr 2
    exact List.map_congr_left fun y _ => sm_name y
theorem its_len : ∀ l : List I2, (its l).len = l.length
  | [] => rfl
  | x :: r => by simp only [its, Bs.Its.len, its_len r, List.length_cons]
theorem sms_len : ∀ l : List Sm, (smIts l).len = l.length
  | [] => rfl
  | x :: r => by simp only [smIts, Bs.Its.len, sms_len r, List.length_cons]
theorem blE_len : ∀ l : List (List Sm), (blE l).len = l.length
  | [] => rfl
  | x :: r => by simp only [blE, Bs.Blks.len, blE_len r, List.length_cons]
theorem blS_len : ∀ l : List (Int × List Sm), (blS l).len = l.length
  | [] => rfl
  | x :: r => by simp only [blS, Bs.Blks.len, blS_len r, List.length_cons]
theorem blS_vals : ∀ l : List (Int × List Sm), (blS l).vals = l.map (·.1)
  | [] => rfl
  | x :: r => by simp only [blS, Bs.Blks.vals, blS_vals r, List.map_cons]
/-! ### names -/
theorem nm_bs (z : Str) : Bs.isName z = isName z := by
  unfold Bs.isName isName
  cases z.cps.toList <;> rfl
theorem nm_len {z : Str} (h : isName z = true) : 1 ≤ z.length ∧ z.length ≤ 12 := by
  have hl : z.length = z.cps.toList.length := by simp [Str.length]
  unfold isName at h
  cases e : z.cps.toList with
  | nil => rw [e] at h; cases h
  | cons c r =>
    rw [e] at h
    simp only [nameOk, Bool.and_eq_true, decide_eq_true_eq] at h
    rw [hl, e, List.length_cons]
    omega
theorem nm_repr {z : Str} (h : isName z = true) : z.length ≤ 1000 ∧ (reprText z).length ≤ 1000 := by
  have l := nm_len h
  have r := StrLaws.reprText_len z (isName_S h).1.2
  exact ⟨by omega, by omega⟩
/-! ### lengths -/
theorem plain_num {s lo hi : Int} {o : Str} (h : s = 1 ∧ o = "big" ∧ 0 ≤ lo ∧ lo ≤ hi ∧ hi ≤ 255) : Bs.numOk s o lo hi = true := by
  obtain ⟨rfl, rfl, h1, h2, h3⟩ := h
  unfold Bs.numOk
  simp only [Bool.and_eq_true, decide_eq_true_eq]
  refine ⟨by decide, .inl (by decide), ?_, h1, h2⟩
  split <;> omega
theorem plain_lens {x : Sm} (h : x.plain) (f : Bs.Env) : ∃ l, (smIt x).lens f = some l ∧ 1 ≤ l.1 := by
  cases x with
  | num n s o lo hi =>
    refine ⟨(s, s), by simp only [smIt, Bs.It.lens]; rw [if_pos (plain_num h)], ?_⟩
    show 1 ≤ s
    rw [h.1]; decide
  | byt n a =>
    rcases h with rfl | rfl
    · exact ⟨(1, 1), by simp only [smIt, Bs.It.lens, Bs.amount]; rfl, Int.le_refl _⟩
    · exact ⟨(2, 2), by simp only [smIt, Bs.It.lens, Bs.amount]; rfl, by decide⟩
  | _ => exact h.elim
def nxE (f : Bs.Env) : Bs.It → Bs.Env
  | .num n _ _ low high => f.put n (low, high)
  | _ => f
theorem lens_cons {f : Bs.Env} {x : Bs.It} {r : Bs.Its} {a c : Int × Int} (ea : x.lens f = some a) (ec : r.lens (nxE f x) = some c) : (Bs.Its.cons x r).lens f = some (a.1 + c.1, a.2 + c.2) := by
  cases x <;> (simp only [nxE] at ec; simp only [Bs.Its.lens, ea, ec])
theorem sms_lens : ∀ {b : List Sm}, (∀ x ∈ b, x.plain) → ∀ f : Bs.Env, ∃ l, (smIts b).lens f = some l ∧ (b.length : Int) ≤ l.1
  | [], _, f => ⟨(0, 0), by simp only [smIts, Bs.Its.lens], Int.le_refl _⟩
  | x :: r, h, f => by
    obtain ⟨a, ea, ha⟩ := plain_lens (h x (List.mem_cons_self ..)) f
    obtain ⟨c, ec, hc⟩ := sms_lens (fun y hy => h y (List.mem_cons_of_mem _ hy)) (nxE f (smIt x))
    refine ⟨(a.1 + c.1, a.2 + c.2), lens_cons ea ec, ?_⟩
    show ((r.length + 1 : Nat) : Int) ≤ a.1 + c.1
    omega
theorem blE_lens (f : Bs.Env) : ∀ {bs : List (List Sm)}, (∀ b ∈ bs, ∀ x ∈ b, x.plain) → ∃ r, (blE bs).lens f = some r ∧ Paired (fun (p : Int × Int) (b : List Sm) => (b.length : Int) ≤ p.1) r bs
  | [], _ => ⟨[], by simp only [blE, Bs.Blks.lens], .nil⟩
  | b :: r, h => by
    obtain ⟨l, el, hl⟩ := sms_lens (h b (List.mem_cons_self ..)) f
    obtain ⟨t, et, ht⟩ := blE_lens f fun b hb => h b (List.mem_cons_of_mem _ hb)
    exact ⟨l :: t, by simp only [blE, Bs.Blks.lens, el, et], .cons hl ht⟩
theorem blS_lens (f : Bs.Env) : ∀ {cs : List (Int × List Sm)}, (∀ c ∈ cs, ∀ x ∈ c.2, x.plain) → ∃ r, (blS cs).lens f = some r ∧ r.length = cs.length
  | [], _ => ⟨[], by simp only [blS, Bs.Blks.lens], rfl⟩
  | b :: r, h => by
    obtain ⟨l, el, hl⟩ := sms_lens (h b (List.mem_cons_self ..)) f
    obtain ⟨t, et, ht⟩ := blS_lens f fun b hb => h b (List.mem_cons_of_mem _ hb)
    exact ⟨l :: t, by simp only [blS, Bs.Blks.lens, el, et], by rw [List.length_cons, List.length_cons, ht]⟩
theorem spread_some {r : List (Int × Int)} (h : r ≠ []) : ∃ l, Bs.spread r = some l := by
  cases r with
  | nil => exact absurd rfl h
  | cons a t =>
    unfold Bs.spread
    simp only [List.map_cons, List.min?_cons', List.max?_cons']
    exact ⟨_, rfl⟩
def EnvA (ah : List Str) (f : Bs.Env) : Prop := ∀ z ∈ ah, ∃ p : Int × Int, f z = some p ∧ 0 ≤ p.1 ∧ p.2 ≤ 7
theorem am_lens {ah : List Str} {f : Bs.Env} {m most : Int} {a : Key} (hf : EnvA ah f) (h : amOk m ah a) (h1 : m ≤ most) (h2 : 7 ≤ most) : ∃ l, Bs.amount f most a = some l := by
  rcases h with ⟨i, rfl, h3, h4⟩ | ⟨z, rfl, hz⟩
  · exact ⟨(i, i), by simp only [Bs.amount]; rw [if_pos (by omega)]⟩
  · obtain ⟨p, e, _, h5⟩ := hf z hz
    exact ⟨p, by simp only [Bs.amount, e]; rw [if_pos (by omega)]⟩
theorem i2_lens {ah : List Str} {f : Bs.Env} {x : I2} (hf : EnvA ah f) (h : x.ok ah) : ∃ l, (i2It x).lens f = some l := by
  cases x with
  | sm y =>
    cases y with
    | num n s o lo hi =>
      refine ⟨(s, s), ?_⟩
      simp only [i2It, smIt, Bs.It.lens]
      rw [if_pos ?_]
      obtain ⟨h1, h2, h3, h4⟩ := h
      unfold Bs.numOk
      simp only [Bool.and_eq_true, decide_eq_true_eq]
      rcases h4 with ⟨rfl, h4⟩ | ⟨rfl, h4⟩
      · exact ⟨by decide, h1, by split <;> omega, h2, h3⟩
      · exact ⟨by decide, h1, by split <;> omega, h2, h3⟩
    | byt n a => simp only [i2It, smIt, Bs.It.lens]; exact am_lens hf h (by decide) (by decide)
    | txt n s m =>
      refine ⟨(1, m + 1), ?_⟩
      simp only [i2It, smIt, Bs.It.lens]
      rw [if_pos ?_]
      obtain ⟨h1, h2, h3⟩ := h
      exact ⟨h1, h2, by omega⟩
    | chk n m =>
      refine ⟨(1, 1), ?_⟩
      simp only [i2It, smIt, Bs.It.lens]
      rw [if_pos ?_]
      obtain ⟨h1, h2⟩ := h
      exact ⟨h1, by omega⟩
    | pad n m b =>
      refine ⟨(0, m - 1), ?_⟩
      simp only [i2It, smIt, Bs.It.lens]
      rw [if_pos ?_]
      obtain ⟨h1, h2⟩ := h
      exact ⟨by omega, h2⟩
  | rep n a b =>
    obtain ⟨h1, ⟨h2, h3⟩, h4⟩ := h
    obtain ⟨l, el⟩ := am_lens hf h1 (most := 16) (by decide) (by decide)
    obtain ⟨c, ec, hc⟩ := sms_lens h4 f
    exact ⟨(l.1 * c.1, l.2 * c.2), by simp only [i2It, Bs.It.lens, el, ec]; rw [if_pos (by omega)]⟩
  | eit n bs =>
    obtain ⟨⟨h1, h2⟩, h3, h4⟩ := h
    obtain ⟨r, er, hr⟩ := blE_lens f fun b hb => (h3 b hb).2
    obtain ⟨l, el⟩ := spread_some (r := r) (fun z => by subst z; cases hr; simp at h1)
    refine ⟨l, ?_⟩
    simp only [i2It, Bs.It.lens, er]
    rw [if_pos ?_]
    · exact el
    cases hr with
    | nil => simp
    | @cons p b r bs g t =>
      have : (r.filter fun p => decide (p.1 = 0)) = [] := by
        rw [List.filter_eq_nil_iff]
        intro p hp
        obtain ⟨b, hb, k⟩ := pmem t p hp
        have := h4 b hb
        simp only [decide_eq_true_eq]
        omega
      rw [List.filter_cons, this]
      split <;> simp
  | swi n t cs =>
    obtain ⟨h1, ⟨h2, h3⟩, h4, h5⟩ := h
    obtain ⟨r, er, hr⟩ := blS_lens f fun c hc => (h4 c hc).2.2
    obtain ⟨l, el⟩ := spread_some (r := r) (fun z => by subst z; simp at hr; omega)
    refine ⟨l, ?_⟩
    simp only [i2It, Bs.It.lens, er]
    rw [if_pos ?_]
    · exact el
    obtain ⟨p, e, _⟩ := hf t h1
    refine ⟨by rw [e]; rfl, ?_, ?_⟩
    · rw [blS_vals]
      intro v hv
      obtain ⟨c, hc, rfl⟩ := List.mem_map.mp hv
      have := (h4 c hc).1
      omega
    · rw [blS_vals]; exact h5
theorem its_lens : ∀ {l : List I2} {ah : List Str} {f : Bs.Env}, OkL ah l → EnvA ah f → (∀ x ∈ l, x.name ∉ ah) → (l.map I2.name).Nodup → ∃ r, (its l).lens f = some r
  | [], ah, f, _, _, _, _ => ⟨(0, 0), by simp only [its, Bs.Its.lens]⟩
  | x :: r, ah, f, h, hf, out, nd => by
    obtain ⟨a, ea⟩ := i2_lens hf h.1
    have nx := out x (List.mem_cons_self ..)
    rw [List.map_cons, List.nodup_cons] at nd
    obtain ⟨c, ec⟩ := its_lens (f := nxE f (i2It x)) h.2 (fun z hz => by
      cases x with
      | sm y =>
        cases y with
        | num n s o lo hi =>
          have nx : n ∉ ah := nx
          simp only [i2It, smIt, nxE, Bs.Env.put]
          rcases List.mem_append.mp hz with hz | hz
          · rw [if_neg (fun e => nx (by rw [← e]; exact hz))]
            exact hf z hz
          · obtain ⟨_, h2, h3, h4⟩ := h.1
            simp only [I2.tells] at hz
            split at hz
            · next e =>
              rw [if_pos (List.mem_singleton.mp hz)]
              exact ⟨_, rfl, h2, by show hi ≤ 7; omega⟩
            · cases hz
        | _ => simp only [I2.tells, List.append_nil] at hz; exact hf z hz
      | _ => simp only [I2.tells, List.append_nil] at hz; exact hf z hz) (fun y hy z => by
      rcases List.mem_append.mp z with z | z
      · exact out y (List.mem_cons_of_mem _ hy) z
      · have e : y.name = x.name := by
          cases x with
          | sm w => cases w with
            | num n s o lo hi =>
              simp only [I2.tells] at z
              split at z
              · exact List.mem_singleton.mp z
              · cases z
            | _ => cases z
          | _ => cases z
        exact nd.1 (by rw [← e]; exact List.mem_map_of_mem hy)) nd.2
    exact ⟨(a.1 + c.1, a.2 + c.2), lens_cons ea ec⟩
/-! ### it is a shape -/
theorem sm_ok {x : Sm} {d : Int} (h : isName x.name = true) (hd : d ≤ 3) : (smIt x).ok d = true := by
  cases x <;> (simp only [smIt, Bs.It.ok, Bs.It.name, nm_bs, Bool.and_eq_true, decide_eq_true_eq]; exact ⟨h, hd⟩)
theorem sms_ok {d : Int} (hd : d ≤ 3) : ∀ {b : List Sm}, (∀ y ∈ b, isName y.name = true) → (smIts b).ok d = true
  | [], _ => by simp only [smIts, Bs.Its.ok]
  | x :: r, h => by simp only [smIts, Bs.Its.ok, Bool.and_eq_true]; exact ⟨sm_ok (h x (List.mem_cons_self ..)) hd, sms_ok hd fun y hy => h y (List.mem_cons_of_mem _ hy)⟩
theorem blE_ok {d : Int} (hd : d ≤ 3) : ∀ {bs : List (List Sm)}, (∀ b ∈ bs, b.length ≤ 12 ∧ ∀ y ∈ b, isName y.name = true) → (blE bs).ok d = true
  | [], _ => by simp only [blE, Bs.Blks.ok]
  | b :: r, h => by
    have hb := h b (List.mem_cons_self ..)
    simp only [blE, Bs.Blks.ok, Bool.and_eq_true, decide_eq_true_eq, sms_len]
    exact ⟨⟨hb.1, sms_ok hd hb.2⟩, blE_ok hd fun b hb => h b (List.mem_cons_of_mem _ hb)⟩
theorem blS_ok {d : Int} (hd : d ≤ 3) : ∀ {bs : List (Int × List Sm)}, (∀ b ∈ bs, b.2.length ≤ 12 ∧ ∀ y ∈ b.2, isName y.name = true) → (blS bs).ok d = true
  | [], _ => by simp only [blS, Bs.Blks.ok]
  | b :: r, h => by
    have hb := h b (List.mem_cons_self ..)
    simp only [blS, Bs.Blks.ok, Bool.and_eq_true, decide_eq_true_eq, sms_len]
    exact ⟨⟨hb.1, sms_ok hd hb.2⟩, blS_ok hd fun b hb => h b (List.mem_cons_of_mem _ hb)⟩
theorem i2_ok {ah : List Str} {x : I2} (h : x.ok ah) (nm : ∀ z ∈ x.names, isName z = true) : (i2It x).ok 0 = true := by
  have n0 := nm _ (name_in x)
  have ns : ∀ y ∈ x.subs, isName y.name = true := fun y hy => nm _ (by rw [names_subs]; exact List.mem_cons_of_mem _ (List.mem_map_of_mem hy))
  cases x with
  | sm y => exact sm_ok n0 (by decide)
  | rep n a b =>
    have n0 : isName n = true := n0
    have hl : b.length ≤ 2 := h.2.1.2
    simp only [i2It, Bs.It.ok, nm_bs, Bool.and_eq_true, decide_eq_true_eq, sms_len]
    exact ⟨n0, by decide, by omega, sms_ok (by decide) ns⟩
  | eit n bs =>
    have n0 : isName n = true := n0
    obtain ⟨⟨h1, h2⟩, h3, _⟩ := h
    simp only [i2It, Bs.It.ok, nm_bs, Bool.and_eq_true, decide_eq_true_eq, blE_len]
    exact ⟨n0, by decide, ⟨h1, by omega⟩, blE_ok (by decide) fun b hb => ⟨by have := (h3 b hb).1; omega, fun y hy => ns y (List.mem_flatten.mpr ⟨b, hb, hy⟩)⟩⟩
  | swi n t cs =>
    have n0 : isName n = true := n0
    obtain ⟨_, ⟨h1, h2⟩, h3, _⟩ := h
    simp only [i2It, Bs.It.ok, nm_bs, Bool.and_eq_true, decide_eq_true_eq, blS_len]
    exact ⟨n0, by decide, ⟨h1, by omega⟩, blS_ok (by decide) fun b hb => ⟨by have := (h3 b hb).2.1; omega, fun y hy => ns y (List.mem_flatten.mpr ⟨b.2, List.mem_map_of_mem hb, hy⟩)⟩⟩
theorem its_ok : ∀ {l : List I2}, (∀ x ∈ l, ∃ ah, x.ok ah) → (∀ x ∈ l, ∀ z ∈ x.names, isName z = true) → (its l).ok 0 = true
  | [], _, _ => by simp only [its, Bs.Its.ok]
  | x :: r, h, nm => by
    obtain ⟨ah, hx⟩ := h x (List.mem_cons_self ..)
    simp only [its, Bs.Its.ok, Bool.and_eq_true]
    exact ⟨i2_ok hx (nm x (List.mem_cons_self ..)), its_ok (fun y hy => h y (List.mem_cons_of_mem _ hy)) fun y hy => nm y (List.mem_cons_of_mem _ hy)⟩
theorem subs_plain {ah : List Str} {x : I2} (h : x.ok ah) : ∀ y ∈ x.subs, y.plain := by
  cases x with
  | sm y => intro y hy; cases hy
  | rep n a b => exact h.2.2
  | eit n bs =>
    intro y hy
    obtain ⟨b, hb, hy⟩ := List.mem_flatten.mp hy
    exact (h.2.1 b hb).2 y hy
  | swi n t cs =>
    intro y hy
    obtain ⟨b, hb, hy⟩ := List.mem_flatten.mp hy
    obtain ⟨c, hc, rfl⟩ := List.mem_map.mp hb
    exact (h.2.2.1 c hc).2.2 y hy
theorem flat_le {α : Type} {k n : Nat} : ∀ {bs : List (List α)}, bs.length ≤ n → (∀ b ∈ bs, b.length ≤ k) → bs.flatten.length ≤ n * k
  | [], _, _ => Nat.zero_le _
  | b :: r, h, hb => by
    cases n with
    | zero => simp at h
    | succ n =>
      have ih := flat_le (n := n) (bs := r) (by simpa using h) fun b hb' => hb b (List.mem_cons_of_mem _ hb')
      have := hb b (List.mem_cons_self ..)
      rw [List.flatten_cons, List.length_append, Nat.succ_mul]
      omega
theorem subs_len {ah : List Str} {x : I2} (h : x.ok ah) : x.subs.length ≤ 6 := by
  cases x with
  | sm y => exact Nat.zero_le _
  | rep n a b => show b.length ≤ 6; have := h.2.1.2; omega
  | eit n bs => exact flat_le (n := 3) (k := 2) h.1.2 fun b hb => (h.2.1 b hb).1
  | swi n t cs =>
    refine flat_le (n := 3) (k := 2) (by rw [List.length_map]; exact h.2.1.2) fun b hb => ?_
    obtain ⟨c, hc, rfl⟩ := List.mem_map.mp hb
    exact (h.2.2.1 c hc).2.1
theorem walk_len : ∀ {l : List I2}, (∀ x ∈ l, ∃ ah, x.ok ah) → ((its l).walk 0).length ≤ 7 * l.length
  | [], _ => by simp only [its, Bs.Its.walk]; exact Nat.zero_le _
  | x :: r, h => by
    obtain ⟨ah, hx⟩ := h x (List.mem_cons_self ..)
    have ih := walk_len fun y hy => h y (List.mem_cons_of_mem _ hy)
    have := subs_len hx
    simp only [its, Bs.Its.walk, i2_walk, List.length_append, List.length_cons, List.length_map]
    omega
theorem sm_chk (x : Sm) : (smIt x).isChk = (I2.sm x).isChk := by cases x <;> rfl
theorem plain_chk {x : Sm} (h : x.plain) : (smIt x).isChk = false := by cases x <;> first | rfl | exact h.elim
theorem walk_chk : ∀ {l : List I2}, (∀ x ∈ l, ∃ ah, x.ok ah) → (((its l).walk 0).filter (·.2.isChk)).length = (l.filter I2.isChk).length
  | [], _ => by simp only [its, Bs.Its.walk, List.filter_nil, List.length_nil]
  | x :: r, h => by
    obtain ⟨ah, hx⟩ := h x (List.mem_cons_self ..)
    have ih := walk_chk fun y hy => h y (List.mem_cons_of_mem _ hy)
    have e0 : ((x.subs.map fun y => ((0 : Int) + 1, smIt y)).filter (·.2.isChk)) = [] := by
      rw [List.filter_eq_nil_iff]
      intro p hp
      obtain ⟨y, hy, rfl⟩ := List.mem_map.mp hp
      show ¬ (smIt y).isChk = true
      rw [plain_chk (subs_plain hx y hy)]; decide
    have e1 : (i2It x).isChk = x.isChk := by cases x <;> first | exact sm_chk _ | rfl
    simp only [its, Bs.Its.walk, List.filter_append, i2_walk, List.filter_cons, e0, List.length_append, ih, e1]
    cases x.isChk <;> simp [Nat.add_comm]
theorem nodup_of_map {α β : Type} {g : α → β} : ∀ {l : List α}, (l.map g).Nodup → l.Nodup
  | [], _ => List.nodup_nil
  | x :: r, h => by
    rw [List.map_cons, List.nodup_cons] at h
    exact List.nodup_cons.mpr ⟨fun m => h.1 (List.mem_map_of_mem m), nodup_of_map h.2⟩
theorem Drawn.tops {l : List I2} (h : Drawn l) : (l.map I2.name).Nodup := nodup_of_map (g := hd) (by rw [List.map_map]; exact h.top)
theorem Drawn.isN {l : List I2} (h : Drawn l) : ∀ x ∈ l, ∀ z ∈ x.names, isName z = true := fun x hx z hz => (h.nm z (List.mem_flatMap.mpr ⟨x, hx, hz⟩)).1
theorem Drawn.oks {l : List I2} (h : Drawn l) : ∀ x ∈ l, ∃ ah, x.ok ah := okL_in h.ok
theorem Drawn.names {l : List I2} : (its l).names = l.flatMap I2.names := walk_names l
theorem Drawn.shape {l : List I2} (h : Drawn l) : (its l).shape = true := by
  have h4 := h.n4
  have h1 := h.n1
  have wl := walk_len h.oks
  obtain ⟨r, er⟩ := its_lens (f := fun _ => none) h.ok (fun z hz => by cases hz) (fun x _ z => by cases z) h.tops
  unfold Bs.Its.shape
  simp only [Bool.and_eq_true, decide_eq_true_eq, its_len]
  refine ⟨⟨by omega, its_ok h.oks h.isN⟩, h1, by omega, ?_, ?_, by rw [er]; rfl⟩
  · rw [Drawn.names]; exact h.nd
  · rw [walk_chk h.oks]; exact h.chk
/-! ### its names are short -/
theorem sm_tame {x : Sm} (h : isName x.name = true) (ha : ∀ n z, x = .byt n (.inr z) → isName z = true) : (smIt x).tame := by
  have n1 := (nm_repr h).1
  cases x with
  | byt n a =>
    simp only [smIt, Bs.It.tame]
    exact ⟨n1, fun z e => nm_repr (ha n z (by rw [e]))⟩
  | _ => simp only [smIt, Bs.It.tame, Bs.It.name]; exact n1
theorem plain_tame {x : Sm} (h : isName x.name = true) (p : x.plain) : (smIt x).tame := sm_tame h fun n z e => by
  subst e
  rcases p with p | p <;> cases p
theorem sms_tame : ∀ {b : List Sm}, (∀ y ∈ b, isName y.name = true) → (∀ y ∈ b, y.plain) → (smIts b).tame
  | [], _, _ => by simp only [smIts, Bs.Its.tame]
  | x :: r, h, p => by simp only [smIts, Bs.Its.tame]; exact ⟨plain_tame (h x (List.mem_cons_self ..)) (p x (List.mem_cons_self ..)), sms_tame (fun y hy => h y (List.mem_cons_of_mem _ hy)) fun y hy => p y (List.mem_cons_of_mem _ hy)⟩
theorem blE_tame : ∀ {bs : List (List Sm)}, (∀ b ∈ bs, ∀ y ∈ b, isName y.name = true ∧ y.plain) → (blE bs).tame
  | [], _ => by simp only [blE, Bs.Blks.tame]
  | b :: r, h => by
    have hb := h b (List.mem_cons_self ..)
    simp only [blE, Bs.Blks.tame]
    exact ⟨sms_tame (fun y hy => (hb y hy).1) fun y hy => (hb y hy).2, blE_tame fun b hb => h b (List.mem_cons_of_mem _ hb)⟩
theorem blS_tame : ∀ {bs : List (Int × List Sm)}, (∀ b ∈ bs, ∀ y ∈ b.2, isName y.name = true ∧ y.plain) → (blS bs).tame
  | [], _ => by simp only [blS, Bs.Blks.tame]
  | b :: r, h => by
    have hb := h b (List.mem_cons_self ..)
    simp only [blS, Bs.Blks.tame]
    exact ⟨sms_tame (fun y hy => (hb y hy).1) fun y hy => (hb y hy).2, blS_tame fun b hb => h b (List.mem_cons_of_mem _ hb)⟩
theorem am_nm {m : Int} {ah : List Str} {a : Key} (hA : ∀ z ∈ ah, isName z = true) (h : amOk m ah a) : ∀ z, a = .inr z → isName z = true := by
  rintro z rfl
  rcases h with ⟨i, e, _⟩ | ⟨y, e, hy⟩
  · cases e
  · cases e; exact hA _ hy
theorem i2_tame {ah : List Str} {x : I2} (hA : ∀ z ∈ ah, isName z = true) (h : x.ok ah) (nm : ∀ z ∈ x.names, isName z = true) : (i2It x).tame := by
  have n0 := nm _ (name_in x)
  have n1 := (nm_repr n0).1
  have ns : ∀ y ∈ x.subs, isName y.name = true ∧ y.plain := fun y hy => ⟨nm _ (by rw [names_subs]; exact List.mem_cons_of_mem _ (List.mem_map_of_mem hy)), subs_plain h y hy⟩
  cases x with
  | sm y => exact sm_tame n0 fun n z e => by subst e; exact am_nm hA h z rfl
  | rep n a b =>
    simp only [i2It, Bs.It.tame]
    exact ⟨n1, fun z e => nm_repr (am_nm hA h.1 z e), sms_tame (fun y hy => (ns y hy).1) fun y hy => (ns y hy).2⟩
  | eit n bs =>
    simp only [i2It, Bs.It.tame]
    exact ⟨n1, blE_tame fun b hb y hy => ns y (List.mem_flatten.mpr ⟨b, hb, hy⟩)⟩
  | swi n t cs =>
    simp only [i2It, Bs.It.tame]
    exact ⟨n1, by rw [blS_vals]; exact h.2.2.2, blS_tame fun b hb y hy => ns y (List.mem_flatten.mpr ⟨b.2, List.mem_map_of_mem hb, hy⟩)⟩
theorem tells_in {x : I2} {z : Str} (h : z ∈ x.tells) : z = x.name := by
  cases x with
  | sm w => cases w with
    | num n s o lo hi =>
      simp only [I2.tells] at h
      split at h
      · exact List.mem_singleton.mp h
      · cases h
    | _ => cases h
  | _ => cases h
theorem its_tame : ∀ {l : List I2} {ah : List Str}, (∀ z ∈ ah, isName z = true) → OkL ah l → (∀ x ∈ l, ∀ z ∈ x.names, isName z = true) → (its l).tame
  | [], _, _, _, _ => by simp only [its, Bs.Its.tame]
  | x :: r, ah, hA, h, nm => by
    have hx := nm x (List.mem_cons_self ..)
    simp only [its, Bs.Its.tame]
    refine ⟨i2_tame hA h.1 hx, its_tame (fun z hz => ?_) h.2 fun y hy => nm y (List.mem_cons_of_mem _ hy)⟩
    rcases List.mem_append.mp hz with hz | hz
    · exact hA z hz
    · rw [tells_in hz]; exact hx _ (name_in x)
theorem Drawn.tame {l : List I2} (h : Drawn l) : (its l).tame := its_tame (fun z hz => by cases hz) h.ok h.isN
/-! ### its items by name -/
/-- the item of this name is of this kind -/
def KD (l : List I2) (z kd : Str) : Prop := z ∈ (its l).names ∧ ∀ d y, (d, y) ∈ (its l).walk 0 → y.name = z → y.kind = kd
theorem nodup_eq {α β : Type} {g : α → β} : ∀ {l : List α} {a b : α}, (l.map g).Nodup → a ∈ l → b ∈ l → g a = g b → a = b
  | c :: r, a, b, nd, ha, hb, e => by
    rw [List.map_cons, List.nodup_cons] at nd
    rcases List.mem_cons.mp ha with ea | ha
    · rcases List.mem_cons.mp hb with eb | hb
      · rw [ea, eb]
      · exact absurd (by rw [← ea, e]; exact List.mem_map_of_mem hb) nd.1
    · rcases List.mem_cons.mp hb with eb | hb
      · exact absurd (by rw [← eb, ← e]; exact List.mem_map_of_mem ha) nd.1
      · exact nodup_eq nd.2 ha hb e
theorem kd_of {l : List I2} {d : Int} {y : Bs.It} (h : Drawn l) (m : (d, y) ∈ (its l).walk 0) : KD l y.name y.kind := by
  refine ⟨?_, fun d' y' m' e => ?_⟩
  · show y.name ∈ ((its l).walk 0).map (·.2.name)
    exact List.mem_map_of_mem (f := fun p : Int × Bs.It => p.2.name) m
  · have nd : (((its l).walk 0).map (·.2.name)).Nodup := by rw [walk_names]; exact h.nd
    have := nodup_eq nd m' m e
    rw [show y' = y from congrArg Prod.snd this]
theorem Drawn.kd {l : List I2} (h : Drawn l) {x : I2} (hx : x ∈ l) : KD l x.name x.kind := by
  have := kd_of (d := 0) (y := i2It x) h (by rw [its_walk]; exact List.mem_flatMap.mpr ⟨x, hx, by rw [i2_walk]; exact List.mem_cons_self ..⟩)
  rw [i2_name, i2_kind] at this; exact this
theorem Drawn.kds {l : List I2} (h : Drawn l) {x : I2} {y : Sm} (hx : x ∈ l) (hy : y ∈ x.subs) : KD l y.name y.kind := by
  have := kd_of (d := 0 + 1) (y := smIt y) h (by rw [its_walk]; exact List.mem_flatMap.mpr ⟨x, hx, by rw [i2_walk]; exact List.mem_cons_of_mem _ (List.mem_map_of_mem (f := fun y => ((0 : Int) + 1, smIt y)) hy)⟩)
  rw [sm_name, sm_kind] at this; exact this
end Bm

set_option Elab.async false
set_option linter.all false
set_option maxRecDepth 100000
set_option maxHeartbeats 4000000
/-! features of a shape, and the narrow shapes: the mathematics -/
namespace Bm
open PySem L2
/-- a feature: its word, the item's name, the number of a choice or the value of a case -/
structure Ft where
  word : Str
  name : Str
  more : Option Int
deriving DecidableEq
def Ft.row (f : Ft) : List V := .str f.word :: .str f.name :: (f.more.map V.int).toList
def FtAt (H : Hp) (v : V) (f : Ft) : Prop := ∃ t, v = .ref t ∧ H t = some (.tup f.row)
theorem FtAt.tk {H H' : Hp} (s : Tk H H') {v : V} {f : Ft} (h : FtAt H v f) : FtAt H' v f := by
  obtain ⟨t, e, h⟩ := h; exact ⟨t, e, s _ _ h⟩
def featsOf : I2 → List Ft
  | .sm (.num n _ _ lo hi) => if lo = hi then [⟨"least", n, none⟩] else [⟨"least", n, none⟩, ⟨"greatest", n, none⟩]
  | .sm (.txt n _ _) => [⟨"empty", n, none⟩]
  | .eit n bs => (List.range bs.length).map fun (k : Nat) => ⟨"choice", n, some (k : Int)⟩
  | .swi n _ cs => cs.map fun c => ⟨"case", n, some c.1⟩
  | _ => []
theorem feat_name {x : I2} {f : Ft} (h : f ∈ featsOf x) : f.name = x.name := by
  cases x with
  | sm y =>
    cases y with
    | num n s o lo hi =>
      simp only [featsOf] at h
      split at h <;> simp at h
      · rw [h]; rfl
      · rcases h with rfl | rfl <;> rfl
    | txt n s m => simp only [featsOf, List.mem_singleton] at h; rw [h]; rfl
    | _ => cases h
  | rep n a b => cases h
  | eit n bs => obtain ⟨k, _, rfl⟩ := List.mem_map.mp h; rfl
  | swi n t cs => obtain ⟨c, _, rfl⟩ := List.mem_map.mp h; rfl
/-- what an item is made to by a feature of it -/
def narI : I2 → Ft → List I2
  | .sm (.num n s o lo hi), f => if f.word = "least" then [.sm (.num n s o lo lo)] else [.sm (.num n s o hi hi)]
  | .sm (.txt n s _), _ => [.sm (.txt n s 0)]
  | .eit _ bs, f => ((bs[(f.more.getD 0).toNat]?).getD []).map .sm
  | .swi n t cs, f => [.swi n t (cs.filter fun c => c.1 = f.more.getD 0)]
  | x, _ => [x]
def narL (l : List I2) (i : Nat) (ys : List I2) : List I2 := l.take i ++ ys ++ l.drop (i + 1)
/-! ### the same, by the name -/
theorem its_app : ∀ (a b : List I2), its (a ++ b) = (its a).app (its b)
  | [], b => rfl
  | x :: r, b => by rw [List.cons_append, its, its_app r b, its, Bs.Its.app]
theorem sm_repl (z : Str) (ys : Bs.Its) (x : Sm) : (smIt x).repl z ys = smIt x := by cases x <;> simp only [smIt, Bs.It.repl]
theorem sms_out (z : Str) (ys : Bs.Its) : ∀ {b : List Sm}, (∀ y ∈ b, y.name ≠ z) → (smIts b).repl z ys = smIts b
  | [], _ => by simp only [smIts, Bs.Its.repl]
  | x :: r, h => by
    simp only [smIts, Bs.Its.repl, sm_name]
    rw [if_neg (h x (List.mem_cons_self ..)), sm_repl, sms_out z ys fun y hy => h y (List.mem_cons_of_mem _ hy)]
theorem blE_out (z : Str) (ys : Bs.Its) : ∀ {bs : List (List Sm)}, (∀ b ∈ bs, ∀ y ∈ b, y.name ≠ z) → (blE bs).repl z ys = blE bs
  | [], _ => by simp only [blE, Bs.Blks.repl]
  | b :: r, h => by
    simp only [blE, Bs.Blks.repl]
    rw [sms_out z ys (h b (List.mem_cons_self ..)), blE_out z ys fun b hb => h b (List.mem_cons_of_mem _ hb)]
theorem blS_out (z : Str) (ys : Bs.Its) : ∀ {cs : List (Int × List Sm)}, (∀ c ∈ cs, ∀ y ∈ c.2, y.name ≠ z) → (blS cs).repl z ys = blS cs
  | [], _ => by simp only [blS, Bs.Blks.repl]
  | b :: r, h => by
    simp only [blS, Bs.Blks.repl]
    rw [sms_out z ys (h b (List.mem_cons_self ..)), blS_out z ys fun b hb => h b (List.mem_cons_of_mem _ hb)]
theorem i2_out (z : Str) (ys : Bs.Its) {x : I2} (h : z ∉ x.names) : (i2It x).repl z ys = i2It x := by
  have hs : ∀ y ∈ x.subs, y.name ≠ z := fun y hy e => h (by rw [names_subs, ← e]; exact List.mem_cons_of_mem _ (List.mem_map_of_mem hy))
  cases x with
  | sm y => exact sm_repl z ys y
  | rep n a b => simp only [i2It, Bs.It.repl]; rw [sms_out z ys (b := b) hs]
  | eit n bs => simp only [i2It, Bs.It.repl]; rw [blE_out z ys fun b hb y hy => hs y (List.mem_flatten.mpr ⟨b, hb, hy⟩)]
  | swi n t cs => simp only [i2It, Bs.It.repl]; rw [blS_out z ys fun c hc y hy => hs y (List.mem_flatten.mpr ⟨c.2, List.mem_map_of_mem hc, hy⟩)]
theorem its_out (z : Str) (ys : Bs.Its) : ∀ {l : List I2}, z ∉ l.flatMap I2.names → (its l).repl z ys = its l
  | [], _ => by simp only [its, Bs.Its.repl]
  | x :: r, h => by
    rw [List.flatMap_cons, List.mem_append, not_or] at h
    simp only [its, Bs.Its.repl, i2_name]
    rw [if_neg (fun e => h.1 (by rw [← e]; exact name_in x)), i2_out z ys h.1, its_out z ys h.2]
/-- the item of this name makes way -/
theorem its_repl (ys : List I2) : ∀ {l : List I2} {i : Nat} {x : I2}, (l.flatMap I2.names).Nodup → l[i]? = some x → (its l).repl x.name (its ys) = its (narL l i ys)
  | [], i, x, _, h => by simp at h
  | y :: r, 0, x, nd, h => by
    have h : y = x := by simpa using h
    subst h
    rw [List.flatMap_cons, List.nodup_append] at nd
    simp only [its, Bs.Its.repl, i2_name]
    rw [if_pos trivial, its_out _ _ (fun m => nd.2.2 _ (name_in y) _ m rfl)]
    show _ = its (ys ++ r)
    rw [its_app]
  | y :: r, i + 1, x, nd, h => by
    have h : r[i]? = some x := by simpa using h
    rw [List.flatMap_cons, List.nodup_append] at nd
    have mx : x.name ∈ r.flatMap I2.names := List.mem_flatMap.mpr ⟨x, List.mem_of_getElem? h, name_in x⟩
    have ny : x.name ∉ y.names := fun m => nd.2.2 _ m _ mx rfl
    simp only [its, Bs.Its.repl, i2_name]
    rw [if_neg (fun e => ny (by rw [← e]; exact name_in y)), i2_out _ _ ny, its_repl ys nd.2.1 h]
    rfl
end Bm

set_option Elab.async false
set_option linter.all false
set_option maxRecDepth 100000
set_option maxHeartbeats 8000000
/-! features of one item: the program's, and the law's -/
namespace Bm
open PySem L2
abbrev sIF : Stmt := top 48
abbrev sLF : Stmt := top 63
def I2.okF : I2 → Prop
  | .sm (.num _ _ _ lo hi) => lo ≤ hi
  | .eit _ bs => bs.length ≤ 100
  | .swi _ _ cs => cs.length ≤ 100
  | _ => True
def spIF : Sp := fun vs H Q _ => ∃ (v : V) (x : I2), vs = [v] ∧ I2At H v x ∧ x.okF ∧ ∀ r rs H', Same H H' → H r = none → H' r = some (.lst rs) → Paired (FtAt H') rs (featsOf x) → Q (.ref r) H'
/-- len within a comprehension -/
def rLen (K : PySem.W.Frag) : List V → Hp → VK → Prop := fun xs H Q => ∃ x n, xs = [x] ∧ LenV K x H n ∧ Q (V.int (n : Int)) H
theorem range_snoc {α : Type} (g : Nat → α) (j : Nat) : (List.range (j + 1)).map g = (List.range j).map g ++ [g j] := by rw [List.range_succ, List.map_append]; rfl
theorem ft_step {H : Hp} {D t : Addr} {acc : List V} {fs : List Ft} {f : Ft} {row : List V} (e : f.row = row) (h : H D = some (.lst acc)) (p : Paired (FtAt H) acc fs) (ht : H t = none) : (upd H t (.tup row)) D = some (.lst acc) ∧ Paired (FtAt (upd (upd H t (.tup row)) D (.lst (acc ++ [.ref t])))) (acc ++ [.ref t]) (fs ++ [f]) := by
  subst e
  have hD := same_new ht (.tup f.row) _ _ h
  have tk := (sTk (same_new ht (.tup f.row))).trans (Tk.wr (o := .lst (acc ++ [.ref t])) hD)
  exact ⟨hD, papp (L2.Paired.mapP p fun _ _ k => k.tk tk) (.cons ⟨t, rfl, Tk.wr (o := .lst (acc ++ [.ref t])) hD _ _ upd_same⟩ .nil)⟩
section
variable {P : Program} {w : World} {K : PySem.W.Frag} {mg : Str → Option Value} {base : Heap} {f : Addr} {fd : FuncData}
abbrev nIF : List Str := ["item", "kind", "name", "words", "word", "number", "value", "_"]
theorem scIF : FnScope nIF ["item"] (defScope sIF) := ⟨rfl, rfl, rfl, by decide +kernel, rfl, by decide +kernel, by decide +kernel⟩
theorem ok_if (F : Fun K "item_features" "item_features" sIF f fd) (ml : mg "len" = none) (mr : mg "range" = none) : FnOk P w K mg base CX0 1 f fd ["item"] spIF := by
  refine F.ok scIF (fun vs H Q E h => ?_) (fun cdv A outer s H vs Q E hr h => ?_)
  · obtain ⟨v, x, rfl, _⟩ := h
    rfl
  · obtain ⟨v, x, rfl, hx, xo, q⟩ := h
    refine ⟨_, (pss_cons (ps_asg (pe_slice sl_tup (pv 0) po_none (po_some pe_int)) (pg_tup rfl (pgs_cons (pg_name (i := 1) scIF.nd rfl (.inl rfl)) (pgs_cons (pg_name (i := 2) scIF.nd rfl (.inr rfl)) pgs_nil))))
      (pss_cons (ps_if (pt_cmpR op_eq (pv 1) pe_str (nomark _)) (pss_cons (ps_set (i := 3) scIF.nd rfl (.inl rfl) (pe_ifExp (pt_cmpR op_eq (pe_ix ix_tup (pv 0) pe_int (fun _ _ => rfl)) (pe_ix ix_tup (pv 0) pe_int (fun _ _ => rfl)) (nomark _)) (pe_tup (pa_cons pe_str pa_nil)) (pe_tup (pa_cons pe_str (pa_cons pe_str pa_nil)))))
      (pss_one (ps_ret (pe_lc (own := [("word", 4)]) (g := gName 4) (tt := tYes) rfl scIF.nd (pi_row (pv 3)) (blkOk_by (own := [("word", 4)]) (N := nIF) (sc := defScope sIF) (by decide +kernel)) (fun _ _ _ _ _ => pg_name (i := 4) scIF.nd rfl (Or.inl rfl)) (fun _ _ _ _ _ => pts_nil) (fun _ _ _ _ _ => (pe_tup (pa_cons (pv 4) (pa_cons (pv 2) pa_nil)))))))) pss_nil)
      (pss_cons (ps_if (pt_cmpR op_eq (pv 1) pe_str (nomark _)) (pss_one (ps_ret (pe_lst (pa_cons (pe_tup (pa_cons pe_str (pa_cons (pv 2) pa_nil))) pa_nil)))) pss_nil)
      (pss_cons (ps_if (pt_cmpR op_eq (pv 1) pe_str (nomark _)) (pss_one (ps_ret (pe_lc (own := [("number", 5)]) (g := gName 5) (tt := tYes) rfl scIF.nd (pi_range1 (by rfl) mr (pa_cons (pe_callB call_len (by rfl) ml boot_len (pa_cons (pe_ix ix_tup (pv 0) pe_int (fun _ _ => rfl)) pa_nil)) pa_nil)) (blkOk_by (own := [("number", 5)]) (N := nIF) (sc := defScope sIF) (by decide +kernel)) (fun _ _ _ _ _ => pg_name (i := 5) scIF.nd rfl (Or.inl rfl)) (fun _ _ _ _ _ => pts_nil) (fun _ _ _ _ _ => (pe_tup (pa_cons pe_str (pa_cons (pv 2) (pa_cons (pv 5) pa_nil)))))))) pss_nil)
      (pss_cons (ps_if (pt_cmpR op_eq (pv 1) pe_str (nomark _)) (pss_one (ps_ret (pe_lc (own := [("value", 6), ("_", 7)]) (g := (gTup K 2 (gCons (gName 6) (gCons (gName 7) gNil)))) (tt := tYes) rfl scIF.nd (pi_row (pe_ix ix_tup (pv 0) pe_int (fun _ _ => rfl))) (blkOk_by (own := [("value", 6), ("_", 7)]) (N := nIF) (sc := defScope sIF) (by decide +kernel)) (fun _ _ _ _ _ => (pg_tup rfl (pgs_cons (pg_name (i := 6) scIF.nd rfl (.inl rfl)) (pgs_cons (pg_name (i := 7) scIF.nd rfl (.inl rfl)) pgs_nil)))) (fun _ _ _ _ _ => pts_nil) (fun _ _ _ _ _ => (pe_tup (pa_cons pe_str (pa_cons (pv 2) (pa_cons (pv 6) pa_nil)))))))) pss_nil)
      (pss_one (ps_ret (pe_lst pa_nil)))))))), ?_⟩
    obtain ⟨p, rest, rfl, hp⟩ := hx.head
    have rest1 : rest ≠ [] := by
      cases x with
      | sm y => obtain ⟨p', e, h⟩ := hx; cases e; rw [hp] at h; cases y <;> (cases h; exact fun z => by cases z)
      | rep n a b => obtain ⟨p', u, e, h, _⟩ := hx; cases e; rw [hp] at h; cases h; exact fun z => by cases z
      | eit n bs => obtain ⟨p', q', xs', e, h, _⟩ := hx; cases e; rw [hp] at h; cases h; exact fun z => by cases z
      | swi n t cs => obtain ⟨p', q', xs', e, h, _⟩ := hx; cases e; rw [hp] at h; cases h; exact fun z => by cases z
    refine ⟨_, rfl, 2, rfl, p, _, rfl, SqT.of hp, ?_, fun t2 g2 => ?_⟩
    · obtain ⟨a, b, rfl⟩ := List.exists_cons_of_ne_nil rest1
      simp only [List.length_cons]
      rintro ⟨_, h⟩
      rw [show (2 : Int) = ((2 : Nat) : Int) from rfl, HT.sIx_nat] at h
      omega
    rw [show cutV (V.str x.kind :: V.str x.name :: rest) none (some 2) = [.str x.kind, .str x.name] from cutV_to _ 2]
    have s2 := same_new g2 (.tup [.str x.kind, .str x.name])
    have k2 := upd_same (H := H) (a := t2) (o := .tup [.str x.kind, .str x.name])
    generalize upd H t2 (.tup [.str x.kind, .str x.name]) = H2 at s2 k2 ⊢
    refine ⟨t2, [.str x.kind, .str x.name], rfl, SqT.of k2, rfl, _, _, rfl, _, _, rfl, rfl, ?_⟩
    cases x with
    | sm y =>
      obtain ⟨p', e', hp1⟩ := hx
      cases e'
      have hp2 := s2 _ _ hp1
      cases y with
      | num n s o lo hi =>
        refine ⟨_, rfl, rfl, _, rfl, ifT rfl ?_⟩
        refine with_rest (fun σ Hx => ∃ (wt : Addr) (ws : List Str), σ = [some (.ref p), some (.str "number"), some (.str n), some (.ref wt), none, none, none, none] ∧ Same H2 Hx ∧ Hx wt = some (.tup (ws.map V.str)) ∧ ws.map (fun z => (⟨z, n, none⟩ : Ft)) = featsOf (.sm (.num n s o lo hi)) ∧ ws.length ≤ 2) ?_ fun go => ?_
        rotate_left
        · refine ⟨_, rfl, p, _, 4, _, rfl, rfl, SqT.of hp2, atI_nat (j := 4) rfl, _, rfl, p, _, 5, _, rfl, rfl, SqT.of hp2, atI_nat (j := 5) rfl, rfl, _, rfl, ?_⟩
          by_cases e : lo = hi
          · refine ifP e ⟨(by show 1 ≤ sizeLine; decide), fun wt gw => ?_⟩
            exact go _ _ ⟨wt, ["least"], rfl, same_new gw _, upd_same, by simp only [featsOf]; rw [if_pos e]; rfl, by decide⟩
          · refine ifQ e ⟨(by show 2 ≤ sizeLine; decide), fun wt gw => ?_⟩
            exact go _ _ ⟨wt, ["least", "greatest"], rfl, same_new gw _, upd_same, by simp only [featsOf]; rw [if_neg e]; rfl, by decide⟩
        rintro σ H3 ⟨wt, ws, rfl, s3, hwt, ews, wl⟩
        rw [← ews] at q
        refine ⟨_, rfl, wt, rfl, row_t hwt fun J wk => ?_⟩
        intro D hD
        refine lc_it wk (fun j H' => Same H3 H' ∧ ∃ acc, H' D = some (.lst acc) ∧ acc.length ≤ j ∧ Paired (FtAt H') acc ((ws.take j).map fun z => (⟨z, n, none⟩ : Ft))) ⟨same_new hD _, [], upd_same, Nat.le_refl _, .nil⟩ (fun _ _ _ h => h.1) ?_ ?_
        · rintro j u H4' H4 hj ⟨s4, acc, hacc, al, pa⟩ ⟨e3, hu⟩
          subst e3
          rw [List.getElem?_map] at hu
          cases e : ws[j]? with
          | none => rw [e] at hu; cases hu
          | some z =>
            rw [e] at hu
            cases Option.some.inj hu
            rw [List.length_map] at hj
            refine ⟨rfl, yes_go ?_⟩
            refine ⟨_, rfl, _, rfl, (by show 2 ≤ sizeLine; decide), fun t ht => ?_⟩
            rw [List.take_add_one, e, Option.toList, List.map_append]
            obtain ⟨f1, f2⟩ := ft_step (f := ⟨z, n, none⟩) (row := [.str z, .str n]) rfl hacc pa ht
            refine ⟨acc, f1, small1000 (by omega), same_set (s4.trans (same_new ht _)) hD, acc ++ [.ref t], upd_same, by rw [List.length_append, List.length_singleton]; omega, ?_⟩; exact f2
        · rintro H4 ⟨s4, acc, hacc, al, pa⟩
          rw [List.length_map, List.take_length] at pa
          have S := s2.trans (s3.trans s4)
          exact q D acc H4 S ((s2.trans s3).free hD) hacc pa
      | txt n s m =>
        refine ⟨_, rfl, rfl, _, rfl, ifN (by simp only [I2.kind, Sm.kind]; decide +kernel) ?_⟩
        refine ⟨_, rfl, rfl, _, rfl, ifT rfl ?_⟩
        refine ⟨_, rfl, (by show 2 ≤ sizeLine; decide), fun t ht => ⟨(by show 1 ≤ sizeLine; decide), fun r hr' => ?_⟩⟩
        have s3 := same_new ht (.tup [.str "empty", .str (I2.sm (Sm.txt n s m)).name])
        have k3 : upd H2 t (.tup [.str "empty", .str (I2.sm (Sm.txt n s m)).name]) t = some (.tup (⟨"empty", n, none⟩ : Ft).row) := upd_same
        generalize upd H2 t (.tup [.str "empty", .str (I2.sm (Sm.txt n s m)).name]) = H3 at s3 k3 hr' ⊢
        have s4 := same_new hr' (.lst [.ref t])
        exact q r [.ref t] _ (s2.trans (s3.trans s4)) ((s2.trans s3).free hr') upd_same (.cons ⟨t, rfl, s4 _ _ k3⟩ .nil)
      | _ =>
        refine ⟨_, rfl, rfl, _, rfl, ifN (by simp only [I2.kind, Sm.kind]; decide +kernel) ?_⟩
        refine ⟨_, rfl, rfl, _, rfl, ifN (by simp only [I2.kind, Sm.kind]; decide +kernel) ?_⟩
        refine ⟨_, rfl, rfl, _, rfl, ifN (by simp only [I2.kind, Sm.kind]; decide +kernel) ?_⟩
        refine ⟨_, rfl, rfl, _, rfl, ifN (by simp only [I2.kind, Sm.kind]; decide +kernel) ?_⟩
        exact ⟨(by show 0 ≤ sizeLine; decide), fun r hr' => q r [] _ (s2.trans (same_new hr' _)) (s2.free hr') upd_same .nil⟩
    | rep n a b =>
      refine ⟨_, rfl, rfl, _, rfl, ifN (by simp only [I2.kind]; decide +kernel) ?_⟩
      refine ⟨_, rfl, rfl, _, rfl, ifN (by simp only [I2.kind]; decide +kernel) ?_⟩
      refine ⟨_, rfl, rfl, _, rfl, ifN (by simp only [I2.kind]; decide +kernel) ?_⟩
      refine ⟨_, rfl, rfl, _, rfl, ifN (by simp only [I2.kind]; decide +kernel) ?_⟩
      exact ⟨(by show 0 ≤ sizeLine; decide), fun r hr' => q r [] _ (s2.trans (same_new hr' _)) (s2.free hr') upd_same .nil⟩
    | eit n bs =>
      obtain ⟨p', pq, xb, e', hp1, hpq, pbs⟩ := hx
      cases e'
      have hp2 := s2 _ _ hp1
      have xo : bs.length ≤ 100 := xo
      refine ⟨_, rfl, rfl, _, rfl, ifN (by simp only [I2.kind]; decide +kernel) ?_⟩
      refine ⟨_, rfl, rfl, _, rfl, ifN (by simp only [I2.kind]; decide +kernel) ?_⟩
      refine ⟨_, rfl, rfl, _, rfl, ifT rfl ?_⟩
      refine ⟨_, rfl, p, _, 2, _, rfl, rfl, SqT.of hp2, atI_nat (j := 2) rfl, _, _, rfl, .inr ⟨_, SqT.of (s2 _ _ hpq), rfl⟩, (bs.length : Int), by rw [plen pbs], by omega, by omega, fun D hD => lc_range (lo := 0) (n := bs.length) (fun j H' => Same H2 H' ∧ ∃ acc, H' D = some (.lst acc) ∧ acc.length ≤ j ∧ Paired (FtAt H') acc ((List.range j).map fun (k : Nat) => (⟨"choice", n, some (k : Int)⟩ : Ft))) ⟨same_new hD _, [], upd_same, Nat.le_refl _, .nil⟩ ?_ ?_⟩
      · rintro j H4 hj ⟨s4, acc, hacc, al, pa⟩
        refine ⟨rfl, yes_go ?_⟩
        refine ⟨_, rfl, _, rfl, (by show 3 ≤ sizeLine; decide), fun t ht => ?_⟩
        rw [range_snoc]
        try rw [Int.zero_add]
        obtain ⟨f1, f2⟩ := ft_step (f := ⟨"choice", n, some (j : Int)⟩) (row := [.str "choice", .str n, .int (j : Int)]) rfl hacc pa ht
        refine ⟨acc, f1, small1000 (by omega), same_set (s4.trans (same_new ht _)) hD, acc ++ [.ref t], upd_same, by rw [List.length_append, List.length_singleton]; omega, ?_⟩; exact f2
      · rintro H4 ⟨s4, acc, hacc, al, pa⟩
        exact q D acc H4 (s2.trans s4) (s2.free hD) hacc pa
    | swi n tg cs =>
      obtain ⟨p', pq, xb, e', hp1, hpq, pcs⟩ := hx
      cases e'
      have hp2 := s2 _ _ hp1
      have xo : cs.length ≤ 100 := xo
      refine ⟨_, rfl, rfl, _, rfl, ifN (by simp only [I2.kind]; decide +kernel) ?_⟩
      refine ⟨_, rfl, rfl, _, rfl, ifN (by simp only [I2.kind]; decide +kernel) ?_⟩
      refine ⟨_, rfl, rfl, _, rfl, ifN (by simp only [I2.kind]; decide +kernel) ?_⟩
      refine ⟨_, rfl, rfl, _, rfl, ifT rfl ?_⟩
      refine ⟨_, rfl, p, _, 3, _, rfl, rfl, SqT.of hp2, atI_nat (j := 3) rfl, pq, rfl, row_t (s2 _ _ hpq) fun J wk => ?_⟩
      intro D hD
      refine lc_it wk (fun j H' => Same H2 H' ∧ ∃ acc, H' D = some (.lst acc) ∧ acc.length ≤ j ∧ Paired (FtAt H') acc ((cs.take j).map fun c => (⟨"case", n, some c.1⟩ : Ft))) ⟨same_new hD _, [], upd_same, Nat.le_refl _, .nil⟩ (fun _ _ _ h => h.1) ?_ ?_
      · rintro j u H4' H4 hj ⟨s4, acc, hacc, al, pa⟩ ⟨e3, hu⟩
        subst e3
        obtain ⟨c1, gc, r1, uu, rfl, hr1', _⟩ := pget pcs hu
        have jl : j < cs.length := by rw [← plen pcs]; exact hj
        refine ⟨r1, _, rfl, SqT.of ((s2.trans s4) _ _ hr1'), rfl, _, _, rfl, _, _, rfl, rfl, ?_⟩
        refine ⟨rfl, yes_go ?_⟩
        refine ⟨_, rfl, _, rfl, (by show 3 ≤ sizeLine; decide), fun t ht => ?_⟩
        rw [List.take_add_one, gc, Option.toList, List.map_append]
        obtain ⟨f1, f2⟩ := ft_step (f := ⟨"case", n, some c1.1⟩) (row := [.str "case", .str n, .int c1.1]) rfl hacc pa ht
        refine ⟨acc, f1, small1000 (by omega), same_set (s4.trans (same_new ht _)) hD, acc ++ [.ref t], upd_same, by rw [List.length_append, List.length_singleton]; omega, ?_⟩; exact f2
      · rintro H4 ⟨s4, acc, hacc, al, pa⟩
        rw [plen pcs, List.take_length] at pa
        exact q D acc H4 (s2.trans s4) (s2.free hD) hacc pa
end
end Bm

set_option Elab.async false
set_option linter.all false
set_option maxRecDepth 100000
set_option maxHeartbeats 8000000
/-! the law's features of an item; an item made narrow -/
namespace Bm
open PySem L2
abbrev sNI : Stmt := top 49
section
variable {P : Program} {w : World} {K : PySem.W.Frag} {mg : Str → Option Value} {base : Heap} {f : Addr} {fd : FuncData}
abbrev nLF : List Str := ["item", "k", "case"]
theorem scLF : FnScope nLF ["item"] (defScope sLF) := ⟨rfl, rfl, rfl, by decide +kernel, rfl, by decide +kernel, by decide +kernel⟩
theorem ok_lf (F : Fun K "_law_item_features" "_law_item_features" sLF f fd) (ml : mg "len" = none) (mr : mg "range" = none) : FnOk P w K mg base CX0 1 f fd ["item"] spIF := by
  refine F.ok scLF (fun vs H Q E h => ?_) (fun cdv A outer s H vs Q E hr h => ?_)
  · obtain ⟨v, x, rfl, _⟩ := h
    rfl
  · obtain ⟨v, x, rfl, hx, xo, q⟩ := h
    refine ⟨_, (pss_cons (ps_if (PW.pt (pw_and (pt_cmpR op_eq (pe_ix ix_tup (pv 0) pe_int (fun _ _ => rfl)) pe_str (nomark _)) (pw_and1 (pt_cmpR op_lt (pe_ix ix_tup (pv 0) pe_int (fun _ _ => rfl)) (pe_ix ix_tup (pv 0) pe_int (fun _ _ => rfl)) (nomark _))))) (pss_one (ps_ret (pe_lst (pa_cons (pe_tup (pa_cons pe_str (pa_cons (pe_ix ix_tup (pv 0) pe_int (fun _ _ => rfl)) pa_nil))) (pa_cons (pe_tup (pa_cons pe_str (pa_cons (pe_ix ix_tup (pv 0) pe_int (fun _ _ => rfl)) pa_nil))) pa_nil))))) pss_nil)
      (pss_cons (ps_if (pt_cmpR op_eq (pe_ix ix_tup (pv 0) pe_int (fun _ _ => rfl)) pe_str (nomark _)) (pss_one (ps_ret (pe_lst (pa_cons (pe_tup (pa_cons pe_str (pa_cons (pe_ix ix_tup (pv 0) pe_int (fun _ _ => rfl)) pa_nil))) pa_nil)))) pss_nil)
      (pss_cons (ps_if (pt_cmpR op_eq (pe_ix ix_tup (pv 0) pe_int (fun _ _ => rfl)) pe_str (nomark _)) (pss_one (ps_ret (pe_lst (pa_cons (pe_tup (pa_cons pe_str (pa_cons (pe_ix ix_tup (pv 0) pe_int (fun _ _ => rfl)) pa_nil))) pa_nil)))) pss_nil)
      (pss_cons (ps_if (pt_cmpR op_eq (pe_ix ix_tup (pv 0) pe_int (fun _ _ => rfl)) pe_str (nomark _)) (pss_one (ps_ret (pe_lc (own := [("k", 1)]) (g := gName 1) (tt := tYes) rfl scLF.nd (pi_range1 (by rfl) mr (pa_cons (pe_callB call_len (by rfl) ml boot_len (pa_cons (pe_ix ix_tup (pv 0) pe_int (fun _ _ => rfl)) pa_nil)) pa_nil)) (blkOk_by (own := [("k", 1)]) (N := nLF) (sc := defScope sLF) (by decide +kernel)) (fun _ _ _ _ _ => pg_name (i := 1) scLF.nd rfl (Or.inl rfl)) (fun _ _ _ _ _ => pts_nil) (fun _ _ _ _ _ => (pe_tup (pa_cons pe_str (pa_cons (pe_ix (r := rIxT K) ix_tup (pv 0) pe_int (fun _ _ => rfl)) (pa_cons (pv 1) pa_nil)))))))) pss_nil)
      (pss_cons (ps_if (pt_cmpR op_eq (pe_ix ix_tup (pv 0) pe_int (fun _ _ => rfl)) pe_str (nomark _)) (pss_one (ps_ret (pe_lc (own := [("case", 2)]) (g := gName 2) (tt := tYes) rfl scLF.nd (pi_row (pe_ix ix_tup (pv 0) pe_int (fun _ _ => rfl))) (blkOk_by (own := [("case", 2)]) (N := nLF) (sc := defScope sLF) (by decide +kernel)) (fun _ _ _ _ _ => pg_name (i := 2) scLF.nd rfl (Or.inl rfl)) (fun _ _ _ _ _ => pts_nil) (fun _ _ _ _ _ => (pe_tup (pa_cons pe_str (pa_cons (pe_ix (r := rIxT K) ix_tup (pv 0) pe_int (fun _ _ => rfl)) (pa_cons (pe_ix (r := rIxT K) ix_tup (pv 2) pe_int (fun _ _ => rfl)) pa_nil)))))))) pss_nil)
      (pss_one (ps_ret (pe_lst pa_nil)))))))), ?_⟩
    obtain ⟨p, rest, rfl, hp⟩ := hx.head
    have two : ∀ {H2 : Hp} {t : Addr} {row : List V} {fs : List Ft} {acc : List V} (f : Ft), f.row = row → Paired (FtAt H2) acc fs → H2 t = none → Paired (FtAt (upd H2 t (.tup row))) (acc ++ [.ref t]) (fs ++ [f]) := fun f e pa ht => by
      subst e
      exact papp (L2.Paired.mapP pa fun _ _ k => k.tk (sTk (same_new ht _))) (.cons ⟨_, rfl, upd_same⟩ .nil)
    have hT0 : SqT K H p _ := SqT.of hp
    refine ⟨_, rfl, p, _, 0, _, rfl, rfl, hT0, atI_nat (j := 0) rfl, rfl, _, rfl, ?_⟩
    cases x with
    | sm y =>
      obtain ⟨p', e', hp1⟩ := hx
      cases e'
      have hT : ∀ {H1 : Hp}, Same H H1 → SqT K H1 p _ := fun s => SqT.of (s _ _ hp1)
      have S0 := Same.refl H
      cases y with
      | num n s o lo hi =>
        have xo : lo ≤ hi := xo
        refine ifT rfl ?_
        refine ⟨_, rfl, p, _, 4, _, rfl, rfl, hT S0, atI_nat (j := 4) rfl, _, rfl, p, _, 5, _, rfl, rfl, hT S0, atI_nat (j := 5) rfl, _, _, rfl, rfl, _, rfl, ite2 (fun e => ?_) (fun e => ?_)⟩
        · have e := of_decide_eq_true e
          refine ⟨_, rfl, p, _, 1, _, rfl, rfl, hT S0, atI_nat (j := 1) rfl, (by show 2 ≤ sizeLine; decide), fun t1 g1 => ?_⟩
          have s1 := same_new g1 (.tup [.str "least", .str (Sm.num n s o lo hi).name])
          have p1 := two (f := ⟨"least", n, none⟩) (row := [.str "least", .str (Sm.num n s o lo hi).name]) rfl .nil g1
          generalize upd H t1 (.tup [.str "least", .str (Sm.num n s o lo hi).name]) = H1 at s1 p1 ⊢
          refine ⟨_, rfl, p, _, 1, _, rfl, rfl, hT s1, atI_nat (j := 1) rfl, (by show 2 ≤ sizeLine; decide), fun t2 g2 => ?_⟩
          have s2 := same_new g2 (.tup [.str "greatest", .str (Sm.num n s o lo hi).name])
          have p2 := two (f := ⟨"greatest", n, none⟩) (row := [.str "greatest", .str (Sm.num n s o lo hi).name]) rfl p1 g2
          generalize upd H1 t2 (.tup [.str "greatest", .str (Sm.num n s o lo hi).name]) = H2 at s2 p2 ⊢
          refine ⟨(by show 2 ≤ sizeLine; decide), fun r hr' => ?_⟩
          have s3 := same_new hr' (.lst [.ref t1, .ref t2])
          refine q r _ _ (s1.trans (s2.trans s3)) ((s1.trans s2).free hr') upd_same ?_
          simp only [featsOf]
          rw [if_neg (by omega)]
          exact L2.Paired.mapP p2 fun _ _ k => k.tk (sTk s3)
        · have e : ¬ lo < hi := fun z => e (decide_eq_true z)
          refine ⟨_, rfl, p, _, 0, _, rfl, rfl, hT S0, atI_nat (j := 0) rfl, rfl, _, rfl, ifT rfl ?_⟩
          refine ⟨_, rfl, p, _, 1, _, rfl, rfl, hT S0, atI_nat (j := 1) rfl, (by show 2 ≤ sizeLine; decide), fun t1 g1 => ?_⟩
          have s1 := same_new g1 (.tup [.str "least", .str (Sm.num n s o lo hi).name])
          have p1 := two (f := ⟨"least", n, none⟩) (row := [.str "least", .str (Sm.num n s o lo hi).name]) rfl .nil g1
          generalize upd H t1 (.tup [.str "least", .str (Sm.num n s o lo hi).name]) = H1 at s1 p1 ⊢
          refine ⟨(by show 1 ≤ sizeLine; decide), fun r hr' => ?_⟩
          have s3 := same_new hr' (.lst [.ref t1])
          refine q r _ _ (s1.trans s3) (s1.free hr') upd_same ?_
          simp only [featsOf]
          rw [if_pos (by omega)]
          exact L2.Paired.mapP p1 fun _ _ k => k.tk (sTk s3)
      | txt n s m =>
        refine ifN (by simp only [I2.kind, Sm.kind]; decide +kernel) (iteF ?_)
        refine ⟨_, rfl, p, _, 0, _, rfl, rfl, hT S0, atI_nat (j := 0) rfl, rfl, _, rfl, ifN (by simp only [I2.kind, Sm.kind]; decide +kernel) ?_⟩
        refine ⟨_, rfl, p, _, 0, _, rfl, rfl, hT S0, atI_nat (j := 0) rfl, rfl, _, rfl, ifT rfl ?_⟩
        refine ⟨_, rfl, p, _, 1, _, rfl, rfl, hT S0, atI_nat (j := 1) rfl, (by show 2 ≤ sizeLine; decide), fun t1 g1 => ?_⟩
        have s1 := same_new g1 (.tup [.str "empty", .str (Sm.txt n s m).name])
        have p1 := two (f := ⟨"empty", n, none⟩) (row := [.str "empty", .str (Sm.txt n s m).name]) rfl .nil g1
        generalize upd H t1 (.tup [.str "empty", .str (Sm.txt n s m).name]) = H1 at s1 p1 ⊢
        refine ⟨(by show 1 ≤ sizeLine; decide), fun r hr' => ?_⟩
        have s3 := same_new hr' (.lst [.ref t1])
        exact q r _ _ (s1.trans s3) (s1.free hr') upd_same (L2.Paired.mapP p1 fun _ _ k => k.tk (sTk s3))
      | _ =>
        refine ifN (by simp only [I2.kind, Sm.kind]; decide +kernel) (iteF ?_)
        refine ⟨_, rfl, p, _, 0, _, rfl, rfl, hT S0, atI_nat (j := 0) rfl, rfl, _, rfl, ifN (by simp only [I2.kind, Sm.kind]; decide +kernel) ?_⟩
        refine ⟨_, rfl, p, _, 0, _, rfl, rfl, hT S0, atI_nat (j := 0) rfl, rfl, _, rfl, ifN (by simp only [I2.kind, Sm.kind]; decide +kernel) ?_⟩
        refine ⟨_, rfl, p, _, 0, _, rfl, rfl, hT S0, atI_nat (j := 0) rfl, rfl, _, rfl, ifN (by simp only [I2.kind, Sm.kind]; decide +kernel) ?_⟩
        refine ⟨_, rfl, p, _, 0, _, rfl, rfl, hT S0, atI_nat (j := 0) rfl, rfl, _, rfl, ifN (by simp only [I2.kind, Sm.kind]; decide +kernel) ?_⟩
        exact ⟨(by show 0 ≤ sizeLine; decide), fun r hr' => q r [] _ (same_new hr' _) hr' upd_same .nil⟩
    | rep n a b =>
      refine ifN (by simp only [I2.kind]; decide +kernel) (iteF ?_)
      refine ⟨_, rfl, p, _, 0, _, rfl, rfl, hT0, atI_nat (j := 0) rfl, rfl, _, rfl, ifN (by simp only [I2.kind]; decide +kernel) ?_⟩
      refine ⟨_, rfl, p, _, 0, _, rfl, rfl, hT0, atI_nat (j := 0) rfl, rfl, _, rfl, ifN (by simp only [I2.kind]; decide +kernel) ?_⟩
      refine ⟨_, rfl, p, _, 0, _, rfl, rfl, hT0, atI_nat (j := 0) rfl, rfl, _, rfl, ifN (by simp only [I2.kind]; decide +kernel) ?_⟩
      refine ⟨_, rfl, p, _, 0, _, rfl, rfl, hT0, atI_nat (j := 0) rfl, rfl, _, rfl, ifN (by simp only [I2.kind]; decide +kernel) ?_⟩
      exact ⟨(by show 0 ≤ sizeLine; decide), fun r hr' => q r [] _ (same_new hr' _) hr' upd_same .nil⟩
    | eit n bs =>
      obtain ⟨p', pq, xb, e', hp1, hpq, pbs⟩ := hx
      cases e'
      have hT : ∀ {H1 : Hp}, Same H H1 → SqT K H1 p _ := fun s => SqT.of (s _ _ hp1)
      have xo : bs.length ≤ 100 := xo
      refine ifN (by simp only [I2.kind]; decide +kernel) (iteF ?_)
      refine ⟨_, rfl, p, _, 0, _, rfl, rfl, hT0, atI_nat (j := 0) rfl, rfl, _, rfl, ifN (by simp only [I2.kind]; decide +kernel) ?_⟩
      refine ⟨_, rfl, p, _, 0, _, rfl, rfl, hT0, atI_nat (j := 0) rfl, rfl, _, rfl, ifN (by simp only [I2.kind]; decide +kernel) ?_⟩
      refine ⟨_, rfl, p, _, 0, _, rfl, rfl, hT0, atI_nat (j := 0) rfl, rfl, _, rfl, ifT rfl ?_⟩
      refine ⟨_, rfl, p, _, 2, _, rfl, rfl, hT (Same.refl H), atI_nat (j := 2) rfl, _, _, rfl, .inr ⟨_, SqT.of hpq, rfl⟩, (bs.length : Int), by rw [plen pbs], by omega, by omega, fun D hD => lc_range (lo := 0) (n := bs.length) (fun j H' => Same H H' ∧ ∃ acc, H' D = some (.lst acc) ∧ acc.length ≤ j ∧ Paired (FtAt H') acc ((List.range j).map fun (k : Nat) => (⟨"choice", n, some (k : Int)⟩ : Ft))) ⟨same_new hD _, [], upd_same, Nat.le_refl _, .nil⟩ ?_ ?_⟩
      · rintro j H4 hj ⟨s4, acc, hacc, al, pa⟩
        refine ⟨rfl, yes_go ?_⟩
        refine ⟨_, rfl, p, _, 1, _, rfl, rfl, hT s4, atI_nat (j := 1) rfl, _, rfl, (by show 3 ≤ sizeLine; decide), fun t ht => ?_⟩
        rw [range_snoc]
        try rw [Int.zero_add]
        obtain ⟨f1, f2⟩ := ft_step (f := ⟨"choice", n, some (j : Int)⟩) (row := [.str "choice", .str n, .int (j : Int)]) rfl hacc pa ht
        refine ⟨acc, f1, small1000 (by omega), same_set (s4.trans (same_new ht _)) hD, acc ++ [.ref t], upd_same, by rw [List.length_append, List.length_singleton]; omega, ?_⟩
        exact f2
      · rintro H4 ⟨s4, acc, hacc, al, pa⟩
        exact q D acc H4 s4 hD hacc pa
    | swi n tg cs =>
      obtain ⟨p', pq, xb, e', hp1, hpq, pcs⟩ := hx
      cases e'
      have hT : ∀ {H1 : Hp}, Same H H1 → SqT K H1 p _ := fun s => SqT.of (s _ _ hp1)
      have xo : cs.length ≤ 100 := xo
      refine ifN (by simp only [I2.kind]; decide +kernel) (iteF ?_)
      refine ⟨_, rfl, p, _, 0, _, rfl, rfl, hT0, atI_nat (j := 0) rfl, rfl, _, rfl, ifN (by simp only [I2.kind]; decide +kernel) ?_⟩
      refine ⟨_, rfl, p, _, 0, _, rfl, rfl, hT0, atI_nat (j := 0) rfl, rfl, _, rfl, ifN (by simp only [I2.kind]; decide +kernel) ?_⟩
      refine ⟨_, rfl, p, _, 0, _, rfl, rfl, hT0, atI_nat (j := 0) rfl, rfl, _, rfl, ifN (by simp only [I2.kind]; decide +kernel) ?_⟩
      refine ⟨_, rfl, p, _, 0, _, rfl, rfl, hT0, atI_nat (j := 0) rfl, rfl, _, rfl, ifT rfl ?_⟩
      refine ⟨_, rfl, p, _, 3, _, rfl, rfl, hT (Same.refl H), atI_nat (j := 3) rfl, pq, rfl, row_t hpq fun J wk => ?_⟩
      intro D hD
      refine lc_it wk (fun j H' => Same H H' ∧ ∃ acc, H' D = some (.lst acc) ∧ acc.length ≤ j ∧ Paired (FtAt H') acc ((cs.take j).map fun c => (⟨"case", n, some c.1⟩ : Ft))) ⟨same_new hD _, [], upd_same, Nat.le_refl _, .nil⟩ (fun _ _ _ h => h.1) ?_ ?_
      · rintro j u H4' H4 hj ⟨s4, acc, hacc, al, pa⟩ ⟨e3, hu⟩
        subst e3
        obtain ⟨c1, gc, r1, uu, rfl, hr1', _⟩ := pget pcs hu
        have jl : j < cs.length := by rw [← plen pcs]; exact hj
        refine ⟨rfl, yes_go ?_⟩
        refine ⟨_, rfl, p, _, 1, _, rfl, rfl, hT s4, atI_nat (j := 1) rfl, _, rfl, r1, _, 0, _, rfl, rfl, SqT.of (s4 _ _ hr1'), atI_nat (j := 0) rfl, (by show 3 ≤ sizeLine; decide), fun t ht => ?_⟩
        rw [List.take_add_one, gc, Option.toList, List.map_append]
        obtain ⟨f1, f2⟩ := ft_step (f := ⟨"case", n, some c1.1⟩) (row := [.str "case", .str n, .int c1.1]) rfl hacc pa ht
        refine ⟨acc, f1, small1000 (by omega), same_set (s4.trans (same_new ht _)) hD, acc ++ [.ref t], upd_same, by rw [List.length_append, List.length_singleton]; omega, ?_⟩
        exact f2
      · rintro H4 ⟨s4, acc, hacc, al, pa⟩
        rw [plen pcs, List.take_length] at pa
        exact q D acc H4 s4 hD hacc pa
end
end Bm

set_option Elab.async false
set_option linter.all false
set_option maxRecDepth 100000
set_option maxHeartbeats 8000000
/-! an item made narrow -/
namespace Bm
open PySem L2
/-- the program's narrow_items -/
def spNI : Sp := fun vs H Q _ => ∃ (v u : V) (x : I2) (ft : Ft), vs = [v, u] ∧ I2At H v x ∧ x.okF ∧ FtAt H u ft ∧ ft ∈ featsOf x ∧ ∀ r zs H', Same H H' → H' r = some (.tup zs) → ItsAt H' zs (narI x ft) → Q (.ref r) H'
theorem not_whole {xs : List V} {j : Nat} (h : j < xs.length) : ¬ (HT.sIx xs.length 0 none = 0 ∧ HT.sIx xs.length xs.length (some (j : Int)) = xs.length) := by
  rintro ⟨_, k⟩
  rw [HT.sIx_nat] at k
  omega
theorem feat_num {n o : Str} {s lo hi : Int} {ft : Ft} (h : ft ∈ featsOf (.sm (.num n s o lo hi))) : ft = ⟨"least", n, none⟩ ∨ ft = ⟨"greatest", n, none⟩ := by
  simp only [featsOf] at h
  split at h
  · exact .inl (List.mem_singleton.mp h)
  · simpa using h
section
variable {P : Program} {w : World} {K : PySem.W.Frag} {mg : Str → Option Value} {base : Heap} {f : Addr} {fd : FuncData}
abbrev nNI : List Str := ["item", "feature", "word", "case"]
theorem scNI : FnScope nNI ["item", "feature"] (defScope sNI) := ⟨rfl, rfl, rfl, by decide +kernel, rfl, by decide +kernel, by decide +kernel⟩
theorem ok_ni (F : Fun K "narrow_items" "narrow_items" sNI f fd) (mt : mg "tuple" = none) : FnOk P w K mg base CX0 1 f fd ["item", "feature"] spNI := by
  refine F.ok scNI (fun vs H Q E h => ?_) (fun cdv A outer s H vs Q E hr h => ?_)
  · obtain ⟨v, u, x, ft, rfl, _⟩ := h
    rfl
  · obtain ⟨v, u, x, ft, rfl, hx, xo, ⟨tf, rfl, htf⟩, hin, q⟩ := h
    refine ⟨_, (pss_cons (ps_set (i := 2) scNI.nd rfl (.inl rfl) (pe_ix ix_tup (pv 1) pe_int (fun _ _ => rfl)))
      (pss_cons (ps_if (pt_cmpR op_eq (pv 2) pe_str (nomark _)) (pss_one (ps_ret (pe_tup (pa_cons (pe_op op_catT (pe_slice sl_tup (pv 0) po_none (po_some pe_int)) (pe_tup (pa_cons (pe_ix ix_tup (pv 0) pe_int (fun _ _ => rfl)) pa_nil))) pa_nil)))) pss_nil)
      (pss_cons (ps_if (pt_cmpR op_eq (pv 2) pe_str (nomark _)) (pss_one (ps_ret (pe_tup (pa_cons (pe_op op_catT (pe_slice sl_tup (pv 0) po_none (po_some pe_int)) (pe_tup (pa_cons (pe_ix ix_tup (pv 0) pe_int (fun _ _ => rfl)) (pa_cons (pe_ix ix_tup (pv 0) pe_int (fun _ _ => rfl)) pa_nil)))) pa_nil)))) pss_nil)
      (pss_cons (ps_if (pt_cmpR op_eq (pv 2) pe_str (nomark _)) (pss_one (ps_ret (pe_tup (pa_cons (pe_op op_catT (pe_slice sl_tup (pv 0) po_none (po_some pe_int)) (pe_tup (pa_cons pe_int pa_nil))) pa_nil)))) pss_nil)
      (pss_cons (ps_if (pt_cmpR op_eq (pv 2) pe_str (nomark _)) (pss_one (ps_ret (pe_ix ix_tup (pe_ix ix_tup (pv 0) pe_int (fun _ _ => rfl)) (pe_ix ix_tup (pv 1) pe_int (fun _ _ => rfl)) (fun _ _ => rfl)))) pss_nil)
      (pss_one (ps_ret (pe_tup (pa_cons (pe_op op_catT (pe_slice sl_tup (pv 0) po_none (po_some pe_int)) (pe_tup (pa_cons (pe_tupleOf (by rfl) mt (pe_lc (own := [("case", 3)]) (g := gName 3) rfl scNI.nd (pi_row (pe_ix ix_tup (pv 0) pe_int (fun _ _ => rfl))) (blkOk_by (own := [("case", 3)]) (N := nNI) (sc := defScope sNI) (by decide +kernel)) (fun _ _ _ _ _ => pg_name (i := 3) scNI.nd rfl (Or.inl rfl)) (fun _ _ _ _ _ => pts_one (pt_cmpR op_eq (pe_ix (r := rIxT K) ix_tup (pv 3) pe_int (fun _ _ => rfl)) (pe_ix (r := rIxT K) ix_tup (pv 1) pe_int (fun _ _ => rfl)) (nomark _))) (fun _ _ _ _ _ => (pv 3)))) pa_nil))) pa_nil))))))))), ?_⟩
    have S0 := Same.refl H
    have hF : ∀ {H1 : Hp}, Same H H1 → SqT K H1 tf _ := fun s => SqT.of (s _ _ htf)
    refine ⟨_, rfl, tf, _, 0, _, rfl, rfl, hF S0, atI_nat (j := 0) rfl, ?_⟩
    refine g_nx ?_
    cases x with
    | rep n a b => cases hin
    | sm y =>
      obtain ⟨p, rfl, hp⟩ := hx
      have hT : ∀ {H1 : Hp}, Same H H1 → SqT K H1 p _ := fun s => SqT.of (s _ _ hp)
      cases y with
      | num n s o lo hi =>
        rcases feat_num hin with rfl | rfl
        · refine ⟨_, rfl, rfl, _, rfl, ifT rfl ?_⟩
          refine ⟨_, rfl, 5, rfl, p, _, rfl, hT S0, not_whole (j := 5) (by show 5 < 6; decide), fun t1 g1 => ?_⟩
          rw [show cutV (Sm.num n s o lo hi).row none (some 5) = [.str "number", .str n, .int s, .str o, .int lo] from cutV_to _ 5]
          have s1 := same_new g1 (.tup [.str "number", .str n, .int s, .str o, .int lo])
          have k1 := upd_same (H := H) (a := t1) (o := .tup [.str "number", .str n, .int s, .str o, .int lo])
          generalize upd H t1 (.tup [.str "number", .str n, .int s, .str o, .int lo]) = H1 at s1 k1 ⊢
          have S1 := S0.trans s1
          refine ⟨_, rfl, p, _, 4, _, rfl, rfl, hT S1, atI_nat (j := 4) rfl, (by show 1 ≤ sizeLine; decide), fun t2 g2 => ?_⟩
          have s2 := same_new g2 (.tup [.int lo])
          have k2 := upd_same (H := H1) (a := t2) (o := .tup [.int lo])
          generalize upd H1 t2 (.tup [.int lo]) = H2 at s2 k2 ⊢
          have S2 := S1.trans s2
          refine ⟨t1, t2, [.str "number", .str n, .int s, .str o, .int lo], [.int lo], rfl, rfl, SqT.of (s2 _ _ k1), SqT.of k2, by simp, by show 6 ≤ sizeLine; decide, fun z => absurd z (by simp), fun _ t3 g3 => ⟨(by show 1 ≤ sizeLine; decide), fun r hr' => ?_⟩⟩
          have s4 := same_new hr' (.tup [.ref t3])
          have s3 := same_new g3 (.tup ([.str "number", .str n, .int s, .str o, .int lo] ++ [.int lo]))
          exact q r [.ref t3] _ (S2.trans (s3.trans s4)) upd_same (.cons ⟨t3, rfl, s4 _ _ upd_same⟩ .nil)
        · refine ⟨_, rfl, rfl, _, rfl, ifN (by dsimp only; decide +kernel) ?_⟩
          refine ⟨_, rfl, rfl, _, rfl, ifT rfl ?_⟩
          refine ⟨_, rfl, 4, rfl, p, _, rfl, hT S0, not_whole (j := 4) (by show 4 < 6; decide), fun t1 g1 => ?_⟩
          rw [show cutV (Sm.num n s o lo hi).row none (some 4) = [.str "number", .str n, .int s, .str o] from cutV_to _ 4]
          have s1 := same_new g1 (.tup [.str "number", .str n, .int s, .str o])
          have k1 := upd_same (H := H) (a := t1) (o := .tup [.str "number", .str n, .int s, .str o])
          generalize upd H t1 (.tup [.str "number", .str n, .int s, .str o]) = H1 at s1 k1 ⊢
          have S1 := S0.trans s1
          refine ⟨_, rfl, p, _, 5, _, rfl, rfl, hT S1, atI_nat (j := 5) rfl, _, rfl, p, _, 5, _, rfl, rfl, hT S1, atI_nat (j := 5) rfl, (by show 2 ≤ sizeLine; decide), fun t2 g2 => ?_⟩
          have s2 := same_new g2 (.tup [.int hi, .int hi])
          have k2 := upd_same (H := H1) (a := t2) (o := .tup [.int hi, .int hi])
          generalize upd H1 t2 (.tup [.int hi, .int hi]) = H2 at s2 k2 ⊢
          have S2 := S1.trans s2
          refine ⟨t1, t2, [.str "number", .str n, .int s, .str o], [.int hi, .int hi], rfl, rfl, SqT.of (s2 _ _ k1), SqT.of k2, by simp, by show 6 ≤ sizeLine; decide, fun z => absurd z (by simp), fun _ t3 g3 => ⟨(by show 1 ≤ sizeLine; decide), fun r hr' => ?_⟩⟩
          have s4 := same_new hr' (.tup [.ref t3])
          have s3 := same_new g3 (.tup ([.str "number", .str n, .int s, .str o] ++ [.int hi, .int hi]))
          refine q r [.ref t3] _ (S2.trans (s3.trans s4)) upd_same ?_
          rw [show narI (.sm (.num n s o lo hi)) ⟨"greatest", n, none⟩ = [.sm (.num n s o hi hi)] by simp only [narI]; exact if_neg (by decide +kernel)]
          exact .cons ⟨t3, rfl, s4 _ _ upd_same⟩ .nil
      | txt n s m =>
        have : ft = ⟨"empty", n, none⟩ := List.mem_singleton.mp hin
        subst this
        refine ⟨_, rfl, rfl, _, rfl, ifN (by dsimp only; decide +kernel) ?_⟩
        refine ⟨_, rfl, rfl, _, rfl, ifN (by dsimp only; decide +kernel) ?_⟩
        refine ⟨_, rfl, rfl, _, rfl, ifT rfl ?_⟩
        refine ⟨_, rfl, 3, rfl, p, _, rfl, hT S0, not_whole (j := 3) (by show 3 < 4; decide), fun t1 g1 => ?_⟩
        rw [show cutV (Sm.txt n s m).row none (some 3) = [.str "text", .str n, .int s] from cutV_to _ 3]
        have s1 := same_new g1 (.tup [.str "text", .str n, .int s])
        have k1 := upd_same (H := H) (a := t1) (o := .tup [.str "text", .str n, .int s])
        generalize upd H t1 (.tup [.str "text", .str n, .int s]) = H1 at s1 k1 ⊢
        have S1 := S0.trans s1
        refine ⟨(by show 1 ≤ sizeLine; decide), fun t2 g2 => ?_⟩
        have s2 := same_new g2 (.tup [.int 0])
        have k2 := upd_same (H := H1) (a := t2) (o := .tup [.int 0])
        generalize upd H1 t2 (.tup [.int 0]) = H2 at s2 k2 ⊢
        have S2 := S1.trans s2
        refine ⟨t1, t2, [.str "text", .str n, .int s], [.int 0], rfl, rfl, SqT.of (s2 _ _ k1), SqT.of k2, by simp, by show 4 ≤ sizeLine; decide, fun z => absurd z (by simp), fun _ t3 g3 => ⟨(by show 1 ≤ sizeLine; decide), fun r hr' => ?_⟩⟩
        have s4 := same_new hr' (.tup [.ref t3])
        have s3 := same_new g3 (.tup ([.str "text", .str n, .int s] ++ [.int 0]))
        exact q r [.ref t3] _ (S2.trans (s3.trans s4)) upd_same (.cons ⟨t3, rfl, s4 _ _ upd_same⟩ .nil)
      | _ => cases hin
    | eit n bs =>
      obtain ⟨p, pq, xb, rfl, hp, hpq, pbs⟩ := hx
      have hT : ∀ {H1 : Hp}, Same H H1 → SqT K H1 p _ := fun s => SqT.of (s _ _ hp)
      obtain ⟨k, hk, rfl⟩ := List.mem_map.mp hin
      have hk := List.mem_range.mp hk
      refine ⟨_, rfl, rfl, _, rfl, ifN (by dsimp only; decide +kernel) ?_⟩
      refine ⟨_, rfl, rfl, _, rfl, ifN (by dsimp only; decide +kernel) ?_⟩
      refine ⟨_, rfl, rfl, _, rfl, ifN (by dsimp only; decide +kernel) ?_⟩
      refine ⟨_, rfl, rfl, _, rfl, ifT rfl ?_⟩
      have lb := plen pbs
      obtain ⟨b, gb⟩ : ∃ b, bs[k]? = some b := ⟨bs[k], List.getElem?_eq_getElem hk⟩
      obtain ⟨ub, gu⟩ : ∃ u, xb[k]? = some u := ⟨xb[k]'(by omega), List.getElem?_eq_getElem (by omega)⟩
      obtain ⟨b', gb', hbk⟩ := pget pbs gu
      rw [gb] at gb'; cases gb'
      obtain ⟨pu, xu, rfl, hpu, itu⟩ := bk_its hbk
      refine ⟨_, rfl, p, _, 2, _, rfl, rfl, hT S0, atI_nat (j := 2) rfl, _, rfl, tf, _, 2, _, rfl, rfl, hF S0, atI_nat (j := 2) rfl, pq, _, (k : Int), _, rfl, rfl, SqT.of hpq, atI_nat (j := k) gu, ?_⟩
      refine q pu xu H S0 hpu ?_
      show ItsAt H xu (((bs[((k : Int)).toNat]?).getD []).map .sm)
      rw [Int.toNat_natCast, gb]
      exact itu
    | swi n tg cs =>
      obtain ⟨p, pq, xb, rfl, hp, hpq, pcs⟩ := hx
      have hT : ∀ {H1 : Hp}, Same H H1 → SqT K H1 p _ := fun s => SqT.of (s _ _ hp)
      have xo : cs.length ≤ 100 := xo
      obtain ⟨c0, _, rfl⟩ := List.mem_map.mp hin
      refine ⟨_, rfl, rfl, _, rfl, ifN (by dsimp only; decide +kernel) ?_⟩
      refine ⟨_, rfl, rfl, _, rfl, ifN (by dsimp only; decide +kernel) ?_⟩
      refine ⟨_, rfl, rfl, _, rfl, ifN (by dsimp only; decide +kernel) ?_⟩
      refine ⟨_, rfl, rfl, _, rfl, ifN (by dsimp only; decide +kernel) ?_⟩
      refine ⟨_, rfl, 3, rfl, p, _, rfl, hT S0, not_whole (j := 3) (by show 3 < 4; decide), fun t1 g1 => ?_⟩
      rw [show cutV [V.str "switch", .str n, .str tg, .ref pq] none (some 3) = [.str "switch", .str n, .str tg] from cutV_to _ 3]
      have s1 := same_new g1 (.tup [.str "switch", .str n, .str tg])
      have k1 := upd_same (H := H) (a := t1) (o := .tup [.str "switch", .str n, .str tg])
      generalize upd H t1 (.tup [.str "switch", .str n, .str tg]) = H1 at s1 k1 ⊢
      have S1 := S0.trans s1
      refine ⟨_, rfl, p, _, 3, _, rfl, rfl, hT S1, atI_nat (j := 3) rfl, pq, rfl, row_t (S1 _ _ hpq) fun J wk => ?_⟩
      intro D hD
      refine lc_it wk (fun i H' => Same H1 H' ∧ ∃ acc, H' D = some (.lst acc) ∧ acc.length ≤ i ∧ Paired (CsAt H) acc ((cs.take i).filter fun c => decide (c.1 = c0.1))) ⟨same_new hD _, [], upd_same, Nat.le_refl _, .nil⟩ (fun _ _ _ h => h.1) ?_ ?_
      · rintro i u' H4' H4 hi ⟨s4, acc, hacc, al, pa⟩ ⟨e3, hu'⟩
        subst e3
        obtain ⟨c2, gc, hcs⟩ := pget pcs hu'
        obtain ⟨pr, uu, rfl, hpr, hbk⟩ := hcs
        have il : i < cs.length := by rw [← plen pcs]; exact hi
        have S4 := S1.trans s4
        refine ⟨rfl, ?_⟩
        refine ⟨_, rfl, pr, _, 0, _, rfl, rfl, SqT.of (S4 _ _ hpr), atI_nat (j := 0) rfl, _, rfl, tf, _, 2, _, rfl, rfl, hF S4, atI_nat (j := 2) rfl, rfl, _, rfl, ?_⟩
        rw [List.take_add_one, gc, List.filter_append]
        by_cases ec : c2.1 = c0.1
        · refine ifP ec ?_
          refine ⟨_, rfl, acc, hacc, small1000 (by omega), same_set s4 hD, acc ++ [.ref pr], upd_same, by rw [List.length_append, List.length_singleton]; omega, ?_⟩
          rw [show (Option.some c2).toList.filter (fun c => decide (c.1 = c0.1)) = [c2] by rw [Option.toList, List.filter_cons, if_pos (decide_eq_true ec)]; rfl]
          exact papp pa (.cons ⟨pr, uu, rfl, hpr, hbk⟩ .nil)
        · refine ifQ ec ?_
          rw [show (Option.some c2).toList.filter (fun c => decide (c.1 = c0.1)) = [] by rw [Option.toList, List.filter_cons, if_neg (by simpa using ec)]; rfl, List.append_nil]
          exact ⟨s4, acc, hacc, by omega, pa⟩
      · rintro H4 ⟨s4, acc, hacc, al, pa⟩
        rw [plen pcs, List.take_length] at pa
        have S4 := S1.trans s4
        refine .inl ⟨D, acc, rfl, SqL.of hacc, fun t5 g5 => ?_⟩
        have s5 := same_new g5 (.tup acc)
        have k5 := upd_same (H := H4) (a := t5) (o := .tup acc)
        generalize upd H4 t5 (.tup acc) = H5 at s5 k5 ⊢
        refine ⟨(by show 1 ≤ sizeLine; decide), fun t2 g2 => ?_⟩
        have s6 := same_new g2 (.tup [.ref t5])
        have k6 := upd_same (H := H5) (a := t2) (o := .tup [.ref t5])
        generalize upd H5 t2 (.tup [.ref t5]) = H6 at s6 k6 ⊢
        have S6 := S4.trans (s5.trans s6)
        refine ⟨t1, t2, [.str "switch", .str n, .str tg], [.ref t5], rfl, rfl, SqT.of ((s4.trans (s5.trans s6)) _ _ k1), SqT.of k6, by simp, by show 4 ≤ sizeLine; decide, fun z => absurd z (by simp), fun _ t3 g3 => ⟨(by show 1 ≤ sizeLine; decide), fun r hr' => ?_⟩⟩
        have s8 := same_new hr' (.tup [.ref t3])
        have s7 := same_new g3 (.tup ([.str "switch", .str n, .str tg] ++ [.ref t5]))
        have S8 := S6.trans (s7.trans s8)
        exact q r [.ref t3] _ S8 upd_same (.cons ⟨t3, t5, acc, rfl, s8 _ _ upd_same, (s6.trans (s7.trans s8)) _ _ k5, L2.Paired.mapP pa fun _ _ z => z.tk (sTk S8)⟩ .nil)
end
end Bm

set_option Elab.async false
set_option linter.all false
set_option maxRecDepth 100000
set_option maxHeartbeats 8000000
/-! the law's narrow items -/
namespace Bm
open PySem L2
abbrev sLN : Stmt := top 64
def spLN : Sp := fun vs H Q _ => ∃ (pit : Addr) (u : V) (xs : List V) (l : List I2) (i0 : Nat) (x : I2) (ft : Ft), vs = [.ref pit, .int (i0 : Int), u] ∧ H pit = some (.tup xs) ∧ ItsAt H xs l ∧ l.length ≤ 100 ∧ l[i0]? = some x ∧ x.okF ∧ FtAt H u ft ∧ ft ∈ featsOf x ∧ (narI x ft).length ≤ 100 ∧ ∀ r zs H', Same H H' → H' r = some (.tup zs) → ItsAt H' zs (narL l i0 (narI x ft)) → Q (.ref r) H'
/-- what a feature tells of its item -/
theorem feat_cases {x : I2} {ft : Ft} (h : ft ∈ featsOf x) :
    (∃ n s o lo hi, x = .sm (.num n s o lo hi) ∧ ((ft = ⟨"least", n, none⟩ ∧ narI x ft = [.sm (.num n s o lo lo)]) ∨ (ft = ⟨"greatest", n, none⟩ ∧ narI x ft = [.sm (.num n s o hi hi)]))) ∨
    (∃ n s m, x = .sm (.txt n s m) ∧ ft = ⟨"empty", n, none⟩ ∧ narI x ft = [.sm (.txt n s 0)]) ∨
    (∃ n bs k b, x = .eit n bs ∧ ft = ⟨"choice", n, some ((k : Nat) : Int)⟩ ∧ bs[k]? = some b ∧ narI x ft = b.map .sm) ∨
    (∃ n t cs i, x = .swi n t cs ∧ ft = ⟨"case", n, some i⟩ ∧ narI x ft = [.swi n t (cs.filter fun c => decide (c.1 = i))]) := by
  cases x with
  | rep n a b => cases h
  | sm y =>
    cases y with
    | num n s o lo hi =>
      rcases feat_num h with rfl | rfl
      · exact .inl ⟨n, s, o, lo, hi, rfl, .inl ⟨rfl, by simp only [narI]; exact if_pos trivial⟩⟩
      · exact .inl ⟨n, s, o, lo, hi, rfl, .inr ⟨rfl, by simp only [narI]; exact if_neg (by decide +kernel)⟩⟩
    | txt n s m =>
      have : ft = ⟨"empty", n, none⟩ := List.mem_singleton.mp h
      subst this
      exact .inr (.inl ⟨n, s, m, rfl, rfl, rfl⟩)
    | _ => cases h
  | eit n bs =>
    obtain ⟨k, hk, rfl⟩ := List.mem_map.mp h
    have hk := List.mem_range.mp hk
    refine .inr (.inr (.inl ⟨n, bs, k, bs[k], rfl, rfl, List.getElem?_eq_getElem hk, ?_⟩))
    show ((bs[((k : Int)).toNat]?).getD []).map I2.sm = _
    rw [Int.toNat_natCast, List.getElem?_eq_getElem hk]; rfl
  | swi n t cs =>
    obtain ⟨c0, _, rfl⟩ := List.mem_map.mp h
    exact .inr (.inr (.inr ⟨n, t, cs, c0.1, rfl, rfl, rfl⟩))
theorem ww : (("least" : Str) ≠ "greatest" ∧ ("least" : Str) ≠ "empty" ∧ ("least" : Str) ≠ "choice" ∧ ("least" : Str) ≠ "case") ∧ (("greatest" : Str) ≠ "empty" ∧ ("greatest" : Str) ≠ "choice" ∧ ("greatest" : Str) ≠ "case") ∧ (("empty" : Str) ≠ "choice" ∧ ("empty" : Str) ≠ "case") ∧ ("choice" : Str) ≠ "case" := by decide +kernel
theorem feat_least {x : I2} {ft : Ft} (h : ft ∈ featsOf x) (e : ft.word = "least") : ∃ n s o lo hi, x = .sm (.num n s o lo hi) ∧ narI x ft = [.sm (.num n s o lo lo)] := by
  rcases feat_cases h with ⟨n, s, o, lo, hi, rfl, ⟨rfl, k⟩ | ⟨rfl, k⟩⟩ | ⟨n, s, m, rfl, rfl, k⟩ | ⟨n, bs, k, b, rfl, rfl, _⟩ | ⟨n, t, cs, i, rfl, rfl, _⟩
  · exact ⟨n, s, o, lo, hi, rfl, k⟩
  · exact absurd e.symm ww.1.1
  · exact absurd e.symm ww.1.2.1
  · exact absurd e.symm ww.1.2.2.1
  · exact absurd e.symm ww.1.2.2.2
theorem feat_great {x : I2} {ft : Ft} (h : ft ∈ featsOf x) (e : ft.word = "greatest") : ∃ n s o lo hi, x = .sm (.num n s o lo hi) ∧ narI x ft = [.sm (.num n s o hi hi)] := by
  rcases feat_cases h with ⟨n, s, o, lo, hi, rfl, ⟨rfl, k⟩ | ⟨rfl, k⟩⟩ | ⟨n, s, m, rfl, rfl, k⟩ | ⟨n, bs, k, b, rfl, rfl, _⟩ | ⟨n, t, cs, i, rfl, rfl, _⟩
  · exact absurd e ww.1.1
  · exact ⟨n, s, o, lo, hi, rfl, k⟩
  · exact absurd e.symm ww.2.1.1
  · exact absurd e.symm ww.2.1.2.1
  · exact absurd e.symm ww.2.1.2.2
theorem feat_empty {x : I2} {ft : Ft} (h : ft ∈ featsOf x) (e : ft.word = "empty") : ∃ n s m, x = .sm (.txt n s m) ∧ narI x ft = [.sm (.txt n s 0)] := by
  rcases feat_cases h with ⟨n, s, o, lo, hi, rfl, ⟨rfl, k⟩ | ⟨rfl, k⟩⟩ | ⟨n, s, m, rfl, rfl, k⟩ | ⟨n, bs, k, b, rfl, rfl, _⟩ | ⟨n, t, cs, i, rfl, rfl, _⟩
  · exact absurd e ww.1.2.1
  · exact absurd e ww.2.1.1
  · exact ⟨n, s, m, rfl, k⟩
  · exact absurd e.symm ww.2.2.1.1
  · exact absurd e.symm ww.2.2.1.2
theorem feat_choice {x : I2} {ft : Ft} (h : ft ∈ featsOf x) (e : ft.word = "choice") : ∃ n bs k b, x = .eit n bs ∧ ft = ⟨"choice", n, some ((k : Nat) : Int)⟩ ∧ bs[k]? = some b ∧ narI x ft = b.map .sm := by
  rcases feat_cases h with ⟨n, s, o, lo, hi, rfl, ⟨rfl, k⟩ | ⟨rfl, k⟩⟩ | ⟨n, s, m, rfl, rfl, k⟩ | ⟨n, bs, k, b, rfl, rfl, g⟩ | ⟨n, t, cs, i, rfl, rfl, _⟩
  · exact absurd e ww.1.2.2.1
  · exact absurd e ww.2.1.2.1
  · exact absurd e ww.2.2.1.1
  · exact ⟨n, bs, k, b, rfl, rfl, g⟩
  · exact absurd e.symm ww.2.2.2
theorem feat_case {x : I2} {ft : Ft} (h : ft ∈ featsOf x) (e : ft.word = "case") : ∃ n t cs i, x = .swi n t cs ∧ ft = ⟨"case", n, some i⟩ ∧ narI x ft = [.swi n t (cs.filter fun c => decide (c.1 = i))] := by
  rcases feat_cases h with ⟨n, s, o, lo, hi, rfl, ⟨rfl, k⟩ | ⟨rfl, k⟩⟩ | ⟨n, s, m, rfl, rfl, k⟩ | ⟨n, bs, k, b, rfl, rfl, g⟩ | ⟨n, t, cs, i, rfl, rfl, g⟩
  · exact absurd e ww.1.2.2.2
  · exact absurd e ww.2.1.2.2
  · exact absurd e ww.2.2.1.2
  · exact absurd e ww.2.2.2
  · exact ⟨n, t, cs, i, rfl, rfl, g⟩
theorem feat_word {x : I2} {ft : Ft} (h : ft ∈ featsOf x) : ft.word = "least" ∨ ft.word = "greatest" ∨ ft.word = "empty" ∨ ft.word = "choice" ∨ ft.word = "case" := by
  rcases feat_cases h with ⟨n, s, o, lo, hi, rfl, ⟨rfl, k⟩ | ⟨rfl, k⟩⟩ | ⟨n, s, m, rfl, rfl, k⟩ | ⟨n, bs, k, b, rfl, rfl, g⟩ | ⟨n, t, cs, i, rfl, rfl, g⟩
  · exact .inl rfl
  · exact .inr (.inl rfl)
  · exact .inr (.inr (.inl rfl))
  · exact .inr (.inr (.inr (.inl rfl)))
  · exact .inr (.inr (.inr (.inr rfl)))
theorem catG {K : PySem.W.Frag} {a b : Addr} {xs ys : List V} {H : Hp} {Q : VK} (ha : H a = some (.tup xs)) (hb : H b = some (.tup ys)) (hz : xs.length + ys.length ≤ sizeLine) (g : ∀ q H', Same H H' → H' q = some (.tup (xs ++ ys)) → Q (.ref q) H') : rCatA K (.ref a) (.ref b) H Q :=
  ⟨a, b, xs, ys, rfl, rfl, SqT.of ha, SqT.of hb, hz, fun e => g b H (Same.refl H) (by rw [e]; exact hb), fun _ e => g a H (Same.refl H) (by rw [e, List.append_nil]; exact ha), fun _ _ p hp => g p _ (same_new hp _) upd_same⟩
theorem not_head {xs : List V} {j : Nat} (h : 0 < j) (k : 0 < xs.length) : ¬ (HT.sIx xs.length 0 (some (j : Int)) = 0 ∧ HT.sIx xs.length xs.length none = xs.length) := by
  rintro ⟨e, _⟩
  rw [HT.sIx_nat] at e
  omega
theorem pdrop {α β : Type} {F : α → β → Prop} : ∀ {xs : List α} {ys : List β}, Paired F xs ys → ∀ n, Paired F (xs.drop n) (ys.drop n)
  | _, _, .nil, n => by rw [List.drop_nil, List.drop_nil]; exact .nil
  | _, _, .cons h t, 0 => .cons h t
  | _, _, .cons h t, n + 1 => pdrop t n
section
variable {P : Program} {w : World} {K : PySem.W.Frag} {mg : Str → Option Value} {base : Heap} {f : Addr} {fd : FuncData}
abbrev nLN : List Str := ["items", "at", "feature", "item", "told", "case"]
theorem scLN : FnScope nLN ["items", "at", "feature"] (defScope sLN) := ⟨rfl, rfl, rfl, by decide +kernel, rfl, by decide +kernel, by decide +kernel⟩
theorem ok_ln (F : Fun K "_law_narrow" "_law_narrow" sLN f fd) (mt : mg "tuple" = none) : FnOk P w K mg base CX0 1 f fd ["items", "at", "feature"] spLN := by
  refine F.ok scLN (fun vs H Q E h => ?_) (fun cdv A outer s H vs Q E hr h => ?_)
  · obtain ⟨pit, u, xs, l, i0, x, ft, rfl, _⟩ := h
    rfl
  · obtain ⟨pit, u, xs, l, i0, x, ft, rfl, hpit, hl, l100, gx, xo, ⟨tf, rfl, htf⟩, hin, n100, q⟩ := h
    refine ⟨_, (pss_cons (ps_set (i := 3) scLN.nd rfl (.inl rfl) (pe_ix ix_tup (pv 0) (pv 1) (fun _ _ => rfl)))
      (pss_cons (ps_set (i := 4) scLN.nd rfl (.inl rfl) (pe_tup pa_nil))
      (pss_cons (ps_if (pt_cmpR op_eq (pe_ix ix_tup (pv 2) pe_int (fun _ _ => rfl)) pe_str (nomark _)) (pss_one (ps_set (i := 4) scLN.nd rfl (.inl rfl) (pe_tup (pa_cons (pe_op op_catT (pe_slice sl_tup (pv 3) po_none (po_some pe_int)) (pe_tup (pa_cons (pe_ix ix_tup (pv 3) pe_int (fun _ _ => rfl)) pa_nil))) pa_nil)))) pss_nil)
      (pss_cons (ps_if (pt_cmpR op_eq (pe_ix ix_tup (pv 2) pe_int (fun _ _ => rfl)) pe_str (nomark _)) (pss_one (ps_set (i := 4) scLN.nd rfl (.inl rfl) (pe_tup (pa_cons (pe_op op_catT (pe_slice sl_tup (pv 3) po_none (po_some pe_int)) (pe_tup (pa_cons (pe_ix ix_tup (pv 3) pe_int (fun _ _ => rfl)) (pa_cons (pe_ix ix_tup (pv 3) pe_int (fun _ _ => rfl)) pa_nil)))) pa_nil)))) pss_nil)
      (pss_cons (ps_if (pt_cmpR op_eq (pe_ix ix_tup (pv 2) pe_int (fun _ _ => rfl)) pe_str (nomark _)) (pss_one (ps_set (i := 4) scLN.nd rfl (.inl rfl) (pe_tup (pa_cons (pe_op op_catT (pe_slice sl_tup (pv 3) po_none (po_some pe_int)) (pe_tup (pa_cons pe_int pa_nil))) pa_nil)))) pss_nil)
      (pss_cons (ps_if (pt_cmpR op_eq (pe_ix ix_tup (pv 2) pe_int (fun _ _ => rfl)) pe_str (nomark _)) (pss_one (ps_set (i := 4) scLN.nd rfl (.inl rfl) (pe_ix ix_tup (pe_ix ix_tup (pv 3) pe_int (fun _ _ => rfl)) (pe_ix ix_tup (pv 2) pe_int (fun _ _ => rfl)) (fun _ _ => rfl)))) pss_nil)
      (pss_cons (ps_if (pt_cmpR op_eq (pe_ix ix_tup (pv 2) pe_int (fun _ _ => rfl)) pe_str (nomark _)) (pss_one (ps_set (i := 4) scLN.nd rfl (.inl rfl) (pe_tup (pa_cons (pe_op op_catT (pe_slice sl_tup (pv 3) po_none (po_some pe_int)) (pe_tup (pa_cons (pe_tupleOf (by rfl) mt (pe_lc (own := [("case", 5)]) (g := gName 5) rfl scLN.nd (pi_row (pe_ix ix_tup (pv 3) pe_int (fun _ _ => rfl))) (blkOk_by (own := [("case", 5)]) (N := nLN) (sc := defScope sLN) (by decide +kernel)) (fun _ _ _ _ _ => pg_name (i := 5) scLN.nd rfl (Or.inl rfl)) (fun _ _ _ _ _ => pts_one (pt_cmpR op_eq (pe_ix (r := rIxT K) ix_tup (pv 5) pe_int (fun _ _ => rfl)) (pe_ix (r := rIxT K) ix_tup (pv 2) pe_int (fun _ _ => rfl)) (nomark _))) (fun _ _ _ _ _ => (pv 5)))) pa_nil))) pa_nil)))) pss_nil)
      (pss_one (ps_ret (pe_op op_catA (pe_op op_catA (pe_slice sl_tup (pv 0) po_none (po_some (pv 1))) (pv 4)) (pe_slice sl_tup (pv 0) (po_some (pe_op op_add (pv 1) pe_int)) po_none))))))))))), ?_⟩
    have ll := plen hl
    have li : i0 < l.length := by
      apply Decidable.byContradiction
      intro c
      rw [List.getElem?_eq_none (by omega)] at gx; cases gx
    obtain ⟨v, gv⟩ : ∃ v, xs[i0]? = some v := ⟨xs[i0]'(by omega), List.getElem?_eq_getElem (by omega)⟩
    obtain ⟨x', gx', hx⟩ := pget hl gv
    rw [gx] at gx'; cases gx'
    obtain ⟨p, rest, rfl, hph⟩ := hx.head
    have hFt : ∀ {H1 : Hp}, Same H H1 → SqT K H1 tf _ := fun s => SqT.of (s _ _ htf)
    refine ⟨_, rfl, _, rfl, pit, _, _, _, rfl, rfl, SqT.of hpit, atI_nat gv, ?_⟩
    refine g_nx ?_
    refine ⟨(by show 0 ≤ sizeLine; decide), fun t0 g0 => ?_⟩
    have s0 := same_new g0 (.tup [])
    have k0 := upd_same (H := H) (a := t0) (o := .tup [])
    generalize upd H t0 (.tup []) = HA at s0 k0 ⊢
    refine g_nx ?_
    try dsimp only
    have SS := s0
    have htt := k0
    have hprev : True := trivial
    obtain ⟨tt, rfl⟩ : ∃ X : Addr, X = t0 := ⟨_, rfl⟩
    obtain ⟨tz, etz⟩ : ∃ X : List V, [] = X := ⟨_, rfl⟩
    rw [etz] at htt k0
    clear k0 s0 g0 etz
    obtain ⟨HS, rfl⟩ : ∃ X : Hp, X = HA := ⟨_, rfl⟩
    refine with_rest (fun σ Hx => ∃ (tt : Addr) (tz : List V), σ = [some (.ref pit), some (.int (i0 : Int)), some (.ref tf), some (.ref p), some (.ref tt), none] ∧ Same H Hx ∧ Hx tt = some (.tup tz) ∧ (ft.word = "least" → ItsAt Hx tz (narI x ft))) ?_ fun go => ?_
    rotate_left
    · refine ⟨_, rfl, tf, _, 0, _, rfl, rfl, hFt SS, atI_nat (j := 0) rfl, rfl, _, rfl, ?_⟩
      by_cases ew : ft.word = "least"
      · refine ifT ew ?_
        have S0 := Same.refl HS
        obtain ⟨n, s, o, lo, hi, rfl, enar⟩ := feat_least hin ew
        obtain ⟨p', e', hp⟩ := hx
        cases e'
        have hT : ∀ {H1 : Hp}, Same H H1 → SqT K H1 p _ := fun s => SqT.of (s _ _ hp)
        refine ⟨_, rfl, 5, rfl, p, _, rfl, hT SS, not_whole (j := 5) (by show 5 < 6; decide), fun t1 g1 => ?_⟩
        rw [show cutV (Sm.num n s o lo hi).row none (some 5) = [.str "number", .str n, .int s, .str o, .int lo] from cutV_to _ 5]
        have s1 := same_new g1 (.tup [.str "number", .str n, .int s, .str o, .int lo])
        have k1 := upd_same (H := HS) (a := t1) (o := .tup [.str "number", .str n, .int s, .str o, .int lo])
        generalize upd HS t1 (.tup [.str "number", .str n, .int s, .str o, .int lo]) = H1 at s1 k1 ⊢
        have S1 := S0.trans s1
        refine ⟨_, rfl, p, _, 4, _, rfl, rfl, hT (SS.trans S1), atI_nat (j := 4) rfl, (by show 1 ≤ sizeLine; decide), fun t2 g2 => ?_⟩
        have s2 := same_new g2 (.tup [.int lo])
        have k2 := upd_same (H := H1) (a := t2) (o := .tup [.int lo])
        generalize upd H1 t2 (.tup [.int lo]) = H2 at s2 k2 ⊢
        have S2 := S1.trans s2
        refine ⟨t1, t2, [.str "number", .str n, .int s, .str o, .int lo], [.int lo], rfl, rfl, SqT.of (s2 _ _ k1), SqT.of k2, by simp, by show 6 ≤ sizeLine; decide, fun z => absurd z (by simp), fun _ t3 g3 => ⟨(by show 1 ≤ sizeLine; decide), fun r hr' => ?_⟩⟩
        have s4 := same_new hr' (.tup [.ref t3])
        have s3 := same_new g3 (.tup ([.str "number", .str n, .int s, .str o, .int lo] ++ [.int lo]))
        exact go _ _ ⟨r, [.ref t3], rfl, SS.trans (S2.trans (s3.trans s4)), upd_same, fun _ => by rw [enar]; exact .cons ⟨t3, rfl, s4 _ _ upd_same⟩ .nil⟩
      · refine ifN ew ?_
        exact go _ _ ⟨tt, tz, rfl, SS, htt, fun z => absurd z ew⟩
    clear hprev htt SS
    clear tz tt
    rintro σ HS ⟨tt, tz, rfl, SS, htt, hprev⟩
    refine with_rest (fun σ Hx => ∃ (tt : Addr) (tz : List V), σ = [some (.ref pit), some (.int (i0 : Int)), some (.ref tf), some (.ref p), some (.ref tt), none] ∧ Same H Hx ∧ Hx tt = some (.tup tz) ∧ (ft.word = "least" ∨ ft.word = "greatest" → ItsAt Hx tz (narI x ft))) ?_ fun go => ?_
    rotate_left
    · refine ⟨_, rfl, tf, _, 0, _, rfl, rfl, hFt SS, atI_nat (j := 0) rfl, rfl, _, rfl, ?_⟩
      by_cases ew : ft.word = "greatest"
      · refine ifT ew ?_
        have S0 := Same.refl HS
        obtain ⟨n, s, o, lo, hi, rfl, enar⟩ := feat_great hin ew
        obtain ⟨p', e', hp⟩ := hx
        cases e'
        have hT : ∀ {H1 : Hp}, Same H H1 → SqT K H1 p _ := fun s => SqT.of (s _ _ hp)
        refine ⟨_, rfl, 4, rfl, p, _, rfl, hT SS, not_whole (j := 4) (by show 4 < 6; decide), fun t1 g1 => ?_⟩
        rw [show cutV (Sm.num n s o lo hi).row none (some 4) = [.str "number", .str n, .int s, .str o] from cutV_to _ 4]
        have s1 := same_new g1 (.tup [.str "number", .str n, .int s, .str o])
        have k1 := upd_same (H := HS) (a := t1) (o := .tup [.str "number", .str n, .int s, .str o])
        generalize upd HS t1 (.tup [.str "number", .str n, .int s, .str o]) = H1 at s1 k1 ⊢
        have S1 := S0.trans s1
        refine ⟨_, rfl, p, _, 5, _, rfl, rfl, hT (SS.trans S1), atI_nat (j := 5) rfl, _, rfl, p, _, 5, _, rfl, rfl, hT (SS.trans S1), atI_nat (j := 5) rfl, (by show 2 ≤ sizeLine; decide), fun t2 g2 => ?_⟩
        have s2 := same_new g2 (.tup [.int hi, .int hi])
        have k2 := upd_same (H := H1) (a := t2) (o := .tup [.int hi, .int hi])
        generalize upd H1 t2 (.tup [.int hi, .int hi]) = H2 at s2 k2 ⊢
        have S2 := S1.trans s2
        refine ⟨t1, t2, [.str "number", .str n, .int s, .str o], [.int hi, .int hi], rfl, rfl, SqT.of (s2 _ _ k1), SqT.of k2, by simp, by show 6 ≤ sizeLine; decide, fun z => absurd z (by simp), fun _ t3 g3 => ⟨(by show 1 ≤ sizeLine; decide), fun r hr' => ?_⟩⟩
        have s4 := same_new hr' (.tup [.ref t3])
        have s3 := same_new g3 (.tup ([.str "number", .str n, .int s, .str o] ++ [.int hi, .int hi]))
        exact go _ _ ⟨r, [.ref t3], rfl, SS.trans (S2.trans (s3.trans s4)), upd_same, fun _ => by rw [enar]; exact .cons ⟨t3, rfl, s4 _ _ upd_same⟩ .nil⟩
      · refine ifN ew ?_
        exact go _ _ ⟨tt, tz, rfl, SS, htt, fun h => h.elim hprev fun z => absurd z ew⟩
    clear hprev htt SS
    clear tz tt
    rintro σ HS ⟨tt, tz, rfl, SS, htt, hprev⟩
    refine with_rest (fun σ Hx => ∃ (tt : Addr) (tz : List V), σ = [some (.ref pit), some (.int (i0 : Int)), some (.ref tf), some (.ref p), some (.ref tt), none] ∧ Same H Hx ∧ Hx tt = some (.tup tz) ∧ (ft.word = "least" ∨ ft.word = "greatest" ∨ ft.word = "empty" → ItsAt Hx tz (narI x ft))) ?_ fun go => ?_
    rotate_left
    · refine ⟨_, rfl, tf, _, 0, _, rfl, rfl, hFt SS, atI_nat (j := 0) rfl, rfl, _, rfl, ?_⟩
      by_cases ew : ft.word = "empty"
      · refine ifT ew ?_
        have S0 := Same.refl HS
        obtain ⟨n, s, m, rfl, enar⟩ := feat_empty hin ew
        obtain ⟨p', e', hp⟩ := hx
        cases e'
        have hT : ∀ {H1 : Hp}, Same H H1 → SqT K H1 p _ := fun s => SqT.of (s _ _ hp)
        refine ⟨_, rfl, 3, rfl, p, _, rfl, hT SS, not_whole (j := 3) (by show 3 < 4; decide), fun t1 g1 => ?_⟩
        rw [show cutV (Sm.txt n s m).row none (some 3) = [.str "text", .str n, .int s] from cutV_to _ 3]
        have s1 := same_new g1 (.tup [.str "text", .str n, .int s])
        have k1 := upd_same (H := HS) (a := t1) (o := .tup [.str "text", .str n, .int s])
        generalize upd HS t1 (.tup [.str "text", .str n, .int s]) = H1 at s1 k1 ⊢
        have S1 := S0.trans s1
        refine ⟨(by show 1 ≤ sizeLine; decide), fun t2 g2 => ?_⟩
        have s2 := same_new g2 (.tup [.int 0])
        have k2 := upd_same (H := H1) (a := t2) (o := .tup [.int 0])
        generalize upd H1 t2 (.tup [.int 0]) = H2 at s2 k2 ⊢
        have S2 := S1.trans s2
        refine ⟨t1, t2, [.str "text", .str n, .int s], [.int 0], rfl, rfl, SqT.of (s2 _ _ k1), SqT.of k2, by simp, by show 4 ≤ sizeLine; decide, fun z => absurd z (by simp), fun _ t3 g3 => ⟨(by show 1 ≤ sizeLine; decide), fun r hr' => ?_⟩⟩
        have s4 := same_new hr' (.tup [.ref t3])
        have s3 := same_new g3 (.tup ([.str "text", .str n, .int s] ++ [.int 0]))
        exact go _ _ ⟨r, [.ref t3], rfl, SS.trans (S2.trans (s3.trans s4)), upd_same, fun _ => by rw [enar]; exact .cons ⟨t3, rfl, s4 _ _ upd_same⟩ .nil⟩
      · refine ifN ew ?_
        exact go _ _ ⟨tt, tz, rfl, SS, htt, fun h => hprev (by
          rcases h with h | h | h
          · exact (.inl h)
          · exact (.inr h)
          · exact absurd h ew)⟩
    clear hprev htt SS
    clear tz tt
    rintro σ HS ⟨tt, tz, rfl, SS, htt, hprev⟩
    refine with_rest (fun σ Hx => ∃ (tt : Addr) (tz : List V), σ = [some (.ref pit), some (.int (i0 : Int)), some (.ref tf), some (.ref p), some (.ref tt), none] ∧ Same H Hx ∧ Hx tt = some (.tup tz) ∧ (ft.word = "least" ∨ ft.word = "greatest" ∨ ft.word = "empty" ∨ ft.word = "choice" → ItsAt Hx tz (narI x ft))) ?_ fun go => ?_
    rotate_left
    · refine ⟨_, rfl, tf, _, 0, _, rfl, rfl, hFt SS, atI_nat (j := 0) rfl, rfl, _, rfl, ?_⟩
      by_cases ew : ft.word = "choice"
      · refine ifT ew ?_
        have S0 := Same.refl HS
        obtain ⟨n, bs, k, b, rfl, rfl, gb, enar⟩ := feat_choice hin ew
        obtain ⟨p', pq, xb, e', hp, hpq, pbs⟩ := hx
        cases e'
        have hT : ∀ {H1 : Hp}, Same H H1 → SqT K H1 p _ := fun s => SqT.of (s _ _ hp)
        have lb := plen pbs
        have hk := get_lt' gb
        obtain ⟨ub, gu⟩ : ∃ u, xb[k]? = some u := ⟨xb[k]'(by omega), List.getElem?_eq_getElem (by omega)⟩
        obtain ⟨b', gb', hbk⟩ := pget pbs gu
        rw [gb] at gb'; cases gb'
        obtain ⟨pu, xu, rfl, hpu, itu⟩ := bk_its hbk
        refine ⟨_, rfl, p, _, 2, _, rfl, rfl, hT SS, atI_nat (j := 2) rfl, _, rfl, tf, _, 2, _, rfl, rfl, hFt SS, atI_nat (j := 2) rfl, pq, _, (k : Int), _, rfl, rfl, SqT.of (SS _ _ hpq), atI_nat (j := k) gu, ?_⟩
        exact go _ _ ⟨pu, xu, rfl, SS, SS _ _ hpu, fun _ => by rw [enar]; exact itu.tk (sTk SS)⟩
      · refine ifN ew ?_
        exact go _ _ ⟨tt, tz, rfl, SS, htt, fun h => hprev (by
          rcases h with h | h | h | h
          · exact (.inl h)
          · exact (.inr (.inl h))
          · exact (.inr (.inr h))
          · exact absurd h ew)⟩
    clear hprev htt SS
    clear tz tt
    rintro σ HS ⟨tt, tz, rfl, SS, htt, hprev⟩
    refine with_rest (fun σ Hx => ∃ (tt : Addr) (tz : List V), σ = [some (.ref pit), some (.int (i0 : Int)), some (.ref tf), some (.ref p), some (.ref tt), none] ∧ Same H Hx ∧ Hx tt = some (.tup tz) ∧ (ft.word = "least" ∨ ft.word = "greatest" ∨ ft.word = "empty" ∨ ft.word = "choice" ∨ ft.word = "case" → ItsAt Hx tz (narI x ft))) ?_ fun go => ?_
    rotate_left
    · refine ⟨_, rfl, tf, _, 0, _, rfl, rfl, hFt SS, atI_nat (j := 0) rfl, rfl, _, rfl, ?_⟩
      by_cases ew : ft.word = "case"
      · refine ifT ew ?_
        have S0 := Same.refl HS
        obtain ⟨n, tg, cs, i, rfl, rfl, enar⟩ := feat_case hin ew
        obtain ⟨p', pq, xb, e', hp, hpq, pcs⟩ := hx
        cases e'
        have hT : ∀ {H1 : Hp}, Same H H1 → SqT K H1 p _ := fun s => SqT.of (s _ _ hp)
        have xo : cs.length ≤ 100 := xo
        refine ⟨_, rfl, 3, rfl, p, _, rfl, hT SS, not_whole (j := 3) (by show 3 < 4; decide), fun t1 g1 => ?_⟩
        rw [show cutV [V.str "switch", .str n, .str tg, .ref pq] none (some 3) = [.str "switch", .str n, .str tg] from cutV_to _ 3]
        have s1 := same_new g1 (.tup [.str "switch", .str n, .str tg])
        have k1 := upd_same (H := HS) (a := t1) (o := .tup [.str "switch", .str n, .str tg])
        generalize upd HS t1 (.tup [.str "switch", .str n, .str tg]) = H1 at s1 k1 ⊢
        have S1 := S0.trans s1
        have SS1 := SS.trans S1
        refine ⟨_, rfl, p, _, 3, _, rfl, rfl, hT SS1, atI_nat (j := 3) rfl, pq, rfl, row_t (SS1 _ _ hpq) fun J wk => ?_⟩
        intro D hD
        refine lc_it wk (fun j H' => Same H1 H' ∧ ∃ acc, H' D = some (.lst acc) ∧ acc.length ≤ j ∧ Paired (CsAt H) acc ((cs.take j).filter fun c => decide (c.1 = i))) ⟨same_new hD _, [], upd_same, Nat.le_refl _, .nil⟩ (fun _ _ _ h => h.1) ?_ ?_
        · rintro j u' H4' H4 hj ⟨s4, acc, hacc, al, pa⟩ ⟨e3, hu'⟩
          subst e3
          obtain ⟨c2, gc, hcs⟩ := pget pcs hu'
          obtain ⟨pr, uu, rfl, hpr, hbk⟩ := hcs
          have il : j < cs.length := by rw [← plen pcs]; exact hj
          have S4 := SS1.trans s4
          refine ⟨rfl, ?_⟩
          refine ⟨_, rfl, pr, _, 0, _, rfl, rfl, SqT.of (S4 _ _ hpr), atI_nat (j := 0) rfl, _, rfl, tf, _, 2, _, rfl, rfl, hFt S4, atI_nat (j := 2) rfl, rfl, _, rfl, ?_⟩
          rw [List.take_add_one, gc, List.filter_append]
          by_cases ec : c2.1 = i
          · refine ifP ec ?_
            refine ⟨_, rfl, acc, hacc, small1000 (by omega), same_set s4 hD, acc ++ [.ref pr], upd_same, by rw [List.length_append, List.length_singleton]; omega, ?_⟩
            rw [show (Option.some c2).toList.filter (fun c => decide (c.1 = i)) = [c2] by rw [Option.toList, List.filter_cons, if_pos (decide_eq_true ec)]; rfl]
            exact papp pa (.cons ⟨pr, uu, rfl, hpr, hbk⟩ .nil)
          · refine ifQ ec ?_
            rw [show (Option.some c2).toList.filter (fun c => decide (c.1 = i)) = [] by rw [Option.toList, List.filter_cons, if_neg (by simpa using ec)]; rfl, List.append_nil]
            exact ⟨s4, acc, hacc, by omega, pa⟩
        · rintro H4 ⟨s4, acc, hacc, al, pa⟩
          rw [plen pcs, List.take_length] at pa
          have S4 := SS1.trans s4
          refine .inl ⟨D, acc, rfl, SqL.of hacc, fun t5 g5 => ?_⟩
          have s5 := same_new g5 (.tup acc)
          have k5 := upd_same (H := H4) (a := t5) (o := .tup acc)
          generalize upd H4 t5 (.tup acc) = H5 at s5 k5 ⊢
          refine ⟨(by show 1 ≤ sizeLine; decide), fun t2 g2 => ?_⟩
          have s6 := same_new g2 (.tup [.ref t5])
          have k6 := upd_same (H := H5) (a := t2) (o := .tup [.ref t5])
          generalize upd H5 t2 (.tup [.ref t5]) = H6 at s6 k6 ⊢
          have S6 := S4.trans (s5.trans s6)
          refine ⟨t1, t2, [.str "switch", .str n, .str tg], [.ref t5], rfl, rfl, SqT.of ((s4.trans (s5.trans s6)) _ _ k1), SqT.of k6, by simp, by show 4 ≤ sizeLine; decide, fun z => absurd z (by simp), fun _ t3 g3 => ⟨(by show 1 ≤ sizeLine; decide), fun r hr' => ?_⟩⟩
          have s8 := same_new hr' (.tup [.ref t3])
          have s7 := same_new g3 (.tup ([.str "switch", .str n, .str tg] ++ [.ref t5]))
          have S8 := S6.trans (s7.trans s8)
          exact go _ _ ⟨r, [.ref t3], rfl, S8, upd_same, fun _ => by rw [enar]; exact .cons ⟨t3, t5, acc, rfl, s8 _ _ upd_same, (s6.trans (s7.trans s8)) _ _ k5, L2.Paired.mapP pa fun _ _ z => z.tk (sTk S8)⟩ .nil⟩
      · refine ifN ew ?_
        exact go _ _ ⟨tt, tz, rfl, SS, htt, fun h => hprev (by
          rcases h with h | h | h | h | h
          · exact (.inl h)
          · exact (.inr (.inl h))
          · exact (.inr (.inr (.inl h)))
          · exact (.inr (.inr (.inr h)))
          · exact absurd h ew)⟩
    clear hprev htt SS
    clear tz tt
    rintro σ HS ⟨tt, tz, rfl, SS, htt, hprev⟩
    have hits := hprev (feat_word hin)
    have n1 := plen hits
    refine ⟨_, rfl, _, rfl, _, rfl, pit, xs, rfl, SqT.of (SS _ _ hpit), not_whole (j := i0) (by omega), fun a1 g1 => ?_⟩
    rw [cutV_to]
    have s1 := same_new g1 (.tup (xs.take i0))
    have k1 := upd_same (H := HS) (a := a1) (o := .tup (xs.take i0))
    generalize upd HS a1 (.tup (xs.take i0)) = H1 at s1 k1 ⊢
    refine ⟨_, rfl, catG k1 (s1 _ _ htt) (le_line (by rw [List.length_take]; omega)) fun q1 H2 s2 hq1 => ?_⟩
    have S2 := SS.trans (s1.trans s2)
    refine ⟨_, rfl, _, rfl, _, _, rfl, rfl, _, rfl, pit, xs, rfl, SqT.of (S2 _ _ hpit), not_head (j := i0 + 1) (by omega) (by omega), fun a3 g3 => ?_⟩
    rw [show (i0 : Int) + 1 = ((i0 + 1 : Nat) : Int) by omega, cutV_from]
    have s3 := same_new g3 (.tup (xs.drop (i0 + 1)))
    have k3 := upd_same (H := H2) (a := a3) (o := .tup (xs.drop (i0 + 1)))
    generalize upd H2 a3 (.tup (xs.drop (i0 + 1))) = H3 at s3 k3 ⊢
    refine catG (s3 _ _ hq1) k3 (le_line (by simp only [List.length_append, List.length_take, List.length_drop]; omega)) fun q4 H4 s4 hq4 => ?_
    have S4 := S2.trans (s3.trans s4)
    refine q q4 _ H4 S4 hq4 ?_
    have hl4 : ItsAt H4 xs l := hl.tk (sTk S4)
    exact papp (papp (ptake hl4 i0) (hits.tk (sTk (s1.trans (s2.trans (s3.trans s4)))))) (pdrop hl4 (i0 + 1))
end
end Bm

set_option Elab.async false
set_option linter.all false
set_option maxRecDepth 100000
set_option maxHeartbeats 8000000
/-! narrow shapes that are shapes, and those that are none -/
namespace Bm
open PySem L2
abbrev sNS : Stmt := top 50
abbrev sIsS : Stmt := top 65
/-! ### what is made narrow is tame -/
theorem blS_filter_tame (g : Int × List Sm → Bool) : ∀ {cs : List (Int × List Sm)}, (blS cs).tame → (blS (cs.filter g)).tame
  | [], _ => by simp only [List.filter_nil, blS, Bs.Blks.tame]
  | c :: r, h => by
    simp only [blS, Bs.Blks.tame] at h
    have ih := blS_filter_tame g h.2
    rw [List.filter_cons]
    split
    · simp only [blS, Bs.Blks.tame]; exact ⟨h.1, ih⟩
    · exact ih
theorem blE_get_tame : ∀ {bs : List (List Sm)} {k : Nat} {b : List Sm}, (blE bs).tame → bs[k]? = some b → (smIts b).tame
  | [], _, _, _, h => by simp at h
  | c :: r, 0, b, t, h => by
    have h : c = b := by simpa using h
    subst h
    simp only [blE, Bs.Blks.tame] at t
    exact t.1
  | c :: r, k + 1, b, t, h => by
    simp only [blE, Bs.Blks.tame] at t
    exact blE_get_tame t.2 (by simpa using h)
theorem its_sm : ∀ b : List Sm, its (b.map .sm) = smIts b
  | [] => rfl
  | x :: r => by simp only [List.map_cons, its, smIts, its_sm r, i2It]
theorem nar_tame {x : I2} {ft : Ft} (h : ft ∈ featsOf x) (t : (i2It x).tame) : (its (narI x ft)).tame := by
  rcases feat_cases h with ⟨n, s, o, lo, hi, rfl, ⟨rfl, k⟩ | ⟨rfl, k⟩⟩ | ⟨n, s, m, rfl, rfl, k⟩ | ⟨n, bs, k, b, rfl, rfl, gb, e⟩ | ⟨n, tg, cs, i, rfl, rfl, e⟩
  · rw [k]; simp only [its, i2It, smIt, Bs.Its.tame, Bs.It.tame] at t ⊢; exact ⟨t, trivial⟩
  · rw [k]; simp only [its, i2It, smIt, Bs.Its.tame, Bs.It.tame] at t ⊢; exact ⟨t, trivial⟩
  · rw [k]; simp only [its, i2It, smIt, Bs.Its.tame, Bs.It.tame] at t ⊢; exact ⟨t, trivial⟩
  · rw [e, its_sm]
    simp only [i2It, Bs.It.tame] at t
    exact blE_get_tame t.2 gb
  · rw [e]
    simp only [its, i2It, Bs.Its.tame, Bs.It.tame] at t ⊢
    refine ⟨⟨t.1, ?_, blS_filter_tame _ t.2.2⟩, trivial⟩
    have := t.2.1
    rw [blS_vals] at this ⊢
    exact this.sublist (List.Sublist.map _ List.filter_sublist)
theorem filt_flat (g : Int × List Sm → Bool) : ∀ cs : List (Int × List Sm), ((cs.filter g).map (·.2)).flatten.length ≤ (cs.map (·.2)).flatten.length
  | [] => Nat.le_refl _
  | c :: r => by
    have ih := filt_flat g r
    rw [List.filter_cons]
    split
    · simp only [List.map_cons, List.flatten_cons, List.length_append]; omega
    · simp only [List.map_cons, List.flatten_cons, List.length_append]; omega
theorem nar_len {ah : List Str} {x : I2} {ft : Ft} (ok : x.ok ah) (h : ft ∈ featsOf x) : (narI x ft).length ≤ 2 ∧ ∀ y ∈ narI x ft, y.subs.length ≤ 6 := by
  have sl := subs_len ok
  rcases feat_cases h with ⟨n, s, o, lo, hi, rfl, ⟨rfl, k⟩ | ⟨rfl, k⟩⟩ | ⟨n, s, m, rfl, rfl, k⟩ | ⟨n, bs, k, b, rfl, rfl, gb, e⟩ | ⟨n, tg, cs, i, rfl, rfl, e⟩
  · rw [k]; exact ⟨by simp, fun y hy => by rw [List.mem_singleton.mp hy]; exact Nat.zero_le _⟩
  · rw [k]; exact ⟨by simp, fun y hy => by rw [List.mem_singleton.mp hy]; exact Nat.zero_le _⟩
  · rw [k]; exact ⟨by simp, fun y hy => by rw [List.mem_singleton.mp hy]; exact Nat.zero_le _⟩
  · rw [e]
    refine ⟨by rw [List.length_map]; exact (ok.2.1 b (List.mem_of_getElem? gb)).1, fun y hy => ?_⟩
    obtain ⟨z, _, rfl⟩ := List.mem_map.mp hy
    exact Nat.zero_le _
  · rw [e]
    refine ⟨by simp, fun y hy => ?_⟩
    rw [List.mem_singleton.mp hy]
    refine Nat.le_trans ?_ sl
    show ((cs.filter _).map (·.2)).flatten.length ≤ (cs.map (·.2)).flatten.length
    exact filt_flat _ cs
theorem walk_len2 : ∀ {l : List I2}, (∀ x ∈ l, x.subs.length ≤ 6) → ((its l).walk 0).length ≤ 7 * l.length
  | [], _ => by simp only [its, Bs.Its.walk]; exact Nat.zero_le _
  | x :: r, h => by
    have hx := h x (List.mem_cons_self ..)
    have ih := walk_len2 fun y hy => h y (List.mem_cons_of_mem _ hy)
    simp only [its, Bs.Its.walk, i2_walk, List.length_append, List.length_cons, List.length_map]
    omega
/-- a narrow list of items: what Shape asks of any -/
structure NarOk (l' : List I2) : Prop where
  tame : (its l').tame
  walk : ((its l').walk 0).length ≤ 1000
  len : l'.length ≤ 100
theorem its_take_tame : ∀ {l : List I2} (i : Nat), (its l).tame → (its (l.take i)).tame
  | [], i, h => by rw [List.take_nil]; exact h
  | x :: r, 0, _ => by simp only [List.take_zero, its, Bs.Its.tame]
  | x :: r, i + 1, h => by
    simp only [its, Bs.Its.tame] at h
    simp only [List.take_succ_cons, its, Bs.Its.tame]
    exact ⟨h.1, its_take_tame i h.2⟩
theorem its_drop_tame : ∀ {l : List I2} (i : Nat), (its l).tame → (its (l.drop i)).tame
  | [], i, h => by rw [List.drop_nil]; exact h
  | x :: r, 0, h => h
  | x :: r, i + 1, h => by
    simp only [its, Bs.Its.tame] at h
    exact its_drop_tame i h.2
theorem its_get_tame : ∀ {l : List I2} {i : Nat} {x : I2}, (its l).tame → l[i]? = some x → (i2It x).tame
  | [], _, _, _, h => by simp at h
  | y :: r, 0, x, t, h => by
    have h : y = x := by simpa using h
    subst h
    simp only [its, Bs.Its.tame] at t
    exact t.1
  | y :: r, i + 1, x, t, h => by
    simp only [its, Bs.Its.tame] at t
    exact its_get_tame t.2 (by simpa using h)
theorem nar_ok {l : List I2} (dr : Drawn l) {i : Nat} {x : I2} {ft : Ft} (gx : l[i]? = some x) (h : ft ∈ featsOf x) : NarOk (narL l i (narI x ft)) := by
  obtain ⟨ah, ok⟩ := dr.oks x (List.mem_of_getElem? gx)
  obtain ⟨n2, n6⟩ := nar_len ok h
  have t := dr.tame
  have n4 := dr.n4
  have ll : (narL l i (narI x ft)).length ≤ 10 := by
    unfold narL
    simp only [List.length_append, List.length_take, List.length_drop]
    omega
  refine ⟨?_, ?_, by omega⟩
  · unfold narL
    rw [its_app, its_app]
    exact Bs.app_tame (Bs.app_tame (its_take_tame i t) (nar_tame h (its_get_tame t gx))) (its_drop_tame (i + 1) t)
  · have := walk_len2 (l := narL l i (narI x ft)) fun y hy => by
      unfold narL at hy
      rcases List.mem_append.mp hy with hy | hy
      · rcases List.mem_append.mp hy with hy | hy
        · obtain ⟨ah', ok'⟩ := dr.oks y (List.mem_of_mem_take hy); exact subs_len ok'
        · exact n6 y hy
      · obtain ⟨ah', ok'⟩ := dr.oks y (List.mem_of_mem_drop hy); exact subs_len ok'
    omega
def spIsS : Sp := fun vs H Q _ => ∃ (a : Addr) (xs : List V) (l' : List I2), vs = [.ref a] ∧ H a = some (.tup xs) ∧ ItsAt H xs l' ∧ NarOk l' ∧ ∀ H', Same H H' → Q (.bl (its l').shape) H'
def spNS (CS : Addr) : Sp := fun vs H Q _ => ∃ (o dx pp : Addr) (fs : List (Str × V)) (xs : List V) (l : List I2) (i : Nat) (v u : V) (x : I2) (ft : Ft), vs = [.ref o, v, u] ∧ H o = some (.ins CS dx fs) ∧ fs.lookup ("parts" : Str) = some (.ref pp) ∧ H pp = some (.tup xs) ∧ (its l).At true H xs ∧ Drawn l ∧ xs[i]? = some v ∧ l[i]? = some x ∧ FtAt H u ft ∧ ft ∈ featsOf x ∧
  ((its (narL l i (narI x ft))).shape = true → ∀ o' dx' fs' p' zs H', Same H H' → H' o' = some (.ins CS dx' fs') → fs'.lookup ("parts" : Str) = some (.ref p') → H' p' = some (.tup zs) → (its (narL l i (narI x ft))).At true H' zs → Q (.ref o') H') ∧ ((its (narL l i (narI x ft))).shape = false → ∀ H', Same H H' → Q .non H')
section
variable {P : Program} {w : World} {K : PySem.W.Frag} {mg : Str → Option Value} {base : Heap} {f fI C CS : Addr} {fd fdI : FuncData}
abbrev nIsS : List Str := ["items"]
theorem scIsS : FnScope nIsS ["items"] (defScope sIsS) := ⟨rfl, rfl, rfl, by decide +kernel, rfl, by decide +kernel, by decide +kernel⟩
theorem ok_iss {k : Nat} (F : Fun K "_law_is_shape" "_law_is_shape" sIsS f fd) (M : Mk K CS fI) (GI : FnOk P w K mg base (L2.CX P w) k fI fdI ["self", "items"] (Bs.spInit C CS)) (bI : Binds K fdI ["self", "items"] [])
    (gS : mg "Shape" = some (.ref CS)) (gC : mg "InvalidShape" = some (.ref C)) (me : PySem.W.exmOne K (.ref C) (.ref C) = some true) : FnOk P w K mg base CX0 (k + 2) f fd ["items"] spIsS := by
  refine F.ok scIsS (fun vs H Q E h => ?_) (fun cdv A outer s H vs Q E hr h => ?_)
  · obtain ⟨a, xs, l', rfl, _⟩ := h
    rfl
  · obtain ⟨a, xs, l', rfl, ha, hl, nk, q⟩ := h
    refine ⟨_, pss_cons (ps_try_only (tb := fun W => tDrop (tMake CS (Bs.spInit C CS) [] (fun cls d H => ∀ σ : L2.St, σ.length = 1 → W cls d σ H) (tCons (tVar 0) tNil))) (ts := fun a cls d => tRet (tC (.bl false))) (Wout := fun _ _ _ _ => False) rfl rfl ⟨rfl, by decide, Or.inl gC⟩ takes0
          (fun W pn xe tk _ => pss_one (ps_expr (by exact pe_make M GI hr rfl gS bI .nil (fun pins σ H s e s' I c => tk e s' (XE.of_call I (fun cls d H' h => h σ I.len) c)) (pa_cons (pv 0) pa_nil))))
          (fun a oe cls d pn hz hf => pss_one (ps_ret pe_bl)))
      (pss_one (ps_ret pe_bl)), ?_⟩
    refine ⟨_, rfl, fun o dx no ndx nex => ?_⟩
    have s1 : Same H (upd (upd H dx (.own o)) o (.ins CS dx [])) := fun b u e => by
      rw [upd_ne (ne_of_none e no), upd_ne (ne_of_none e ndx)]
      exact e
    have z1 : ∀ H', Bs.Off o (upd (upd H dx (.own o)) o (.ins CS dx [])) H' → Same H H' := fun H' off b u e => off b u (ne_of_none e no) (s1 b u e)
    refine ⟨o, a, dx, its l', xs, rfl, upd_same, .inl (s1 _ _ ha), Bs.Its.At.same s1 (its_at hl), nk.tame, nk.walk, fun sh H' fs off ho sf _ => ⟨rfl, ?_⟩, fun sh H' off σ hσ => ⟨true, me, fun _ a ha => ?_, fun z => by cases z⟩⟩
    · have := q H' (z1 H' off)
      rw [sh] at this
      exact this
    · have := q H' (z1 H' off)
      rw [sh] at this
      exact this
end
end Bm

set_option Elab.async false
set_option linter.all false
set_option maxRecDepth 100000
set_option maxHeartbeats 8000000
/-! narrow_shape -/
namespace Bm
open PySem L2
/-! ### the parts of a shape, as items -/
theorem at_sm {H : Hp} {v : V} {x : Sm} (h : (smIt x).At true H v) : SmAt H v x := by
  cases x <;> (simp only [smIt, Bs.It.At] at h; exact h)
theorem at_sms {H : Hp} : ∀ {b : List Sm} {xs : List V}, (smIts b).At true H xs → Paired (SmAt H) xs b
  | [], _, h => by simp only [smIts, Bs.Its.At] at h; subst h; exact .nil
  | x :: r, _, h => by simp only [smIts, Bs.Its.At] at h; obtain ⟨v, l, rfl, h1, h2⟩ := h; exact .cons (at_sm h1) (at_sms h2)
theorem row_true {H : Hp} {q : Addr} {xs : List V} (h : Bs.RowAt true H q xs) : H q = some (.tup xs) := by
  rcases h with h | ⟨h, _⟩
  · exact h
  · cases h
theorem at_blE {H : Hp} : ∀ {bs : List (List Sm)} {xs : List V}, (blE bs).AtE true H xs → Paired (BkAt H) xs bs
  | [], _, h => by simp only [blE, Bs.Blks.AtE] at h; subst h; exact .nil
  | b :: r, _, h => by
    simp only [blE, Bs.Blks.AtE] at h
    obtain ⟨p, ys, l, rfl, h1, h2, h3⟩ := h
    exact .cons ⟨p, ys, rfl, row_true h1, at_sms h2⟩ (at_blE h3)
theorem at_blS {H : Hp} : ∀ {cs : List (Int × List Sm)} {xs : List V}, (blS cs).AtS true H xs → Paired (CsAt H) xs cs
  | [], _, h => by simp only [blS, Bs.Blks.AtS] at h; subst h; exact .nil
  | c :: r, _, h => by
    simp only [blS, Bs.Blks.AtS] at h
    obtain ⟨r1, p, ys, l, rfl, h0, h1, h2, h3⟩ := h
    exact .cons ⟨r1, _, rfl, h0, p, ys, rfl, row_true h1, at_sms h2⟩ (at_blS h3)
theorem at_i2 {H : Hp} {v : V} {x : I2} (h : (i2It x).At true H v) : I2At H v x := by
  cases x with
  | sm x => exact at_sm h
  | rep n a b =>
    simp only [i2It, Bs.It.At] at h
    obtain ⟨p, q, ys, e, h, g, k⟩ := h
    exact ⟨p, _, e, h, q, ys, rfl, row_true g, at_sms k⟩
  | eit n bs =>
    simp only [i2It, Bs.It.At] at h
    obtain ⟨p, q, xs, e, h, g, k⟩ := h
    exact ⟨p, q, xs, e, h, row_true g, at_blE k⟩
  | swi n t cs =>
    simp only [i2It, Bs.It.At] at h
    obtain ⟨p, q, xs, e, h, g, k⟩ := h
    exact ⟨p, q, xs, e, h, row_true g, at_blS k⟩
theorem at_its : ∀ {H : Hp} {l : List I2} {xs : List V}, (its l).At true H xs → ItsAt H xs l
  | _, [], _, h => by simp only [its, Bs.Its.At] at h; subst h; exact .nil
  | _, x :: r, _, h => by simp only [its, Bs.Its.At] at h; obtain ⟨v, l, rfl, h1, h2⟩ := h; exact .cons (at_i2 h1) (at_its h2)
theorem ok_okF {ah : List Str} {x : I2} (h : x.ok ah) : x.okF := by
  cases x with
  | sm y =>
    cases y with
    | num n s o lo hi => exact h.2.2.1
    | _ => trivial
  | rep n a b => trivial
  | eit n bs => show bs.length ≤ 100; have := h.1.2; omega
  | swi n t cs => show cs.length ≤ 100; have := h.2.1.2; omega
theorem its_lenE : ∀ l : List I2, (its l).len = l.length := its_len
section
variable {P : Program} {w : World} {K : PySem.W.Frag} {mg : Str → Option Value} {base : Heap} {f fI C CS : Addr} {fd fdI : FuncData}
abbrev nNS : List Str := ["shape", "item", "feature"]
theorem scNS : FnScope nNS ["shape", "item", "feature"] (defScope sNS) := ⟨rfl, rfl, rfl, by decide +kernel, rfl, by decide +kernel, by decide +kernel⟩
theorem ok_ns {k : Nat} (hk : 1 ≤ k) (F : Fun K "narrow_shape" "narrow_shape" sNS f fd) (T : Bs.ShapeC K CS) (M : Mk K CS fI) (GI : FnOk P w K mg base (L2.CX P w) k fI fdI ["self", "items"] (Bs.spInit C CS)) (bI : Binds K fdI ["self", "items"] [])
    (gS : mg "Shape" = some (.ref CS)) (gC : mg "InvalidShape" = some (.ref C)) (me : PySem.W.exmOne K (.ref C) (.ref C) = some true) (gE : Cal P w K mg base CX0 k "edited" ["items", "name", "made"] (Bs.spEdited 3)) (gN : Cal P w K mg base CX0 1 "narrow_items" ["item", "feature"] spNI) : FnOk P w K mg base CX0 (k + 2) f fd ["shape", "item", "feature"] (spNS CS) := by
  refine F.ok scNS (fun vs H Q E h => ?_) (fun cdv A outer s H vs Q E hr h => ?_)
  · obtain ⟨o, dx, pp, fs, xs, l, i, v, u, x, ft, rfl, _⟩ := h
    rfl
  · obtain ⟨o, dx, pp, fs, xs, l, i, v, u, x, ft, rfl, ho, lp, hpp, hat, dr, gv, gx, hft, hin, q1, q2⟩ := h
    have hrE : Room k _ := hr.mono (by omega)
    have hr1 : Room 1 _ := hr.mono (by omega)
    refine ⟨_, pss_one (ps_try_only (tb := fun W => tRet (tMake CS (Bs.spInit C CS) [] (fun cls d H => ∀ σ : L2.St, σ.length = 3 → W cls d σ H) (tCons (tCl (Bs.spEdited 3) E0 (tCons (tFld K (tVar 0) "parts") (tCons (tOp (rIxT K) (tVar 1) (tC (.int 1))) (tCons (tCl spNI E0 (tCons (tVar 1) (tCons (tVar 2) tNil))) tNil)))) tNil))) (ts := fun a cls d => tRet (tC .non)) (Wout := fun _ _ _ _ => False) rfl rfl ⟨rfl, by decide, Or.inl gC⟩ takes0
          (fun W pn xe tk _ => pss_one (ps_ret (by exact pe_make M GI hr rfl gS bI .nil (fun pins σ H s e s' I c => tk e s' (XE.of_call I (fun cls d H' h => h σ I.len) c)) (pa_cons (pe_cal gE hrE pass0 (pa_cons (pe_fld (pv 0) rfl) (pa_cons (pe_ix ix_tup (pv 1) pe_int (fun _ _ => rfl)) (pa_cons (pe_cal gN hr1 pass0 (pa_cons (pv 1) (pa_cons (pv 2) pa_nil))) pa_nil)))) pa_nil))))
          (fun a oe cls d pn hz hf => pss_one (ps_ret pe_non))), ?_⟩
    have hl : ItsAt H xs l := at_its hat
    obtain ⟨x', gx', hx⟩ := pget hl gv
    rw [gx] at gx'; cases gx'
    obtain ⟨p, rest, rfl, hp⟩ := hx.head
    obtain ⟨ah, okx⟩ := dr.oks x (List.mem_of_getElem? gx)
    have n4 := dr.n4
    have nk := nar_ok dr gx hin
    have er := its_repl (narI x ft) dr.nd gx
    have n2 := (nar_len okx hin).1
    refine ⟨_, rfl, o, CS, dx, fs, _, rfl, ho, T.cl, T.n1, lp, _, rfl, p, _, 1, _, rfl, rfl, SqT.of hp, atI_nat (j := 1) rfl, _, rfl, _, rfl, .ref p, u, x, ft, rfl, hx, ok_okF okx, hft, hin, fun m es H2 s2 hm hes => ?_⟩
    refine nilGo ?_
    refine ⟨H2, pp, m, its l, its (narI x ft), xs, es, x.name, 0, rfl, by omega, its_ok dr.oks dr.isN, by rw [its_len]; omega, by rw [its_len]; exact n2, Same.refl _, s2 _ _ hpp, Bs.Its.At.same s2 hat, hm, its_at hes, fun r zs H3 s3 hr3 hat3 => ?_⟩
    rw [er] at hat3
    have hat3 := Bs.Its.At.same (Bs.tl_le s3) hat3
    refine nilGo ?_
    intro o2 dx2 no ndx nex
    have s23 := s2.trans s3
    have s1 : Same H3 (upd (upd H3 dx2 (.own o2)) o2 (.ins CS dx2 [])) := fun b u e => by
      rw [upd_ne (ne_of_none e no), upd_ne (ne_of_none e ndx)]
      exact e
    have z1 : ∀ H', Bs.Off o2 (upd (upd H3 dx2 (.own o2)) o2 (.ins CS dx2 [])) H' → Same H H' := fun H' off b u e => off b u (ne_of_none (s23 _ _ e) no) (s1 b u (s23 _ _ e))
    refine ⟨o2, r, dx2, its (narL l i (narI x ft)), zs, rfl, upd_same, .inl (s1 _ _ hr3), Bs.Its.At.same s1 hat3, nk.tame, nk.walk, fun sh H' fs' off ho' sf _ => ⟨rfl, ?_⟩, fun sh H' off σ hσ => ⟨true, me, fun _ a ha => ?_, fun z => by cases z⟩⟩
    · obtain ⟨p', zs', e1, e2, e3⟩ := sf.parts
      exact q1 sh o2 dx2 fs' p' zs' H' (z1 H' off) ho' e1 e2 e3
    · exact q2 sh H' (z1 H' off)
end
end Bm

set_option Elab.async false
set_option linter.all false
set_option maxRecDepth 100000
set_option maxHeartbeats 8000000
/-! narrow_shapes: two fors in one comprehension -/
namespace Bm
open PySem L2
abbrev sNSs : Stmt := top 51
/-- a loop of a comprehension, told by an invariant; B what a turn does with what comes behind it -/
theorem loop_it {J : L2.It} {n : Nat} {G : Hp → Prop} {Y : Nat → Hp → V → Hp → Prop} (wk : Walk J n G Y) {H0 : Hp} {F : Hp → Prop} {B : V → Hp → (Hp → Prop) → Prop} (Inv : Nat → Hp → Prop) (h0 : Inv 0 H0) (keep : ∀ i H, i ≤ n → Inv i H → G H)
    (step : ∀ i x H H', i < n → Inv i H → Y i H x H' → B x H' (Inv (i + 1))) (fin : ∀ H, Inv n H → F H) :
    ∃ W : Nat → Nat → Hp → Prop, (∃ m, W 0 m H0) ∧ ∀ i m H, W i m H → (J.stop i H ∧ F H) ∨ (J.go i H ∧ ∃ Nx : Hp → Prop, (∀ H', Nx H' → ∃ m', m' < m ∧ W (i + 1) m' H') ∧ ∀ x H', J.yld i H x H' → B x H' Nx) := by
  refine ⟨fun i m H => i + m = n ∧ Inv i H, ⟨n, by omega, h0⟩, ?_⟩
  rintro i m H ⟨e, inv⟩
  cases m with
  | zero =>
    have : i = n := by omega
    subst this
    exact .inl ⟨wk.stops H (keep i H (Nat.le_refl _) inv), fin H inv⟩
  | succ m =>
    exact .inr ⟨wk.goes i H (by omega) (keep i H (by omega) inv), Inv (i + 1), fun H' h => ⟨m, Nat.lt_succ_self m, by omega, h⟩, fun x H' hy => step i x H H' (by omega) inv (wk.yields i H x H' (by omega) (keep i H (by omega) inv) hy)⟩
theorem yes_if {σ : L2.St} {H : Hp} {A N : Hp → Prop} (h : A H) : tYes σ H fun b H3 => if b = true then A H3 else N H3 := by
  show (if true = true then A H else N H)
  rw [if_pos rfl]; exact h
/-! ### the rows -/
def rowsOf (l : List I2) (i : Nat) : List (Ft × List I2) := match l[i]? with
  | some x => (featsOf x).map fun ft => (ft, narL l i (narI x ft))
  | none => []
def allL (l : List I2) : List (Ft × List I2) := (List.range l.length).flatMap (rowsOf l)
def goodL (l : List I2) : List (Ft × List I2) := (allL l).filter fun r => (its r.2).shape
/-- what is kept: tuples and objects -/
structure Ko (H H' : Hp) : Prop where
  t : Tk H H'
  o : ∀ b C dx fs, H b = some (.ins C dx fs) → H' b = some (.ins C dx fs)
theorem Ko.of {H H' : Hp} (s : Same H H') : Ko H H' := ⟨sTk s, fun b C dx fs h => s _ _ h⟩
theorem Ko.wr {H : Hp} {D : Addr} {xs : List V} {u : HO} (h : H D = some (.lst xs)) : Ko H (upd H D u) := ⟨.wr h, fun b C dx fs e => by rw [upd_ne (ne_of e h (by intro z; cases z))]; exact e⟩
theorem Ko.trans {H H1 H2 : Hp} (a : Ko H H1) (b : Ko H1 H2) : Ko H H2 := ⟨a.t.trans b.t, fun c C dx fs h => b.o _ _ _ _ (a.o _ _ _ _ h)⟩
def ShP (CS : Addr) (H : Hp) (o : Addr) (l' : List I2) : Prop := ∃ dx fs p zs, H o = some (.ins CS dx fs) ∧ fs.lookup ("parts" : Str) = some (.ref p) ∧ H p = some (.tup zs) ∧ (its l').At true H zs
theorem ShP.ko {CS : Addr} {H H' : Hp} {o : Addr} {l' : List I2} (k : Ko H H') (h : ShP CS H o l') : ShP CS H' o l' := by
  obtain ⟨dx, fs, p, zs, h1, h2, h3, h4⟩ := h
  exact ⟨dx, fs, p, zs, k.o _ _ _ _ h1, h2, k.t _ _ h3, Bs.Its.At.kp ⟨fun b xs h => k.t _ _ h, fun z => by cases z⟩ h4⟩
def RowN (CS : Addr) (H : Hp) (v : V) (r : Ft × List I2) : Prop := ∃ t f u, v = .ref t ∧ H t = some (.tup [f, u]) ∧ FtAt H f r.1 ∧ ((its r.2).shape = true → ∃ o, u = .ref o ∧ ShP CS H o r.2) ∧ ((its r.2).shape = false → u = .non)
theorem RowN.ko {CS : Addr} {H H' : Hp} {v : V} {r : Ft × List I2} (k : Ko H H') (h : RowN CS H v r) : RowN CS H' v r := by
  obtain ⟨t, f, u, e, h1, h2, h3, h4⟩ := h
  exact ⟨t, f, u, e, k.t _ _ h1, h2.tk k.t, fun z => by obtain ⟨o, e, s⟩ := h3 z; exact ⟨o, e, s.ko k⟩, h4⟩
def spNSs (CS : Addr) : Sp := fun vs H Q _ => ∃ (o : Addr) (l : List I2), vs = [.ref o] ∧ ShP CS H o l ∧ Drawn l ∧ ∀ r rs H', Same H H' → H r = none → H' r = some (.lst rs) → Paired (RowN CS H') rs (goodL l) → Q (.ref r) H'
theorem feats_len {ah : List Str} {x : I2} (ok : x.ok ah) : (featsOf x).length ≤ 3 := by
  cases x with
  | sm y =>
    cases y with
    | num n s o lo hi => simp only [featsOf]; split <;> simp
    | txt => simp [featsOf]
    | _ => simp [featsOf]
  | rep n a b => simp [featsOf]
  | eit n bs => simp only [featsOf, List.length_map, List.length_range]; exact ok.1.2
  | swi n t cs => simp only [featsOf, List.length_map]; exact ok.2.1.2
theorem allL_len {l : List I2} (dr : Drawn l) : (allL l).length ≤ 12 := by
  unfold allL
  have h := flatMap_len (rowsOf l) 3 (List.range l.length) fun i _ => by
    unfold rowsOf
    cases e : l[i]? with
    | none => simp
    | some x =>
      obtain ⟨ah, ok⟩ := dr.oks x (List.mem_of_getElem? e)
      simp only [List.length_map]
      exact feats_len ok
  rw [List.length_range] at h
  have := dr.n4
  omega
section
variable {P : Program} {w : World} {K : PySem.W.Frag} {mg : Str → Option Value} {base : Heap} {f C CS : Addr} {fd : FuncData}
abbrev nNSs : List Str := ["shape", "rows", "item", "feature", "narrow"]
theorem scNSs : FnScope nNSs ["shape"] (defScope sNSs) := ⟨rfl, rfl, rfl, by decide +kernel, rfl, by decide +kernel, by decide +kernel⟩
theorem ok_nss {k : Nat} (hk : 1 ≤ k) (F : Fun K "narrow_shapes" "narrow_shapes" sNSs f fd) (T : Bs.ShapeC K CS) (gI : Cal P w K mg base CX0 1 "item_features" ["item"] spIF) (gN : Cal P w K mg base CX0 k "narrow_shape" ["shape", "item", "feature"] (spNS CS)) : FnOk P w K mg base CX0 (k + 1) f fd ["shape"] (spNSs CS) := by
  refine F.ok scNSs (fun vs H Q E h => ?_) (fun cdv A outer s H vs Q E hr h => ?_)
  · obtain ⟨o, l, rfl, _⟩ := h
    rfl
  · obtain ⟨o, l, rfl, ⟨dx, fs, pp, xs, ho, lp, hpp, hat⟩, dr, q⟩ := h
    have hr1 : Room 1 _ := hr.mono hk
    refine ⟨_, (pss_cons (ps_setLc2 (i := 1) (own := [("item", 2), ("feature", 3)]) (vs1 := [3]) (g := gName 2) (g1 := gName 3) (tt := tYes) (tt1 := tYes) (wi1 := iRow K (tCl spIF E0 (tCons (tVar 2) tNil))) (te := tTup (tCons (tVar 3) (tCons (tCl (spNS CS) E0 (tCons (tVar 0) (tCons (tVar 2) (tCons (tVar 3) tNil)))) tNil))) rfl scNSs.nd rfl rfl (sw_true rfl rfl rfl (by decide +kernel)) (pi_row (pe_fld (pv 0) rfl)) (blkOk_by (own := [("item", 2), ("feature", 3)]) (N := nNSs) (sc := defScope sNSs) (by decide +kernel)) (by decide) (fun _ _ _ _ _ => pg_name (i := 2) scNSs.nd rfl (Or.inl rfl)) (fun _ _ _ _ _ => pts_nil) (fun _ _ _ _ _ => (pi_row (pe_cal gI hr1 pass0 (pa_cons (pv 2) pa_nil)))) (fun _ _ _ _ _ => pg_name (i := 3) scNSs.nd rfl (Or.inl rfl)) (fun _ _ _ _ _ => pts_nil) (fun _ _ _ _ _ => (pe_tup (pa_cons (pv 3) (pa_cons (pe_cal gN hr pass0 (pa_cons (pv 0) (pa_cons (pv 2) (pa_cons (pv 3) pa_nil)))) pa_nil)))))
      (pss_one (ps_ret (pe_lc (own := [("feature", 3), ("narrow", 4)]) (g := (gTup K 2 (gCons (gName 3) (gCons (gName 4) gNil)))) rfl scNSs.nd (pi_row (pv 1)) (blkOk_by (own := [("feature", 3), ("narrow", 4)]) (N := nNSs) (sc := defScope sNSs) (by decide +kernel)) (fun _ _ _ _ _ => (pg_tup rfl (pgs_cons (pg_name (i := 3) scNSs.nd rfl (.inl rfl)) (pgs_cons (pg_name (i := 4) scNSs.nd rfl (.inl rfl)) pgs_nil)))) (fun _ _ _ _ _ => pts_one (pt_cmp (pc_notN (pv 4)) (by rfl))) (fun _ _ _ _ _ => (pe_tup (pa_cons (pv 3) (pa_cons (pv 4) pa_nil)))))))), ?_⟩
    have hl : ItsAt H xs l := at_its hat
    have n4 := dr.n4
    have lx := plen hl
    refine ⟨_, rfl, o, CS, dx, fs, _, rfl, ho, T.cl, T.n1, lp, pp, rfl, row_t hpp fun J wk => ?_⟩
    intro D hD
    refine loop_it wk (fun i H' => Same H H' ∧ ∃ acc, H' D = some (.lst acc) ∧ acc.length ≤ 3 * i ∧ Paired (RowN CS H') acc ((List.range i).flatMap (rowsOf l))) ⟨same_new hD _, [], upd_same, Nat.le_refl _, .nil⟩ (fun _ _ _ h => h.1) ?_ ?_
    · rintro i v H2' H2 hi ⟨s2, acc, hacc, al, pa⟩ ⟨e3, hv⟩
      subst e3
      obtain ⟨x, gx, hx⟩ := pget hl hv
      obtain ⟨ah, okx⟩ := dr.oks x (List.mem_of_getElem? gx)
      have er : rowsOf l i = (featsOf x).map fun ft => (ft, narL l i (narI x ft)) := by unfold rowsOf; rw [gx]
      have f3 := feats_len okx
      have rs : (List.range (i + 1)).flatMap (rowsOf l) = (List.range i).flatMap (rowsOf l) ++ rowsOf l i := by rw [List.range_succ, List.flatMap_append]; simp
      rw [rs, er]
      generalize (List.range i).flatMap (rowsOf l) = A0 at pa ⊢
      refine ⟨rfl, yes_if ?_⟩
      refine ⟨_, rfl, ?_⟩
      refine nilGo ?_
      refine ⟨v, x, rfl, hx.tk (sTk s2), ok_okF okx, fun r1 rs1 H3 s3 n3 hr3 pf => ?_⟩
      have hacc3 := s3 _ _ hacc
      have nrD : r1 ≠ D := fun z => by rw [z, hacc] at n3; cases n3
      have S3 := s2.trans s3
      refine ⟨r1, rfl, row_l2 (H0 := wo H3 D) (by rw [wo_ne nrD]; exact hr3) wo_same fun J1 wk1 => ?_⟩
      have lf := plen pf
      refine loop_it wk1 (fun j H' => Same (wo H3 D) H' ∧ Same H H' ∧ ∃ acc, H' D = some (.lst acc) ∧ acc.length ≤ 3 * i + j ∧ Paired (RowN CS H') acc (A0 ++ ((featsOf x).take j).map fun ft => (ft, narL l i (narI x ft)))) ⟨wo_same, S3, acc, hacc3, al, by rw [List.take_zero, List.map_nil, List.append_nil]; exact L2.Paired.mapP pa fun _ _ k => k.ko (.of s3)⟩ (fun _ _ _ h => h.1) ?_ ?_
      · rintro j u H4' H4 hj ⟨sw, s4, acc4, hacc4, al4, pa4⟩ ⟨e3, hu⟩
        subst e3
        obtain ⟨ft, gf, hft⟩ := pget pf hu
        have mf := List.mem_of_getElem? gf
        have tk34 : Tk H3 H4 := fun b ys e => sw b _ (by rw [wo_ne (ne_of e hacc3 (by intro z; cases z))]; exact e)
        have jl : j < 3 := by rw [lf] at hj; omega
        rw [List.take_add_one, gf, Option.toList, List.map_append, ← List.append_assoc]
        generalize A0 ++ ((featsOf x).take j).map (fun ft => (ft, narL l i (narI x ft))) = A1 at pa4 ⊢
        refine ⟨rfl, yes_if ?_⟩
        have fin5 : ∀ (u' : V) (H5 : Hp), Same H4 H5 → ((its (narL l i (narI x ft))).shape = true → ∃ o, u' = .ref o ∧ ShP CS H5 o (narL l i (narI x ft))) → ((its (narL l i (narI x ft))).shape = false → u' = .non) → ∀ t, H5 t = none →
            ∃ acc, (upd H5 t (.tup [u, u'])) D = some (.lst acc) ∧ acc.length < sizeLine ∧ (Same (wo H3 D) (upd (upd H5 t (.tup [u, u'])) D (.lst (acc ++ [.ref t]))) ∧ Same H (upd (upd H5 t (.tup [u, u'])) D (.lst (acc ++ [.ref t]))) ∧ ∃ acc', (upd (upd H5 t (.tup [u, u'])) D (.lst (acc ++ [.ref t]))) D = some (.lst acc') ∧ acc'.length ≤ 3 * i + (j + 1) ∧ Paired (RowN CS (upd (upd H5 t (.tup [u, u'])) D (.lst (acc ++ [.ref t])))) acc' (A1 ++ [(ft, narL l i (narI x ft))])) := fun u' H5 s5 h1 h2 t ht => by
          have s6 := same_new ht (.tup [u, u'])
          have k6 := upd_same (H := H5) (a := t) (o := .tup [u, u'])
          generalize upd H5 t (.tup [u, u']) = H6 at s6 k6 ⊢
          have hacc6 := s6 _ _ (s5 _ _ hacc4)
          have ko : Ko H6 (upd H6 D (.lst (acc4 ++ [.ref t]))) := .wr hacc6
          refine ⟨acc4, hacc6, small1000 (by omega), fun b w e => ?_, same_set (s4.trans (s5.trans s6)) hD, acc4 ++ [.ref t], upd_same, by rw [List.length_append, List.length_singleton]; omega, ?_⟩
          · have : b ≠ D := fun z => by rw [z, wo_none] at e; cases e
            rw [upd_ne this]
            exact (s5.trans s6) _ _ (sw b w e)
          · refine papp (L2.Paired.mapP pa4 fun _ _ k => k.ko ((Ko.of (s5.trans s6)).trans ko)) (.cons ⟨t, u, u', rfl, ko.t _ _ k6, hft.tk (tk34.trans ((sTk (s5.trans s6)).trans ko.t)), fun z => ?_, h2⟩ .nil)
            obtain ⟨o1, e1, e2⟩ := h1 z
            exact ⟨o1, e1, e2.ko ((Ko.of s6).trans ko)⟩
        refine ⟨_, rfl, _, rfl, _, rfl, _, rfl, ?_⟩
        refine nilGo ?_
        refine ⟨o, dx, pp, fs, xs, l, i, v, u, x, ft, rfl, s4 _ _ ho, lp, s4 _ _ hpp, Bs.Its.At.same s4 hat, dr, hv, gx, hft.tk tk34, mf, fun sh o' dx' fs' p' zs H5 s5 ho' lp' hp' hat' => ?_, fun sh H5 s5 => ?_⟩
        · exact ⟨(by show 2 ≤ sizeLine; decide), fun t ht => fin5 (.ref o') H5 s5 (fun _ => ⟨o', rfl, dx', fs', p', zs, ho', lp', hp', hat'⟩) (fun z => by rw [sh] at z; cases z) t ht⟩
        · exact ⟨(by show 2 ≤ sizeLine; decide), fun t ht => fin5 .non H5 s5 (fun z => by rw [sh] at z; cases z) (fun _ => rfl) t ht⟩
      · rintro H4 ⟨sw, s4, acc4, hacc4, al4, pa4⟩
        rw [lf, List.take_length] at pa4
        exact ⟨s4, acc4, hacc4, by omega, pa4⟩
    · rintro H2 ⟨s2, acc, hacc, al, pa⟩
      rw [lx] at pa
      have pa : Paired (RowN CS H2) acc (allL l) := pa
      refine g_nx ?_
      refine ⟨_, rfl, D, rfl, row_l hacc fun J1 wk1 => ?_⟩
      intro D2 hD2
      refine lc_it wk1 (fun j H' => Same H2 H' ∧ ∃ ac, H' D2 = some (.lst ac) ∧ ac.length ≤ j ∧ Paired (RowN CS H') ac (((allL l).take j).filter fun r => (its r.2).shape)) ⟨same_new hD2 _, [], upd_same, Nat.le_refl _, .nil⟩ (fun _ _ _ h => h.1) ?_ ?_
      · rintro j v H4' H4 hj ⟨s4, ac, hac, al4, pac⟩ ⟨e3, hv⟩
        subst e3
        obtain ⟨r0, gr, t, f0, u, rfl, ht, hf0, h1, h2⟩ := pget pa hv
        refine ⟨t, _, rfl, SqT.of (s4 _ _ ht), rfl, _, _, rfl, _, _, rfl, rfl, ?_⟩
        refine ⟨rfl, ?_⟩
        rw [List.take_add_one, gr, List.filter_append]
        have jl : j < (allL l).length := by rw [← plen pa]; exact hj
        have al100 := allL_len dr
        cases sh : (its r0.2).shape with
        | true =>
          obtain ⟨o1, rfl, sp⟩ := h1 sh
          refine ⟨_, rfl, _, rfl, ite2 (fun _ => ?_) (fun e => (e (by simp)).elim)⟩
          refine ⟨_, rfl, _, rfl, (by show 2 ≤ sizeLine; decide), fun t3 ht3 => ?_⟩
          have s6 := same_new ht3 (.tup [f0, .ref o1])
          have k6 := upd_same (H := H4) (a := t3) (o := .tup [f0, .ref o1])
          generalize upd H4 t3 (.tup [f0, .ref o1]) = H6 at s6 k6 ⊢
          have hac6 := s6 _ _ hac
          have ko : Ko H6 (upd H6 D2 (.lst (ac ++ [.ref t3]))) := .wr hac6
          refine ⟨ac, hac6, small1000 (by omega), same_set (s4.trans s6) hD2, ac ++ [.ref t3], upd_same, by rw [List.length_append, List.length_singleton]; omega, ?_⟩
          rw [show (Option.some r0).toList.filter (fun r => (its r.2).shape) = [r0] by rw [Option.toList, List.filter_cons, if_pos sh]; rfl]
          have kf := (Ko.of (s4.trans s6)).trans ko
          exact papp (L2.Paired.mapP pac fun _ _ k => k.ko ((Ko.of s6).trans ko)) (.cons ⟨t3, f0, .ref o1, rfl, ko.t _ _ k6, hf0.tk kf.t, fun _ => ⟨o1, rfl, sp.ko kf⟩, fun z => by rw [sh] at z; cases z⟩ .nil)
        | false =>
          obtain rfl := h2 sh
          refine ⟨_, rfl, _, rfl, ite2 (fun e => absurd e (by simp)) (fun _ => ?_)⟩
          rw [show (Option.some r0).toList.filter (fun r => (its r.2).shape) = [] by rw [Option.toList, List.filter_cons, if_neg (by rw [sh]; simp)]; rfl, List.append_nil]
          exact ⟨s4, ac, hac, by omega, pac⟩
      · rintro H4 ⟨s4, ac, hac, al4, pac⟩
        rw [plen pa, List.take_length] at pac
        exact q D2 ac H4 (s2.trans s4) (s2.free hD2) hac pac
end
end Bm

set_option Elab.async false
set_option linter.all false
set_option maxRecDepth 100000
set_option maxHeartbeats 8000000
/-! features, shape_with -/
namespace Bm
open PySem L2
abbrev sFs : Stmt := top 52
abbrev sSW : Stmt := top 53
def spFs (CS : Addr) : Sp := fun vs H Q _ => ∃ (o : Addr) (l : List I2), vs = [.ref o] ∧ ShP CS H o l ∧ Drawn l ∧ ∀ r rs H', Same H H' → H r = none → H' r = some (.lst rs) → Paired (FtAt H') rs ((goodL l).map (·.1)) → Q (.ref r) H'
def spSW (CS : Addr) : Sp := fun vs H Q _ => ∃ (o : Addr) (l : List I2) (u : V) (ft : Ft) (l' : List I2), vs = [.ref o, u] ∧ ShP CS H o l ∧ Drawn l ∧ FtAt H u ft ∧ (ft, l') ∈ goodL l ∧ ∀ o' H', Same H H' → ShP CS H' o' l' → Q (.ref o') H'
/-- a statement that is never come to -/
theorem ps_never {X : Cx} (st : Stmt) : PS X st (fun _ _ _ => False) := ⟨fun _ _ _ _ _ _ h => h.elim⟩
/-! ### features as data -/
def ftP (f : Ft) : PyData := .tuple (.str f.word :: .str f.name :: (f.more.map PyData.int).toList)
theorem ft_dp {K : PySem.W.Frag} {H : Hp} {v : V} {f : Ft} (h : FtAt H v f) : Dp K H v (ftP f) := by
  obtain ⟨t, rfl, ht⟩ := h
  refine .tup (SqT.of ht) ?_
  unfold Ft.row
  cases f.more with
  | none => exact .cons (.str _) (.cons (.str _) .nil)
  | some i => exact .cons (.str _) (.cons (.str _) (.cons (.int _) .nil))
theorem ft_eqv {a b : Ft} : (ftP a).eqv (ftP b) = true ↔ a = b := by
  obtain ⟨w1, n1, m1⟩ := a
  obtain ⟨w2, n2, m2⟩ := b
  cases m1 <;> cases m2 <;> simp [ftP, PyData.eqv, PyData.eqvAll, Ft.mk.injEq, and_assoc]
theorem row_flat {f : Ft} {v : V} (h : v ∈ f.row) : (∃ z, v = .str z) ∨ ∃ i, v = .int i := by
  unfold Ft.row at h
  rcases List.mem_cons.mp h with rfl | h
  · exact .inl ⟨_, rfl⟩
  · rcases List.mem_cons.mp h with rfl | h
    · exact .inl ⟨_, rfl⟩
    · cases e : f.more with
      | none => rw [e] at h; cases h
      | some i => rw [e] at h; exact .inr ⟨i, List.mem_singleton.mp h⟩
theorem feat_mem {l : List I2} {r : Ft × List I2} (h : r ∈ allL l) : ∃ (i : Nat) (x : I2), l[i]? = some x ∧ r.1 ∈ featsOf x ∧ r.2 = narL l i (narI x r.1) := by
  unfold allL at h
  obtain ⟨i, _, h⟩ := List.mem_flatMap.mp h
  unfold rowsOf at h
  cases e : l[i]? with
  | none => rw [e] at h; cases h
  | some x =>
    rw [e] at h
    obtain ⟨ft, hf, rfl⟩ := List.mem_map.mp h
    exact ⟨i, x, e, hf, rfl⟩
theorem allL_inj {l : List I2} (dr : Drawn l) {ft : Ft} {l1 l2 : List I2} (h1 : (ft, l1) ∈ allL l) (h2 : (ft, l2) ∈ allL l) : l1 = l2 := by
  obtain ⟨i, x, gx, fx, e1⟩ := feat_mem h1
  obtain ⟨j, y, gy, fy, e2⟩ := feat_mem h2
  have n : x.name = y.name := (feat_name fx).symm.trans (feat_name fy)
  have nd := dr.tops
  have gi : (l.map I2.name)[i]? = some x.name := by rw [List.getElem?_map, gx]; rfl
  have gj : (l.map I2.name)[j]? = some x.name := by rw [List.getElem?_map, gy, n]; rfl
  have li := get_lt' gi
  have ij : i = j := (List.getElem?_inj li nd).mp (gi.trans gj.symm)
  subst ij
  rw [gx] at gy
  cases gy
  exact e1.trans e2.symm
theorem strOk_words : PyData.strOk "least" = true ∧ PyData.strOk "greatest" = true ∧ PyData.strOk "empty" = true ∧ PyData.strOk "choice" = true ∧ PyData.strOk "case" = true := by decide +kernel
theorem ft_shaped {l : List I2} (dr : Drawn l) {r : Ft × List I2} (h : r ∈ allL l) : SeqAt.shaped (ftP r.1) = true := by
  obtain ⟨i, x, gx, fx, _⟩ := feat_mem h
  have nm : PyData.strOk r.1.name = true := by
    rw [feat_name fx]
    exact (isName_S (dr.isN x (List.mem_of_getElem? gx) _ (name_in x))).2
  have wd : PyData.strOk r.1.word = true := by
    obtain ⟨s1, s2, s3, s4, s5⟩ := strOk_words
    rcases feat_word fx with e | e | e | e | e <;> rw [e] <;> assumption
  generalize r.1 = f at nm wd
  obtain ⟨w1, n1, m1⟩ := f
  unfold SeqAt.shaped
  cases m1 <;> simp_all [ftP, PyData.canLay0, PyData.canLayAll0, PyData.depth, PyData.depthAll]
section
variable {P : Program} {w : World} {K : PySem.W.Frag} {mg : Str → Option Value} {base : Heap} {f C CS : Addr} {fd : FuncData}
abbrev nFs : List Str := ["shape", "feature", "_"]
theorem scFs : FnScope nFs ["shape"] (defScope sFs) := ⟨rfl, rfl, rfl, by decide +kernel, rfl, by decide +kernel, by decide +kernel⟩
theorem ok_fs {k : Nat} (F : Fun K "features" "features" sFs f fd) (gN : Cal P w K mg base CX0 k "narrow_shapes" ["shape"] (spNSs CS)) : FnOk P w K mg base CX0 (k + 1) f fd ["shape"] (spFs CS) := by
  refine F.ok scFs (fun vs H Q E h => ?_) (fun cdv A outer s H vs Q E hr h => ?_)
  · obtain ⟨o, l, rfl, _⟩ := h
    rfl
  · obtain ⟨o, l, rfl, sp, dr, q⟩ := h
    refine ⟨_, (pss_one (ps_ret (pe_lc (own := [("feature", 1), ("_", 2)]) (g := (gTup K 2 (gCons (gName 1) (gCons (gName 2) gNil)))) (tt := tYes) rfl scFs.nd (pi_row (pe_cal gN hr pass0 (pa_cons (pv 0) pa_nil))) (blkOk_by (own := [("feature", 1), ("_", 2)]) (N := nFs) (sc := defScope sFs) (by decide +kernel)) (fun _ _ _ _ _ => (pg_tup rfl (pgs_cons (pg_name (i := 1) scFs.nd rfl (.inl rfl)) (pgs_cons (pg_name (i := 2) scFs.nd rfl (.inl rfl)) pgs_nil)))) (fun _ _ _ _ _ => pts_nil) (fun _ _ _ _ _ => (pv 1))))), ?_⟩
    refine ⟨_, rfl, ?_⟩
    refine nilGo ?_
    refine ⟨o, l, rfl, sp, dr, fun r rs H2 s2 n2 hr2 pr => ?_⟩
    refine ⟨r, rfl, row_l hr2 fun J wk => ?_⟩
    intro D hD
    have ag : (goodL l).length ≤ 12 := Nat.le_trans (List.length_filter_le _ _) (allL_len dr)
    refine lc_it wk (fun j H' => Same H2 H' ∧ ∃ ac, H' D = some (.lst ac) ∧ ac.length ≤ j ∧ Paired (FtAt H') ac (((goodL l).take j).map (·.1))) ⟨same_new hD _, [], upd_same, Nat.le_refl _, .nil⟩ (fun _ _ _ h => h.1) ?_ ?_
    · rintro j v H4' H4 hj ⟨s4, ac, hac, al4, pac⟩ ⟨e3, hv⟩
      subst e3
      obtain ⟨r0, gr, t, f0, u, rfl, ht, hf0, h1, h2⟩ := pget pr hv
      have jl : j < (goodL l).length := by rw [← plen pr]; exact hj
      refine ⟨t, _, rfl, SqT.of (s4 _ _ ht), rfl, _, _, rfl, _, _, rfl, rfl, ?_⟩
      refine ⟨rfl, yes_go ?_⟩
      rw [List.take_add_one, gr, Option.toList, List.map_append]
      have tk := (sTk s4).trans (Tk.wr (o := .lst (ac ++ [f0])) hac)
      refine ⟨_, rfl, ac, hac, small1000 (by omega), same_set s4 hD, ac ++ [f0], upd_same, by rw [List.length_append, List.length_singleton]; omega, papp (L2.Paired.mapP pac fun _ _ k => k.tk (Tk.wr (o := .lst (ac ++ [f0])) hac)) (.cons (hf0.tk tk) .nil)⟩
    · rintro H4 ⟨s4, ac, hac, al4, pac⟩
      rw [plen pr, List.take_length] at pac
      exact q D ac H4 (s2.trans s4) (s2.free hD) hac pac
abbrev nSW : List Str := ["shape", "feature", "one", "narrow", "part"]
theorem scSW : FnScope nSW ["shape", "feature"] (defScope sSW) := ⟨rfl, rfl, rfl, by decide +kernel, rfl, by decide +kernel, by decide +kernel⟩
theorem ok_sw {k : Nat} (F : Fun K "shape_with" "shape_with" sSW f fd) (gN : Cal P w K mg base CX0 k "narrow_shapes" ["shape"] (spNSs CS)) (mi : mg "isinstance" = none) (mb : mg "bool" = none) (man : mg "any" = none) : FnOk P w K mg base CX0 (k + 1) f fd ["shape", "feature"] (spSW CS) := by
  refine F.ok scSW (fun vs H Q E h => ?_) (fun cdv A outer s H vs Q E hr h => ?_)
  · obtain ⟨o, l, u, ft, l', rfl, _⟩ := h
    rfl
  · obtain ⟨o, l, u, ft, l', rfl, sp, dr, hft, hin, q⟩ := h
    have hu : (cxOf CX0 P w K mg base nSW "shape_with" (defScope sSW) f cdv A outer s H E).nox.A.units + 64 < cLine := Nat.lt_of_le_of_lt (Nat.le_refl _) hr.units
    refine ⟨_, (pss_cons (ps_for PassesOwn.never rfl (pi_row (pe_cal gN hr pass0 (pa_cons (pv 0) pa_nil))) (pg_tup rfl (pgs_cons (pg_name (i := 2) scSW.nd rfl (.inl rfl)) (pgs_cons (pg_name (i := 3) scSW.nd rfl (.inl rfl)) pgs_nil)))
        (pss_one (ps_if (PW.pt (pw_and (pt_cmpR (op_eqD hu) (pv 2) (pv 1) (nomark _)) (pw_and1 (pt_not (pt_val (pe_callB (cr_any rfl) (by rfl) man (by decide +kernel) (pa_cons (pe_lc (own := [("part", 4)]) (g := gName 4) (tt := tYes) rfl scSW.nd (pi_row (pv 1)) (blkOk_by (own := [("part", 4)]) (N := nSW) (sc := defScope sSW) (by decide +kernel)) (fun _ _ _ _ _ => pg_name (i := 4) scSW.nd rfl (Or.inl rfl)) (fun _ _ _ _ _ => pts_nil) (fun _ _ _ _ _ => (pe_callB (r := rIsi K) call_isi (by rfl) mi (by decide +kernel) (pa_cons (pv 4) (pa_cons (pe_bltn (v := .ty "bool") (by rfl) mb (by decide +kernel) rfl) pa_nil))))) pa_nil))))))) (pss_one (ps_ret (pv 3))) pss_nil)))
      (pss_one (ps_never _))), ?_⟩
    obtain ⟨hin1, hin2⟩ := List.mem_filter.mp hin
    refine ⟨_, rfl, ?_⟩
    refine nilGo ?_
    refine ⟨o, l, rfl, sp, dr, fun r rs H2 s2 n2 hr2 pr => ?_⟩
    refine ⟨r, rfl, row_l hr2 fun J wk => ?_⟩
    refine for_it wk (fun j σ H' => ∃ o2 o3 : Option V, σ = [some (.ref o), some u, o2, o3, none] ∧ Same H2 H' ∧ ∀ r0 ∈ (goodL l).take j, r0.1 ≠ ft) ⟨_, _, rfl, Same.refl _, fun _ h => by cases h⟩ (fun _ _ _ _ h => by obtain ⟨_, _, _, z, _⟩ := h; exact z) ?_ ?_
    · rintro j v σ H4' H4 hj ⟨o2, o3, rfl, s4, no⟩ ⟨e3, hv⟩
      subst e3
      obtain ⟨r0, gr, t, f0, u0, rfl, ht, hf0, h1, h2⟩ := pget pr hv
      have mg0 := List.mem_of_getElem? gr
      obtain ⟨mga, mgs⟩ := List.mem_filter.mp mg0
      have S4 := s2.trans s4
      refine ⟨t, _, rfl, SqT.of (s4 _ _ ht), rfl, _, _, rfl, _, _, rfl, rfl, ?_⟩
      refine ⟨_, rfl, _, rfl, ftP r0.1, ftP ft, ft_dp (hf0.tk (sTk s4)), ft_dp (hft.tk (sTk S4)), ft_shaped dr mga, ft_shaped dr hin1, ?_⟩
      by_cases e : r0.1 = ft
      · refine ⟨_, rfl, ifB (ft_eqv.mpr e) ?_⟩
        obtain ⟨tu, rfl, htu⟩ := hft
        have htu4 := S4 _ _ htu
        refine ⟨_, rfl, tu, rfl, row_t htu4 fun J2 wk2 => ?_⟩
        intro D hD
        refine lc_it wk2 (fun i H' => Same H4 H' ∧ H' D = some (.lst ((List.replicate i false).map V.bl))) ⟨same_new hD _, upd_same⟩ (fun _ _ _ h => h.1) ?_ ?_
        · rintro i w0 H6' H6 hi ⟨s6, hd6⟩ ⟨e6, hw⟩
          subst e6
          have il : i < 4 := by
            have : ft.row.length ≤ 3 := by unfold Ft.row; cases ft.more <;> simp
            omega
          have go : ∀ (b : Bool), b = false → ∃ acc, H6 D = some (.lst acc) ∧ acc.length < sizeLine ∧ (Same H4 (upd H6 D (.lst (acc ++ [.bl b]))) ∧ (upd H6 D (.lst (acc ++ [.bl b]))) D = some (.lst ((List.replicate (i + 1) false).map V.bl))) := fun b eb => by
            subst eb
            refine ⟨_, hd6, lt_line (by rw [List.length_map, List.length_replicate]; omega), same_set s6 hD, ?_⟩
            rw [upd_same, List.replicate_succ', List.map_append]; rfl
          rcases row_flat (List.mem_of_getElem? hw) with ⟨z, rfl⟩ | ⟨z, rfl⟩
          · refine ⟨rfl, yes_go ?_⟩
            exact ⟨_, rfl, _, _, _, _, false, rfl, .ty _, .base (.str _), kit_ty (by decide +kernel), go false rfl⟩
          · refine ⟨rfl, yes_go ?_⟩
            exact ⟨_, rfl, _, _, _, _, false, rfl, .ty _, .base (.int _), kit_ty (by decide +kernel), go false rfl⟩
        · rintro H6 ⟨s6, hd6⟩
          refine ⟨D, _, rfl, SqL.of hd6, ?_⟩
          rw [show (List.replicate ft.row.length false).any id = false by rw [List.any_eq_false]; intro x hx; rw [(List.mem_replicate.mp hx).2]; decide]
          refine ⟨_, rfl, iteT ?_⟩
          obtain ⟨o1, rfl, sp1⟩ := h1 mgs
          refine ⟨_, rfl, q o1 H6 (S4.trans s6) ?_⟩
          have el : l' = r0.2 := allL_inj dr hin1 (by rw [← e]; exact mga)
          rw [el]
          exact sp1.ko (.of (s4.trans s6))
      · refine ⟨_, rfl, ifF (by simpa using fun z => e (ft_eqv.mp z)) ?_⟩
        refine ⟨_, _, rfl, s4, fun r1 hr1 => ?_⟩
        rw [List.take_add_one, gr] at hr1
        rcases List.mem_append.mp hr1 with hr1 | hr1
        · exact no _ hr1
        · rw [List.mem_singleton.mp hr1]; exact e
    · rintro σ H4 ⟨o2, o3, rfl, s4, no⟩
      rw [plen pr, List.take_length] at no
      exact absurd rfl (no _ hin)
end
end Bm

set_option Elab.async false
set_option linter.all false
set_option maxRecDepth 100000
set_option maxHeartbeats 4000000
/-! items and features as trees; how long their repr can be -/
namespace Bm
open PySem L2
theorem sm_atT {H : Hp} {v : V} {x : Sm} (h : SmAt H v x) : (smIt x).At true H v := by
  obtain ⟨p, e, h⟩ := h
  cases x <;> (simp only [smIt, Bs.It.At]; exact ⟨p, e, h⟩)
theorem sms_atT {H : Hp} : ∀ {b : List Sm} {xs : List V}, Paired (SmAt H) xs b → (smIts b).At true H xs
  | [], _, .nil => by simp only [smIts, Bs.Its.At]
  | x :: r, _, .cons h t => by simp only [smIts, Bs.Its.At]; exact ⟨_, _, rfl, sm_atT h, sms_atT t⟩
theorem blE_atT {H : Hp} : ∀ {bs : List (List Sm)} {xs : List V}, Paired (BkAt H) xs bs → (blE bs).AtE true H xs
  | [], _, .nil => by simp only [blE, Bs.Blks.AtE]
  | b :: r, _, .cons h t => by
    obtain ⟨p, ys, rfl, hp, q⟩ := h
    simp only [blE, Bs.Blks.AtE]
    exact ⟨p, ys, _, rfl, .inl hp, sms_atT q, blE_atT t⟩
theorem blS_atT {H : Hp} : ∀ {cs : List (Int × List Sm)} {xs : List V}, Paired (CsAt H) xs cs → (blS cs).AtS true H xs
  | [], _, .nil => by simp only [blS, Bs.Blks.AtS]
  | c :: r, _, .cons h t => by
    obtain ⟨r1, u, rfl, h1, p, ys, rfl, hp, q⟩ := h
    simp only [blS, Bs.Blks.AtS]
    exact ⟨r1, p, ys, _, rfl, h1, .inl hp, sms_atT q, blS_atT t⟩
theorem i2_atT {H : Hp} {v : V} {x : I2} (h : I2At H v x) : (i2It x).At true H v := by
  cases x with
  | sm x => exact sm_atT h
  | rep n a b =>
    obtain ⟨p, u, e, h, q, ys, rfl, hq, k⟩ := h
    simp only [i2It, Bs.It.At]
    exact ⟨p, q, ys, e, h, .inl hq, sms_atT k⟩
  | eit n bs =>
    obtain ⟨p, q, xs, e, h, g, k⟩ := h
    simp only [i2It, Bs.It.At]
    exact ⟨p, q, xs, e, h, .inl g, blE_atT k⟩
  | swi n t cs =>
    obtain ⟨p, q, xs, e, h, g, k⟩ := h
    simp only [i2It, Bs.It.At]
    exact ⟨p, q, xs, e, h, .inl g, blS_atT k⟩
theorem its_atT {H : Hp} : ∀ {l : List I2} {xs : List V}, ItsAt H xs l → (its l).At true H xs
  | [], _, .nil => by simp only [its, Bs.Its.At]
  | x :: r, _, .cons h t => by simp only [its, Bs.Its.At]; exact ⟨_, _, rfl, i2_atT h, its_atT t⟩

/-! ### trees -/
def kyD : Key → Dt
  | .inl i => .int i
  | .inr z => .str z
def smD : Sm → Dt
  | .num n s o lo hi => .tup [.str "number", .str n, .int s, .str o, .int lo, .int hi]
  | .byt n a => .tup [.str "bytes", .str n, kyD a]
  | .txt n s m => .tup [.str "text", .str n, .int s, .int m]
  | .chk n m => .tup [.str "check", .str n, .int m]
  | .pad n m b => .tup [.str "pad", .str n, .int m, .int b]
def bkD (b : List Sm) : Dt := .tup (b.map smD)
def i2D : I2 → Dt
  | .sm x => smD x
  | .rep n a b => .tup [.str "repeat", .str n, kyD a, bkD b]
  | .eit n bs => .tup [.str "either", .str n, .tup (bs.map bkD)]
  | .swi n t cs => .tup [.str "switch", .str n, .str t, .tup (cs.map fun c => .tup [.int c.1, bkD c.2])]
def lD (l : List I2) : Dt := .tup (l.map i2D)
def ftD (f : Ft) : Dt := .tup (.str f.word :: .str f.name :: (f.more.map Dt.int).toList)
/-! ### small -/
def kS (a : Key) : Prop := (∀ i, a = .inl i → i.natAbs ≤ 100000) ∧ ∀ z, a = .inr z → NmS z
def Sm.sz : Sm → Prop
  | .num n s o lo hi => NmS n ∧ s.natAbs ≤ 100000 ∧ NmS o ∧ lo.natAbs ≤ 100000 ∧ hi.natAbs ≤ 100000
  | .byt n a => NmS n ∧ kS a
  | .txt n s m => NmS n ∧ s.natAbs ≤ 100000 ∧ m.natAbs ≤ 100000
  | .chk n m => NmS n ∧ m.natAbs ≤ 100000
  | .pad n m b => NmS n ∧ m.natAbs ≤ 100000 ∧ b.natAbs ≤ 100000
def bkS (b : List Sm) : Prop := b.length ≤ 2 ∧ ∀ y ∈ b, y.sz
def I2.sz : I2 → Prop
  | .sm y => y.sz
  | .rep n a b => NmS n ∧ kS a ∧ bkS b
  | .eit n bs => NmS n ∧ bs.length ≤ 3 ∧ ∀ b ∈ bs, bkS b
  | .swi n t cs => NmS n ∧ NmS t ∧ cs.length ≤ 3 ∧ ∀ c ∈ cs, c.1.natAbs ≤ 100000 ∧ bkS c.2
theorem words_S : NmS "number" ∧ NmS "bytes" ∧ NmS "text" ∧ NmS "check" ∧ NmS "pad" ∧ NmS "repeat" ∧ NmS "either" ∧ NmS "switch" ∧ NmS "least" ∧ NmS "greatest" ∧ NmS "empty" ∧ NmS "choice" ∧ NmS "case" := by
  unfold NmS
  decide +kernel
theorem tm_nm {z : Str} (h : NmS z) : Tm (.str z) 100 := tm_str h.1 h.2
theorem tm_i {i : Int} (h : i.natAbs ≤ 100000) : Tm (.int i) 100 := (tm_int h).mono (by decide)
theorem tm_k {a : Key} (h : kS a) : Tm (kyD a) 100 := by
  cases a with
  | inl i => exact tm_i (h.1 i rfl)
  | inr z => exact tm_nm (h.2 z rfl)
theorem all_cons {p : Dt → Prop} {d : Dt} {l : List Dt} (h : p d) (t : ∀ x ∈ l, p x) : ∀ x ∈ d :: l, p x := fun x hx => by
  rcases List.mem_cons.mp hx with rfl | hx
  · exact h
  · exact t x hx
theorem all_nil {p : Dt → Prop} : ∀ x ∈ ([] : List Dt), p x := fun x hx => by cases hx
theorem tm_sm {y : Sm} (h : y.sz) : Tm (smD y) 606 := by
  obtain ⟨w1, w2, w3, w4, w5, _⟩ := words_S
  cases y with
  | num n s o lo hi => exact tm_tup (n := 6) (all_cons (tm_nm w1) (all_cons (tm_nm h.1) (all_cons (tm_i h.2.1) (all_cons (tm_nm h.2.2.1) (all_cons (tm_i h.2.2.2.1) (all_cons (tm_i h.2.2.2.2) all_nil)))))) (by simp)
  | byt n a => exact tm_tup (n := 6) (all_cons (tm_nm w2) (all_cons (tm_nm h.1) (all_cons (tm_k h.2) all_nil))) (by simp)
  | txt n s m => exact tm_tup (n := 6) (all_cons (tm_nm w3) (all_cons (tm_nm h.1) (all_cons (tm_i h.2.1) (all_cons (tm_i h.2.2) all_nil)))) (by simp)
  | chk n m => exact tm_tup (n := 6) (all_cons (tm_nm w4) (all_cons (tm_nm h.1) (all_cons (tm_i h.2) all_nil))) (by simp)
  | pad n m b => exact tm_tup (n := 6) (all_cons (tm_nm w5) (all_cons (tm_nm h.1) (all_cons (tm_i h.2.1) (all_cons (tm_i h.2.2) all_nil)))) (by simp)
theorem tm_bk {b : List Sm} (h : bkS b) : Tm (bkD b) 1214 := tm_tup (n := 2) (b := 606) (fun d hd => by obtain ⟨y, hy, rfl⟩ := List.mem_map.mp hd; exact tm_sm (h.2 y hy)) (by rw [List.length_map]; exact h.1)
theorem tm_i2 {x : I2} (h : x.sz) : Tm (i2D x) 40000 := by
  obtain ⟨_, _, _, _, _, w6, w7, w8, _⟩ := words_S
  cases x with
  | sm y => exact (tm_sm h).mono (by decide)
  | rep n a b => exact (tm_tup (n := 4) (b := 1214) (all_cons ((tm_nm w6).mono (by decide)) (all_cons ((tm_nm h.1).mono (by decide)) (all_cons ((tm_k h.2.1).mono (by decide)) (all_cons (tm_bk h.2.2) all_nil)))) (by simp)).mono (by decide)
  | eit n bs =>
    have t : Tm (.tup (bs.map bkD)) 3645 := tm_tup (n := 3) (b := 1214) (fun d hd => by obtain ⟨y, hy, rfl⟩ := List.mem_map.mp hd; exact tm_bk (h.2.2 y hy)) (by rw [List.length_map]; exact h.2.1)
    exact (tm_tup (n := 3) (b := 3645) (all_cons ((tm_nm w7).mono (by decide)) (all_cons ((tm_nm h.1).mono (by decide)) (all_cons t all_nil))) (by simp)).mono (by decide)
  | swi n tg cs =>
    have t : Tm (.tup (cs.map fun c => .tup [.int c.1, bkD c.2])) 7293 := tm_tup (n := 3) (b := 2430) (fun d hd => by
      obtain ⟨c, hc, rfl⟩ := List.mem_map.mp hd
      have hc := h.2.2.2 c hc
      exact tm_pair ((tm_i hc.1).mono (by decide)) (tm_bk hc.2)) (by rw [List.length_map]; exact h.2.2.1)
    exact (tm_tup (n := 4) (b := 7293) (all_cons ((tm_nm w8).mono (by decide)) (all_cons ((tm_nm h.1).mono (by decide)) (all_cons ((tm_nm h.2.1).mono (by decide)) (all_cons t all_nil)))) (by simp)).mono (by decide)
theorem tm_l {l : List I2} (h : ∀ x ∈ l, x.sz) (n : l.length ≤ 10) : Tm (lD l) 1000000 := (tm_tup (n := 10) (b := 40000) (fun d hd => by obtain ⟨y, hy, rfl⟩ := List.mem_map.mp hd; exact tm_i2 (h y hy)) (by rw [List.length_map]; exact n)).mono (by decide)
def Ft.sz (f : Ft) : Prop := NmS f.word ∧ NmS f.name ∧ ∀ i, f.more = some i → i.natAbs ≤ 100000
theorem tm_ft {f : Ft} (h : f.sz) : Tm (ftD f) 303 := by
  obtain ⟨w, n, m⟩ := f
  cases m with
  | none => exact tm_tup (n := 3) (all_cons (tm_nm h.1) (all_cons (tm_nm h.2.1) all_nil)) (by simp)
  | some i => exact tm_tup (n := 3) (all_cons (tm_nm h.1) (all_cons (tm_nm h.2.1) (all_cons (tm_i (h.2.2 i rfl)) all_nil))) (by simp)
theorem tm_fts {fs : List Ft} (h : ∀ f ∈ fs, f.sz) (n : fs.length ≤ 100) : Tm (.lst (fs.map ftD)) 1000000 := (tm_lst (n := 100) (b := 303) (fun d hd => by obtain ⟨y, hy, rfl⟩ := List.mem_map.mp hd; exact tm_ft (h y hy)) (by rw [List.length_map]; exact n)).mono (by decide)
/-! ### in the heap -/
theorem dt_k {n : Nat} {H : Hp} (a : Key) : DtAt n H (kV a) (kyD a) := by
  cases a with
  | inl i => exact dt_int.mpr rfl
  | inr z => exact dt_str.mpr rfl
theorem dt_sm {n : Nat} {H : Hp} {v : V} {y : Sm} (h : SmAt H v y) : DtAt (n + 1) H v (smD y) := by
  obtain ⟨p, e, h⟩ := h
  cases y with
  | num m s o lo hi => exact ⟨p, _, e, h, .cons (dt_str.mpr rfl) (.cons (dt_str.mpr rfl) (.cons (dt_int.mpr rfl) (.cons (dt_str.mpr rfl) (.cons (dt_int.mpr rfl) (.cons (dt_int.mpr rfl) .nil))))), by simp⟩
  | byt m a => exact ⟨p, _, e, h, .cons (dt_str.mpr rfl) (.cons (dt_str.mpr rfl) (.cons (dt_k a) .nil)), by simp⟩
  | txt m s k => exact ⟨p, _, e, h, .cons (dt_str.mpr rfl) (.cons (dt_str.mpr rfl) (.cons (dt_int.mpr rfl) (.cons (dt_int.mpr rfl) .nil))), by simp⟩
  | chk m k => exact ⟨p, _, e, h, .cons (dt_str.mpr rfl) (.cons (dt_str.mpr rfl) (.cons (dt_int.mpr rfl) .nil)), by simp⟩
  | pad m k b => exact ⟨p, _, e, h, .cons (dt_str.mpr rfl) (.cons (dt_str.mpr rfl) (.cons (dt_int.mpr rfl) (.cons (dt_int.mpr rfl) .nil))), by simp⟩
theorem dt_bk {n : Nat} {H : Hp} {v : V} {b : List Sm} (l : b.length ≤ 100) (h : BkAt H v b) : DtAt (n + 2) H v (bkD b) := by
  obtain ⟨p, xs, e, hp, q⟩ := h
  exact ⟨p, xs, e, hp, pmap q fun x a _ k => dt_sm k, by rw [List.length_map]; omega⟩
theorem dt_i2 {H : Hp} {v : V} {x : I2} (z : x.sz) (h : I2At H v x) : DtAt 5 H v (i2D x) := by
  cases x with
  | sm y => exact dt_sm (n := 4) h
  | rep n a b =>
    obtain ⟨p, u, e, hp, hb⟩ := h
    exact ⟨p, _, e, hp, .cons (dt_str.mpr rfl) (.cons (dt_str.mpr rfl) (.cons (dt_k a) (.cons (dt_bk (n := 2) (by have := z.2.2.1; omega) hb) .nil))), by simp⟩
  | eit n bs =>
    obtain ⟨p, q, xs, e, hp, hq, pb⟩ := h
    have := z.2.1
    exact ⟨p, _, e, hp, .cons (dt_str.mpr rfl) (.cons (dt_str.mpr rfl) (.cons ⟨q, xs, rfl, hq, pmap pb fun x a m k => dt_bk (n := 1) (by have := (z.2.2 a m).1; omega) k, by rw [List.length_map]; omega⟩ .nil)), by simp⟩
  | swi n tg cs =>
    obtain ⟨p, q, xs, e, hp, hq, pb⟩ := h
    have := z.2.2.1
    refine ⟨p, _, e, hp, .cons (dt_str.mpr rfl) (.cons (dt_str.mpr rfl) (.cons (dt_str.mpr rfl) (.cons ⟨q, xs, rfl, hq, pmap pb fun x a m k => ?_, by rw [List.length_map]; omega⟩ .nil))), by simp⟩
    obtain ⟨r1, u, e1, hr1, hb⟩ := k
    exact ⟨r1, _, e1, hr1, .cons (dt_int.mpr rfl) (.cons (dt_bk (n := 0) (by have := (z.2.2.2 a m).2.1; omega) hb) .nil), by simp⟩
theorem dt_l {H : Hp} {p : Addr} {xs : List V} {l : List I2} (hp : H p = some (.tup xs)) (z : ∀ x ∈ l, x.sz) (n : l.length ≤ 10) (h : ItsAt H xs l) : DtAt 6 H (.ref p) (lD l) :=
  ⟨p, xs, rfl, hp, pmap h fun x a m k => dt_i2 (z a m) k, by rw [List.length_map]; omega⟩
theorem dt_ft {n : Nat} {H : Hp} {v : V} {f : Ft} (h : FtAt H v f) : DtAt (n + 1) H v (ftD f) := by
  obtain ⟨t, e, h⟩ := h
  obtain ⟨w, m, k⟩ := f
  cases k with
  | none => exact ⟨t, _, e, h, .cons (dt_str.mpr rfl) (.cons (dt_str.mpr rfl) .nil), by simp⟩
  | some i => exact ⟨t, _, e, h, .cons (dt_str.mpr rfl) (.cons (dt_str.mpr rfl) (.cons (dt_int.mpr rfl) .nil)), by simp⟩
theorem dt_fts {H : Hp} {p : Addr} {xs : List V} {fs : List Ft} (hp : H p = some (.lst xs)) (n : fs.length ≤ 100) (h : Paired (FtAt H) xs fs) : DtAt 6 H (.ref p) (.lst (fs.map ftD)) :=
  ⟨p, xs, rfl, hp, pmap h fun x a _ k => dt_ft (n := 4) k, by rw [List.length_map]; omega⟩
end Bm

set_option Elab.async false
set_option linter.all false
set_option maxRecDepth 100000
set_option maxHeartbeats 8000000
/-! law_k62 -/
namespace Bm
open PySem L2
abbrev sLaw : Stmt := top 66
def spLaw (K : PySem.W.Frag) : Sp := fun vs H Q _ => ∃ (a : Addr) (ns : List Int), vs = [.ref a] ∧ SqL K H a (ns.map V.int) ∧ ns.length ≤ 63 ∧ ∀ H', Q (.bl true) H'
/-! ### all is small -/
theorem ord_S : NmS "big" ∧ NmS "little" := by unfold NmS; decide +kernel
theorem plain_sz {y : Sm} (h : y.plain) (n : isName y.name = true) : y.sz := by
  have nn := (isName_S n).1
  cases y with
  | num m s o lo hi =>
    obtain ⟨rfl, rfl, h1, h2, h3⟩ := h
    exact ⟨nn, by decide, ord_S.1, by omega, by omega⟩
  | byt m a =>
    refine ⟨nn, fun i e => ?_, fun z e => ?_⟩
    · rcases h with rfl | rfl <;> cases e <;> decide
    · rcases h with rfl | rfl <;> cases e
  | _ => exact h.elim
theorem am_kS {m : Int} {ah : List Str} {a : Key} (hm : m ≤ 7) (hA : ∀ z ∈ ah, isName z = true) (h : amOk m ah a) : kS a := by
  refine ⟨fun i e => ?_, fun z e => (isName_S (am_nm hA h z e)).1⟩
  subst e
  rcases h with ⟨j, e, h1, h2⟩ | ⟨z, e, _⟩
  · cases e; omega
  · cases e
theorem ok_sz {ah : List Str} {x : I2} (hA : ∀ z ∈ ah, isName z = true) (h : x.ok ah) (nm : ∀ z ∈ x.names, isName z = true) : x.sz := by
  have n0 := (isName_S (nm _ (name_in x))).1
  have ns : ∀ y ∈ x.subs, y.sz := fun y hy => plain_sz (subs_plain h y hy) (nm _ (by rw [names_subs]; exact List.mem_cons_of_mem _ (List.mem_map_of_mem hy)))
  cases x with
  | sm y =>
    cases y with
    | num n s o lo hi =>
      obtain ⟨h1, h2, h3, h4⟩ := h
      refine ⟨n0, by omega, ?_, by omega, by omega⟩
      rcases h1 with rfl | rfl
      · exact ord_S.1
      · exact ord_S.2
    | byt n a => exact ⟨n0, am_kS (by decide) hA h⟩
    | txt n s m => obtain ⟨h1, h2, h3⟩ := h; exact ⟨n0, by omega, by omega⟩
    | chk n m => obtain ⟨h1, h2⟩ := h; exact ⟨n0, by omega⟩
    | pad n m b => obtain ⟨h1, h2, h3⟩ := h; exact ⟨n0, by omega, by omega⟩
  | rep n a b => exact ⟨n0, am_kS (by decide) hA h.1, h.2.1.2, ns⟩
  | eit n bs => exact ⟨n0, h.1.2, fun b hb => ⟨(h.2.1 b hb).1, fun y hy => ns y (List.mem_flatten.mpr ⟨b, hb, hy⟩)⟩⟩
  | swi n t cs =>
    refine ⟨n0, (isName_S (hA t h.1)).1, h.2.1.2, fun c hc => ⟨by have := (h.2.2.1 c hc).1; omega, (h.2.2.1 c hc).2.1, fun y hy => ns y (List.mem_flatten.mpr ⟨c.2, List.mem_map_of_mem hc, hy⟩)⟩⟩
theorem its_sz : ∀ {l : List I2} {ah : List Str}, (∀ z ∈ ah, isName z = true) → OkL ah l → (∀ x ∈ l, ∀ z ∈ x.names, isName z = true) → ∀ x ∈ l, x.sz
  | [], _, _, _, _, x, hx => by cases hx
  | y :: r, ah, hA, h, nm, x, hx => by
    rcases List.mem_cons.mp hx with rfl | hx
    · exact ok_sz hA h.1 (nm x (List.mem_cons_self ..))
    · refine its_sz (fun z hz => ?_) h.2 (fun w hw => nm w (List.mem_cons_of_mem _ hw)) x hx
      rcases List.mem_append.mp hz with hz | hz
      · exact hA z hz
      · rw [tells_in hz]; exact nm y (List.mem_cons_self ..) _ (name_in y)
theorem Drawn.sz {l : List I2} (h : Drawn l) : ∀ x ∈ l, x.sz := its_sz (fun z hz => by cases hz) h.ok h.isN
theorem nar_sz {x : I2} {ft : Ft} (h : ft ∈ featsOf x) (z : x.sz) : ∀ y ∈ narI x ft, y.sz := by
  rcases feat_cases h with ⟨n, s, o, lo, hi, rfl, ⟨rfl, k⟩ | ⟨rfl, k⟩⟩ | ⟨n, s, m, rfl, rfl, k⟩ | ⟨n, bs, k, b, rfl, rfl, gb, e⟩ | ⟨n, tg, cs, i, rfl, rfl, e⟩
  · rw [k]; intro y hy; rw [List.mem_singleton.mp hy]; exact ⟨z.1, z.2.1, z.2.2.1, z.2.2.2.1, z.2.2.2.1⟩
  · rw [k]; intro y hy; rw [List.mem_singleton.mp hy]; exact ⟨z.1, z.2.1, z.2.2.1, z.2.2.2.2, z.2.2.2.2⟩
  · rw [k]; intro y hy; rw [List.mem_singleton.mp hy]; exact ⟨z.1, z.2.1, by decide⟩
  · rw [e]; intro y hy
    obtain ⟨w, hw, rfl⟩ := List.mem_map.mp hy
    exact (z.2.2 b (List.mem_of_getElem? gb)).2 w hw
  · rw [e]; intro y hy; rw [List.mem_singleton.mp hy]
    exact ⟨z.1, z.2.1, Nat.le_trans (List.length_filter_le _ _) z.2.2.1, fun c hc => z.2.2.2 c (List.mem_filter.mp hc).1⟩
theorem feat_sz {x : I2} {ft : Ft} (h : ft ∈ featsOf x) (z : x.sz) : ft.sz := by
  obtain ⟨_, _, _, _, _, _, _, _, w1, w2, w3, w4, w5⟩ := words_S
  cases x with
  | rep n a b => cases h
  | sm y =>
    cases y with
    | num n s o lo hi =>
      rcases feat_num h with rfl | rfl
      · exact ⟨w1, z.1, fun i e => by cases e⟩
      · exact ⟨w2, z.1, fun i e => by cases e⟩
    | txt n s m => rw [List.mem_singleton.mp h]; exact ⟨w3, z.1, fun i e => by cases e⟩
    | _ => cases h
  | eit n bs =>
    obtain ⟨k, hk, rfl⟩ := List.mem_map.mp h
    have hk := List.mem_range.mp hk
    have := z.2.1
    exact ⟨w4, z.1, fun i e => by cases e; omega⟩
  | swi n t cs =>
    obtain ⟨c, hc, rfl⟩ := List.mem_map.mp h
    exact ⟨w5, z.1, fun i e => by cases e; exact (z.2.2.2 c hc).1⟩
theorem good_sz {l : List I2} (dr : Drawn l) {r : Ft × List I2} (h : r ∈ allL l) : r.1.sz ∧ (∀ x ∈ r.2, x.sz) ∧ r.2.length ≤ 10 := by
  obtain ⟨i, x, gx, fx, e⟩ := feat_mem h
  have zx := dr.sz x (List.mem_of_getElem? gx)
  obtain ⟨ah, okx⟩ := dr.oks x (List.mem_of_getElem? gx)
  have n2 := (nar_len okx fx).1
  have n4 := dr.n4
  refine ⟨feat_sz fx zx, fun y hy => ?_, ?_⟩
  · rw [e] at hy
    unfold narL at hy
    rcases List.mem_append.mp hy with hy | hy
    · rcases List.mem_append.mp hy with hy | hy
      · exact dr.sz y (List.mem_of_mem_take hy)
      · exact nar_sz fx zx y hy
    · exact dr.sz y (List.mem_of_mem_drop hy)
  · rw [e]
    unfold narL
    simp only [List.length_append, List.length_take, List.length_drop]
    omega
end Bm

set_option Elab.async false
set_option linter.all false
set_option maxRecDepth 100000
set_option maxHeartbeats 8000000
/-! law_k62: the law itself -/
namespace Bm
open PySem L2 PyProof.Rows
/-- the good ones among the rows of the first items -/
def gd (A : List (Ft × List I2)) : List (Ft × List I2) := A.filter fun r => (its r.2).shape
theorem gd_app (a b : List (Ft × List I2)) : gd (a ++ b) = gd a ++ gd b := List.filter_append ..
/-- a narrow list, as it was told -/
def TlAt (H : Hp) (v : V) (l' : List I2) : Prop := ∃ p zs, v = .ref p ∧ H p = some (.tup zs) ∧ ItsAt H zs l'
theorem TlAt.tk {H H' : Hp} (s : Tk H H') {v : V} {l' : List I2} (h : TlAt H v l') : TlAt H' v l' := by
  obtain ⟨p, zs, e, h1, h2⟩ := h
  exact ⟨p, zs, e, s _ _ h1, ItsAt.tk s h2⟩
/-- the two own lists -/
structure Two (H0 : Hp) (D1 D2 : Addr) (A : List (Ft × List I2)) (H : Hp) : Prop where
  s : Same H0 H
  f1 : H0 D1 = none
  f2 : H0 D2 = none
  ne : D1 ≠ D2
  ex : ∃ a1 a2, H D1 = some (.lst a1) ∧ H D2 = some (.lst a2) ∧ Paired (FtAt H) a1 (A.map (·.1)) ∧ Paired (TlAt H) a2 (A.map (·.2))
theorem Two.same {H0 H H' : Hp} {D1 D2 : Addr} {A : List (Ft × List I2)} (t : Two H0 D1 D2 A H) (s : Same H H') : Two H0 D1 D2 A H' := by
  obtain ⟨a1, a2, h1, h2, p1, p2⟩ := t.ex
  exact ⟨t.s.trans s, t.f1, t.f2, t.ne, a1, a2, s _ _ h1, s _ _ h2, L2.Paired.mapP p1 fun _ _ k => k.tk (sTk s), L2.Paired.mapP p2 fun _ _ k => k.tk (sTk s)⟩
theorem Two.add {H0 H : Hp} {D1 D2 : Addr} {A : List (Ft × List I2)} (t : Two H0 D1 D2 A H) {a1 a2 : List V} (h1 : H D1 = some (.lst a1)) (h2 : H D2 = some (.lst a2)) (p1 : Paired (FtAt H) a1 (A.map (·.1))) (p2 : Paired (TlAt H) a2 (A.map (·.2))) {u v : V} {r : Ft × List I2} (hu : FtAt H u r.1) (hv : TlAt H v r.2) :
    (upd H D1 (.lst (a1 ++ [u]))) D2 = some (.lst a2) ∧ Two H0 D1 D2 (A ++ [r]) (upd (upd H D1 (.lst (a1 ++ [u]))) D2 (.lst (a2 ++ [v]))) := by
  have e2 : (upd H D1 (.lst (a1 ++ [u]))) D2 = some (.lst a2) := by rw [upd_ne t.ne.symm]; exact h2
  have tk : Tk H (upd (upd H D1 (.lst (a1 ++ [u]))) D2 (.lst (a2 ++ [v]))) := (Tk.wr (o := .lst (a1 ++ [u])) h1).trans (Tk.wr (o := .lst (a2 ++ [v])) e2)
  refine ⟨e2, same_set (same_set t.s t.f1) t.f2, t.f1, t.f2, t.ne, a1 ++ [u], a2 ++ [v], by rw [upd_ne t.ne]; exact upd_same, upd_same, ?_, ?_⟩
  · rw [List.map_append]
    exact papp (L2.Paired.mapP p1 fun _ _ k => k.tk tk) (.cons (hu.tk tk) .nil)
  · rw [List.map_append]
    exact papp (L2.Paired.mapP p2 fun _ _ k => k.tk tk) (.cons (hv.tk tk) .nil)
section
variable {P : Program} {w : World} {K : PySem.W.Frag} {mg : Str → Option Value} {base : Heap} {f C CS fI : Addr} {fd fdI : FuncData}
abbrev nLaw : List Str := ["script", "numbers", "items", "shape", "expected", "narrow", "at", "feature", "told", "actual", "k"]
theorem scLaw : FnScope nLaw ["script"] (defScope sLaw) := ⟨rfl, rfl, rfl, by decide +kernel, rfl, by decide +kernel, by decide +kernel⟩
theorem ok_law {k : Nat} (F : Fun K "law" "law" sLaw f fd) (gN : Cal P w K mg base CX0 k "_law_numbers" ["script", "many"] (spNums 84 K)) (gI : Cal P w K mg base CX0 k "_law_items" ["numbers", "at"] spItems) (M : Mk K CS fI) (GI : FnOk P w K mg base (L2.CX P w) (k - 1) fI fdI ["self", "items"] (Bs.spInit C CS)) (hk : 1 ≤ k) (bI : Binds K fdI ["self", "items"] []) (gS : mg "Shape" = some (.ref CS)) (T : Bs.ShapeC K CS) (gF : Cal P w K mg base CX0 k "_law_item_features" ["item"] spIF) (gW : Cal P w K mg base CX0 k "_law_narrow" ["items", "at", "feature"] spLN) (gQ : Cal P w K mg base CX0 k "_law_is_shape" ["items"] spIsS) (gA : Cal P w K mg base CX0 k "features" ["shape"] (spFs CS)) (gT : Cal P w K mg base CX0 k "shape_with" ["shape", "feature"] (spSW CS))
    (mp : mg "repr" = none) (mr : mg "range" = none) (ml : mg "len" = none) : FnG P w K mg base (k + 1) f fd ["script"] (spLaw K) := by
  refine okG F scLaw (fun vs H Q E h => ?_) (fun cdv A outer s H vs Q E hA hr h => ?_)
  · obtain ⟨a, ns, rfl, _⟩ := h
    rfl
  · obtain ⟨a, ns, rfl, hS, hl, q⟩ := h
    have hg : (cxOf CX0 P w K mg base nLaw "law" (defScope sLaw) f cdv A outer s H E).nox.A.guards = some [] := hA
    have hu9 : (cxOf CX0 P w K mg base nLaw "law" (defScope sLaw) f cdv A outer s H E).nox.A.units + 9 < cLine := Nat.lt_of_le_of_lt (Nat.add_le_add_left (by decide : 9 ≤ 64) _) hr.units
    have hu : (cxOf CX0 P w K mg base nLaw "law" (defScope sLaw) f cdv A outer s H E).nox.A.units + 64 < cLine := Nat.lt_of_le_of_lt (Nat.le_refl _) hr.units
    obtain ⟨k, rfl⟩ : ∃ j, k = j + 1 := ⟨k - 1, by omega⟩
    refine ⟨_, (pss_cons (ps_set (i := 1) scLaw.nd rfl (.inl rfl) (pe_cal gN hr pass0 (pa_cons (pv 0) (pa_cons pe_int pa_nil))))
      (pss_cons (ps_set (i := 2) scLaw.nd rfl (.inl rfl) (pe_cal gI hr pass0 (pa_cons (pv 1) (pa_cons pe_int pa_nil))))
      (pss_cons (ps_set (i := 3) scLaw.nd rfl (.inl rfl) (pe_make M GI hr (by rfl) gS bI .nil passE0 (pa_cons (pv 2) pa_nil)))
      (pss_cons (ps_set (i := 4) scLaw.nd rfl (.inl rfl) (pe_lst pa_nil))
      (pss_cons (ps_set (i := 5) scLaw.nd rfl (.inl rfl) (pe_lst pa_nil))
      (pss_cons (ps_for PassesOwn.never rfl (pi_range1 (by rfl) mr (pa_cons (pe_callB call_len (by rfl) ml boot_len (pa_cons (pv 2) pa_nil)) pa_nil)) (pg_name (i := 6) scLaw.nd rfl (.inl rfl))
        (pss_one (ps_for PassesOwn.never rfl (pi_row (pe_cal gF hr pass0 (pa_cons (pe_ix ix_tup (pv 2) (pv 6) (fun _ _ => rfl)) pa_nil))) (pg_name (i := 7) scLaw.nd rfl (.inl rfl))
        (pss_cons (ps_set (i := 8) scLaw.nd rfl (.inl rfl) (pe_cal gW hr pass0 (pa_cons (pv 2) (pa_cons (pv 6) (pa_cons (pv 7) pa_nil)))))
      (pss_one (ps_if (pt_val (pe_cal gQ hr pass0 (pa_cons (pv 8) pa_nil))) (pss_cons (ps_expr (pe_bm PySem.F.plainAttrs_list PySem.F.slot_list_append PySem.F.type_list_append mt_append (pv 4) (pa_cons (pv 7) pa_nil)))
      (pss_one (ps_expr (pe_bm PySem.F.plainAttrs_list PySem.F.slot_list_append PySem.F.type_list_append mt_append (pv 5) (pa_cons (pv 8) pa_nil))))) pss_nil))))))
      (pss_cons (ps_set (i := 9) scLaw.nd rfl (.inl rfl) (pe_cal gA hr pass0 (pa_cons (pv 3) pa_nil)))
      (pss_cons (ps_if (PW.pt (pw_or (pt_cmpR op_ne (pe_callB (call_rep hg hu9) (by rfl) mp (by decide +kernel) (pa_cons (pv 9) pa_nil)) (pe_callB (call_rep hg hu9) (by rfl) mp (by decide +kernel) (pa_cons (pv 4) pa_nil)) (nomark _)) (pw_or1 (pt_cmpR (op_neD hu) (pe_fld (pv 3) rfl) (pv 2) (nomark _))))) (pss_one (ps_ret pe_bl)) pss_nil)
      (pss_cons (ps_for PassesOwn.never rfl (pi_range1 (by rfl) mr (pa_cons (pe_callB call_len (by rfl) ml boot_len (pa_cons (pv 4) pa_nil)) pa_nil)) (pg_name (i := 10) scLaw.nd rfl (.inl rfl))
        (pss_one (ps_if (pt_cmpR op_ne (pe_callB (call_rep hg hu9) (by rfl) mp (by decide +kernel) (pa_cons (pe_fld (pe_cal gT hr pass0 (pa_cons (pv 3) (pa_cons (pe_ix ix_list (pv 4) (pv 10) (fun _ _ => rfl)) pa_nil))) rfl) pa_nil)) (pe_callB (call_rep hg hu9) (by rfl) mp (by decide +kernel) (pa_cons (pe_ix ix_list (pv 5) (pv 10) (fun _ _ => rfl)) pa_nil)) (nomark _)) (pss_one (ps_ret pe_bl)) pss_nil)))
      (pss_cons (ps_expr (pe_bm PySem.F.plainAttrs_list PySem.F.slot_list_append PySem.F.type_list_append mt_append (pv 9) (pa_cons (pe_tup (pa_cons pe_str (pa_cons pe_str pa_nil))) pa_nil)))
      (pss_one (ps_ret (pe_cmpR op_eq (pe_callB (call_rep hg hu9) (by rfl) mp (by decide +kernel) (pa_cons (pe_cal gA hr pass0 (pa_cons (pv 3) pa_nil)) pa_nil)) (pe_callB (call_rep hg hu9) (by rfl) mp (by decide +kernel) (pa_cons (pv 4) pa_nil)) (nomark _)))))))))))))), ?_⟩
    refine ⟨_, rfl, a, ns, rfl, by decide, hS, hl, fun pn rs H1 s1 hpn lrs nb => ?_⟩
    refine ⟨_, rfl, pn, rs, 0, rfl, hpn, nb, by omega, fun l pi xs H2 s2 hpi hl2 dr => ?_⟩
    refine ⟨_, rfl, fun o dx no ndx nex => ?_⟩
    have s4 : Same H2 (upd (upd H2 dx (.own o)) o (.ins CS dx [])) := (same_new ndx _).trans (same_new (by rw [upd_ne (fun z => nex z.symm)]; exact no) _)
    refine ⟨o, pi, dx, its l, xs, rfl, upd_same, .inl (s4 _ _ hpi), Bs.Its.At.same s4 (its_at hl2), dr.tame, by have := walk_len dr.oks; have := dr.n4; omega, fun _ H5 fs off ho sf rw5 => ⟨rfl, ?_⟩, fun e => absurd (dr.shape.symm.trans e) (by decide)⟩
    have s25 : Same H2 H5 := fun b u e => off b u (ne_of_none e no) (s4 _ _ e)
    obtain ⟨pp, ys0, lp, hpp, hat⟩ := sf.parts
    have sp0 : ShP CS H5 o l := ⟨dx, fs, pp, ys0, ho, lp, hpp, hat⟩
    have hpi5 := s25 _ _ hpi
    have hl5 : ItsAt H5 xs l := hl2.tk (sTk s25)
    clear off s4 no ndx nex sf rw5 s25 hpi hl2 hpn
    have n4 := dr.n4
    have lx := plen hl5
    refine g_nx ?_
    refine ⟨(by show 0 ≤ sizeLine; decide), fun D1 h1 => ?_⟩
    refine g_nx ?_
    refine ⟨(by show 0 ≤ sizeLine; decide), fun D2 h2 => ?_⟩
    have hne : D1 ≠ D2 := fun z => by rw [← z, upd_same] at h2; cases h2
    have t0 : Two H5 D1 D2 [] (upd (upd H5 D1 (.lst [])) D2 (.lst [])) := ⟨(same_new h1 _).trans (same_new h2 _), h1, by rw [upd_ne hne.symm] at h2; exact h2, hne, [], [], by rw [upd_ne hne]; exact upd_same, upd_same, .nil, .nil⟩
    generalize upd (upd H5 D1 (.lst [])) D2 (.lst []) = H6 at t0 ⊢
    refine g_nx ?_
    refine ⟨_, rfl, _, _, rfl, .inr ⟨_, SqT.of (t0.s _ _ hpi5), rfl⟩, (l.length : Int), by rw [lx], by omega, by omega, for_range (lo := 0) (n := l.length) (fun i σ H' => ∃ o6 o7 o8 o9 o10 : Option V, σ = [some (.ref a), some (.ref pn), some (.ref pi), some (.ref o), some (.ref D1), some (.ref D2), o6, o7, o8, none, none] ∧ Two H5 D1 D2 (gd ((List.range i).flatMap (rowsOf l))) H') ⟨_, _, _, none, none, rfl, t0⟩ ?_ ?_⟩
    · rintro i σ H7 hi ⟨o6, o7, o8, _, _, rfl, t7⟩
      rw [Int.zero_add]
      obtain ⟨v, gv⟩ : ∃ v, xs[i]? = some v := ⟨xs[i]'(by omega), List.getElem?_eq_getElem (by omega)⟩
      obtain ⟨x, gx, hx⟩ := pget hl5 gv
      obtain ⟨ah, okx⟩ := dr.oks x (List.mem_of_getElem? gx)
      have er : rowsOf l i = (featsOf x).map fun ft => (ft, narL l i (narI x ft)) := by unfold rowsOf; rw [gx]
      have f3 := feats_len okx
      have rs : (List.range (i + 1)).flatMap (rowsOf l) = (List.range i).flatMap (rowsOf l) ++ rowsOf l i := by rw [List.range_succ, List.flatMap_append]; simp
      have a12 : ((List.range i).flatMap (rowsOf l)).length ≤ 3 * i := by
        have h := flatMap_len (rowsOf l) 3 (List.range i) fun j _ => by
          unfold rowsOf
          cases e : l[j]? with
          | none => simp
          | some y =>
            obtain ⟨ah', ok'⟩ := dr.oks y (List.mem_of_getElem? e)
            simp only [List.length_map]
            exact feats_len ok'
        rwa [List.length_range] at h
      rw [rs, er]
      generalize (List.range i).flatMap (rowsOf l) = A0 at t7 a12 ⊢
      refine g_nx ?_
      refine ⟨_, rfl, _, rfl, pi, _, (i : Int), v, rfl, rfl, SqT.of (t7.s _ _ hpi5), atI_nat gv, ?_⟩
      refine nilGo ?_
      refine ⟨v, x, rfl, hx.tk (sTk t7.s), ok_okF okx, fun r1 rs1 H8 s8 n8 hr8 pf => ?_⟩
      have t8 := t7.same s8
      obtain ⟨b1, b2, hb1, hb2, _, _⟩ := t8.ex
      obtain ⟨c1, c2, hc1, hc2, _, _⟩ := t7.ex
      have nr1 : r1 ≠ D1 := fun z => by rw [z, hc1] at n8; cases n8
      have nr2 : r1 ≠ D2 := fun z => by rw [z, hc2] at n8; cases n8
      refine ⟨r1, rfl, row_l2 (H0 := wo (wo H8 D1) D2) (by rw [wo_ne nr2, wo_ne nr1]; exact hr8) (wo_same.trans wo_same) fun J1 wk1 => ?_⟩
      have lf := plen pf
      refine for_it wk1 (fun j σ H' => ∃ o7 o8 : Option V, σ = [some (.ref a), some (.ref pn), some (.ref pi), some (.ref o), some (.ref D1), some (.ref D2), some (.int (i : Int)), o7, o8, none, none] ∧ Same (wo (wo H8 D1) D2) H' ∧ Two H5 D1 D2 (gd (A0 ++ ((featsOf x).take j).map fun ft => (ft, narL l i (narI x ft)))) H') ⟨_, _, rfl, wo_same.trans wo_same, by rw [List.take_zero, List.map_nil, List.append_nil]; exact t8⟩ (fun _ _ _ _ h => by obtain ⟨_, _, _, z, _⟩ := h; exact z) ?_ ?_
      · rintro j u σ H9' H9 hj ⟨o7, o8, rfl, sw, t9⟩ ⟨e3, hu⟩
        subst e3
        obtain ⟨ft, gf, hft⟩ := pget pf hu
        have mf := List.mem_of_getElem? gf
        have tk89 : Tk H8 H9 := fun b ys e => sw b _ (by rw [wo_ne (ne_of e hb2 (by intro z; cases z)), wo_ne (ne_of e hb1 (by intro z; cases z))]; exact e)
        have hft9 := hft.tk tk89
        have jl : j < 3 := by rw [lf] at hj; omega
        have bd : (gd (A0 ++ ((featsOf x).take j).map fun ft => (ft, narL l i (narI x ft)))).length ≤ 50 := by
          refine Nat.le_trans (List.length_filter_le _ _) ?_
          rw [List.length_append, List.length_map, List.length_take]
          omega
        rw [List.take_add_one, gf, Option.toList, List.map_append, ← List.append_assoc, gd_app]
        generalize gd (A0 ++ ((featsOf x).take j).map fun ft => (ft, narL l i (narI x ft))) = A1 at t9 bd ⊢
        refine g_nx ?_
        refine ⟨_, rfl, _, rfl, _, rfl, pi, u, xs, l, i, x, ft, rfl, t9.s _ _ hpi5, hl5.tk (sTk t9.s), by omega, gx, ok_okF okx, hft9, mf, by have := (nar_len okx mf).1; omega, fun rt zs HA sA hrt hits => ?_⟩
        refine g_nx ?_
        have tA := t9.same sA
        refine ⟨_, rfl, rt, zs, narL l i (narI x ft), rfl, hrt, hits, nar_ok dr gx mf, fun HB sB => ?_⟩
        have tB := tA.same sB
        have swB : Same (wo (wo H8 D1) D2) HB := sw.trans (sA.trans sB)
        cases sh : (its (narL l i (narI x ft))).shape with
        | false =>
          refine ⟨_, rfl, iteF ?_⟩
          refine ⟨_, _, rfl, swB, ?_⟩
          have : gd ([ft].map fun ft => (ft, narL l i (narI x ft))) = [] := by
            unfold gd
            rw [List.map_cons, List.map_nil, List.filter_cons, if_neg (by show ¬ (its (narL l i (narI x ft))).shape = true; rw [sh]; simp)]; rfl
          rw [this, List.append_nil]
          exact tB
        | true =>
          refine ⟨_, rfl, iteT ?_⟩
          have eg : gd ([ft].map fun ft => (ft, narL l i (narI x ft))) = [(ft, narL l i (narI x ft))] := by
            unfold gd
            rw [List.map_cons, List.map_nil, List.filter_cons, if_pos (by show (its (narL l i (narI x ft))).shape = true; exact sh)]; rfl
          rw [eg]
          obtain ⟨a1, a2, ha1, ha2, p1, p2⟩ := tB.ex
          have l1 := plen p1
          have l2 := plen p2
          rw [List.length_map] at l1 l2
          obtain ⟨e2, tC⟩ := tB.add ha1 ha2 p1 p2 (r := (ft, narL l i (narI x ft))) (hft9.tk (sTk (sA.trans sB))) (TlAt.tk (sTk sB) ⟨rt, zs, rfl, hrt, hits⟩)
          refine ⟨_, rfl, .inl ⟨rfl, _, SqL.of ha1⟩, _, rfl, D1, a1, _, rfl, rfl, ha1, small1000 (by omega), ?_⟩
          refine ⟨_, rfl, .inl ⟨rfl, _, SqL.of e2⟩, _, rfl, D2, a2, _, rfl, rfl, e2, small1000 (by omega), ?_⟩
          refine ⟨_, _, rfl, fun b w e => ?_, tC⟩
          have b2 : b ≠ D2 := fun z => by rw [z, wo_none] at e; cases e
          have b1 : b ≠ D1 := fun z => by rw [wo_ne b2, z, wo_none] at e; cases e
          rw [upd_ne b2, upd_ne b1]
          exact swB _ _ e
      · rintro σ H9 ⟨o7, o8, rfl, sw, t9⟩
        rw [lf, List.take_length] at t9
        exact ⟨_, _, _, none, none, rfl, t9⟩
    · rintro σ H7 ⟨o6, o7, o8, _, _, rfl, t7⟩
      have t7 : Two H5 D1 D2 (goodL l) H7 := t7
      have g12 : (goodL l).length ≤ 12 := Nat.le_trans (List.length_filter_le _ _) (allL_len dr)
      have gsz : ∀ r ∈ goodL l, r.1.sz ∧ (∀ x ∈ r.2, x.sz) ∧ r.2.length ≤ 10 := fun r hr' => good_sz dr (List.mem_filter.mp hr').1
      have tmf : Tm (.lst (((goodL l).map (·.1)).map ftD)) 1000000 := tm_fts (fun f hf => by obtain ⟨r, hr', rfl⟩ := List.mem_map.mp hf; exact (gsz r hr').1) (by rw [List.length_map]; omega)
      obtain ⟨a1, a2, ha1, ha2, p1, p2⟩ := t7.ex
      have rf : ∀ {Hx : Hp} {p : Addr} {rs : List V} {R : VK}, Hx p = some (.lst rs) → Paired (FtAt Hx) rs ((goodL l).map (·.1)) → R (.str (pyD (.lst (((goodL l).map (·.1)).map ftD))).shown) Hx → rRep [.ref p] Hx R := fun hp pr g => ⟨6, _, _, rfl, dt_fts hp (by rw [List.length_map]; omega) pr, by decide, tmf.show_, tmf.len (Nat.le_refl _), (fun z e => by cases e), g⟩
      have re : ∀ {Hx : Hp} {R : VK}, Same H7 Hx → R (.str (pyD (.lst (((goodL l).map (·.1)).map ftD))).shown) Hx → rRep [.ref D1] Hx R := fun s g => rf (s _ _ ha1) (L2.Paired.mapP p1 fun _ _ k => k.tk (sTk s)) g
      refine ⟨_, rfl, ?_⟩
      refine nilGo ?_
      refine ⟨o, l, rfl, sp0.ko (.of t7.s), dr, fun r rs H8 s8 n8 hr8 pr => ?_⟩
      refine g_nx ?_
      refine ⟨_, rfl, ?_⟩
      refine nilGo ?_
      refine rf hr8 pr ?_
      refine ⟨_, rfl, ?_⟩
      refine nilGo ?_
      refine re s8 ?_
      refine ⟨rfl, _, rfl, ifF (by simp) ?_⟩
      obtain ⟨lens0, el0⟩ := its_lens (f := fun _ => none) dr.ok (fun z hz => by cases hz) (fun x _ z => by cases z) dr.tops
      have okl := its_ok dr.oks dr.isN
      have S8 := t7.s.trans s8
      refine ⟨_, rfl, o, CS, dx, fs, _, rfl, S8 _ _ ho, T.cl, T.n1, lp, _, rfl, .tuple (its l).data, .tuple (its l).data, .tup (SqT.of (S8 _ _ hpp)) (Bs.Its.dp (Bs.Its.At.same S8 hat)), .tup (SqT.of (S8 _ _ hpi5)) (Bs.Its.dp (Bs.Its.At.same S8 (its_atT hl5))), Bs.shaped_data okl el0, Bs.shaped_data okl el0, _, rfl, ifF (by rw [Bs.eqv_data okl el0]; rfl) ?_⟩
      refine ⟨_, rfl, _, _, rfl, .inl ⟨_, SqL.of (s8 _ _ ha1), rfl⟩, ((goodL l).length : Int), by rw [plen p1, List.length_map], by omega, by omega, for_range (lo := 0) (n := (goodL l).length) (fun i σ H' => ∃ o10 : Option V, σ = [some (.ref a), some (.ref pn), some (.ref pi), some (.ref o), some (.ref D1), some (.ref D2), o6, o7, o8, some (.ref r), o10] ∧ Same H8 H') ⟨_, rfl, Same.refl H8⟩ ?_ ?_⟩
      · rintro i σ H9 hi ⟨o10, rfl, s9⟩
        rw [Int.zero_add]
        have S79 := s8.trans s9
        obtain ⟨rk, grk⟩ : ∃ r, (goodL l)[i]? = some r := ⟨(goodL l)[i], List.getElem?_eq_getElem hi⟩
        have mrk := List.mem_of_getElem? grk
        have l1 := plen p1
        have l2 := plen p2
        rw [List.length_map] at l1 l2
        obtain ⟨u, gu⟩ : ∃ u, a1[i]? = some u := ⟨a1[i]'(by omega), List.getElem?_eq_getElem (by omega)⟩
        obtain ⟨w0, gw⟩ : ∃ u, a2[i]? = some u := ⟨a2[i]'(by omega), List.getElem?_eq_getElem (by omega)⟩
        obtain ⟨f', gf', hfu⟩ := pget p1 gu
        rw [List.getElem?_map, grk] at gf'
        cases gf'
        obtain ⟨l'', gl', p3, zs3, rfl, hp3, hits3⟩ := pget p2 gw
        rw [List.getElem?_map, grk] at gl'
        cases gl'
        obtain ⟨_, sz2, ln2⟩ := gsz rk mrk
        have tml : Tm (lD rk.2) 1000000 := tm_l sz2 ln2
        have rl : ∀ {Hx : Hp} {p : Addr} {zs : List V} {R : VK}, Hx p = some (.tup zs) → ItsAt Hx zs rk.2 → R (.str (pyD (lD rk.2)).shown) Hx → rRep [.ref p] Hx R := fun hp hits g => ⟨6, _, _, rfl, dt_l hp sz2 ln2 hits, by decide, tml.show_, tml.len (Nat.le_refl _), (fun z e => by cases e), g⟩
        refine g_nx ?_
        refine ⟨_, rfl, _, rfl, _, rfl, D1, _, (i : Int), u, rfl, rfl, SqL.of (S79 _ _ ha1), atI_nat gu, ?_⟩
        refine nilGo ?_
        refine ⟨o, l, u, rk.1, rk.2, rfl, sp0.ko (.of (t7.s.trans S79)), dr, hfu.tk (sTk S79), mrk, fun o2 H10 s10 sp2 => ?_⟩
        obtain ⟨dx2, fs2, p2', zs2, ho2, lp2, hp2, hat2⟩ := sp2
        refine ⟨o2, CS, dx2, fs2, _, rfl, ho2, T.cl, T.n1, lp2, ?_⟩
        refine nilGo ?_
        refine rl hp2 (at_its hat2) ?_
        have S710 := S79.trans s10
        refine ⟨_, rfl, _, rfl, D2, _, (i : Int), _, rfl, rfl, SqL.of (S710 _ _ ha2), atI_nat gw, ?_⟩
        refine nilGo ?_
        refine rl (S710 _ _ hp3) (ItsAt.tk (sTk S710) hits3) ?_
        refine ⟨rfl, _, rfl, ifF (by simp) ?_⟩
        exact ⟨_, rfl, s9.trans s10⟩
      · rintro σ H9 ⟨o10, rfl, s9⟩
        have hr9 := s9 _ _ hr8
        refine ⟨_, rfl, .inl ⟨rfl, _, SqL.of hr9⟩, (by show 2 ≤ sizeLine; decide), fun t1 ht1 => ?_⟩
        have sT := same_new ht1 (.tup [.str "least", .str "x"])
        have lrs := plen pr
        rw [List.length_map] at lrs
        refine ⟨r, rs, _, rfl, rfl, sT _ _ hr9, small1000 (by omega), ?_⟩
        have S13 : Same H7 (upd (upd H9 t1 (.tup [.str "least", .str "x"])) r (.lst (rs ++ [.ref t1]))) := same_set (s8.trans (s9.trans sT)) n8
        generalize upd (upd H9 t1 (.tup [.str "least", .str "x"])) r (.lst (rs ++ [.ref t1])) = H13 at S13 ⊢
        refine ⟨_, rfl, ?_⟩
        refine nilGo ?_
        refine ⟨o, l, rfl, sp0.ko (.of (t7.s.trans S13)), dr, fun r2 rs2 H14 s14 n14 hr14 pr14 => ?_⟩
        refine nilGo ?_
        refine rf hr14 pr14 ?_
        refine ⟨_, rfl, ?_⟩
        refine nilGo ?_
        refine re (S13.trans s14) ?_
        refine ⟨rfl, ?_⟩
        rw [decide_eq_true rfl]
        exact q H14
end
end Bm

set_option Elab.async false
set_option linter.all false
set_option maxRecDepth 100000
set_option maxHeartbeats 0
namespace Bs
open PySem L2
/-! ### the head: what the top leaves -/
def gDef (x : Str) (i : Nat) : He.DefD := ⟨(x, none), x, x, defArgs (top i), defBody (top i), defScope (top i), [], []⟩
def dInit : He.DefD := ⟨("Shape", some "__init__"), "__init__", "Shape.__init__", defArgs sInit, defBody sInit, defScope sInit, [], []⟩
def fns : List He.DefD := [gDef "blocks_of" 7, gDef "listed" 9, gDef "is_integer" 18, gDef "require" 19, gDef "amount_bounds" 20, gDef "number_lengths" 21, gDef "bytes_lengths" 22, gDef "text_lengths" 23, gDef "repeat_lengths" 24, gDef "either_lengths" 25, gDef "switch_lengths" 26, gDef "check_lengths" 27, gDef "pad_lengths" 28,
  gDef "list_lengths" 30, gDef "is_name" 40, gDef "is_row" 41, gDef "copied_list" 42, gDef "copied_item" 43, gDef "copied_choices" 44, gDef "copied_cases" 45, gDef "law" 66, dInit, gDef "_law_row" 55, gDef "_law_numbers" 56, gDef "_law_names" 57, gDef "_law_simple" 58, gDef "_law_block" 59, gDef "_law_nested" 60, gDef "_law_item" 61, gDef "_law_items" 62, gDef "with_blocks" 8, gDef "edited" 10, gDef "item_features" 48, gDef "_law_item_features" 63, gDef "narrow_items" 49, gDef "_law_narrow" 64, gDef "_law_is_shape" 65, gDef "narrow_shape" 50, gDef "narrow_shapes" 51, gDef "features" 52, gDef "shape_with" 53]
def fas : List He.Fa := [.glo "blocks_of", .glo "listed", .glo "is_integer", .glo "require", .glo "amount_bounds", .glo "number_lengths", .glo "bytes_lengths", .glo "text_lengths", .glo "repeat_lengths", .glo "either_lengths", .glo "switch_lengths", .glo "check_lengths", .glo "pad_lengths",
  .glo "list_lengths", .glo "is_name", .glo "is_row", .glo "copied_list", .glo "copied_item", .glo "copied_choices", .glo "copied_cases", .glo "law", .glo "law", .glo "law", .glo "law",
  .glo "Shape", .glo "InvalidShape", .glo "ByteshapeError", .glo "PARTS", .glo "RULES", .glo "WITH_BLOCKS", .glo "MULTIPLES",
  .free "isinstance", .free "int", .free "bool", .free "str", .free "list", .free "tuple", .free "len", .free "all", .free "dict", .free "set", .free "min", .free "max", .free "range", .free "abs", .free "ValueError",
  .int "LONGEST_NAME" 12, .int "LONGEST_LIST" 12, .int "DEEPEST" 3, .int "MOST_ITEMS" 30, .int "GREATEST_BYTE" 255, .int "GREATEST_PAIR" 65535, .int "GREATEST_LENGTH" 64, .int "GREATEST_COUNT" 16, .int "GREATEST_MODULUS" 16,
  .str "LETTERS" letters, .str "DIGITS" digits, .cls "Shape", .noat "Shape" "parts", .noat "Shape" "_rows", .noat "Shape" "names", .noat "Shape" "_least", .noat "Shape" "_greatest", .noat "Shape" "_row_of", .mkr "Shape", .exc "InvalidShape", .exm "InvalidShape" "InvalidShape" true, .glo "_law_row", .glo "_law_numbers", .glo "_law_names", .glo "_law_simple", .glo "_law_block", .glo "_law_nested", .glo "_law_item", .glo "_law_items", .glo "with_blocks", .glo "edited", .glo "item_features", .glo "_law_item_features", .glo "narrow_items", .glo "_law_narrow", .glo "_law_is_shape", .glo "narrow_shape", .glo "narrow_shapes", .glo "features", .glo "shape_with", .free "repr", .free "zip", .free "any"]
def kinds : List (Str × He.Dv) := [("number", .int 6), ("bytes", .int 3), ("text", .int 4), ("repeat", .int 4), ("either", .int 3), ("switch", .int 4), ("check", .int 3), ("pad", .int 4)]
def rules : List (Str × He.Dv) := [("number", .glo "number_lengths"), ("bytes", .glo "bytes_lengths"), ("text", .glo "text_lengths"), ("repeat", .glo "repeat_lengths"), ("either", .glo "either_lengths"), ("switch", .glo "switch_lengths"), ("check", .glo "check_lengths"), ("pad", .glo "pad_lengths")]
def tbs : List He.Tab := [(fun K => He.ga K "PARTS", kinds.map (·.1)), (fun K => He.ga K "RULES", rules.map (·.1))]
def excB (K : PySem.W.Frag) (D : Addr) : Bool :=
  He.eqO (PySem.W.findIn K (.ref D) "__getattribute__") (some (some (.builtin "BaseException.__getattribute__"))) && (He.eqO (PySem.W.findIn K (.ref D) "__getattr__") (some none) && (decide (PySem.W.subIn K (.ref D) (.type "BaseException") = some true) && (PySem.W.hasDictIn K D &&
  (He.eqO (PySem.W.findIn K (.ref D) "__class__") (some (some (.builtin "object.__class__"))) && (He.eqO (PySem.W.specialIn K (.builtin "object.__class__") "__get__") (some (some (.builtin "getset_descriptor.__get__"))) && (decide (PySem.W.takesIn K (.builtin "object.__class__") = some true) && decide (PySem.W.mroIn K D (.type "object") = some true)))))))
def kitB2 (K : PySem.W.Frag) : Bool := decide (PySem.W.kitOne K (.ref (He.ga K "InvalidShape")) (.ref (He.ga K "ByteshapeError")) = some true) && decide (PySem.W.kitOne K (.ref (He.ga K "InvalidShape")) (.type "ValueError") = some true)
def exs (K : PySem.W.Frag) : Bool := He.tupB K "WITH_BLOCKS" [.str "repeat", .str "either", .str "switch"] && (He.tupB K "MULTIPLES" [.int 1, .int 2, .int 4, .int 8, .int 16] && (He.valsB K (He.ga K "PARTS") kinds && (He.valsB K (He.ga K "RULES") rules && (excB K (He.ga K "InvalidShape") && kitB2 K))))
end Bs

set_option Elab.async false
set_option linter.all false
set_option maxRecDepth 100000
set_option maxHeartbeats 4000000
namespace Bs
open PySem L2
/-! ### all defs together -/
section
variable {P : Program} {w : World} {K : PySem.W.Frag} {mg : Str → Option Value} {h base : Heap} {C : Addr}
theorem fun_of {x q : Str} {st : Stmt} {f : Addr} {fd : FuncData} (F : FunD K x q (defArgs st) (defBody st) (defScope st) [] [] f fd) : Fun K x q st f fd := by
  obtain ⟨oc, od, dV, kV, doc, pm, an, cdv, ct, osl, rfl, lk, c, d, _⟩ := F.ex
  have e : dV = .none := d.elim (·.2) (fun z => absurd rfl z.1)
  subst e
  exact ⟨⟨oc, od, kV, doc, pm, an, cdv, ct, osl, rfl, lk, c⟩, F.kp⟩
theorem def_of (c : He.SaysT fas fns tbs w K) (j : Nat) {x : Str} {i : Nat} (e : fns[j]? = some (gDef x i)) : ∃ fd, Fun K x x (top i) (He.ga K x) fd := by
  obtain ⟨fd, F⟩ := c.d.def_ j (d := gDef x i) e
  exact ⟨fd, fun_of F⟩
theorem cal_of (X : K.In h) (G : h.Ns mainGlobals mg) (c : He.SaysT fas fns tbs w K) (j jg : Nat) {x : Str} {i : Nat} (e : fns[j]? = some (gDef x i)) (eg : fas[jg]? = some (.glo x)) {CX : CXT} {k : Nat} {ps : List Str} {sp : Sp}
    (bn : ∀ (f : Addr) (fd : FuncData), Fun K x x (top i) f fd → Binds K fd ps []) (ok : ∀ (f : Addr) (fd : FuncData), Fun K x x (top i) f fd → FnOk P w K mg base CX k f fd ps sp) : Cal P w K mg base CX k x ps sp := by
  obtain ⟨fd, F⟩ := def_of c j e
  exact ⟨_, fd, He.glo_ok X G (c.d.fact jg eg), F.kp, bn _ fd F, ok _ fd F⟩
theorem Cal.mono {CX : CXT} {j k : Nat} {x : Str} {ps : List Str} {sp : Sp} (g : Cal P w K mg base CX j x ps sp) (h : j ≤ k) : Cal P w K mg base CX k x ps sp := by
  obtain ⟨f, fd, h1, h2, h3, h4⟩ := g.ex
  exact ⟨f, fd, h1, h2, h3, h4.mono h⟩
theorem Cal.no {CX : CXT} {j k : Nat} {x : Str} {ps : List Str} {sp sq : Sp} (g : Cal P w K mg base CX j x ps sp) (no : ∀ vs H Q E, ¬ sq vs H Q E) : Cal P w K mg base CX k x ps sq := by
  obtain ⟨f, fd, h1, h2, h3, h4⟩ := g.ex
  exact ⟨f, fd, h1, h2, h3, ⟨fun _ _ _ _ z => (no _ _ _ _ z).elim, fun _ _ _ _ _ _ _ _ _ _ _ _ _ z => (no _ _ _ _ z).elim⟩⟩
theorem shpC (X : K.In h) (G : h.Ns mainGlobals mg) (c : He.SaysT fas fns tbs w K) (ex : exs K = true) : ShpC K mg (He.ga K "InvalidShape") := by
  obtain ⟨h1, h2, h3, h4⟩ := He.exc_ok (c.d.fact 65 (f := .exc "InvalidShape") rfl)
  exact ⟨(He.glo_ok X G (c.d.fact 25 (f := .glo "InvalidShape") rfl)), h2, h1, h3, h4⟩
theorem shapeC (X : K.In h) (G : h.Ns mainGlobals mg) (c : He.SaysT fas fns tbs w K) (ex : exs K = true) : ShapeC K (He.ga K "Shape") := ⟨He.cls_ok (c.d.fact 57 (f := .cls "Shape") rfl), He.noat_ok (c.d.fact 58 (f := .noat "Shape" "parts") rfl), He.noat_ok (c.d.fact 59 (f := .noat "Shape" "_rows") rfl), He.noat_ok (c.d.fact 60 (f := .noat "Shape" "names") rfl), He.noat_ok (c.d.fact 61 (f := .noat "Shape" "_least") rfl), He.noat_ok (c.d.fact 62 (f := .noat "Shape" "_greatest") rfl), He.noat_ok (c.d.fact 63 (f := .noat "Shape" "_row_of") rfl)⟩
theorem ex_all (ex : exs K = true) : He.tupB K "WITH_BLOCKS" [.str "repeat", .str "either", .str "switch"] = true ∧ He.tupB K "MULTIPLES" [.int 1, .int 2, .int 4, .int 8, .int 16] = true ∧ He.valsB K (He.ga K "PARTS") kinds = true ∧ He.valsB K (He.ga K "RULES") rules = true ∧ excB K (He.ga K "InvalidShape") = true ∧ kitB2 K = true := by
  obtain ⟨h1, ex⟩ := He.ba ex
  obtain ⟨h2, ex⟩ := He.ba ex
  obtain ⟨h3, ex⟩ := He.ba ex
  obtain ⟨h4, ex⟩ := He.ba ex
  obtain ⟨h5, h6⟩ := He.ba ex
  exact ⟨h1, h2, h3, h4, h5, h6⟩
theorem excC_of {D : Addr} (e : excB K D = true) : ExcC K D := by
  obtain ⟨h1, e⟩ := He.ba e
  obtain ⟨h2, e⟩ := He.ba e
  obtain ⟨h3, e⟩ := He.ba e
  obtain ⟨h4, e⟩ := He.ba e
  obtain ⟨h5, e⟩ := He.ba e
  obtain ⟨h6, e⟩ := He.ba e
  obtain ⟨h7, h8⟩ := He.ba e
  exact ⟨He.eqO_ok h1, He.eqO_ok h2, of_decide_eq_true h3, h4, He.eqO_ok h5, He.eqO_ok h6, of_decide_eq_true h7, of_decide_eq_true h8⟩
theorem kindsC (X : K.In h) (G : h.Ns mainGlobals mg) (c : He.SaysT fas fns tbs w K) (ex : exs K = true) : Kinds K w mg := by
  obtain ⟨h1, h2, h3, h4, h5, h6⟩ := ex_all ex
  refine ⟨?_, ⟨_, (He.glo_ok X G (c.d.fact 29 (f := .glo "WITH_BLOCKS") rfl)), fun H => He.tupB_ok h1 H⟩⟩
  obtain ⟨es, n, D⟩ := c.tab 0 (t := (fun K => He.ga K "PARTS", kinds.map (·.1))) rfl
  refine ⟨_, es, n, (He.glo_ok X G (c.d.fact 27 (f := .glo "PARTS") rfl)), D, fun x => ?_⟩
  have f : ∀ (z : Str) (i : Int), (z, He.Dv.int i) ∈ kinds → ∃ t, PySem.W.nsIn K (He.ga K "PARTS") z = some (some (.int i t)) := fun z i hz => by
    obtain ⟨u, e, r⟩ := He.valsB_ok h3 hz
    obtain ⟨t, rfl⟩ := (show ∃ t, u = Value.int i t from r)
    exact ⟨t, e⟩
  cases x with
  | num => exact f "number" 6 (.head _)
  | byt => exact f "bytes" 3 (.tail _ (.head _))
  | txt => exact f "text" 4 (.tail _ (.tail _ (.head _)))
  | rep => exact f "repeat" 4 (.tail _ (.tail _ (.tail _ (.head _))))
  | eit => exact f "either" 3 (.tail _ (.tail _ (.tail _ (.tail _ (.head _)))))
  | swi => exact f "switch" 4 (.tail _ (.tail _ (.tail _ (.tail _ (.tail _ (.head _))))))
  | chk => exact f "check" 3 (.tail _ (.tail _ (.tail _ (.tail _ (.tail _ (.tail _ (.head _)))))))
  | pad => exact f "pad" 4 (.tail _ (.tail _ (.tail _ (.tail _ (.tail _ (.tail _ (.tail _ (.head _))))))))
theorem multsC (X : K.In h) (G : h.Ns mainGlobals mg) (c : He.SaysT fas fns tbs w K) (ex : exs K = true) : Mults K mg := ⟨_, (He.glo_ok X G (c.d.fact 30 (f := .glo "MULTIPLES") rfl)), fun H => He.tupB_ok (ex_all ex).2.1 H⟩
theorem cRequire (X : K.In h) (G : h.Ns mainGlobals mg) (c : He.SaysT fas fns tbs w K) (ex : exs K = true) : Cal P w K mg base (L2.CX P w) 1 "require" ["holds", "words"] (spRequire (He.ga K "InvalidShape")) := cal_of X G c 3 3 (i := 19) rfl rfl (fun _ _ F => F.binds fun _ _ _ _ _ _ us hl => match us, hl with | [_, _], _ => rfl) fun _ _ F => ok_require F (shpC X G c ex)
theorem cIsInt (X : K.In h) (G : h.Ns mainGlobals mg) (c : He.SaysT fas fns tbs w K) (ex : exs K = true) : Cal P w K mg base CX0 1 "is_integer" ["value", "low", "high"] spIsInt := cal_of X G c 2 2 (i := 18) rfl rfl (fun _ _ F => F.binds fun _ _ _ _ _ _ us hl => match us, hl with | [_, _, _], _ => rfl) fun _ _ F => ok_isint F (He.free_ok X G (c.d.fact 31 (f := .free "isinstance") rfl)) (He.free_ok X G (c.d.fact 32 (f := .free "int") rfl)) (He.free_ok X G (c.d.fact 33 (f := .free "bool") rfl))
theorem cIsName (X : K.In h) (G : h.Ns mainGlobals mg) (c : He.SaysT fas fns tbs w K) (ex : exs K = true) : Cal P w K mg base CX0 1 "is_name" ["text"] spIsName := cal_of X G c 14 14 (i := 40) rfl rfl (fun _ _ F => F.binds fun _ _ _ _ _ _ us hl => match us, hl with | [_], _ => rfl) fun _ _ F => ok_isname F (He.free_ok X G (c.d.fact 31 (f := .free "isinstance") rfl)) (He.free_ok X G (c.d.fact 34 (f := .free "str") rfl)) (He.free_ok X G (c.d.fact 37 (f := .free "len") rfl)) (He.free_ok X G (c.d.fact 38 (f := .free "all") rfl)) (He.str_ok X G (c.d.fact 55 (f := .str "LETTERS" letters) rfl)) (He.str_ok X G (c.d.fact 56 (f := .str "DIGITS" digits) rfl)) (He.int_ok X G (c.d.fact 46 (f := .int "LONGEST_NAME" 12) rfl))
theorem cIsRow (X : K.In h) (G : h.Ns mainGlobals mg) (c : He.SaysT fas fns tbs w K) (ex : exs K = true) : Cal P w K mg base CX0 1 "is_row" ["rows", "least", "most"] spIsRow := cal_of X G c 15 15 (i := 41) rfl rfl (fun _ _ F => F.binds fun _ _ _ _ _ _ us hl => match us, hl with | [_, _, _], _ => rfl) fun _ _ F => ok_isrow F (He.free_ok X G (c.d.fact 31 (f := .free "isinstance") rfl)) (He.free_ok X G (c.d.fact 37 (f := .free "len") rfl)) (He.free_ok X G (c.d.fact 35 (f := .free "list") rfl)) (He.free_ok X G (c.d.fact 36 (f := .free "tuple") rfl))
theorem cAmount (X : K.In h) (G : h.Ns mainGlobals mg) (c : He.SaysT fas fns tbs w K) (ex : exs K = true) : Cal P w K mg base (L2.CX P w) 2 "amount_bounds" ["amount", "visible", "most"] (spAmount (He.ga K "InvalidShape")) := cal_of X G c 4 4 (i := 20) rfl rfl (fun _ _ F => F.binds fun _ _ _ _ _ _ us hl => match us, hl with | [_, _, _], _ => rfl) fun _ _ F => ok_amount F (cRequire X G c ex) (cIsInt X G c ex) (He.free_ok X G (c.d.fact 31 (f := .free "isinstance") rfl)) (He.free_ok X G (c.d.fact 34 (f := .free "str") rfl))
theorem rulesC (X : K.In h) (G : h.Ns mainGlobals mg) (c : He.SaysT fas fns tbs w K) (ex : exs K = true) {n k : Nat} (hk : 3 ≤ k) (gL : Cal P w K mg base (L2.CX P w) (k - 1) "list_lengths" ["items", "visible"] (spSub (spLensList (He.ga K "InvalidShape")) n)) : Rules P w K mg base (He.ga K "InvalidShape") k n := by
  obtain ⟨h1, h2, h3, h4, h5, h6⟩ := ex_all ex
  obtain ⟨es, nn, D⟩ := c.tab 1 (t := (fun K => He.ga K "RULES", rules.map (·.1))) rfl
  refine ⟨_, es, nn, (He.glo_ok X G (c.d.fact 28 (f := .glo "RULES") rfl)), D, fun x => ?_⟩
  have f : ∀ (z y : Str), (z, He.Dv.glo y) ∈ rules → PySem.W.nsIn K (He.ga K "RULES") z = some (some (.ref (He.ga K y))) := fun z y hz => by
    obtain ⟨u, e, r⟩ := He.valsB_ok h4 hz
    have e2 : u = Value.ref (He.ga K y) := r
    rw [e, e2]
  have g : ∀ (j i : Nat) (y : Str), fns[j]? = some (gDef y i) → (y, x.kind) = (y, x.kind) → (x.kind, He.Dv.glo y) ∈ rules → (∀ (f : Addr) (fd : FuncData), Fun K y y (top i) f fd → Binds K fd ["item", "visible"] []) → (∀ (f : Addr) (fd : FuncData), Fun K y y (top i) f fd → FnOk P w K mg base (L2.CX P w) k f fd ["item", "visible"] (spLens (He.ga K "InvalidShape") x.kind n)) →
      ∃ f fd, PySem.W.nsIn K (He.ga K "RULES") x.kind = some (some (.ref f)) ∧ PySem.W.keepIn K (.ref f) = true ∧ Binds K fd ["item", "visible"] [] ∧ FnOk P w K mg base (L2.CX P w) k f fd ["item", "visible"] (spLens (He.ga K "InvalidShape") x.kind n) := fun j i y e _ hz bn ok => by
    obtain ⟨fd, F⟩ := def_of c j e
    exact ⟨_, fd, f _ _ hz, F.kp, bn _ fd F, ok _ fd F⟩
  obtain ⟨k, rfl⟩ : ∃ m, k = m + 1 := ⟨k - 1, by omega⟩
  rw [Nat.add_sub_cancel] at gL
  have hk2 : 2 ≤ k := by omega
  cases x with
  | num => exact g 5 21 "number_lengths" rfl rfl (.head _) (fun _ _ F => F.binds fun _ _ _ _ _ _ us hl => match us, hl with | [_, _], _ => rfl) fun _ _ F => (ok_number F (cRequire X G c ex) (cIsInt X G c ex) (He.int_ok X G (c.d.fact 50 (f := .int "GREATEST_BYTE" 255) rfl)) (He.int_ok X G (c.d.fact 51 (f := .int "GREATEST_PAIR" 65535) rfl))).mono (by omega)
  | byt => exact g 6 22 "bytes_lengths" rfl rfl (.tail _ (.head _)) (fun _ _ F => F.binds fun _ _ _ _ _ _ us hl => match us, hl with | [_, _], _ => rfl) fun _ _ F => (ok_bytes F (cAmount X G c ex) (He.int_ok X G (c.d.fact 52 (f := .int "GREATEST_LENGTH" 64) rfl))).mono (by omega)
  | txt => exact g 7 23 "text_lengths" rfl rfl (.tail _ (.tail _ (.head _))) (fun _ _ F => F.binds fun _ _ _ _ _ _ us hl => match us, hl with | [_, _], _ => rfl) fun _ _ F => (ok_text F (cRequire X G c ex) (cIsInt X G c ex) (He.int_ok X G (c.d.fact 52 (f := .int "GREATEST_LENGTH" 64) rfl)) (He.int_ok X G (c.d.fact 50 (f := .int "GREATEST_BYTE" 255) rfl))).mono (by omega)
  | rep => exact g 8 24 "repeat_lengths" rfl rfl (.tail _ (.tail _ (.tail _ (.head _)))) (fun _ _ F => F.binds fun _ _ _ _ _ _ us hl => match us, hl with | [_, _], _ => rfl) fun _ _ F => ok_repeat hk2 F (cRequire X G c ex) (cAmount X G c ex) (He.int_ok X G (c.d.fact 53 (f := .int "GREATEST_COUNT" 16) rfl)) gL
  | eit => exact g 9 25 "either_lengths" rfl rfl (.tail _ (.tail _ (.tail _ (.tail _ (.head _))))) (fun _ _ F => F.binds fun _ _ _ _ _ _ us hl => match us, hl with | [_, _], _ => rfl) fun _ _ F => ok_either hk2 F (cRequire X G c ex) (He.free_ok X G (c.d.fact 37 (f := .free "len") rfl)) (He.free_ok X G (c.d.fact 41 (f := .free "min") rfl)) (He.free_ok X G (c.d.fact 42 (f := .free "max") rfl)) gL
  | swi => exact g 10 26 "switch_lengths" rfl rfl (.tail _ (.tail _ (.tail _ (.tail _ (.tail _ (.head _)))))) (fun _ _ F => F.binds fun _ _ _ _ _ _ us hl => match us, hl with | [_, _], _ => rfl) fun _ _ F => ok_switch hk2 F (cRequire X G c ex) (cIsInt X G c ex) (He.int_ok X G (c.d.fact 51 (f := .int "GREATEST_PAIR" 65535) rfl)) (He.free_ok X G (c.d.fact 37 (f := .free "len") rfl)) (He.free_ok X G (c.d.fact 41 (f := .free "min") rfl)) (He.free_ok X G (c.d.fact 42 (f := .free "max") rfl)) (He.free_ok X G (c.d.fact 40 (f := .free "set") rfl)) (He.free_ok X G (c.d.fact 31 (f := .free "isinstance") rfl)) (He.free_ok X G (c.d.fact 34 (f := .free "str") rfl)) gL
  | chk => exact g 11 27 "check_lengths" rfl rfl (.tail _ (.tail _ (.tail _ (.tail _ (.tail _ (.tail _ (.head _))))))) (fun _ _ F => F.binds fun _ _ _ _ _ _ us hl => match us, hl with | [_, _], _ => rfl) fun _ _ F => (ok_check F (cRequire X G c ex) (cIsInt X G c ex) (He.int_ok X G (c.d.fact 54 (f := .int "GREATEST_MODULUS" 16) rfl))).mono (by omega)
  | pad => exact g 12 28 "pad_lengths" rfl rfl (.tail _ (.tail _ (.tail _ (.tail _ (.tail _ (.tail _ (.tail _ (.head _)))))))) (fun _ _ F => F.binds fun _ _ _ _ _ _ us hl => match us, hl with | [_, _], _ => rfl) fun _ _ F => (ok_pad F (cRequire X G c ex) (cIsInt X G c ex) (He.int_ok X G (c.d.fact 50 (f := .int "GREATEST_BYTE" 255) rfl)) (multsC X G c ex)).mono (by omega)
theorem cLens (X : K.In h) (G : h.Ns mainGlobals mg) (c : He.SaysT fas fns tbs w K) (ex : exs K = true) : ∀ n : Nat, Cal P w K mg base (L2.CX P w) (4 + 2 * n) "list_lengths" ["items", "visible"] (spLensList (He.ga K "InvalidShape") n) := by
  have st : ∀ {n k : Nat}, 3 ≤ k → Cal P w K mg base (L2.CX P w) (k - 1) "list_lengths" ["items", "visible"] (spSub (spLensList (He.ga K "InvalidShape")) n) → Cal P w K mg base (L2.CX P w) (k + 1) "list_lengths" ["items", "visible"] (spLensList (He.ga K "InvalidShape") n) := fun hk gL =>
    cal_of X G c 13 13 (i := 30) rfl rfl (fun _ _ F => F.binds fun _ _ _ _ _ _ us hl => match us, hl with | [_, _], _ => rfl) fun _ _ F => ok_listlen F (He.free_ok X G (c.d.fact 39 (f := .free "dict") rfl)) (rulesC X G c ex hk gL)
  intro n
  induction n with
  | zero =>
    exact st (k := 3) (by decide) (cal_of X G c 13 13 (i := 30) rfl rfl (fun _ _ F => F.binds fun _ _ _ _ _ _ us hl => match us, hl with | [_, _], _ => rfl) fun _ _ F => ⟨fun _ _ _ _ z => (show False from z).elim, fun _ _ _ _ _ _ _ _ _ _ _ _ _ z => (show False from z).elim⟩)
  | succ n ih =>
    rw [show 4 + 2 * (n + 1) = 5 + 2 * n + 1 by omega]
    exact st (n := n + 1) (k := 5 + 2 * n) (by omega) (ih.mono (by omega))
theorem cCop (X : K.In h) (G : h.Ns mainGlobals mg) (c : He.SaysT fas fns tbs w K) (ex : exs K = true) : ∀ n : Nat, Cal P w K mg base (L2.CX P w) (3 + 3 * n) "copied_list" ["items", "depth"] (spCopList (He.ga K "InvalidShape") n) ∧ Cal P w K mg base (L2.CX P w) (4 + 3 * n) "copied_choices" ["choices", "depth"] (spCopChoices (He.ga K "InvalidShape") n) ∧ Cal P w K mg base (L2.CX P w) (4 + 3 * n) "copied_cases" ["cases", "depth"] (spCopCases (He.ga K "InvalidShape") n) := by
  have st : ∀ {n k : Nat}, 1 ≤ k → Cal P w K mg base (L2.CX P w) k "copied_list" ["items", "depth"] (spSub (spCopList (He.ga K "InvalidShape")) n) → Cal P w K mg base (L2.CX P w) k "copied_choices" ["choices", "depth"] (spSub (spCopChoices (He.ga K "InvalidShape")) n) → Cal P w K mg base (L2.CX P w) k "copied_cases" ["cases", "depth"] (spSub (spCopCases (He.ga K "InvalidShape")) n) →
      Cal P w K mg base (L2.CX P w) (k + 2) "copied_list" ["items", "depth"] (spCopList (He.ga K "InvalidShape") n) ∧ Cal P w K mg base (L2.CX P w) (k + 3) "copied_choices" ["choices", "depth"] (spCopChoices (He.ga K "InvalidShape") n) ∧ Cal P w K mg base (L2.CX P w) (k + 3) "copied_cases" ["cases", "depth"] (spCopCases (He.ga K "InvalidShape") n) := fun {n k} hk gL gCh gCa => by
    have gI : Cal P w K mg base (L2.CX P w) (k + 1) "copied_item" ["item", "depth"] (spCopItem (He.ga K "InvalidShape") n) := cal_of X G c 17 17 (i := 43) rfl rfl (fun _ _ F => F.binds fun _ _ _ _ _ _ us hl => match us, hl with | [_, _], _ => rfl) fun _ _ F => ok_copitem F hk (kindsC X G c ex) (cRequire X G c ex) (cIsName X G c ex) (He.free_ok X G (c.d.fact 36 (f := .free "tuple") rfl)) (He.free_ok X G (c.d.fact 31 (f := .free "isinstance") rfl)) (He.free_ok X G (c.d.fact 37 (f := .free "len") rfl)) (He.free_ok X G (c.d.fact 34 (f := .free "str") rfl)) (He.int_ok X G (c.d.fact 48 (f := .int "DEEPEST" 3) rfl)) gL gCh gCa
    have gL2 : Cal P w K mg base (L2.CX P w) (k + 2) "copied_list" ["items", "depth"] (spCopList (He.ga K "InvalidShape") n) := cal_of X G c 16 16 (i := 42) rfl rfl (fun _ _ F => F.binds fun _ _ _ _ _ _ us hl => match us, hl with | [_, _], _ => rfl) fun _ _ F => ok_coplist F (by omega) (cRequire X G c ex) (cIsRow X G c ex) (He.int_ok X G (c.d.fact 47 (f := .int "LONGEST_LIST" 12) rfl)) (He.free_ok X G (c.d.fact 36 (f := .free "tuple") rfl)) gI
    exact ⟨gL2, cal_of X G c 18 18 (i := 44) rfl rfl (fun _ _ F => F.binds fun _ _ _ _ _ _ us hl => match us, hl with | [_, _], _ => rfl) fun _ _ F => ok_copchoices F (by omega) (cRequire X G c ex) (cIsRow X G c ex) (He.free_ok X G (c.d.fact 36 (f := .free "tuple") rfl)) gL2,
      cal_of X G c 19 19 (i := 45) rfl rfl (fun _ _ F => F.binds fun _ _ _ _ _ _ us hl => match us, hl with | [_, _], _ => rfl) fun _ _ F => ok_copcases F (by omega) (cRequire X G c ex) (cIsRow X G c ex) (He.free_ok X G (c.d.fact 36 (f := .free "tuple") rfl)) (He.free_ok X G (c.d.fact 31 (f := .free "isinstance") rfl)) (He.free_ok X G (c.d.fact 37 (f := .free "len") rfl)) gL2⟩
  intro n
  induction n with
  | zero =>
    exact st (k := 1) (by decide) (cal_of X G c 16 16 (i := 42) rfl rfl (fun _ _ F => F.binds fun _ _ _ _ _ _ us hl => match us, hl with | [_, _], _ => rfl) fun _ _ F => ⟨fun _ _ _ _ z => (show False from z).elim, fun _ _ _ _ _ _ _ _ _ _ _ _ _ z => (show False from z).elim⟩)
      (cal_of X G c 18 18 (i := 44) rfl rfl (fun _ _ F => F.binds fun _ _ _ _ _ _ us hl => match us, hl with | [_, _], _ => rfl) fun _ _ F => ⟨fun _ _ _ _ z => (show False from z).elim, fun _ _ _ _ _ _ _ _ _ _ _ _ _ z => (show False from z).elim⟩)
      (cal_of X G c 19 19 (i := 45) rfl rfl (fun _ _ F => F.binds fun _ _ _ _ _ _ us hl => match us, hl with | [_, _], _ => rfl) fun _ _ F => ⟨fun _ _ _ _ z => (show False from z).elim, fun _ _ _ _ _ _ _ _ _ _ _ _ _ z => (show False from z).elim⟩)
  | succ n ih =>
    obtain ⟨i1, i2, i3⟩ := ih
    rw [show 3 + 3 * (n + 1) = 4 + 3 * n + 2 by omega, show 4 + 3 * (n + 1) = 4 + 3 * n + 3 by omega]
    exact st (n := n + 1) (k := 4 + 3 * n) (by omega) (i1.mono (by omega)) i2 i3
theorem cListed (X : K.In h) (G : h.Ns mainGlobals mg) (c : He.SaysT fas fns tbs w K) (ex : exs K = true) : ∀ n : Nat, Cal P w K mg base CX0 (2 + n) "listed" ["items", "depth"] (spListed n) := by
  have gB : Cal P w K mg base CX0 1 "blocks_of" ["item"] spBlocks := cal_of X G c 0 0 (i := 7) rfl rfl (fun _ _ F => F.binds fun _ _ _ _ _ _ us hl => match us, hl with | [_], _ => rfl) fun _ _ F => ok_blocks F (He.free_ok X G (c.d.fact 36 (f := .free "tuple") rfl))
  have st : ∀ {n k : Nat}, 1 ≤ k → Cal P w K mg base CX0 k "listed" ["items", "depth"] (spSub spListed n) → Cal P w K mg base CX0 (k + 1) "listed" ["items", "depth"] (spListed n) := fun hk gS =>
    cal_of X G c 1 1 (i := 9) rfl rfl (fun _ _ F => F.binds fun _ _ _ _ _ _ us hl => match us, hl with | [_, _], _ => rfl) fun _ _ F => ok_listed hk F gB gS
  intro n
  induction n with
  | zero => exact st (k := 1) (by decide) (cal_of X G c 1 1 (i := 9) rfl rfl (fun _ _ F => F.binds fun _ _ _ _ _ _ us hl => match us, hl with | [_, _], _ => rfl) fun _ _ F => ⟨fun _ _ _ _ z => (show False from z).elim, fun _ _ _ _ _ _ _ _ _ _ _ _ _ z => (show False from z).elim⟩)
  | succ n ih =>
    rw [show 2 + (n + 1) = 2 + n + 1 by omega]
    exact st (n := n + 1) (k := 2 + n) (by omega) ih
theorem cInit (X : K.In h) (G : h.Ns mainGlobals mg) (c : He.SaysT fas fns tbs w K) (ex : exs K = true) {f : Addr} {fdI : FuncData} (FI : Fun K "__init__" "Shape.__init__" sInit f fdI) : FnOk P w K mg base (L2.CX P w) 13 f fdI ["self", "items"] (spInit (He.ga K "InvalidShape") (He.ga K "Shape")) :=
  ok_init (k := 12) (by decide) FI (shapeC X G c ex) (cRequire X G c ex) (cCop X G c ex 3).1 ((cListed X G c ex 3).mono (by decide)) ((cLens X G c ex 3).mono (by decide)) (He.free_ok X G (c.d.fact 37 (f := .free "len") rfl)) (He.free_ok X G (c.d.fact 36 (f := .free "tuple") rfl)) (He.free_ok X G (c.d.fact 40 (f := .free "set") rfl)) (He.int_ok X G (c.d.fact 49 (f := .int "MOST_ITEMS" 30) rfl))
theorem calB (X : K.In h) (G : h.Ns mainGlobals mg) (c : He.SaysT fas fns tbs w K) (j jg : Nat) {x : Str} {i : Nat} (e : fns[j]? = some (gDef x i)) (eg : fas[jg]? = some (.glo x)) {CX : CXT} {k : Nat} {ps : List Str} {sp : Sp}
    (bn : ∀ (f : Addr) (fd : FuncData), Fun K x x (top i) f fd → Binds K fd ps []) (ok : ∀ (f : Addr) (fd : FuncData), Fun K x x (top i) f fd → FnOk P w K mg base CX k f fd ps sp) : Bm.Cal P w K mg base CX k x ps sp := ⟨(cal_of X G c j jg e eg bn ok).ex⟩
theorem noB {CX : CXT} {j k : Nat} {x : Str} {ps : List Str} {sp sq : Sp} (g : Bm.Cal P w K mg base CX j x ps sp) (no : ∀ vs H Q E, ¬ sq vs H Q E) : Bm.Cal P w K mg base CX k x ps sq := by
  obtain ⟨f, fd, h1, h2, h3, h4⟩ := g.ex
  exact ⟨f, fd, h1, h2, h3, ⟨fun _ _ _ _ z => (no _ _ _ _ z).elim, fun _ _ _ _ _ _ _ _ _ _ _ _ _ z => (no _ _ _ _ z).elim⟩⟩
theorem facts (X : K.In h) (G : h.Ns mainGlobals mg) (c : He.SaysT fas fns tbs w K) (ex : exs K = true) {fa : Addr} (hfa : mg ("law" : Str) = some (.ref fa)) : ∃ fd : FuncData, (∀ (s : Shared) (v : Value), BindsTo s fd ⟨[v], []⟩ [("script", v)]) ∧ ∀ base : Heap, K.In base → base.Ns mainGlobals mg → Bm.FnG P w K mg base 18 fa fd ["script"] (Bm.spLaw K) := by
  have e := hfa.symm.trans (He.glo_ok X G (c.d.fact 23 (f := .glo "law") rfl))
  cases e
  obtain ⟨fdI, FI⟩ := c.d.def_ 21 (d := dInit) rfl
  have FI := fun_of (st := sInit) FI
  have bI : Binds K fdI ["self", "items"] [] := FI.binds fun _ _ _ _ _ _ us hl => match us, hl with | [_, _], _ => rfl
  obtain ⟨fd, FD⟩ := c.d.def_ 20 (d := gDef "law" 66) rfl
  have b := FunD.bindsA (ps := ["script"]) FD fun _ _ _ _ _ _ us hl => match us, hl with | [_], _ => rfl
  have F : Fun K "law" "law" (Bm.sLaw) (He.ga K "law") fd := fun_of FD
  refine ⟨fd, fun s v => b s [v] rfl, fun base _ _ => ?_⟩
  have gInit := cInit (P := P) (base := base) X G c ex FI
  have MS := He.mkr_ok (c.d.fact 64 (f := .mkr "Shape") rfl)
  have gSh := He.glo_ok X G (c.d.fact 24 (f := .glo "Shape") rfl)
  have T := shapeC X G c ex
  have gRow : Bm.Cal P w K mg base CX0 1 "_law_row" ["cell", "many"] (Bm.spRow) := calB X G c 22 67 (i := 55) rfl rfl (fun _ _ F => F.binds fun _ _ _ _ _ _ us hl => match us, hl with | [_, _], _ => rfl) fun _ _ F => Bm.ok_row F (He.free_ok X G (c.d.fact 44 (f := .free "abs") rfl)) (He.free_ok X G (c.d.fact 32 (f := .free "int") rfl)) (He.free_ok X G (c.d.fact 43 (f := .free "range") rfl))
  have gNum : Bm.Cal P w K mg base CX0 2 "_law_numbers" ["script", "many"] (Bm.spNums 84 K) := calB X G c 23 68 (i := 56) rfl rfl (fun _ _ F => F.binds fun _ _ _ _ _ _ us hl => match us, hl with | [_, _], _ => rfl) fun _ _ F => Bm.ok_nums (k := 1) (by decide) F gRow (He.free_ok X G (c.d.fact 42 (f := .free "max") rfl)) (He.free_ok X G (c.d.fact 37 (f := .free "len") rfl))
  have gNam : Bm.Cal P w K mg base CX0 1 "_law_names" ["number", "many"] (Bm.spNames) := calB X G c 24 69 (i := 57) rfl rfl (fun _ _ F => F.binds fun _ _ _ _ _ _ us hl => match us, hl with | [_, _], _ => rfl) fun _ _ F => Bm.ok_names F (He.free_ok X G (c.d.fact 37 (f := .free "len") rfl)) (He.free_ok X G (c.d.fact 43 (f := .free "range") rfl)) (He.free_ok X G (c.d.fact 32 (f := .free "int") rfl)) (He.free_ok X G (c.d.fact 41 (f := .free "min") rfl))
  have gSim : Bm.Cal P w K mg base CX0 1 "_law_simple" ["numbers", "at", "name"] (Bm.spSimp) := calB X G c 25 70 (i := 58) rfl rfl (fun _ _ F => F.binds fun _ _ _ _ _ _ us hl => match us, hl with | [_, _, _], _ => rfl) fun _ _ F => Bm.ok_simp F (He.free_ok X G (c.d.fact 32 (f := .free "int") rfl)) (He.free_ok X G (c.d.fact 41 (f := .free "min") rfl))
  have gBlk : Bm.Cal P w K mg base CX0 2 "_law_block" ["numbers", "at", "names", "many"] (Bm.spBlk) := calB X G c 26 71 (i := 59) rfl rfl (fun _ _ F => F.binds fun _ _ _ _ _ _ us hl => match us, hl with | [_, _, _, _], _ => rfl) fun _ _ F => Bm.ok_blk F gSim (He.free_ok X G (c.d.fact 43 (f := .free "range") rfl)) (He.free_ok X G (c.d.fact 36 (f := .free "tuple") rfl))
  have gNes : Bm.Cal P w K mg base CX0 3 "_law_nested" ["numbers", "at", "names", "ahead"] (Bm.spNest) := calB X G c 27 72 (i := 60) rfl rfl (fun _ _ F => F.binds fun _ _ _ _ _ _ us hl => match us, hl with | [_, _, _, _], _ => rfl) fun _ _ F => Bm.ok_nest F gBlk (He.free_ok X G (c.d.fact 32 (f := .free "int") rfl)) (He.free_ok X G (c.d.fact 37 (f := .free "len") rfl)) (He.free_ok X G (c.d.fact 43 (f := .free "range") rfl)) (He.free_ok X G (c.d.fact 36 (f := .free "tuple") rfl))
  have gItm : Bm.Cal P w K mg base CX0 4 "_law_item" ["numbers", "at", "names", "ahead", "checked"] (Bm.spItem) := calB X G c 28 73 (i := 61) rfl rfl (fun _ _ F => F.binds fun _ _ _ _ _ _ us hl => match us, hl with | [_, _, _, _, _], _ => rfl) fun _ _ F => Bm.ok_item F gNes (He.free_ok X G (c.d.fact 32 (f := .free "int") rfl)) (He.free_ok X G (c.d.fact 37 (f := .free "len") rfl)) (He.free_ok X G (c.d.fact 41 (f := .free "min") rfl))
  have gIts : Bm.Cal P w K mg base CX0 5 "_law_items" ["numbers", "at"] (Bm.spItems) := calB X G c 29 74 (i := 62) rfl rfl (fun _ _ F => F.binds fun _ _ _ _ _ _ us hl => match us, hl with | [_, _], _ => rfl) fun _ _ F => Bm.ok_items F gNam gItm (He.free_ok X G (c.d.fact 32 (f := .free "int") rfl)) (He.free_ok X G (c.d.fact 43 (f := .free "range") rfl)) (He.free_ok X G (c.d.fact 36 (f := .free "tuple") rfl))
  have gWbB : Bm.Cal P w K mg base CX0 1 "with_blocks" ["item", "blocks"] spWithB := calB X G c 30 75 (i := 8) rfl rfl (fun _ _ F => F.binds fun _ _ _ _ _ _ us hl => match us, hl with | [_, _], _ => rfl) fun _ _ F => ok_withb F (He.free_ok X G (c.d.fact 36 (f := .free "tuple") rfl)) (He.free_ok X G (c.d.fact 87 (f := .free "zip") rfl))
  have gWb : Cal P w K mg base CX0 1 "with_blocks" ["item", "blocks"] spWithB := ⟨gWbB.ex⟩
  have gBo : Cal P w K mg base CX0 1 "blocks_of" ["item"] spBlocks := cal_of X G c 0 0 (i := 7) rfl rfl (fun _ _ F => F.binds fun _ _ _ _ _ _ us hl => match us, hl with | [_], _ => rfl) fun _ _ F => ok_blocks F (He.free_ok X G (c.d.fact 36 (f := .free "tuple") rfl))
  have gExB : Bm.Cal P w K mg base CX0 1 "edited" ["items", "name", "made"] (fun _ _ _ _ => False) := calB X G c 31 76 (i := 10) rfl rfl (fun _ _ F => F.binds fun _ _ _ _ _ _ us hl => match us, hl with | [_, _, _], _ => rfl) fun _ _ F => ⟨fun _ _ _ _ z => z.elim, fun _ _ _ _ _ _ _ _ _ _ _ _ _ z => z.elim⟩
  have gEx : Cal P w K mg base CX0 1 "edited" ["items", "name", "made"] (spSub spEdited 0) := ⟨gExB.ex⟩
  have gE0B : Bm.Cal P w K mg base CX0 2 "edited" ["items", "name", "made"] (spEdited 0) := calB X G c 31 76 (i := 10) rfl rfl (fun _ _ F => F.binds fun _ _ _ _ _ _ us hl => match us, hl with | [_, _, _], _ => rfl) fun _ _ F => ok_edited (n := 0) (k := 1) (by decide) F gWb gBo gEx (He.free_ok X G (c.d.fact 36 (f := .free "tuple") rfl))
  have gE0 : Cal P w K mg base CX0 2 "edited" ["items", "name", "made"] (spSub spEdited 1) := ⟨gE0B.ex⟩
  have gE1B : Bm.Cal P w K mg base CX0 3 "edited" ["items", "name", "made"] (spEdited 1) := calB X G c 31 76 (i := 10) rfl rfl (fun _ _ F => F.binds fun _ _ _ _ _ _ us hl => match us, hl with | [_, _, _], _ => rfl) fun _ _ F => ok_edited (n := 1) (k := 2) (by decide) F gWb gBo gE0 (He.free_ok X G (c.d.fact 36 (f := .free "tuple") rfl))
  have gE1 : Cal P w K mg base CX0 3 "edited" ["items", "name", "made"] (spSub spEdited 2) := ⟨gE1B.ex⟩
  have gE2B : Bm.Cal P w K mg base CX0 4 "edited" ["items", "name", "made"] (spEdited 2) := calB X G c 31 76 (i := 10) rfl rfl (fun _ _ F => F.binds fun _ _ _ _ _ _ us hl => match us, hl with | [_, _, _], _ => rfl) fun _ _ F => ok_edited (n := 2) (k := 3) (by decide) F gWb gBo gE1 (He.free_ok X G (c.d.fact 36 (f := .free "tuple") rfl))
  have gE2 : Cal P w K mg base CX0 4 "edited" ["items", "name", "made"] (spSub spEdited 3) := ⟨gE2B.ex⟩
  have gE3 : Bm.Cal P w K mg base CX0 5 "edited" ["items", "name", "made"] (spEdited 3) := calB X G c 31 76 (i := 10) rfl rfl (fun _ _ F => F.binds fun _ _ _ _ _ _ us hl => match us, hl with | [_, _, _], _ => rfl) fun _ _ F => ok_edited (n := 3) (k := 4) (by decide) F gWb gBo gE2 (He.free_ok X G (c.d.fact 36 (f := .free "tuple") rfl))
  have gCi := He.glo_ok X G (c.d.fact 25 (f := .glo "InvalidShape") rfl)
  have me := He.exm_ok (c.d.fact 66 (f := .exm "InvalidShape" "InvalidShape" true) rfl)
  have gIF : Bm.Cal P w K mg base CX0 1 "item_features" ["item"] (Bm.spIF) := calB X G c 32 77 (i := 48) rfl rfl (fun _ _ F => F.binds fun _ _ _ _ _ _ us hl => match us, hl with | [_], _ => rfl) fun _ _ F => Bm.ok_if F (He.free_ok X G (c.d.fact 37 (f := .free "len") rfl)) (He.free_ok X G (c.d.fact 43 (f := .free "range") rfl))
  have gLF : Bm.Cal P w K mg base CX0 1 "_law_item_features" ["item"] (Bm.spIF) := calB X G c 33 78 (i := 63) rfl rfl (fun _ _ F => F.binds fun _ _ _ _ _ _ us hl => match us, hl with | [_], _ => rfl) fun _ _ F => Bm.ok_lf F (He.free_ok X G (c.d.fact 37 (f := .free "len") rfl)) (He.free_ok X G (c.d.fact 43 (f := .free "range") rfl))
  have gNI : Bm.Cal P w K mg base CX0 1 "narrow_items" ["item", "feature"] (Bm.spNI) := calB X G c 34 79 (i := 49) rfl rfl (fun _ _ F => F.binds fun _ _ _ _ _ _ us hl => match us, hl with | [_, _], _ => rfl) fun _ _ F => Bm.ok_ni F (He.free_ok X G (c.d.fact 36 (f := .free "tuple") rfl))
  have gLN : Bm.Cal P w K mg base CX0 1 "_law_narrow" ["items", "at", "feature"] (Bm.spLN) := calB X G c 35 80 (i := 64) rfl rfl (fun _ _ F => F.binds fun _ _ _ _ _ _ us hl => match us, hl with | [_, _, _], _ => rfl) fun _ _ F => Bm.ok_ln F (He.free_ok X G (c.d.fact 36 (f := .free "tuple") rfl))
  have gIS : Bm.Cal P w K mg base CX0 15 "_law_is_shape" ["items"] (Bm.spIsS) := calB X G c 36 81 (i := 65) rfl rfl (fun _ _ F => F.binds fun _ _ _ _ _ _ us hl => match us, hl with | [_], _ => rfl) fun _ _ F => Bm.ok_iss (k := 13) F MS gInit bI gSh gCi me
  have gNS : Bm.Cal P w K mg base CX0 15 "narrow_shape" ["shape", "item", "feature"] (Bm.spNS (He.ga K "Shape")) := calB X G c 37 82 (i := 50) rfl rfl (fun _ _ F => F.binds fun _ _ _ _ _ _ us hl => match us, hl with | [_, _, _], _ => rfl) fun _ _ F => Bm.ok_ns (k := 13) (by decide) F T MS gInit bI gSh gCi me (gE3.mono (by decide)) gNI
  have gNss : Bm.Cal P w K mg base CX0 16 "narrow_shapes" ["shape"] (Bm.spNSs (He.ga K "Shape")) := calB X G c 38 83 (i := 51) rfl rfl (fun _ _ F => F.binds fun _ _ _ _ _ _ us hl => match us, hl with | [_], _ => rfl) fun _ _ F => Bm.ok_nss (k := 15) (by decide) F T gIF gNS
  have gFea : Bm.Cal P w K mg base CX0 17 "features" ["shape"] (Bm.spFs (He.ga K "Shape")) := calB X G c 39 84 (i := 52) rfl rfl (fun _ _ F => F.binds fun _ _ _ _ _ _ us hl => match us, hl with | [_], _ => rfl) fun _ _ F => Bm.ok_fs (k := 16) F gNss
  have gSw : Bm.Cal P w K mg base CX0 17 "shape_with" ["shape", "feature"] (Bm.spSW (He.ga K "Shape")) := calB X G c 40 85 (i := 53) rfl rfl (fun _ _ F => F.binds fun _ _ _ _ _ _ us hl => match us, hl with | [_, _], _ => rfl) fun _ _ F => Bm.ok_sw (k := 16) F gNss (He.free_ok X G (c.d.fact 31 (f := .free "isinstance") rfl)) (He.free_ok X G (c.d.fact 33 (f := .free "bool") rfl)) (He.free_ok X G (c.d.fact 88 (f := .free "any") rfl))
  exact Bm.ok_law (k := 17) F (gNum.mono (by decide)) (gIts.mono (by decide)) MS (gInit.mono (by decide)) (by decide) bI gSh T (gLF.mono (by decide)) (gLN.mono (by decide)) (gIS.mono (by decide)) gFea gSw (He.free_ok X G (c.d.fact 86 (f := .free "repr") rfl)) (He.free_ok X G (c.d.fact 43 (f := .free "range") rfl)) (He.free_ok X G (c.d.fact 37 (f := .free "len") rfl))
end
theorem walk {l : PySem.W.OpenLaw} {q : Program} {loose : List Str} {XP : (Str → Option Value) → Heap → Prop} {YP : World → Heap → Prop} {d : DefRec} {K : Params → PySem.W.Frag} (hn : l.most = some 63) (hdf : d.params.defaults = [])
    (hY : ∀ (w : World) (h : Heap), YP w h → (K w.params).In h)
    (F : ∀ (w : World) (mg : Str → Option Value) (fa : Addr) (h : Heap), (K w.params).In h → h.Ns mainGlobals mg → mg d.name = some (.ref fa) →
      ∃ fd : FuncData, (∀ (s : Shared) (u : Value), BindsTo s fd ⟨[u], []⟩ [("script", u)]) ∧ ∀ base : Heap, (K w.params).In base → base.Ns mainGlobals mg → Bm.FnG l.prog w (K w.params) mg base 18 fa fd ["script"] (Bm.spLaw (K w.params))) :
    PySem.W.WalkO q loose XP YP l.row.toRowW d [] (fun f vs => PySem.call f vs) :=
  Bm.walkG (n := 63) (k := 18) (x := "script") (sp := fun w => Bm.spLaw (K w.params)) hn (by decide) hdf ⟨rfl, by decide, by decide⟩ hY F (fun _ _ a ns hl _ hS => ⟨a, ns, rfl, hS, hl, fun _ => rfl⟩)
end Bs

set_option Elab.async false
set_option linter.all false
set_option maxRecDepth 100000
set_option maxHeartbeats 0
open PySem PySem.W PyProof.Rows
theorem PySem.Challenge.cw_byteshape_k62_features_holds : PySem.Challenge.rw_byteshape_k62_features.Holds := by
  w_on; o_law; k_head; (case hw => w_witness2)
  k_fill
  refine Bs.walk (l := PySem.Challenge.rw_byteshape_k62_features) rfl rfl (fun w h Y => PySem.W.kIn_of Y) ?F
  case F =>
    intro w mg fa h KX G hmg
    refine Bs.facts KX G ?c ?ex hmg
    case c =>
      show He.obsT Bs.fas Bs.fns Bs.tbs _ = He.valT Bs.fns Bs.tbs w
      kernel_rfl
    case ex =>
      kernel_rfl

