import PyProof.Rows.All
import Wide.All
import OpenK.AllK
import Wide.FinOn
import HandS.ForMost
import HandS.Exc
import HandS.ExcOwn
import HandS.TryOnly
import HandS.WordsExc
import HandS.Conv
import HandS.More
import HandS.IsInst
import HandS.FStr
import HandS.Star
import HandS.RaiseMore
import HandS.ExcIs
import HandS.DictComp
import HandS.Zip
import HandS.TupAny
import HandS.CallLocal
import HandS.Flow
import HandS.EndBits
import KE.GoesComp
import KE.GoesRaise
import PySem.Challenge.RW_byteshape_k07_texts_refused
import HandS.Walk
import HandS.Strs
import KE.KAssignIn
import KE.GoesNew
import KE.GoesMore
import HandS.Deep
import HandS.Text
import HandS.Codes
import PyProof.Rows.StrSplitJoin
import KE.KDictZip
import HandS.Rev
import HandS.ExcInit
import HandS.Nested
import KE.KExcSuper
import HandS.HeadHook1
import HandS.Iter
import HandS.Property
import HandS.ExcField
import HandS.Words
import HandS.TryMany
import HandS.ReplaceLit
import HandS.StrMore
import HandS.HeadHook2
import HandS.HeadHook3
import HandS.Ends
import HandS.Defaults
import HandS.HeadEnd
set_option Elab.async false
set_option linter.all false
set_option maxRecDepth 100000
set_option maxHeartbeats 4000000
/-! The text by places, the mirror of shapes, the heap's relation to it. -/
namespace Bs
open PySem L2
def top (i : Nat) : Stmt := PySem.Challenge.pw_byteshape_k07_texts_refused.main.body.getD i (.Pass ⟨0, 0, 0, 0⟩)
abbrev sBlocksOf : Stmt := top 7
abbrev sListed : Stmt := top 8
abbrev sIsInteger : Stmt := top 16
abbrev sRequire : Stmt := top 17
abbrev sAmount : Stmt := top 18
abbrev sNumber : Stmt := top 19
abbrev sBytes : Stmt := top 20
abbrev sText : Stmt := top 21
abbrev sRepeat : Stmt := top 22
abbrev sEither : Stmt := top 23
abbrev sSwitch : Stmt := top 24
abbrev sCheck : Stmt := top 25
abbrev sPad : Stmt := top 26
abbrev sListLen : Stmt := top 28
abbrev sIsName : Stmt := top 38
abbrev sIsRow : Stmt := top 39
abbrev sCopList : Stmt := top 40
abbrev sCopItem : Stmt := top 41
abbrev sCopChoices : Stmt := top 42
abbrev sCopCases : Stmt := top 43
abbrev sInit : Stmt := inClass (top 44) 0
abbrev sLawRow : Stmt := top 58
abbrev sLawNumbers : Stmt := top 59
abbrev sLawTaken : Stmt := top 47
abbrev sLaw : Stmt := top 48

/-! ### names -/
abbrev letters : Str := "abcdefghijklmnopqrstuvwxyz"
abbrev digits : Str := "0123456789"
def isLetter (c : Nat) : Bool := decide (c ∈ letters.cps.toList)
def isDigit (c : Nat) : Bool := decide (c ∈ digits.cps.toList)
def isSign (c : Nat) : Bool := isLetter c || isDigit c
def nameOk : List Nat → Bool
  | [] => false
  | c :: r => decide (r.length < 12) && (isLetter c && (c :: r).all isSign)
def isName (z : Str) : Bool := nameOk z.cps.toList

/-! ### shapes -/
mutual
inductive It where
  | num (n : Str) (size : Int) (order : Str) (low high : Int)
  | byt (n : Str) (amt : Key)
  | txt (n : Str) (stop most : Int)
  | rep (n : Str) (amt : Key) (body : Its)
  | eit (n : Str) (bs : Blks)
  | swi (n : Str) (tag : Str) (bs : Blks)
  | chk (n : Str) (m : Int)
  | pad (n : Str) (m b : Int)
inductive Its where
  | nil | cons (x : It) (r : Its)
inductive Blks where
  | nil | cons (v : Int) (b : Its) (r : Blks)
end
def It.name : It → Str
  | .num n .. => n | .byt n .. => n | .txt n .. => n | .rep n .. => n | .eit n .. => n | .swi n .. => n | .chk n .. => n | .pad n .. => n
def Its.len : Its → Nat
  | .nil => 0 | .cons _ r => r.len + 1
def Blks.len : Blks → Nat
  | .nil => 0 | .cons _ _ r => r.len + 1
def Blks.vals : Blks → List Int
  | .nil => [] | .cons v _ r => v :: r.vals

/-! ### an item as a value: fz says that all rows are tuples -/
def RowAt (fz : Bool) (H : Hp) (p : Addr) (xs : List V) : Prop := H p = some (.tup xs) ∨ (fz = false ∧ H p = some (.lst xs))
mutual
def It.At (fz : Bool) (H : Hp) : It → V → Prop
  | .num n size order low high, v => ∃ p, v = .ref p ∧ H p = some (.tup [.str "number", .str n, .int size, .str order, .int low, .int high])
  | .byt n amt, v => ∃ p, v = .ref p ∧ H p = some (.tup [.str "bytes", .str n, kV amt])
  | .txt n stop most, v => ∃ p, v = .ref p ∧ H p = some (.tup [.str "text", .str n, .int stop, .int most])
  | .rep n amt b, v => ∃ p q xs, v = .ref p ∧ H p = some (.tup [.str "repeat", .str n, kV amt, .ref q]) ∧ RowAt fz H q xs ∧ b.At fz H xs
  | .eit n bs, v => ∃ p q xs, v = .ref p ∧ H p = some (.tup [.str "either", .str n, .ref q]) ∧ RowAt fz H q xs ∧ bs.AtE fz H xs
  | .swi n tag bs, v => ∃ p q xs, v = .ref p ∧ H p = some (.tup [.str "switch", .str n, .str tag, .ref q]) ∧ RowAt fz H q xs ∧ bs.AtS fz H xs
  | .chk n m, v => ∃ p, v = .ref p ∧ H p = some (.tup [.str "check", .str n, .int m])
  | .pad n m b, v => ∃ p, v = .ref p ∧ H p = some (.tup [.str "pad", .str n, .int m, .int b])
def Its.At (fz : Bool) (H : Hp) : Its → List V → Prop
  | .nil, l => l = []
  | .cons x r, l => ∃ v l', l = v :: l' ∧ x.At fz H v ∧ r.At fz H l'
def Blks.AtE (fz : Bool) (H : Hp) : Blks → List V → Prop
  | .nil, l => l = []
  | .cons _ b r, l => ∃ q xs l', l = .ref q :: l' ∧ RowAt fz H q xs ∧ b.At fz H xs ∧ r.AtE fz H l'
def Blks.AtS (fz : Bool) (H : Hp) : Blks → List V → Prop
  | .nil, l => l = []
  | .cons v b r, l => ∃ p q xs l', l = .ref p :: l' ∧ H p = some (.tup [.int v, .ref q]) ∧ RowAt fz H q xs ∧ b.At fz H xs ∧ r.AtS fz H l'
end
/-- what an item leans on is kept: tuples; where it may have lists, these, too -/
structure Kp (fz : Bool) (H H' : Hp) : Prop where
  t : ∀ b xs, H b = some (.tup xs) → H' b = some (.tup xs)
  l : fz = false → ∀ b xs, H b = some (.lst xs) → H' b = some (.lst xs)
theorem Kp.of {fz : Bool} {H H' : Hp} (s : Same H H') : Kp fz H H' := ⟨fun _ _ h => s _ _ h, fun _ _ _ h => s _ _ h⟩
theorem RowAt.kp {fz : Bool} {H H' : Hp} {p : Addr} {xs : List V} (s : Kp fz H H') (h : RowAt fz H p xs) : RowAt fz H' p xs := h.imp (s.t _ _) fun ⟨a, b⟩ => ⟨a, s.l a _ _ b⟩
theorem RowAt.same {fz : Bool} {H H' : Hp} {p : Addr} {xs : List V} (s : Same H H') (h : RowAt fz H p xs) : RowAt fz H' p xs := h.kp (.of s)
mutual
theorem It.At.kp {fz : Bool} {H H' : Hp} (s : Kp fz H H') : ∀ {x : It} {v : V}, x.At fz H v → x.At fz H' v
  | .num .., _, h => by simp only [It.At] at h ⊢; obtain ⟨p, e, h⟩ := h; exact ⟨p, e, s.t _ _ h⟩
  | .byt .., _, h => by simp only [It.At] at h ⊢; obtain ⟨p, e, h⟩ := h; exact ⟨p, e, s.t _ _ h⟩
  | .txt .., _, h => by simp only [It.At] at h ⊢; obtain ⟨p, e, h⟩ := h; exact ⟨p, e, s.t _ _ h⟩
  | .chk .., _, h => by simp only [It.At] at h ⊢; obtain ⟨p, e, h⟩ := h; exact ⟨p, e, s.t _ _ h⟩
  | .pad .., _, h => by simp only [It.At] at h ⊢; obtain ⟨p, e, h⟩ := h; exact ⟨p, e, s.t _ _ h⟩
  | .rep .., _, h => by simp only [It.At] at h ⊢; obtain ⟨p, q, xs, e, h, r, b⟩ := h; exact ⟨p, q, xs, e, s.t _ _ h, r.kp s, Its.At.kp s b⟩
  | .eit .., _, h => by simp only [It.At] at h ⊢; obtain ⟨p, q, xs, e, h, r, b⟩ := h; exact ⟨p, q, xs, e, s.t _ _ h, r.kp s, Blks.AtE.kp s b⟩
  | .swi .., _, h => by simp only [It.At] at h ⊢; obtain ⟨p, q, xs, e, h, r, b⟩ := h; exact ⟨p, q, xs, e, s.t _ _ h, r.kp s, Blks.AtS.kp s b⟩
theorem Its.At.kp {fz : Bool} {H H' : Hp} (s : Kp fz H H') : ∀ {x : Its} {v : List V}, x.At fz H v → x.At fz H' v
  | .nil, _, h => by simp only [Its.At] at h ⊢; exact h
  | .cons .., _, h => by simp only [Its.At] at h ⊢; obtain ⟨v, l', e, h, r⟩ := h; exact ⟨v, l', e, It.At.kp s h, Its.At.kp s r⟩
theorem Blks.AtE.kp {fz : Bool} {H H' : Hp} (s : Kp fz H H') : ∀ {x : Blks} {v : List V}, x.AtE fz H v → x.AtE fz H' v
  | .nil, _, h => by simp only [Blks.AtE] at h ⊢; exact h
  | .cons .., _, h => by simp only [Blks.AtE] at h ⊢; obtain ⟨q, xs, l', e, a, b, r⟩ := h; exact ⟨q, xs, l', e, a.kp s, Its.At.kp s b, Blks.AtE.kp s r⟩
theorem Blks.AtS.kp {fz : Bool} {H H' : Hp} (s : Kp fz H H') : ∀ {x : Blks} {v : List V}, x.AtS fz H v → x.AtS fz H' v
  | .nil, _, h => by simp only [Blks.AtS] at h ⊢; exact h
  | .cons .., _, h => by simp only [Blks.AtS] at h ⊢; obtain ⟨p, q, xs, l', e, z, a, b, r⟩ := h; exact ⟨p, q, xs, l', e, s.t _ _ z, a.kp s, Its.At.kp s b, Blks.AtS.kp s r⟩
end
theorem It.At.same {fz : Bool} {H H' : Hp} (s : Same H H') {x : It} {v : V} (h : x.At fz H v) : x.At fz H' v := h.kp (.of s)
theorem Its.At.same {fz : Bool} {H H' : Hp} (s : Same H H') {x : Its} {v : List V} (h : x.At fz H v) : x.At fz H' v := h.kp (.of s)
theorem Blks.AtE.same {fz : Bool} {H H' : Hp} (s : Same H H') {x : Blks} {v : List V} (h : x.AtE fz H v) : x.AtE fz H' v := h.kp (.of s)
theorem Blks.AtS.same {fz : Bool} {H H' : Hp} (s : Same H H') {x : Blks} {v : List V} (h : x.AtS fz H v) : x.AtS fz H' v := h.kp (.of s)
/-- a list is written -/
theorem Kp.wr {H : Hp} {D : Addr} {xs : List V} {o : HO} (h : H D = some (.lst xs)) : Kp true H (upd H D o) :=
  ⟨fun b ys e => by rw [upd_ne (ne_of e h (by intro z; cases z))]; exact e, fun z => by cases z⟩
theorem Kp.trans {fz : Bool} {H H1 H2 : Hp} (a : Kp fz H H1) (b : Kp fz H1 H2) : Kp fz H H2 := ⟨fun x y h => b.t _ _ (a.t _ _ h), fun z x y h => b.l z _ _ (a.l z _ _ h)⟩
theorem Its.At.len {fz : Bool} {H : Hp} : ∀ {x : Its} {l : List V}, x.At fz H l → l.length = x.len
  | .nil, _, h => by simp only [Its.At] at h; subst h; rfl
  | .cons _ r, _, h => by simp only [Its.At] at h; obtain ⟨v, l', e, h, b⟩ := h; subst e; simp [Its.len, Its.At.len b]
theorem Blks.AtE.len {fz : Bool} {H : Hp} : ∀ {x : Blks} {l : List V}, x.AtE fz H l → l.length = x.len
  | .nil, _, h => by simp only [Blks.AtE] at h; subst h; rfl
  | .cons _ _ r, _, h => by simp only [Blks.AtE] at h; obtain ⟨q, xs, l', e, a, b, c⟩ := h; subst e; simp [Blks.len, Blks.AtE.len c]
theorem Blks.AtS.len {fz : Bool} {H : Hp} : ∀ {x : Blks} {l : List V}, x.AtS fz H l → l.length = x.len
  | .nil, _, h => by simp only [Blks.AtS] at h; subst h; rfl
  | .cons _ _ r, _, h => by simp only [Blks.AtS] at h; obtain ⟨p, q, xs, l', e, z, a, b, c⟩ := h; subst e; simp [Blks.len, Blks.AtS.len c]

/-! ### what is copied -/
mutual
def It.ok (d : Int) : It → Bool
  | .rep n _ b => isName n && (decide (d ≤ 2) && (decide (b.len ≤ 12) && b.ok (d + 1)))
  | .eit n bs => isName n && (decide (d ≤ 2) && (decide (2 ≤ bs.len ∧ bs.len ≤ 4) && bs.ok (d + 1)))
  | .swi n _ bs => isName n && (decide (d ≤ 2) && (decide (1 ≤ bs.len ∧ bs.len ≤ 8) && bs.ok (d + 1)))
  | x => isName x.name && decide (d ≤ 3)
def Its.ok (d : Int) : Its → Bool
  | .nil => true
  | .cons x r => x.ok d && r.ok d
def Blks.ok (d : Int) : Blks → Bool
  | .nil => true
  | .cons _ b r => (decide (b.len ≤ 12) && b.ok d) && r.ok d
end

/-! ### lengths -/
abbrev Env := Str → Option (Int × Int)
def Env.put (f : Env) (n : Str) (p : Int × Int) : Env := fun y => if y = n then some p else f y
def amount (f : Env) (most : Int) : Key → Option (Int × Int)
  | .inl i => if 0 ≤ i ∧ i ≤ most then some (i, i) else none
  | .inr z => match f z with
    | some p => if p.2 ≤ most then some p else none
    | none => none
def numOk (size : Int) (order : Str) (low high : Int) : Bool :=
  decide (1 ≤ size ∧ size ≤ 2) && (decide (order = "big" ∨ order = "little") && (decide (0 ≤ high ∧ high ≤ (if size = 1 then 255 else 65535)) && decide (0 ≤ low ∧ low ≤ high)))
def spread (r : List (Int × Int)) : Option (Int × Int) := match (r.map (·.1)).min?, (r.map (·.2)).max? with
  | some a, some b => some (a, b)
  | _, _ => none
mutual
def It.lens (f : Env) : It → Option (Int × Int)
  | .num _ size order low high => if numOk size order low high = true then some (size, size) else none
  | .byt _ amt => amount f 64 amt
  | .txt _ stop most => if (0 ≤ stop ∧ stop ≤ 255) ∧ 0 ≤ most ∧ most ≤ 64 then some (1, most + 1) else none
  | .rep _ amt b => match amount f 16 amt, b.lens f with
    | some a, some l => if 1 ≤ l.1 then some (a.1 * l.1, a.2 * l.2) else none
    | _, _ => none
  | .eit _ bs => match bs.lens f with
    | some r => if (r.filter fun p => decide (p.1 = 0)).length ≤ 1 then spread r else none
    | none => none
  | .swi _ tag bs => if (f tag).isSome = true ∧ (∀ v ∈ bs.vals, 0 ≤ v ∧ v ≤ 65535) ∧ bs.vals.Nodup then (match bs.lens f with
    | some r => spread r
    | none => none) else none
  | .chk _ m => if 1 ≤ m ∧ m ≤ 16 then some (1, 1) else none
  | .pad _ m b => if (m = 1 ∨ m = 2 ∨ m = 4 ∨ m = 8 ∨ m = 16) ∧ 0 ≤ b ∧ b ≤ 255 then some (0, m - 1) else none
def Its.lens (f : Env) : Its → Option (Int × Int)
  | .nil => some (0, 0)
  | .cons x r => match x.lens f, r.lens (match x with | .num n _ _ low high => f.put n (low, high) | _ => f) with
    | some a, some b => some (a.1 + b.1, a.2 + b.2)
    | _, _ => none
def Blks.lens (f : Env) : Blks → Option (List (Int × Int))
  | .nil => some []
  | .cons _ b r => match b.lens f, r.lens f with
    | some a, some l => some (a :: l)
    | _, _ => none
end

/-! ### the items in their order -/
mutual
def It.walk (d : Int) : It → List (Int × It)
  | .rep n a b => (d, .rep n a b) :: b.walk (d + 1)
  | .eit n bs => (d, .eit n bs) :: bs.walk (d + 1)
  | .swi n t bs => (d, .swi n t bs) :: bs.walk (d + 1)
  | x => [(d, x)]
def Its.walk (d : Int) : Its → List (Int × It)
  | .nil => []
  | .cons x r => x.walk d ++ r.walk d
def Blks.walk (d : Int) : Blks → List (Int × It)
  | .nil => []
  | .cons _ b r => b.walk d ++ r.walk d
end
def It.isChk : It → Bool
  | .chk .. => true
  | _ => false
def Its.names (x : Its) : List Str := (x.walk 0).map (·.2.name)
def Its.shape (x : Its) : Bool :=
  (decide (x.len ≤ 12) && x.ok 0) && (decide (1 ≤ x.len) && (decide ((x.walk 0).length ≤ 30) && (decide x.names.Nodup && (decide (((x.walk 0).filter (·.2.isChk)).length ≤ 1) && (x.lens fun _ => none).isSome))))
end Bs

set_option Elab.async false
set_option linter.all false
set_option maxRecDepth 100000
set_option maxHeartbeats 4000000
namespace Rj
open PySem PySem.Spec PyProof.Rows L2

/-! ### a list comprehension whose element may raise -/
/-- an exception that a call in the block let out: sI is the state ahead of it, in the block's context Y -/
def Fell (Y : Cx) (E : XK) (u : Value) (s' : Shared) : Prop :=
  ∃ (a : Addr) (B : Heap) (sI : Shared) (pn : List (Addr × Obj)) (σ : L2.St) (H : Hp) (cls : Value) (d : Option Addr), u = .ref a ∧ Inv Y pn σ H sI ∧
    (∀ b o, sI.heap.get? b = some o → b ∉ frs Y.stack → B.get? b = some o) ∧ sI.heap.UpToSlots s'.heap ∧ HandSPX.FlyingZ B Y.stack a (Zc cls d) s'.heap ∧ H a = none ∧ s'.os = sI.os ∧ AllBare s'.gens ∧ E cls d H

theorem fell_of_call {Y : Cx} {pn : List (Addr × Obj)} {σ : L2.St} {H : Hp} {s s' : Shared} {E : XK} {u : Value} (I : Inv Y pn σ H s) (c : L2.CX Y.prog Y.w Y.stack H s E u s') : Fell Y E u s' := by
  obtain ⟨a, B, H', cls, d, eu, fl, hok, ub, na, eo, ag, hE⟩ := c
  obtain ⟨G, gin, gout⟩ := restrict s'.heap fun b => (B.get? b).isSome || decide (b ∈ frs Y.stack)
  have stay : B.StaysIn s'.heap := fl.1
  have ofB : ∀ b o, B.get? b = some o → G.get? b = some o := fun b o e => (gin b (by simp [e])).trans (stay b o e)
  have ofF : ∀ b, b ∈ frs Y.stack → G.get? b = s'.heap.get? b := fun b hb => gin b (by simp [hb])
  have back : ∀ b o, G.get? b = some o → s'.heap.get? b = some o ∧ ((B.get? b).isSome = true ∨ b ∈ frs Y.stack) := fun b o e => by
    by_cases q : ((B.get? b).isSome || decide (b ∈ frs Y.stack)) = true
    · exact ⟨(gin b q).symm.trans e, by simpa using q⟩
    · have z := gout b (by simpa using q)
      rw [z] at e
      cases e
  refine ⟨a, B, ⟨G, s'.gens, s'.drawn, s'.toks, s.os⟩, pn, σ, H', cls, d, eu, ?_, fun b o e hb => ?_, Heap.UpToSlots.of_keeps fun b o e => (back b o e).1, fl, na, eo, ag, hE⟩
  · exact I.call (ch := []) ⟨fun b o e n hb _ => ofB b o (ub.keep b o e n hb), fun b o e n hb _ => (ub.slot b o e hb).imp fun sl q => (ofF b hb).trans q, fun b o e n _ => ub.free b o e n,
      fun b o e _ => (Classical.em (b ∈ frs Y.stack)).elim (fun hb => let ⟨sl, q⟩ := ub.slot b o e hb; ⟨_, (ofF b hb).trans q⟩) (fun hb => let ⟨o', q⟩ := ub.there b o e hb; ⟨o', ofB b o' q⟩), ub.tups, ub.frzs, ub.tbls⟩
      (hok.kept ofB) ag (fun _ z => nomatch z)
  · obtain ⟨e1, h1⟩ := back b o e
    rcases h1 with h1 | h1
    · obtain ⟨o', q⟩ := Option.isSome_iff_exists.mp h1
      have z := stay b o' q
      rw [e1] at z
      cases z
      exact q
    · exact absurd h1 hb

/-- what may leave the block is passed on -/
theorem fell_passes {Y : Cx} {E : XK} : Passes (L2.CX (Y.wish (Fell Y E)).prog (Y.wish (Fell Y E)).w) (Y.wish (Fell Y E)) E := fun _ _ _ _ _ _ I c => fell_of_call I.unwish c

theorem flyingZ_less {B B' h : Heap} {l : List Env} {e : Addr} {Z : Obj → Prop} (x : HandSPX.FlyingZ B l e Z h) (sub : ∀ b o, B'.get? b = some o → B.get? b = some o) : HandSPX.FlyingZ B' l e Z h := by
  obtain ⟨k1, k2, k3, oe, vs, T, oT, ts, t1, t2, t3, t4, t5, t6⟩ := x
  have nn : ∀ b, B.get? b = none → B'.get? b = none := fun b n => by
    cases q : B'.get? b with
    | none => rfl
    | some o => rw [sub b o q] at n; cases n
  exact ⟨fun b o e => k1 b o (sub b o e), nn _ k2, funFrames_none k3 fun L hL => nn L (k3.mem hL).1, oe, vs, T, oT, ts, t1, t2, t3, t4, nn _ t5, t6⟩

theorem heldZ_but {B h h' : Heap} {l : List Env} {e L C : Addr} {Z : Obj → Prop} {m m' : Str → Option Value} (x : HandSPX.HeldZ B l e Z L h) (nB : B.get? C = none) (hn : h.Ns C m) (hn' : h'.Ns C m') (sb : Heap.SameBut C h h') : HandSPX.HeldZ B l e Z L h' := by
  obtain ⟨k1, k2, k3, oe, vs, T, oT, ts, t1, t2, t3, t4, t5, t6, t7, t8, t9⟩ := x
  obtain ⟨oC, es, ep, c1, c2, _⟩ := hn
  have ne1 : e ≠ C := fun z => by rw [z, c1] at t1; cases t1; rw [c2] at t3; cases t3
  have ne2 : T ≠ C := fun z => by rw [z, c1] at t7; cases t7; rw [c2] at t8; cases t8
  exact ⟨fun b o q => (sb.2 b fun z => by rw [z, nB] at q; cases q).trans (k1 b o q), k2, Heap.FunFrames.sameBut sb hn' k3, oe, vs, T, oT, ts, (sb.2 e ne1).trans t1, t2, t3, t4, t5, t6, (sb.2 T ne2).trans t7, t8, t9⟩

theorem UpToSlots.tr {a b c : Heap} (x : a.UpToSlots b) (y : b.UpToSlots c) : a.UpToSlots c := x.trans y

section
variable {X : Cx}
/-- the exception leaves the block and goes on in the def -/
theorem fell_out {Ex : XK} {pn : List (Addr × Obj)} {σ : L2.St} {H3 : Hp} {s3 s' : Shared} {scope : Scope} {ce : Env} {fp : List Addr} {u : Value}
    (hst : X.stack = X.env :: X.outer) (hfr : X.env.frame = some X.env.locals) (cfr : ce.frame = X.env.frame) (cL : ce.locals = s3.heap.objs.size)
    (tk : Takes X fun cls d _ H => Ex cls d H) (I3 : Inv X pn σ H3 s3)
    (f3 : ∀ b ∈ fp, FpOk X pn H3 b ∧ b < s3.heap.objs.size)
    (x : Fell (X.blk s3 H3 scope ce fp) Ex u s') : notedBy (model X.prog X.w) X.A ce (CompFails (model X.prog X.w) X.A X.xe ce) u s' := by
  obtain ⟨a, B, sI, pb, σb, Hb, cls, d, rfl, Ib, nb, up, fl, na, eo, ag, hE⟩ := x
  have fl : HandSPX.FlyingZ B X.stack a (Zc cls d) s'.heap := fl
  have nb : ∀ b o, sI.heap.get? b = some o → b ∉ frs X.stack → B.get? b = some o := nb
  -- the ground without the block's names
  obtain ⟨B', b1, b2⟩ := restrict B fun b => decide (b ≠ ce.locals)
  have sub : ∀ b o, B'.get? b = some o → B.get? b = some o := fun b o e => by
    by_cases q : b = ce.locals
    · have z := b2 b (by simp [q]); rw [z] at e; cases e
    · exact (b1 b (by simp [q])).symm.trans e
  have nBC : B'.get? ce.locals = none := b2 _ (by simp)
  have fl' := flyingZ_less fl sub
  -- back in the def's context, the block's names hidden
  have I7 : Inv X pn σ Hb sI := I3.call' (ch := fp) Ib.os Ib.base Ib.hok Ib.bare fun b hb => ⟨(f3 b hb).1.2.2.2.1, (f3 b hb).1.2.1, (f3 b hb).1.2.2.2.2.1, (f3 b hb).1.2.2.2.2.2⟩
  have nC : Hb ce.locals = none := Ib.free
  have fC : FpOk X pn Hb ce.locals := I3.fpOk (Nat.le_of_eq cL.symm) nC
  obtain ⟨G, g1, g2⟩ := restrict sI.heap fun b => decide (b ≠ ce.locals)
  obtain ⟨h0, h1, h2, h3, h4, h5⟩ := fC
  have I8 : Inv X pn σ Hb { sI with heap := G, toks := sI.toks } := I7.turned (fun b o hb e => (g1 b (by simp [hb])).trans e) h0 h1 h3 h4 h5
  have subG : ∀ b o, G.get? b = some o → b ≠ ce.locals ∧ sI.heap.get? b = some o := fun b o e => by
    by_cases q : b = ce.locals
    · have z := g2 b (by simp [q]); rw [z] at e; cases e
    · exact ⟨q, (g1 b (by simp [q])).symm.trans e⟩
  obtain ⟨m0, hn0, _⟩ := Ib.loc
  have hn0 : sI.heap.Ns ce.locals m0 := hn0
  have frA : X.A.frames = some (X.env :: X.outer) := by rw [I3.ok.frames, hst]
  rw [hst] at fl'
  show wpAny _ _ (noteFrame (.ref a) ce) _ _ s'
  rw [PySem.noteFrame_env _ cfr]
  refine HandSPX.looks_onZ Zc.steady frA hfr fl' fun k1 held1 upk => ?_
  have up1 : sI.heap.UpToSlots k1 := up.trans upk
  have hn1 : k1.Ns ce.locals m0 := hn0.upToSlots up1
  refine ⟨m0, hn1, fun k2 m2 hn2 sb => ?_⟩
  have held2 := heldZ_but held1 nBC hn1 hn2 sb
  obtain ⟨q1, q2, q3, oe, vs, T, oT, ts, t1, t2, t3, t4, t5⟩ := id held2
  unfold PySem.passOn
  refine wpAny_bind (wpAny_field t1 t3 t4 ?_)
  rw [if_neg (show ¬ ((Value.ref T == Value.none) = true) from by simp)]
  have fin : wpAny (model X.prog X.w) X.A (setFlight (.ref a) ce.frame) (fun _ s4 => wpAny (model X.prog X.w) X.A (throw (.ref a) : Sem Value) (fun _ _ => False) X.xe s4) X.xe { s' with heap := k2 } := by
    rw [cfr, hfr]
    refine HandSPX.setFlight_onZ held2 fun k3 held3 up3 => wpAny_throw (tk _ _ ?_)
    refine ⟨a, B', { sI with heap := G, toks := sI.toks }, pn, σ, Hb, cls, d, rfl, I8, fun b o e hb => ?_, fun b o e hnf => ?_, .inr (.inr (by rw [hst]; exact held3)), na, eo, ag, hE⟩
    · obtain ⟨z1, z2⟩ := subG b o e
      exact (b1 b (by simp [z1])).trans (nb b o z2 hb)
    · obtain ⟨z1, z2⟩ := subG b o e
      obtain ⟨sl, e1⟩ := up1 b o z2 hnf
      obtain ⟨sl', e2⟩ := up3 b _ ((sb.2 b z1).trans e1) hnf
      exact ⟨sl', e2⟩
  first
    | exact wpAny_bind (wpAny_pure (wpAny_bind fin))
    | exact wpAny_bind fin
end
section
variable {X : Cx}
/-- the reading of a comprehension whose element may raise what Ex wants -/
theorem lcx_core {Ex : XK} {pins : List (Addr × Obj)} {s : Shared} {σ : L2.St} {H : Hp} {Q : VK} {elt tg iter : Expr} {scope : Scope} {own : List (Str × Nat)} {pos pos' : Pos} {wi : TI} {g : TG} {te : TE} {use : Option (Value → Sem Unit)} {Qf : Value → Shared → Prop}
    (hc : X.calm = true) (hN : X.N.Nodup) (hst : X.stack = X.env :: X.outer) (hfr : X.env.frame = some X.env.locals) (tk : Takes X fun cls d _ H => Ex cls d H) (I : Inv X pins σ H s) (hi : PI X tg iter wi) (ok : BlkOk X.N X.env.scope scope own)
    (hg : ∀ (s : Shared) (H : Hp) (C : Addr) (cl : List (Str × Addr)) (fp : List Addr), PG (X.blk s H scope (compEnvC scope cl C X.env) fp) tg g)
    (he : ∀ (s : Shared) (H : Hp) (C : Addr) (cl : List (Str × Addr)) (fp : List Addr), PE ((X.blk s H scope (compEnvC scope cl C X.env) fp).wish (Fell (X.blk s H scope (compEnvC scope cl C X.env) fp) Ex)) elt te)
    (hs : ∀ x, foldedSetIterable iter X.env x = pure x) (h : tLc wi g tYes te (own.map (·.2)) σ H Q)
    (hRR : ∀ D ce s' m H', Inv X pins σ H' s' → Q (.ref D) H' → s'.heap.Ns ce.locals m → FpOk X pins H' ce.locals → compEnds (model X.prog X.w) X.A X.xe use Qf (.ref D) ce (.ok .next) s') :
    wpAny (model X.prog X.w) X.A (comprehension (.ListComp elt [⟨tg, iter, [], 0⟩] scope pos) scope X.env pos' (newList []) false (eval iter X.env) use) Qf X.xe s := by
  have frees : ∀ y ∈ scope.names, y.2 = .free → ∃ c, X.env.cells.lookup y.1 = some c := fun y hy e => (ok.free y hy e).elim (fun k => I.ok.has _ (.inl k)) fun k => I.ok.has _ (.inr k)
  refine comprehension_at (use := use) rfl hs (closure_ok frees) ok.kind (fun y hy e => (ok.uniq y hy).trans (congrArg some e)) (thn (hi.run pins s σ H _ I h) fun xv s1 hx => thn hx fun itv s2 h2 => ?_)
  obtain ⟨it, fp, tn, J, H2, eit, I2, T, st2, f2, q⟩ := h2
  subst eit
  refine wpAny_newObj_type (newEnv_comp ?_) (Nat.zero_le _)
  generalize hD : s2.heap.objs.size = D
  have freshD : H2 D = none := I2.hok.fresh (Nat.le_of_eq hD)
  obtain ⟨W, ⟨m0, w0⟩, turn⟩ := q D freshD
  generalize hs3 : ({ s2 with heap := s2.heap.push { cls := .type "list", data := .seq ([] : List Value).toArray } } : Shared) = s3
  have e3 : s3.heap = s2.heap.push { cls := .type "list", data := .seq ([] : List Value).toArray } := by rw [← hs3]
  have kept3 : ∀ b o, s2.heap.get? b = some o → s3.heap.get? b = some o := fun b o e => by rw [e3]; exact Heap.get?_push_of_some _ e
  have I3 : Inv X pins σ (upd H2 D (.lst [])) s3 := by
    subst hs3
    exact I2.laid (t' := s2.toks) kept3 (Nat.le_of_eq hD) ⟨Nat.zero_le _, [], 0, .nil, by rw [← hD]; exact Heap.get?_push_size _ rfl⟩
  have lt2 : ∀ b ∈ fp, b < s2.heap.objs.size := fun b hb => let ⟨o, e, _⟩ := T.obj _ _ st2 b hb; Heap.lt_size e
  have f3 : ∀ b ∈ fp, FpOk X pins (upd H2 D (.lst [])) b ∧ b < s3.heap.objs.size := fun b hb =>
    ⟨⟨(upd_ne (by rw [← hD]; exact Nat.ne_of_lt (lt2 b hb))).trans (f2 b hb).1, (f2 b hb).2⟩, by rw [e3, Heap.size_push]; exact Nat.lt_succ_of_lt (lt2 b hb)⟩
  have st3 : tn 0 s3.heap := T.keep _ _ _ st2 fun b _ o e => kept3 b o e
  have I4 := block_start I3 ok hN f3
  have pg := hg s3 (upd H2 D (.lst [])) s3.heap.objs.size (cellsFrom (s3.heap.objs.size + 1) scope.names (cloFrom X.env.cells scope.names [])) fp
  have pe := he s3 (upd H2 D (.lst [])) s3.heap.objs.size (cellsFrom (s3.heap.objs.size + 1) scope.names (cloFrom X.env.cells scope.names [])) fp
  show codeAny _ _ (.compStart (.ListComp elt [⟨tg, iter, [], 0⟩] scope pos) 0 (.ref it) (.ref D) (compEnvC scope (cellsFrom (s3.heap.objs.size + 1) scope.names (cloFrom X.env.cells scope.names [])) s3.heap.objs.size X.env))
    (compEnds (model X.prog X.w) X.A X.xe use Qf (.ref D) (compEnvC scope (cellsFrom (s3.heap.objs.size + 1) scope.names (cloFrom X.env.cells scope.names [])) s3.heap.objs.size X.env)) { s3 with heap := pushCells (s3.heap.push { cls := .type "dict", data := .dict #[] }) scope.names }
  have nfp : ∀ b ∈ fp, (upd H2 D (.lst [])) b = none := fun b hb => (f3 b hb).1.1
  have cfr : (compEnvC scope (cellsFrom (s3.heap.objs.size + 1) scope.names (cloFrom X.env.cells scope.names [])) s3.heap.objs.size X.env).frame = X.env.frame := rfl
  have cL : (compEnvC scope (cellsFrom (s3.heap.objs.size + 1) scope.names (cloFrom X.env.cells scope.names [])) s3.heap.objs.size X.env).locals = s3.heap.objs.size := rfl
  generalize compEnvC scope (cellsFrom (s3.heap.objs.size + 1) scope.names (cloFrom X.env.cells scope.names [])) s3.heap.objs.size X.env = ce at I4 pg pe cfr cL ⊢
  generalize upd H2 D (.lst []) = H3 at I3 I4 pg pe w0 nfp f3
  generalize hs4 : ({ s3 with heap := pushCells (s3.heap.push { cls := .type "dict", data := .dict #[] }) scope.names } : Shared) = s4 at I4 ⊢
  have st4 : tn 0 s4.heap := T.keep _ _ _ st3 fun b _ o e => by subst hs4; exact pushCells_keeps _ _ _ _ (Heap.get?_push_of_some _ e)
  have static : ∀ {σ' : L2.St} {H' : Hp} {s' : Shared}, Inv (X.blk s3 H3 scope ce fp) [] σ' H' s' → (∀ b ∈ fp, H' b = none) → ∀ b ∈ fp, FpOk (X.blk s3 H3 scope ce fp) [] H' b := fun {σ' H' s'} I' n b hb =>
    ⟨n b hb, (I'.ok.exf b hb).1, I'.ok.exfs b hb, .inl hb, fun x c e => (I'.ok.exf b hb).2 x c e, fun p hp => by cases hp⟩
  have loop : codeAny (model X.prog X.w) X.A (.compLoop (.ListComp elt [⟨tg, iter, [], 0⟩] scope pos) 0 (.ref it) (.ref D) ce) (compEnds (model X.prog X.w) X.A X.xe use Qf (.ref D) ce) s4 := by
    refine compLoop_any (fun n s' => ∃ i H', Inv (X.blk s3 H3 scope ce fp) [] (wipe σ (own.map (·.2))) H' s' ∧ tn i s'.heap ∧ (∀ b ∈ fp, H' b = none) ∧ W i n H') ?_ m0 ⟨0, H3, I4, st4, nfp, w0⟩
    rintro n s5 ⟨i, H5, I5, st5, n5, w5⟩
    rcases turn i n H5 w5 with ⟨stop, qq⟩ | ⟨go, Nx, hNx, step⟩
    · refine thnF (T.done (X.blk s3 H3 scope ce fp) rfl rfl rfl hc i [] s5 _ H5 (fun _ _ => False) I5 (static I5 n5) st5 stop) fun r s6 ⟨er, I6⟩ => ?_
      subst er
      have I7 : Inv X pins σ H5 s6 := I3.call' (ch := fp) I6.os I6.base I6.hok I6.bare fun b hb => ⟨(f3 b hb).1.2.2.2.1, (f3 b hb).1.2.1, (f3 b hb).1.2.2.2.2.1, (f3 b hb).1.2.2.2.2.2⟩
      have nC : H5 ce.locals = none := I6.free
      obtain ⟨m, hn, _⟩ := I6.loc
      exact hRR D ce s6 m H5 I7 qq hn (I3.fpOk (Nat.le_of_eq cL.symm) nC)
    · refine thnF (T.item (X.blk s3 H3 scope ce fp) rfl rfl rfl hc i [] s5 _ H5 (fun _ _ => False) I5 (static I5 n5) st5 go) fun r s6 ⟨u, er, h6⟩ => ?_
      subst er
      refine thnF h6 fun _ s7 ⟨x, H7, I7, r7, y7, st7, n7⟩ => ?_
      have I7' := I7.pinned (static I7 n7) (T.obj _ _ st7)
      refine thnF (pg.run _ s7 _ H7 x u _ I7' r7 (step x H7 y7)) fun _ s8 ⟨σ8, H8, I8, hw8, q8⟩ => ?_
      have q8 : te σ8 H8 fun y H4 => ∃ acc, H4 D = some (.lst acc) ∧ acc.length < sizeLine ∧ Nx (upd H4 D (.lst (acc ++ [y]))) := by simpa [tYes] using q8
      have fin : ∀ {s' : Shared} {H' : Hp}, Inv (X.blk s3 H3 scope ce fp) ([] ++ pinsAt fp s7.heap) σ8 H' s' → Nx H' → ∃ m, m < n ∧ ∃ i H', Inv (X.blk s3 H3 scope ce fp) [] (wipe σ (own.map (·.2))) H' s' ∧ tn i s'.heap ∧ (∀ b ∈ fp, H' b = none) ∧ W i m H' := fun {s' H'} I' nx => by
        obtain ⟨m', hm, w'⟩ := hNx H' nx
        have pinned : ∀ b ∈ fp, ∀ o, s7.heap.get? b = some o → s'.heap.get? b = some o ∧ H' b = none := fun b hb o e =>
          let z := I'.pin (b, o) (List.mem_append_right _ (List.mem_append_right _ (mem_pinsAt hb e)))
          ⟨z.1, z.2.1⟩
        have len8 : (wipe σ (own.map (·.2))).length = σ8.length := by rw [← hw8, wipe_length]
        refine ⟨m', hm, i + 1, H', (I'.unpinned (pins := [])).weak len8 (fun j v e => ?_), T.keep _ _ _ st7 fun b hb o e => (pinned b hb o e).1, fun b hb => ?_, w'⟩
        · rw [← hw8] at e
          exact (wipe_some e).1
        · obtain ⟨o, e, _⟩ := T.obj _ _ st7 b hb
          exact (pinned b hb o e).2
      refine wpAny_tests_nil ?_
      simp only [if_true]
      refine wpAny_mono (pe.run _ s8 σ8 H8 _ (I8.wish _) q8) (fun z s10 ⟨yv, H10, I10, r10, acc, hD10, hz10, nx⟩ => ?_) fun u' s' fe => fell_out hst hfr cfr cL tk I3 f3 fe
      exact app_ok (X := X.blk s3 H3 scope ce fp) I10.unwish hD10 hz10 r10 fun s11 I11 => fin I11 nx
  exact codeAny_compStart_list loop (T.self X.A 0 _ _ _ st4 loop)
/-- as a value -/
theorem pe_lcx {Ex : XK} {elt tg iter : Expr} {scope : Scope} {own : List (Str × Nat)} {pos : Pos} {wi : TI} {g : TG} {te : TE} (hst : X.stack = X.env :: X.outer) (hfr : X.env.frame = some X.env.locals) (tk : Takes X fun cls d _ H => Ex cls d H) (hc : X.calm = true) (hN : X.N.Nodup) (hi : PI X tg iter wi) (ok : BlkOk X.N X.env.scope scope own)
    (hg : ∀ (s : Shared) (H : Hp) (C : Addr) (cl : List (Str × Addr)) (fp : List Addr), PG (X.blk s H scope (compEnvC scope cl C X.env) fp) tg g)
    (he : ∀ (s : Shared) (H : Hp) (C : Addr) (cl : List (Str × Addr)) (fp : List Addr), PE ((X.blk s H scope (compEnvC scope cl C X.env) fp).wish (Fell (X.blk s H scope (compEnvC scope cl C X.env) fp) Ex)) elt te)
    (hs : ∀ x, foldedSetIterable iter X.env x = pure x := by intro _; rfl) : PE X (.ListComp elt [⟨tg, iter, [], 0⟩] scope pos) (tLc wi g tYes te (own.map (·.2))) := by
  refine ⟨fun pins s σ H Q I h => ?_⟩
  rw [eval_ListComp]
  refine lcx_core (use := none) hc hN hst hfr tk I hi ok hg he hs h fun D ce s' m H' I' q hn ⟨f0, f1, f2, f3, f4, f5⟩ => ⟨m, hn, fun h2 sb => ?_⟩
  exact ⟨.ref D, H', I'.turned (t' := s'.toks) (fun b o hb e => (sb.2 b hb).trans e) f0 f1 f3 f4 f5, rfl, q⟩
/-- y = [..], y a local -/
theorem ps_setLcx {Ex : XK} {i : Nat} {y : Str} {py : Pos} {elt tg iter : Expr} {scope : Scope} {own : List (Str × Nat)} {pos spos : Pos} {wi : TI} {g : TG} {te : TE} (hst : X.stack = X.env :: X.outer) (hfr : X.env.frame = some X.env.locals) (tk : Takes X fun cls d _ H => Ex cls d H) (hc : X.calm = true) (hN : X.N.Nodup)
    (hy : X.N[i]? = some y) (hyl : X.env.scope.names.lookup y = some .local) (hsw : swapsWith (.ListComp elt [⟨tg, iter, [], 0⟩] scope pos) (some (.Name y py)) spos.line X.env = pure true) (hi : PI X tg iter wi) (ok : BlkOk X.N X.env.scope scope own)
    (hg : ∀ (s : Shared) (H : Hp) (C : Addr) (cl : List (Str × Addr)) (fp : List Addr), PG (X.blk s H scope (compEnvC scope cl C X.env) fp) tg g)
    (he : ∀ (s : Shared) (H : Hp) (C : Addr) (cl : List (Str × Addr)) (fp : List Addr), PE ((X.blk s H scope (compEnvC scope cl C X.env) fp).wish (Fell (X.blk s H scope (compEnvC scope cl C X.env) fp) Ex)) elt te)
    (hs : ∀ x, foldedSetIterable iter X.env x = pure x := by intro _; rfl) : PS X (.Assign [.Name y py] (.ListComp elt [⟨tg, iter, [], 0⟩] scope pos) spos) (tAsg (tLc wi g tYes te (own.map (·.2))) (gName i)) := by
  refine ⟨fun pins s σ H D I h => ?_⟩
  rw [exec_Assign_Name_used _ _ _ _ hsw]
  refine wpAny_bind (wpAny_standAt (wpAny_bind ?_))
  show wpAny _ X.A (do let _ ← comprehension (.ListComp elt [⟨tg, iter, [], 0⟩] scope pos) scope X.env (firstIterPos [⟨tg, iter, [], 0⟩] pos) (newList []) false (eval iter X.env) (some (assign (.Name y py) X.env))) _ _ s
  have h' : tLc wi g tYes te (own.map (·.2)) σ H (fun x H1 => gName i x σ H1 D.nx) := h
  refine wpAny_bind (thn (lcx_core (Qf := fun _ s' => SP X pins D .next s') (use := some (assign (.Name y py) X.env)) hc hN hst hfr tk I hi ok hg he hs h' fun L ce s' m H' I' q hn ⟨f0, f1, f2, f3, f4, f5⟩ => ?_) fun _ s' hq => wpAny_pure (wpAny_pure hq))
  refine wpAny_assign_Name (store_ok2 (v := V.ref L) I' hN hy (.inl hyl) rfl (fun s2 I2 ⟨a, sb, ha⟩ => ?_) (.inr hyl))
  have apart : ce.locals ≠ a := ha.elim (fun z => by rw [z]; exact f1) fun z e => f4 y a z e.symm
  exact ⟨m, hn.sameBut sb apart, fun h3 sb3 => ⟨_, H', I2.turned (t' := s2.toks) (fun b o hb e => (sb3.2 b hb).trans e) f0 f1 f3 f4 f5, q⟩⟩
end
end Rj

set_option Elab.async false
set_option linter.all false
set_option maxRecDepth 100000
set_option maxHeartbeats 4000000
namespace Bs
open PySem L2
abbrev veB : List Value := [.type "ValueError", .type "Exception", .type "BaseException", .type "object"]
/-- the class InvalidShape at C -/
structure ShpC (K : PySem.W.Frag) (mg : Str → Option Value) (C : Addr) : Prop where
  gC : mg "InvalidShape" = some (.ref C)
  kC : PySem.W.keepIn K (.ref C) = true
  xC : PySem.W.excIn K C veB "ValueError.__new__" = true
  bC : PySem.W.subIn K (.ref C) (.type "BaseException") = some true
  tC : PySem.W.typeIn K (.ref C) = some (.type "type")
/-- a module's int -/
def GInt (mg : Str → Option Value) (x : Str) (i : Int) : Prop := ∃ t, mg x = some (.int i t)
def GStr (mg : Str → Option Value) (x : Str) (z : Str) : Prop := ∃ t, mg x = some (.str z t)
theorem pe_gint {X : Cx} {x : Str} {i : Int} {pos : Pos} (h : GInt X.mg x i) (hg : Gl X x) (hd : (x == ("__debug__" : Str)) = false := by decide) : PE X (.Name x pos) (tC (.int i)) := by
  obtain ⟨t, e⟩ := h
  exact pe_glob hg e ⟨t, rfl⟩ hd
theorem pe_gstr {X : Cx} {x : Str} {z : Str} {pos : Pos} (h : GStr X.mg x z) (hg : Gl X x) (hd : (x == ("__debug__" : Str)) = false := by decide) : PE X (.Name x pos) (tC (.str z)) := by
  obtain ⟨t, e⟩ := h
  exact pe_glob hg e ⟨t, rfl⟩ hd
/-- require: nothing, or the error -/
def spRequire (C : Addr) : Sp := fun vs H Q E => ∃ b z, vs = [.bl b, .str z] ∧ (b = true → Q .non H) ∧ (b = false → E (.ref C) none H)
/-- is_integer, of an int -/
def spIsInt : Sp := fun vs H Q _ => ∃ i lo hi : Int, vs = [.int i, .int lo, .int hi] ∧ Q (.bl (decide (lo ≤ i ∧ i ≤ hi))) H
section
variable {P : Program} {w : World} {K : PySem.W.Frag} {mg : Str → Option Value} {base : Heap} {f C : Addr} {fd : FuncData}
theorem scRequire : FnScope ["holds", "words"] ["holds", "words"] (defScope sRequire) := ⟨rfl, rfl, rfl, by decide +kernel, rfl, by decide +kernel, by decide +kernel⟩
theorem ok_require (F : Fun K "require" "require" sRequire f fd) (T : ShpC K mg C) : FnOk P w K mg base (L2.CX P w) 1 f fd ["holds", "words"] (spRequire C) := by
  refine F.okX scRequire (fun vs H Q E h => ?_) (fun cdv A outer s H vs Q E hr h => ?_)
  · obtain ⟨b, z, rfl, _⟩ := h
    rfl
  · obtain ⟨b, z, rfl, q1, q2⟩ := h
    refine ⟨_, pss_one (ps_if (pt_not (pt_val (pv 0))) (pss_one (ps_raise rfl (takes_of rfl rfl rfl rfl) (SkE.pmk_own1 PySem.F.excBase_ValueError T.xC T.gC T.kC (raises_own T.bC T.tC) rfl (pv 1)))) pss_nil), ?_⟩
    refine ⟨_, rfl, _, rfl, ?_⟩
    cases b with
    | true => exact iteF (q1 rfl)
    | false => exact iteT ⟨_, rfl, q2 rfl⟩
theorem scIsInt : FnScope ["value", "low", "high"] ["value", "low", "high"] (defScope sIsInteger) := ⟨rfl, rfl, rfl, by decide +kernel, rfl, by decide +kernel, by decide +kernel⟩
theorem ok_isint (F : Fun K "is_integer" "is_integer" sIsInteger f fd) (mi : mg "isinstance" = none) (mint : mg "int" = none) (mb : mg "bool" = none) : FnOk P w K mg base CX0 1 f fd ["value", "low", "high"] spIsInt := by
  refine F.ok scIsInt (fun vs H Q E h => ?_) (fun cdv A outer s H vs Q E hr h => ?_)
  · obtain ⟨i, lo, hi, rfl, _⟩ := h
    rfl
  · obtain ⟨i, lo, hi, rfl, q⟩ := h
    refine ⟨_, pss_one (ps_ret (pe_and (pe_callB call_isi (by rfl) mi (by decide +kernel) (pa_cons (pv 0) (pa_cons (pe_bltn (v := .ty "int") (by rfl) mint (by decide +kernel) rfl) pa_nil)))
      (pe_and (pe_not (pe_callB call_isi (by rfl) mi (by decide +kernel) (pa_cons (pv 0) (pa_cons (pe_bltn (v := .ty "bool") (by rfl) mb (by decide +kernel) rfl) pa_nil)))) (pe_one (pe_chain op_le op_le (pv 1) (pv 0) (pv 2)))))), ?_⟩
    refine ⟨_, rfl, _, _, _, _, true, rfl, .ty _, .base (.int _), kit_ty (by decide +kernel), _, rfl, iteT ?_⟩
    refine ⟨_, rfl, _, _, _, _, false, rfl, .ty _, .base (.int _), kit_ty (by decide +kernel), _, rfl, _, rfl, iteT ?_⟩
    refine ⟨_, rfl, _, rfl, _, _, rfl, rfl, _, rfl, ?_⟩
    by_cases c : lo ≤ i
    · rw [if_pos (decide_eq_true c)]
      refine ⟨_, rfl, _, _, rfl, rfl, ?_⟩
      show Q (.bl (decide (i ≤ hi))) H
      rw [show decide (i ≤ hi) = decide (lo ≤ i ∧ i ≤ hi) by simp [c]]
      exact q
    · rw [if_neg (by simpa using c)]
      rw [show decide (lo ≤ i ∧ i ≤ hi) = false by simp [c]] at q
      exact q
end
end Bs

set_option Elab.async false
set_option linter.all false
set_option maxRecDepth 100000
set_option maxHeartbeats 4000000
namespace Bs
open PySem L2
def spIsName : Sp := fun vs H Q _ => ∃ z : Str, vs = [.str z] ∧ z.length ≤ sizeLine ∧ ∀ H', Same H H' → Q (.bl (isName z)) H'
/-- is_row of a list or tuple -/
def spIsRow : Sp := fun vs H Q _ => ∃ (p : Addr) (xs : List V) (lo hi : Int), vs = [.ref p, .int lo, .int hi] ∧ RowAt false H p xs ∧ ∀ H', Same H H' → Q (.bl (decide (lo ≤ (xs.length : Int) ∧ (xs.length : Int) ≤ hi))) H'
theorem same_new {H : Hp} {p : Addr} (h : H p = none) (o : HO) : Same H (upd H p o) := fun b u q => by rw [upd_ne (ne_of_none q h)]; exact q
theorem same_set {H H' : Hp} {p : Addr} {o : HO} (s : Same H H') (h : H p = none) : Same H (upd H' p o) := fun b u q => by rw [upd_ne (ne_of_none q h)]; exact s b u q
theorem yes_go {te : TE} {σ : L2.St} {H : Hp} {R : V → Hp → Prop} {N : Hp → Prop} (h : te σ H R) : tYes σ H fun b H3 => if b = true then te σ H3 R else N H3 := by
  show if true = true then te σ H R else N H
  rw [if_pos rfl]
  exact h
theorem sizeLine_big : 16777216 = sizeLine := by decide
theorem le_line {n : Nat} (h : n ≤ 16777216) : n ≤ sizeLine := by rw [← sizeLine_big]; exact h
theorem nameOk_len {l : List Nat} (h : ¬ (1 ≤ l.length ∧ l.length ≤ 12)) : nameOk l = false := by
  cases l with
  | nil => rfl
  | cons c r =>
    have : ¬ r.length < 12 := fun q => h ⟨by simp, q⟩
    rw [nameOk, decide_eq_false this]; rfl
section
variable {P : Program} {w : World} {K : PySem.W.Frag} {mg : Str → Option Value} {base : Heap} {f C : Addr} {fd : FuncData}
theorem scIsName : FnScope ["text", "one"] ["text"] (defScope sIsName) := ⟨rfl, rfl, rfl, by decide +kernel, rfl, by decide +kernel, by decide +kernel⟩
theorem ok_isname (F : Fun K "is_name" "is_name" sIsName f fd) (mi : mg "isinstance" = none) (ms : mg "str" = none) (ml : mg "len" = none) (ma : mg "all" = none) (gL : GStr mg "LETTERS" letters) (gD : GStr mg "DIGITS" digits) (gN : GInt mg "LONGEST_NAME" 12) :
    FnOk P w K mg base CX0 1 f fd ["text"] spIsName := by
  refine F.ok scIsName (fun vs H Q E h => ?_) (fun cdv A outer s H vs Q E hr h => ?_)
  · obtain ⟨z, rfl, _⟩ := h
    rfl
  · obtain ⟨z, rfl, hz, q⟩ := h
    refine ⟨_, pss_cons (ps_if (PW.pt (pw_or (pt_not (pt_val (pe_callB call_isi (by rfl) mi (by decide +kernel) (pa_cons (pv 0) (pa_cons (pe_bltn (v := .ty "str") (by rfl) ms (by decide +kernel) rfl) pa_nil)))))
        (pw_or1 (pt_not (pt_chain op_le op_le pe_int (pe_callB call_len_str (by rfl) ml boot_len (pa_cons (pv 0) pa_nil)) (pe_gint gN rfl)))))) (pss_one (ps_ret pe_bl)) pss_nil)
      (pss_one (ps_ret (pe_and (pe_cmpR op_in_sign (pe_item_str (pv 0) pe_int (fun _ _ => rfl)) (pe_gstr gL rfl) rfl)
        (pe_one (pe_callB (cr_all rfl) (by rfl) ma (by decide +kernel) (pa_cons (pe_lc (own := [("one", 1)]) (g := gName 1) (tt := tYes) rfl scIsName.nd (pi_str (pv 0)) (blkOk_by (own := [("one", 1)]) (N := ["text", "one"]) (sc := defScope sIsName) (by decide +kernel))
          (fun _ _ _ _ _ => pg_name (i := 1) scIsName.nd rfl (Or.inl rfl)) (fun _ _ _ _ _ => pts_nil)
          (fun _ _ _ _ _ => pe_or (pe_cmpR op_in_sign (pv 1) (pe_gstr gL rfl) rfl) (pe_one (pe_cmpR op_in_sign (pv 1) (pe_gstr gD rfl) rfl)))) pa_nil)))))), ?_⟩
    refine ⟨_, rfl, _, _, _, _, true, rfl, .ty _, .base (.str _), kit_ty (by decide +kernel), _, rfl, ?_⟩
    refine iteF ?_
    refine ⟨_, rfl, z, rfl, hz, _, _, rfl, rfl, _, rfl, ?_⟩
    have hl : z.length = z.cps.toList.length := by simp [Str.length]
    have bad : ¬ (1 ≤ (z.length : Int) ∧ (z.length : Int) ≤ 12) → isName z = false := fun h => nameOk_len fun ⟨h1, h2⟩ => h (by rw [hl]; omega)
    have out : isName z = false → Q (.bl false) H := fun e => by have z := q H (Same.refl H); rw [e] at z; exact z
    refine ite2 (fun c => ?_) (fun c => ?_)
    · have c : 1 ≤ (z.length : Int) := of_decide_eq_true c
      refine ⟨_, _, rfl, rfl, _, rfl, ?_⟩
      refine ite2 (fun d => ?_) (fun d => ?_)
      · have d : ¬ (z.length : Int) ≤ 12 := by simpa using d
        exact out (bad fun h => d h.2)
      · have d : (z.length : Int) ≤ 12 := by simpa using d
        obtain ⟨a, r, hzr⟩ : ∃ a r, z.cps.toList = a :: r := by
          cases e : z.cps.toList with
          | nil => rw [hl, e] at c; simp at c
          | cons a r => exact ⟨a, r, rfl⟩
        have h0 : z.cps[0]? = some a := by rw [← Array.getElem?_toList, hzr]; rfl
        have hr12 : r.length < 12 := by rw [hl, hzr] at d; simp at d; omega
        have hN : isName z = (isLetter a && (a :: r).all isSign) := by
          show nameOk z.cps.toList = _
          rw [hzr, nameOk, decide_eq_true hr12]; rfl
        refine ⟨_, rfl, z, 0, a, rfl, rfl, by decide, by decide, by omega, h0, a, letters, rfl, rfl, _, rfl, ?_⟩
        refine ite2 (fun e => ?_) (fun e => ?_)
        · have e : isLetter a = true := e
          refine ⟨_, rfl, z, rfl, fun D hD => lc_it (walk_str (z := z)) (fun i H' => Same H H' ∧ H' D = some (.lst ((((a :: r).take i).map isSign).map V.bl))) ⟨same_new hD _, upd_same⟩ (fun _ _ _ _ => trivial) ?_ ?_⟩
          · rintro i x H1 H2 hi ⟨sm, hD1⟩ ⟨rfl, ch, hch, rfl⟩
            have hch' : (a :: r)[i]? = some ch := by rw [← hzr, Array.getElem?_toList]; exact hch
            have step : (a :: r).take (i + 1) = (a :: r).take i ++ [ch] := by rw [List.take_add_one, hch']; rfl
            have fin : ∀ b, b = isSign ch → Same H (upd H2 D (.lst ((((a :: r).take i).map isSign).map V.bl ++ [V.bl b]))) ∧ (upd H2 D (.lst ((((a :: r).take i).map isSign).map V.bl ++ [V.bl b]))) D = some (.lst ((((a :: r).take (i + 1)).map isSign).map V.bl)) := fun b eb => by
              refine ⟨same_set sm hD, ?_⟩
              rw [upd_same, step, eb, List.map_append, List.map_append]
              rfl
            have size : ((((a :: r).take i).map isSign).map V.bl).length < sizeLine := small1000 (by rw [List.length_map, List.length_map, List.length_take]; simp; omega)
            refine ⟨rfl, yes_go ?_⟩
            refine ⟨_, rfl, ch, letters, rfl, rfl, _, rfl, ?_⟩
            refine ite2 (fun g => ?_) (fun g => ?_)
            · exact ⟨_, hD1, size, fin true (by have g : isLetter ch = true := g; rw [isSign, g]; rfl)⟩
            · refine ⟨_, rfl, ch, digits, rfl, rfl, _, hD1, size, fin _ ?_⟩
              have g : isLetter ch = false := by simpa [isLetter] using g
              rw [isSign, g]; rfl
          · rintro H1 ⟨sm, hD1⟩
            have hn : z.cps.size = (a :: r).length := by rw [← hzr]; simp
            rw [hn, List.take_length] at hD1
            refine ⟨D, _, rfl, SqL.of hD1, ?_⟩
            have k := q H1 sm
            rw [hN, e] at k
            rw [List.all_map]
            exact k
        · have e : isLetter a = false := by simpa [isLetter] using e
          exact out (by rw [hN, e]; rfl)
    · have c : ¬ 1 ≤ (z.length : Int) := by simpa using c
      exact ⟨false, rfl, iteT (out (bad fun h => c h.1))⟩
theorem scIsRow : FnScope ["rows", "least", "most"] ["rows", "least", "most"] (defScope sIsRow) := ⟨rfl, rfl, rfl, by decide +kernel, rfl, by decide +kernel, by decide +kernel⟩
theorem ok_isrow (F : Fun K "is_row" "is_row" sIsRow f fd) (mi : mg "isinstance" = none) (ml : mg "len" = none) (mlist : mg "list" = none) (mtup : mg "tuple" = none) :
    FnOk P w K mg base CX0 1 f fd ["rows", "least", "most"] spIsRow := by
  refine F.ok scIsRow (fun vs H Q E h => ?_) (fun cdv A outer s H vs Q E hr h => ?_)
  · obtain ⟨p, xs, lo, hi, rfl, _⟩ := h
    rfl
  · obtain ⟨p, xs, lo, hi, rfl, hp, q⟩ := h
    refine ⟨_, pss_one (ps_ret (pe_and (pe_callB call_isiT (by rfl) mi (by decide +kernel) (pa_cons (pv 0) (pa_cons (pe_tup (pa_cons (pe_bltn (v := .ty "list") (by rfl) mlist (by decide +kernel) rfl) (pa_cons (pe_bltn (v := .ty "tuple") (by rfl) mtup (by decide +kernel) rfl) pa_nil))) pa_nil)))
      (pe_one (pe_chain op_le op_le (pv 1) (pe_callB call_len (by rfl) ml boot_len (pa_cons (pv 0) pa_nil)) (pv 2))))), ?_⟩
    refine ⟨_, rfl, (by show 2 ≤ sizeLine; decide), fun t ht => ?_⟩
    have s0 := same_new ht (.tup [.ty "list", .ty "tuple"])
    have h2 : RowAt false (upd H t (.tup [.ty "list", .ty "tuple"])) p xs := hp.same s0
    have cl : Paired ClsV [V.ty "list", V.ty "tuple"] [Value.type "list", Value.type "tuple"] := .cons (.ty _) (.cons (.ty _) .nil)
    obtain ⟨ty, hty, hk, hl⟩ : ∃ ty, TyX K (upd H t (.tup [.ty "list", .ty "tuple"])) (.ref p) ty ∧ PySem.W.kitAny K ty [Value.type "list", Value.type "tuple"] = some true ∧ LenV K (.ref p) (upd H t (.tup [.ty "list", .ty "tuple"])) xs.length := by
      rcases h2 with h2 | ⟨_, h2⟩
      · exact ⟨_, .base (.tup h2), kitAny_cons (kit_ty (b := "list") (r := false) (by decide +kernel)) (fun _ => kitAny_cons (kit_ty (r := true) (by decide +kernel)) (fun z => by cases z) (fun _ => rfl)) (fun z => by cases z), .inr ⟨_, SqT.of h2, rfl⟩⟩
      · exact ⟨_, .base (.lst h2), kitAny_cons (kit_ty (r := true) (by decide +kernel)) (fun z => by cases z) (fun _ => rfl), .inl ⟨_, SqL.of h2, rfl⟩⟩
    have z := q _ s0
    refine ⟨_, t, _, ty, _, true, rfl, upd_same, cl, hty, hk, _, rfl, iteT ?_⟩
    refine ⟨_, rfl, _, rfl, V.ref p, xs.length, rfl, hl, _, _, rfl, rfl, _, rfl, ite2 (fun c => ?_) (fun c => ?_)⟩
    · have c : lo ≤ (xs.length : Int) := of_decide_eq_true c
      refine ⟨_, rfl, _, _, rfl, rfl, ?_⟩
      show Q (.bl (decide ((xs.length : Int) ≤ hi))) _
      rw [show decide ((xs.length : Int) ≤ hi) = decide (lo ≤ (xs.length : Int) ∧ (xs.length : Int) ≤ hi) by simp [c]]
      exact z
    · have c : ¬ lo ≤ (xs.length : Int) := by simpa using c
      rw [show decide (lo ≤ (xs.length : Int) ∧ (xs.length : Int) ≤ hi) = false by simp [c]] at z
      exact z
end
end Bs

set_option Elab.async false
set_option linter.all false
set_option maxRecDepth 100000
set_option maxHeartbeats 4000000
namespace Bs
open PySem L2
/-! ### calls in short -/
structure Cal (P : Program) (w : World) (K : PySem.W.Frag) (mg : Str → Option Value) (base : Heap) (CX : CXT) (k : Nat) (x : Str) (ps : List Str) (sp : Sp) : Prop where
  ex : ∃ (f : Addr) (fd : FuncData), mg x = some (.ref f) ∧ PySem.W.keepIn K (.ref f) = true ∧ Binds K fd ps [] ∧ FnOk P w K mg base CX k f fd ps sp
def tCl (sp : Sp) (E : XK) (t : TA) : TE := fun σ H Q => t σ H fun vs H1 => sp vs H1 Q E
theorem tCall_nil {sp : Sp} {E : XK} {t : TA} : tCall sp [] E t = tCl sp E t := by
  funext σ H Q
  show t σ H (fun vs H1 => sp (vs ++ []) H1 Q E) = _
  congr
  funext vs H1
  rw [List.append_nil]
/-- x(e, ..), x a def of the text -/
theorem pe_cal {X : Cx} {CX : CXT} {k : Nat} {x : Str} {ps : List Str} {sp : Sp} {E : XK} {e : Expr} {es : List Expr} {t : TA} {p pos : Pos} (G : Cal X.prog X.w X.K X.mg X.base CX k x ps sp) (hr : Room k X.A) (hx : Passes CX X E) (ha : PA X (e :: es) t) (hg : Gl X x := by rfl)
    (hdb : (x == ("__debug__" : Str)) = false := by decide) (he : starEach (e :: es) X.env = (false, eval e X.env) :: starEach es X.env := by rfl) (hpl : (backTo pos (starEach es X.env)).any (·.1) = false := by rfl) :
    PE X (.Call (.Name x p) (e :: es) [] pos) (tCl sp E t) := by
  obtain ⟨f, fd, h1, h2, h3, h4⟩ := G.ex
  rw [← tCall_nil]
  exact pe_call h4 hr hg h1 h2 h3 .nil hx ha hdb he hpl
/-- x in a list or a tuple -/
def RowR (K : PySem.W.Frag) (a : Addr) (R : L2.It → Hp → Prop) (H : Hp) : Prop := ((∃ xs, SqL K H a xs) ∧ R (Itl K a) H) ∨ ((∃ xs, SqT K H a xs) ∧ R (Itt K a) H)
def iRow (K : PySem.W.Frag) (tl : TE) : TI := fun σ H R => tl σ H fun x H1 => ∃ a, x = .ref a ∧ RowR K a R H1
theorem pi_row {X : Cx} {tg l : Expr} {tl : TE} (hl : PE X l tl) : PI X tg l (iRow X.K tl) := by
  refine ⟨fun pins s σ H R I h => thn (hl.run pins s σ H _ I h) fun v s1 ⟨x, H1, I1, r1, a, ex, q1⟩ => ?_⟩
  subst ex
  cases r1
  rcases q1 with ⟨⟨xs, hq⟩, q⟩ | ⟨⟨xs, hq⟩, q⟩
  · obtain ⟨its, rv, p, hz⟩ := I1.list hq
    exact wpAny_pyIter_list p.isList (pi_one (tk := s1.toks) I1 _ (turn_list a _) ⟨_, Heap.get?_push_size _ rfl, rfl, rfl⟩ q)
  · obtain ⟨its, rv, p, hz⟩ := I1.tuple hq
    exact PySem.wpAny_pyIter_tuple (show s1.heap.IsTuple a its.toArray from p) (pi_one (tk := s1.toks) I1 _ (turn_tuple a _) ⟨_, Heap.get?_push_size _ rfl, rfl, rfl⟩ q)
theorem row_go {K : PySem.W.Frag} {H : Hp} {p : Addr} {xs : List V} {R : L2.It → Hp → Prop} (hp : RowAt false H p xs) (h : ∀ J, Walk J xs.length (fun H' => Same H H') (YAt xs) → R J H) : RowR K p R H := by
  rcases hp with hp | ⟨_, hp⟩
  · exact .inr ⟨⟨xs, SqT.of hp⟩, h _ (walk_tup.mono (fun H' s => SqT.of (s _ _ hp)) fun _ _ _ _ _ _ y => y)⟩
  · exact .inl ⟨⟨xs, SqL.of hp⟩, h _ (walk_list.mono (fun H' s => SqL.of (s _ _ hp)) fun _ _ _ _ _ _ y => y)⟩
theorem row_go2 {K : PySem.W.Frag} {H0 H : Hp} {p : Addr} {xs : List V} {R : L2.It → Hp → Prop} (hp : RowAt false H0 p xs) (s0 : Same H0 H) (h : ∀ J, Walk J xs.length (fun H' => Same H0 H') (YAt xs) → R J H) : RowR K p R H := by
  rcases hp with hp | ⟨_, hp⟩
  · exact .inr ⟨⟨xs, SqT.of (s0 _ _ hp)⟩, h _ (walk_tup.mono (fun H' s => SqT.of (s _ _ hp)) fun _ _ _ _ _ _ y => y)⟩
  · exact .inl ⟨⟨xs, SqL.of (s0 _ _ hp)⟩, h _ (walk_list.mono (fun H' s => SqL.of (s _ _ hp)) fun _ _ _ _ _ _ y => y)⟩

/-! ### what is small enough: names; amounts are numbers -/
mutual
def It.tame : It → Prop
  | .byt n amt => n.length ≤ 1000 ∧ ∀ z, amt = .inr z → z.length ≤ 1000 ∧ (reprText z).length ≤ 1000
  | .rep n amt b => n.length ≤ 1000 ∧ (∀ z, amt = .inr z → z.length ≤ 1000 ∧ (reprText z).length ≤ 1000) ∧ b.tame
  | .eit n bs => n.length ≤ 1000 ∧ bs.tame
  | .swi n _ bs => n.length ≤ 1000 ∧ bs.vals.Nodup ∧ bs.tame
  | x => x.name.length ≤ 1000
def Its.tame : Its → Prop
  | .nil => True
  | .cons x r => x.tame ∧ r.tame
def Blks.tame : Blks → Prop
  | .nil => True
  | .cons _ b r => b.tame ∧ r.tame
end
theorem It.tame_name : ∀ {x : It}, x.tame → x.name.length ≤ 1000
  | .num .., h => by simpa only [It.tame] using h
  | .byt .., h => by simp only [It.tame] at h; exact h.1
  | .txt .., h => by simpa only [It.tame] using h
  | .rep .., h => by simp only [It.tame] at h; exact h.1
  | .eit .., h => by simp only [It.tame] at h; exact h.1
  | .swi .., h => by simp only [It.tame] at h; exact h.1
  | .chk .., h => by simpa only [It.tame] using h
  | .pad .., h => by simpa only [It.tame] using h
theorem At_get {fz : Bool} {H : Hp} : ∀ {x : Its} {l : List V} {i : Nat} {v : V}, x.At fz H l → l[i]? = some v → ∃ y : It, y.At fz H v ∧ (x.tame → y.tame) ∧ (∀ d, x.ok d = true → y.ok d = true)
  | .nil, l, i, v, h, e => by simp only [Its.At] at h; subst h; simp at e
  | .cons y r, l, i, v, h, e => by
    simp only [Its.At] at h
    obtain ⟨v0, l', rfl, h1, h2⟩ := h
    cases i with
    | zero =>
      simp at e
      subst e
      exact ⟨y, h1, fun t => by simp only [Its.tame] at t; exact t.1, fun d t => by simp only [Its.ok, Bool.and_eq_true] at t; exact t.1⟩
    | succ i =>
      obtain ⟨z, a, b, c⟩ := At_get (i := i) h2 (by simpa using e)
      exact ⟨z, a, fun t => b (by simp only [Its.tame] at t; exact t.2), fun d t => c d (by simp only [Its.ok, Bool.and_eq_true] at t; exact t.2)⟩
/-- the first i items, the rest -/
def Its.take : Nat → Its → Its
  | 0, _ => .nil
  | _ + 1, .nil => .nil
  | i + 1, .cons x r => .cons x (r.take i)
def Its.get : Its → Nat → Option It
  | .nil, _ => none
  | .cons x _, 0 => some x
  | .cons _ r, i + 1 => r.get i
theorem At_item {fz : Bool} {H : Hp} : ∀ {x : Its} {l : List V} {i : Nat} {v : V}, x.At fz H l → l[i]? = some v → ∃ y, x.get i = some y ∧ y.At fz H v
  | .nil, l, i, v, h, e => by simp only [Its.At] at h; subst h; simp at e
  | .cons y r, l, i, v, h, e => by
    simp only [Its.At] at h
    obtain ⟨v0, l', rfl, h1, h2⟩ := h
    cases i with
    | zero => simp at e; subst e; exact ⟨y, rfl, h1⟩
    | succ i => exact At_item (i := i) h2 (by simpa using e)
theorem get_tame : ∀ {x : Its} {i : Nat} {y : It}, x.tame → x.get i = some y → y.tame
  | .nil, _, _, _, e => by simp [Its.get] at e
  | .cons x r, 0, y, t, e => by simp [Its.get] at e; subst e; simp only [Its.tame] at t; exact t.1
  | .cons x r, i + 1, y, t, e => by simp only [Its.tame] at t; exact get_tame t.2 e
theorem get_ok : ∀ {x : Its} {i : Nat} {y : It} {d : Int}, x.get i = some y → y.ok d = false → x.ok d = false
  | .nil, _, _, _, e, _ => by simp [Its.get] at e
  | .cons x r, 0, y, d, e, f => by simp [Its.get] at e; subst e; simp [Its.ok, f]
  | .cons x r, i + 1, y, d, e, f => by simp [Its.ok, get_ok (x := r) e f]
theorem take_at {fz : Bool} {H H' : Hp} (s : Same H H') : ∀ {x : Its} {i : Nat} {l : List V} {y : It} {v : V}, (x.take i).At fz H l → x.get i = some y → y.At fz H' v → (x.take (i + 1)).At fz H' (l ++ [v])
  | .nil, _, _, _, _, _, e, _ => by simp [Its.get] at e
  | .cons x r, 0, l, y, v, h, e, g => by
    simp only [Its.take, Its.At] at h
    simp [Its.get] at e
    subst h e
    simp only [Its.take, Its.At]
    exact ⟨v, [], rfl, g, by simp [Its.At]⟩
  | .cons x r, i + 1, l, y, v, h, e, g => by
    simp only [Its.take, Its.At] at h
    obtain ⟨v0, l', rfl, h1, h2⟩ := h
    show (Its.cons x (r.take (i + 1))).At fz H' (v0 :: l' ++ [v])
    simp only [Its.At]
    exact ⟨v0, l' ++ [v], rfl, h1.same s, take_at s h2 e g⟩
theorem get_lt : ∀ {x : Its} {i : Nat} {y : It}, x.get i = some y → i < x.len
  | .nil, _, _, e => by simp [Its.get] at e
  | .cons x r, 0, _, _ => by simp [Its.len]
  | .cons x r, i + 1, _, e => by simp [Its.len]; exact get_lt (x := r) e
theorem take_all : ∀ (x : Its), x.take x.len = x
  | .nil => rfl
  | .cons x r => by simp [Its.len, Its.take, take_all r]
theorem all_ok : ∀ {x : Its} {d : Int}, (∀ i y, x.get i = some y → y.ok d = true) → x.ok d = true
  | .nil, _, _ => by simp [Its.ok]
  | .cons x r, d, h => by simp [Its.ok, h 0 x rfl, all_ok (x := r) fun i y e => h (i + 1) y e]

/-! ### the copies -/
def spCopItem (C : Addr) (n : Nat) : Sp := fun vs H Q E => ∃ (v : V) (x : It) (d : Int), vs = [v, .int d] ∧ d + n = 3 ∧ x.At false H v ∧ x.tame ∧
  (x.ok d = true → ∀ v' H', Same H H' → x.At true H' v' → Q v' H') ∧ (x.ok d = false → ∀ H', Same H H' → E (.ref C) none H')
def spCopList (C : Addr) (n : Nat) : Sp := fun vs H Q E => ∃ (a : Addr) (x : Its) (xs : List V) (d : Int), vs = [.ref a, .int d] ∧ d + n = 3 ∧ RowAt false H a xs ∧ x.At false H xs ∧ x.tame ∧
  ((decide (x.len ≤ 12) && x.ok d) = true → ∀ p ys H', Same H H' → H' p = some (.tup ys) → x.At true H' ys → Q (.ref p) H') ∧ ((decide (x.len ≤ 12) && x.ok d) = false → ∀ H', Same H H' → E (.ref C) none H')
section
variable {P : Program} {w : World} {K : PySem.W.Frag} {mg : Str → Option Value} {base : Heap} {f C : Addr} {fd : FuncData}
theorem scCopList : FnScope ["items", "depth", "item"] ["items", "depth"] (defScope sCopList) := ⟨rfl, rfl, rfl, by decide +kernel, rfl, by decide +kernel, by decide +kernel⟩
theorem ok_coplist {n k : Nat} (F : Fun K "copied_list" "copied_list" sCopList f fd) (hk : 2 ≤ k) (gR : Cal P w K mg base (L2.CX P w) 1 "require" ["holds", "words"] (spRequire C)) (gI : Cal P w K mg base CX0 1 "is_row" ["rows", "least", "most"] spIsRow) (gL : GInt mg "LONGEST_LIST" 12)
    (mt : mg "tuple" = none) (gC : Cal P w K mg base (L2.CX P w) k "copied_item" ["item", "depth"] (spCopItem C n)) : FnOk P w K mg base (L2.CX P w) (k + 1) f fd ["items", "depth"] (spCopList C n) := by
  refine F.okX scCopList (fun vs H Q E h => ?_) (fun cdv A outer s H vs Q E hr h => ?_)
  · obtain ⟨a, x, xs, d, rfl, _⟩ := h
    rfl
  · obtain ⟨a, x, xs, d, rfl, hd, hrow, hat, ht, q1, q2⟩ := h
    have hr1 : Room 1 _ := hr.mono (by omega)
    have tk : Takes (cxOf (L2.CX P w) P w K mg base ["items", "depth", "item"] "copied_list" (defScope sCopList) f cdv A outer s H E) (fun cls d _ H => E cls d H) := takes_of rfl rfl rfl rfl
    have hx := passes_call tk (E := E) fun _ _ _ _ h => h
    refine ⟨_, pss_cons (ps_expr (pe_cal gR hr1 hx (pa_cons (pe_cal gI hr1 pass0 (pa_cons (pv 0) (pa_cons pe_int (pa_cons (pe_gint gL rfl) pa_nil)))) (pa_cons (pe_joined (.cons pe_str (.cons (pe_fmt (pe_gint gL rfl)) (.cons pe_str .nil)))) pa_nil))))
      (pss_one (ps_ret (pe_tupleOf rfl mt (Rj.pe_lcx (Ex := E) (own := [("item", 2)]) (g := gName 2) rfl rfl tk rfl scCopList.nd (pi_row (pv 0)) (blkOk_by (own := [("item", 2)]) (N := ["items", "depth", "item"]) (sc := defScope sCopList) (by decide +kernel))
        (fun _ _ _ _ _ => pg_name (i := 2) scCopList.nd rfl (Or.inl rfl)) (fun _ _ _ _ _ => pe_cal gC hr Rj.fell_passes (pa_cons (pv 2) (pa_cons (pv 1) pa_nil))))))), ?_⟩
    refine ⟨_, rfl, _, _, _, _, rfl, hrow, fun H1 s1 => ?_⟩
    refine ⟨_, rfl, by decide +kernel, .inr ⟨12, rfl, by decide +kernel, _, rfl, by decide +kernel, _, rfl, by decide +kernel, ?_⟩⟩
    have el := hat.len
    refine ⟨_, _, rfl, fun e => ?_, fun e => ?_⟩
    · have e : x.len ≤ 12 := by have := of_decide_eq_true e; rw [el] at this; omega
      rw [decide_eq_true e, Bool.true_and] at q1 q2
      have hrow1 := hrow.same s1
      refine ⟨_, rfl, _, rfl, ?_⟩
      refine row_go hrow1 (fun J wk => ?_)
      intro D hD
      refine lc_it wk (fun i H' => Same H1 H' ∧ ∃ acc, H' D = some (.lst acc) ∧ acc.length = i ∧ (x.take i).At true H' acc ∧ ∀ j < i, ∀ y, x.get j = some y → y.ok d = true)
        ⟨same_new hD _, [], upd_same, rfl, by simp [Its.take, Its.At], fun j hj => absurd hj (Nat.not_lt_zero j)⟩ (fun _ _ _ h => h.1) ?_ ?_
      · rintro i v H2 H3 hi ⟨s2, acc, hacc, hlen, hat2, hok⟩ ⟨e3, hv⟩
        subst e3
        obtain ⟨y, gy, ay⟩ := At_item (hat.same (s1.trans s2)) hv
        refine ⟨rfl, yes_go ?_⟩
        refine ⟨_, rfl, _, rfl, v, y, d, rfl, hd, ay, get_tame ht gy, fun oky v' H4 s4 a4 => ?_, fun no H4 s4 => q2 (get_ok gy no) H4 (s1.trans (s2.trans s4))⟩
        refine ⟨acc, s4 _ _ hacc, small1000 (by omega), same_set (s2.trans s4) hD, acc ++ [v'], upd_same, by simp [hlen], ?_, fun j hj z gz => ?_⟩
        · exact (take_at s4 hat2 gy a4).kp (.wr (s4 _ _ hacc))
        · by_cases hji : j = i
          · subst hji
            rw [gy] at gz
            cases gz
            exact oky
          · exact hok j (by omega) z gz
      · rintro H2 ⟨s2, acc, hacc, hlen, hat2, hok⟩
        refine .inl ⟨D, acc, rfl, SqL.of hacc, fun p hp => ?_⟩
        have okx : x.ok d = true := all_ok fun i y g => hok i (by rw [el]; exact get_lt g) y g
        rw [el, take_all] at hat2
        exact q1 okx p acc _ (s1.trans (same_set s2 (s2.free hp))) upd_same (hat2.same (same_new hp _))
    · have e : ¬ x.len ≤ 12 := fun z => by have := of_decide_eq_false e; rw [el] at this; omega
      rw [decide_eq_false e, Bool.false_and] at q2
      exact q2 rfl H1 s1
end
end Bs

set_option Elab.async false
set_option linter.all false
set_option maxRecDepth 100000
set_option maxHeartbeats 4000000
namespace Bs
open PySem L2
def Blks.take : Nat → Blks → Blks
  | 0, _ => .nil
  | _ + 1, .nil => .nil
  | i + 1, .cons v b r => .cons v b (r.take i)
def Blks.get : Blks → Nat → Option (Int × Its)
  | .nil, _ => none
  | .cons v b _, 0 => some (v, b)
  | .cons _ _ r, i + 1 => r.get i
theorem AtE_item {fz : Bool} {H : Hp} : ∀ {x : Blks} {l : List V} {i : Nat} {v : V}, x.AtE fz H l → l[i]? = some v → ∃ c b q xs, x.get i = some (c, b) ∧ v = .ref q ∧ RowAt fz H q xs ∧ b.At fz H xs
  | .nil, l, i, v, h, e => by simp only [Blks.AtE] at h; subst h; simp at e
  | .cons c b r, l, i, v, h, e => by
    simp only [Blks.AtE] at h
    obtain ⟨q, xs, l', rfl, h1, h2, h3⟩ := h
    cases i with
    | zero => simp at e; subst e; exact ⟨c, b, q, xs, rfl, rfl, h1, h2⟩
    | succ i => exact AtE_item (i := i) h3 (by simpa using e)
theorem AtS_item {fz : Bool} {H : Hp} : ∀ {x : Blks} {l : List V} {i : Nat} {v : V}, x.AtS fz H l → l[i]? = some v → ∃ c b p q xs, x.get i = some (c, b) ∧ v = .ref p ∧ H p = some (.tup [.int c, .ref q]) ∧ RowAt fz H q xs ∧ b.At fz H xs
  | .nil, l, i, v, h, e => by simp only [Blks.AtS] at h; subst h; simp at e
  | .cons c b r, l, i, v, h, e => by
    simp only [Blks.AtS] at h
    obtain ⟨p, q, xs, l', rfl, h0, h1, h2, h3⟩ := h
    cases i with
    | zero => simp at e; subst e; exact ⟨c, b, p, q, xs, rfl, rfl, h0, h1, h2⟩
    | succ i => exact AtS_item (i := i) h3 (by simpa using e)
theorem getB_tame : ∀ {x : Blks} {i : Nat} {c : Int} {b : Its}, x.tame → x.get i = some (c, b) → b.tame
  | .nil, _, _, _, _, e => by simp [Blks.get] at e
  | .cons v b r, 0, c, y, t, e => by simp [Blks.get] at e; simp only [Blks.tame] at t; rw [← e.2]; exact t.1
  | .cons v b r, i + 1, c, y, t, e => by simp only [Blks.tame] at t; exact getB_tame t.2 e
theorem getB_ok : ∀ {x : Blks} {i : Nat} {c : Int} {b : Its} {d : Int}, x.get i = some (c, b) → (decide (b.len ≤ 12) && b.ok d) = false → x.ok d = false
  | .nil, _, _, _, _, e, _ => by simp [Blks.get] at e
  | .cons v b r, 0, c, y, d, e, f => by simp only [Blks.get, Option.some.injEq, Prod.mk.injEq] at e; obtain ⟨rfl, rfl⟩ := e; rw [Blks.ok, f]; rfl
  | .cons v b r, i + 1, c, y, d, e, f => by rw [Blks.ok, getB_ok (x := r) e f]; simp
theorem getB_lt : ∀ {x : Blks} {i : Nat} {y : Int × Its}, x.get i = some y → i < x.len
  | .nil, _, _, e => by simp [Blks.get] at e
  | .cons _ _ r, 0, _, _ => by simp [Blks.len]
  | .cons _ _ r, i + 1, _, e => by simp [Blks.len]; exact getB_lt (x := r) e
theorem takeB_all : ∀ (x : Blks), x.take x.len = x
  | .nil => rfl
  | .cons v b r => by simp [Blks.len, Blks.take, takeB_all r]
theorem allB_ok : ∀ {x : Blks} {d : Int}, (∀ i c b, x.get i = some (c, b) → (decide (b.len ≤ 12) && b.ok d) = true) → x.ok d = true
  | .nil, _, _ => by simp [Blks.ok]
  | .cons v b r, d, h => by rw [Blks.ok, h 0 v b rfl, allB_ok (x := r) fun i c y e => h (i + 1) c y e]; rfl
theorem takeE_at {fz : Bool} {H H' : Hp} (s : Same H H') {q : Addr} {xs : List V} : ∀ {x : Blks} {i : Nat} {l : List V} {c : Int} {b : Its}, (x.take i).AtE fz H l → x.get i = some (c, b) → RowAt fz H' q xs → b.At fz H' xs → (x.take (i + 1)).AtE fz H' (l ++ [.ref q])
  | .nil, _, _, _, _, _, e, _, _ => by simp [Blks.get] at e
  | .cons v x r, 0, l, c, b, h, e, g, k => by
    simp only [Blks.take, Blks.AtE] at h
    simp only [Blks.get, Option.some.injEq, Prod.mk.injEq] at e
    obtain ⟨rfl, rfl⟩ := e
    subst h
    simp only [Blks.take, Blks.AtE]
    exact ⟨q, xs, [], rfl, g, k, by simp [Blks.AtE]⟩
  | .cons v x r, i + 1, l, c, b, h, e, g, k => by
    simp only [Blks.take, Blks.AtE] at h
    obtain ⟨q0, xs0, l', rfl, h1, h2, h3⟩ := h
    show (Blks.cons v x (r.take (i + 1))).AtE fz H' (.ref q0 :: l' ++ [.ref q])
    simp only [Blks.AtE]
    exact ⟨q0, xs0, l' ++ [.ref q], rfl, h1.same s, h2.same s, takeE_at s h3 e g k⟩
theorem takeS_at {fz : Bool} {H H' : Hp} (s : Same H H') {p q : Addr} {xs : List V} : ∀ {x : Blks} {i : Nat} {l : List V} {c : Int} {b : Its}, (x.take i).AtS fz H l → x.get i = some (c, b) → H' p = some (.tup [.int c, .ref q]) → RowAt fz H' q xs → b.At fz H' xs → (x.take (i + 1)).AtS fz H' (l ++ [.ref p])
  | .nil, _, _, _, _, _, e, _, _, _ => by simp [Blks.get] at e
  | .cons v x r, 0, l, c, b, h, e, z, g, k => by
    simp only [Blks.take, Blks.AtS] at h
    simp only [Blks.get, Option.some.injEq, Prod.mk.injEq] at e
    obtain ⟨rfl, rfl⟩ := e
    subst h
    simp only [Blks.take, Blks.AtS]
    exact ⟨p, q, xs, [], rfl, z, g, k, by simp [Blks.AtS]⟩
  | .cons v x r, i + 1, l, c, b, h, e, z, g, k => by
    simp only [Blks.take, Blks.AtS] at h
    obtain ⟨p0, q0, xs0, l', rfl, h0, h1, h2, h3⟩ := h
    show (Blks.cons v x (r.take (i + 1))).AtS fz H' (.ref p0 :: l' ++ [.ref p])
    simp only [Blks.AtS]
    exact ⟨p0, q0, xs0, l' ++ [.ref p], rfl, s _ _ h0, h1.same s, h2.same s, takeS_at s h3 e z g k⟩

def spCopChoices (C : Addr) (n : Nat) : Sp := fun vs H Q E => ∃ (a : Addr) (x : Blks) (xs : List V) (d : Int), vs = [.ref a, .int d] ∧ d + n = 3 ∧ RowAt false H a xs ∧ x.AtE false H xs ∧ x.tame ∧
  ((decide (2 ≤ x.len ∧ x.len ≤ 4) && x.ok d) = true → ∀ p ys H', Same H H' → H' p = some (.tup ys) → x.AtE true H' ys → Q (.ref p) H') ∧ ((decide (2 ≤ x.len ∧ x.len ≤ 4) && x.ok d) = false → ∀ H', Same H H' → E (.ref C) none H')
def spCopCases (C : Addr) (n : Nat) : Sp := fun vs H Q E => ∃ (a : Addr) (x : Blks) (xs : List V) (d : Int), vs = [.ref a, .int d] ∧ d + n = 3 ∧ RowAt false H a xs ∧ x.AtS false H xs ∧ x.tame ∧
  ((decide (1 ≤ x.len ∧ x.len ≤ 8) && x.ok d) = true → ∀ p ys H', Same H H' → H' p = some (.tup ys) → x.AtS true H' ys → Q (.ref p) H') ∧ ((decide (1 ≤ x.len ∧ x.len ≤ 8) && x.ok d) = false → ∀ H', Same H H' → E (.ref C) none H')
section
variable {P : Program} {w : World} {K : PySem.W.Frag} {mg : Str → Option Value} {base : Heap} {f C : Addr} {fd : FuncData}
theorem scCopChoices : FnScope ["choices", "depth", "choice"] ["choices", "depth"] (defScope sCopChoices) := ⟨rfl, rfl, rfl, by decide +kernel, rfl, by decide +kernel, by decide +kernel⟩
theorem ok_copchoices {n k : Nat} (F : Fun K "copied_choices" "copied_choices" sCopChoices f fd) (hk : 2 ≤ k) (gR : Cal P w K mg base (L2.CX P w) 1 "require" ["holds", "words"] (spRequire C)) (gI : Cal P w K mg base CX0 1 "is_row" ["rows", "least", "most"] spIsRow)
    (mt : mg "tuple" = none) (gC : Cal P w K mg base (L2.CX P w) k "copied_list" ["items", "depth"] (spCopList C n)) : FnOk P w K mg base (L2.CX P w) (k + 1) f fd ["choices", "depth"] (spCopChoices C n) := by
  refine F.okX scCopChoices (fun vs H Q E h => ?_) (fun cdv A outer s H vs Q E hr h => ?_)
  · obtain ⟨a, x, xs, d, rfl, _⟩ := h
    rfl
  · obtain ⟨a, x, xs, d, rfl, hd, hrow, hat, ht, q1, q2⟩ := h
    have hr1 : Room 1 _ := hr.mono (by omega)
    have tk : Takes (cxOf (L2.CX P w) P w K mg base ["choices", "depth", "choice"] "copied_choices" (defScope sCopChoices) f cdv A outer s H E) (fun cls d _ H => E cls d H) := takes_of rfl rfl rfl rfl
    have hx := passes_call tk (E := E) fun _ _ _ _ h => h
    refine ⟨_, pss_cons (ps_expr (pe_cal gR hr1 hx (pa_cons (pe_cal gI hr1 pass0 (pa_cons (pv 0) (pa_cons pe_int (pa_cons pe_int pa_nil)))) (pa_cons pe_str pa_nil))))
      (pss_one (ps_ret (pe_tupleOf rfl mt (Rj.pe_lcx (Ex := E) (own := [("choice", 2)]) (g := gName 2) rfl rfl tk rfl scCopChoices.nd (pi_row (pv 0)) (blkOk_by (own := [("choice", 2)]) (N := ["choices", "depth", "choice"]) (sc := defScope sCopChoices) (by decide +kernel))
        (fun _ _ _ _ _ => pg_name (i := 2) scCopChoices.nd rfl (Or.inl rfl)) (fun _ _ _ _ _ => pe_cal gC hr Rj.fell_passes (pa_cons (pv 2) (pa_cons (pv 1) pa_nil))))))), ?_⟩
    refine ⟨_, rfl, _, _, _, _, rfl, hrow, fun H1 s1 => ?_⟩
    have el := hat.len
    have ed : decide (2 ≤ (xs.length : Int) ∧ (xs.length : Int) ≤ 4) = decide (2 ≤ x.len ∧ x.len ≤ 4) := by
      rw [el]; exact decide_eq_decide.mpr ⟨fun ⟨a, b⟩ => ⟨by omega, by omega⟩, fun ⟨a, b⟩ => ⟨by omega, by omega⟩⟩
    refine ⟨_, _, rfl, fun e => ?_, fun e => ?_⟩
    · rw [ed] at e
      have e4 := (of_decide_eq_true e).2
      rw [e, Bool.true_and] at q1 q2
      have hrow1 := hrow.same s1
      refine ⟨_, rfl, _, rfl, ?_⟩
      refine row_go hrow1 (fun J wk => ?_)
      intro D hD
      refine lc_it wk (fun i H' => Same H1 H' ∧ ∃ acc, H' D = some (.lst acc) ∧ acc.length = i ∧ (x.take i).AtE true H' acc ∧ ∀ j < i, ∀ c b, x.get j = some (c, b) → (decide (b.len ≤ 12) && b.ok d) = true)
        ⟨same_new hD _, [], upd_same, rfl, by simp [Blks.take, Blks.AtE], fun j hj => absurd hj (Nat.not_lt_zero j)⟩ (fun _ _ _ h => h.1) ?_ ?_
      · rintro i v H2 H3 hi ⟨s2, acc, hacc, hlen, hat2, hok⟩ ⟨e3, hv⟩
        subst e3
        obtain ⟨c, b, p, zs, gb, rfl, hrw, hb⟩ := AtE_item (hat.same (s1.trans s2)) hv
        refine ⟨rfl, yes_go ?_⟩
        refine ⟨_, rfl, _, rfl, p, b, zs, d, rfl, hd, hrw, hb, getB_tame ht gb, fun okb p' ys H4 s4 h4 a4 => ?_, fun no H4 s4 => q2 (getB_ok gb no) H4 (s1.trans (s2.trans s4))⟩
        refine ⟨acc, s4 _ _ hacc, small1000 (by omega), same_set (s2.trans s4) hD, acc ++ [.ref p'], upd_same, by simp [hlen], ?_, fun j hj c' b' gz => ?_⟩
        · exact (takeE_at s4 hat2 gb (.inl h4) a4).kp (.wr (s4 _ _ hacc))
        · by_cases hji : j = i
          · subst hji
            rw [gb] at gz
            cases gz
            exact okb
          · exact hok j (by omega) c' b' gz
      · rintro H2 ⟨s2, acc, hacc, hlen, hat2, hok⟩
        refine .inl ⟨D, acc, rfl, SqL.of hacc, fun p hp => ?_⟩
        have okx : x.ok d = true := allB_ok fun i c b g => hok i (by rw [el]; exact getB_lt g) c b g
        rw [el, takeB_all] at hat2
        exact q1 okx p acc _ (s1.trans (same_set s2 (s2.free hp))) upd_same (hat2.same (same_new hp _))
    · rw [ed] at e
      rw [e, Bool.false_and] at q2
      exact q2 rfl H1 s1
theorem scCopCases : FnScope ["cases", "depth", "found", "case"] ["cases", "depth"] (defScope sCopCases) := ⟨rfl, rfl, rfl, by decide +kernel, rfl, by decide +kernel, by decide +kernel⟩
theorem ok_copcases {n k : Nat} (F : Fun K "copied_cases" "copied_cases" sCopCases f fd) (hk : 2 ≤ k) (gR : Cal P w K mg base (L2.CX P w) 1 "require" ["holds", "words"] (spRequire C)) (gI : Cal P w K mg base CX0 1 "is_row" ["rows", "least", "most"] spIsRow)
    (mt : mg "tuple" = none) (mi : mg "isinstance" = none) (ml : mg "len" = none) (gC : Cal P w K mg base (L2.CX P w) k "copied_list" ["items", "depth"] (spCopList C n)) : FnOk P w K mg base (L2.CX P w) (k + 1) f fd ["cases", "depth"] (spCopCases C n) := by
  refine F.okX scCopCases (fun vs H Q E h => ?_) (fun cdv A outer s H vs Q E hr h => ?_)
  · obtain ⟨a, x, xs, d, rfl, _⟩ := h
    rfl
  · obtain ⟨a, x, xs, d, rfl, hd, hrow, hat, ht, q1, q2⟩ := h
    have hr1 : Room 1 _ := hr.mono (by omega)
    have tk : Takes (cxOf (L2.CX P w) P w K mg base ["cases", "depth", "found", "case"] "copied_cases" (defScope sCopCases) f cdv A outer s H E) (fun cls d _ H => E cls d H) := takes_of rfl rfl rfl rfl
    have hx := passes_call tk (E := E) fun _ _ _ _ h => h
    refine ⟨_, pss_cons (ps_expr (pe_cal gR hr1 hx (pa_cons (pe_cal gI hr1 pass0 (pa_cons (pv 0) (pa_cons pe_int (pa_cons pe_int pa_nil)))) (pa_cons pe_str pa_nil))))
      (pss_cons (ps_set (i := 2) scCopCases.nd rfl (.inl rfl) (pe_lst pa_nil))
      (pss_cons (ps_for (passes_of rfl) rfl (pi_row (pv 0)) (pg_name (i := 3) scCopCases.nd rfl (.inl rfl))
        (pss_cons (ps_expr (pe_cal gR hr1 hx (pa_cons (pe_and (pe_callB call_isi (by rfl) mi (by decide +kernel) (pa_cons (pv 3) (pa_cons (pe_bltn (v := .ty "tuple") (by rfl) mt (by decide +kernel) rfl) pa_nil)))
            (pe_one (pe_cmpR op_eq (pe_callB call_len (by rfl) ml boot_len (pa_cons (pv 3) pa_nil)) pe_int (nomark _)))) (pa_cons pe_str pa_nil))))
        (pss_one (ps_expr (pe_bm PySem.F.plainAttrs_list PySem.F.slot_list_append PySem.F.type_list_append mt_append (pv 2)
          (pa_cons (pe_tup (pa_cons (pe_ix ix_tup (pv 3) pe_int (fun _ _ => rfl)) (pa_cons (pe_cal gC hr hx (pa_cons (pe_ix ix_tup (pv 3) pe_int (fun _ _ => rfl)) (pa_cons (pv 1) pa_nil))) pa_nil))) pa_nil))))))
      (pss_one (ps_ret (pe_tupleOf rfl mt (pv 2)))))), ?_⟩
    refine ⟨_, rfl, _, _, _, _, rfl, hrow, fun H1 s1 => ?_⟩
    have el := hat.len
    have ed : decide (1 ≤ (xs.length : Int) ∧ (xs.length : Int) ≤ 8) = decide (1 ≤ x.len ∧ x.len ≤ 8) := by
      rw [el]; exact decide_eq_decide.mpr ⟨fun ⟨a, b⟩ => ⟨by omega, by omega⟩, fun ⟨a, b⟩ => ⟨by omega, by omega⟩⟩
    refine ⟨_, _, rfl, fun e => ?_, fun e => ?_⟩
    · rw [ed] at e
      have e8 := (of_decide_eq_true e).2
      rw [e, Bool.true_and] at q1 q2
      refine ⟨Nat.zero_le _, fun D hD => ?_⟩
      refine ⟨_, rfl, _, rfl, ?_⟩
      refine row_go2 (hrow.same s1) (same_new hD _) (fun J wk => ?_)
      refine for_it wk (fun i σ H' => ∃ cv, σ = [some (.ref a), some (.int d), some (.ref D), cv] ∧ Same H1 H' ∧ ∃ acc, H' D = some (.lst acc) ∧ acc.length = i ∧ (x.take i).AtS true H' acc ∧ ∀ j < i, ∀ c b, x.get j = some (c, b) → (decide (b.len ≤ 12) && b.ok d) = true)
        ⟨none, rfl, same_new hD _, [], upd_same, rfl, by simp [Blks.take, Blks.AtS], fun j hj => absurd hj (Nat.not_lt_zero j)⟩ (fun _ _ _ _ h => by obtain ⟨_, _, z, _⟩ := h; exact z) ?_ ?_
      · rintro i v σ H2 H3 hi ⟨cv, rfl, s2, acc, hacc, hlen, hat2, hok⟩ ⟨e3, hv⟩
        subst e3
        obtain ⟨c, b, p, q, zs, gb, rfl, hp, hrw, hb⟩ := AtS_item (hat.same (s1.trans s2)) hv
        refine ⟨_, rfl, _, _, _, _, true, rfl, .ty _, .base (.tup hp), kit_ty (by decide +kernel), _, rfl, iteT ?_⟩
        refine ⟨_, rfl, _, _, rfl, .inr ⟨_, SqT.of hp, rfl⟩, rfl, ?_⟩
        refine ⟨true, _, rfl, fun _ => ?_, fun z => by cases z⟩
        refine ⟨_, rfl, .inl ⟨rfl, _, SqL.of hacc⟩, ?_⟩
        refine ⟨_, rfl, p, _, 0, _, rfl, rfl, SqT.of hp, atI_nat (j := 0) rfl, ?_⟩
        refine ⟨_, rfl, p, _, 1, _, rfl, rfl, SqT.of hp, atI_nat (j := 1) rfl, ?_⟩
        refine ⟨_, rfl, q, b, zs, d, rfl, hd, hrw, hb, getB_tame ht gb, fun okb p' ys H4 s4 h4 a4 => ?_, fun no H4 s4 => q2 (getB_ok gb no) H4 (s1.trans (s2.trans s4))⟩
        refine ⟨by show 2 ≤ sizeLine; decide, fun t ht4 => ?_⟩
        have s5 : Same H4 (upd H4 t (.tup [.int c, .ref p'])) := same_new ht4 _
        have hacc5 := s5 _ _ (s4 _ _ hacc)
        refine ⟨D, acc, .ref t, rfl, rfl, hacc5, small1000 (by omega), ?_⟩
        refine ⟨_, rfl, same_set (s2.trans (s4.trans s5)) hD, acc ++ [.ref t], upd_same, by simp [hlen], ?_, fun j hj c' b' gz => ?_⟩
        · exact (takeS_at (s4.trans s5) hat2 gb upd_same (.inl (s5 _ _ h4)) (a4.same s5)).kp (.wr hacc5)
        · by_cases hji : j = i
          · subst hji
            rw [gb] at gz
            cases gz
            exact okb
          · exact hok j (by omega) c' b' gz
      · rintro σ H2 ⟨cv, rfl, s2, acc, hacc, hlen, hat2, hok⟩
        refine ⟨_, rfl, .inl ⟨D, acc, rfl, SqL.of hacc, fun p hp => ?_⟩⟩
        have okx : x.ok d = true := allB_ok fun i c b g => hok i (by rw [el]; exact getB_lt g) c b g
        rw [el, takeB_all] at hat2
        exact q1 okx p acc _ (s1.trans (same_set s2 (s2.free hp))) upd_same (hat2.same (same_new hp _))
    · rw [ed] at e
      rw [e, Bool.false_and] at q2
      exact q2 rfl H1 s1
end
end Bs

set_option Elab.async false
set_option linter.all false
set_option maxRecDepth 100000
set_option maxHeartbeats 4000000
namespace Bs
open PySem L2
def It.kind : It → Str
  | .num .. => "number" | .byt .. => "bytes" | .txt .. => "text" | .rep .. => "repeat" | .eit .. => "either" | .swi .. => "switch" | .chk .. => "check" | .pad .. => "pad"
def It.parts : It → Nat
  | .num .. => 6 | .byt .. => 3 | .txt .. => 4 | .rep .. => 4 | .eit .. => 3 | .swi .. => 4 | .chk .. => 3 | .pad .. => 4
def It.blocky : It → Bool
  | .rep .. => true | .eit .. => true | .swi .. => true | _ => false
/-- PARTS and WITH_BLOCKS -/
structure Kinds (K : PySem.W.Frag) (w : World) (mg : Str → Option Value) : Prop where
  p : ∃ d es n, mg "PARTS" = some (.ref d) ∧ KDict K w d es n ∧ ∀ x : It, ∃ t, PySem.W.nsIn K d x.kind = some (some (.int (x.parts : Nat) t))
  b : ∃ a, mg "WITH_BLOCKS" = some (.ref a) ∧ ∀ H, SqT K H a [.str "repeat", .str "either", .str "switch"]
theorem At_head {fz : Bool} {H : Hp} : ∀ {x : It} {v : V}, x.At fz H v → ∃ p rest, v = .ref p ∧ H p = some (.tup (.str x.kind :: .str x.name :: rest)) ∧ rest.length + 2 = x.parts
  | .num .., _, h => by simp only [It.At] at h; obtain ⟨p, e, h⟩ := h; exact ⟨p, _, e, h, rfl⟩
  | .byt .., _, h => by simp only [It.At] at h; obtain ⟨p, e, h⟩ := h; exact ⟨p, _, e, h, rfl⟩
  | .txt .., _, h => by simp only [It.At] at h; obtain ⟨p, e, h⟩ := h; exact ⟨p, _, e, h, rfl⟩
  | .chk .., _, h => by simp only [It.At] at h; obtain ⟨p, e, h⟩ := h; exact ⟨p, _, e, h, rfl⟩
  | .pad .., _, h => by simp only [It.At] at h; obtain ⟨p, e, h⟩ := h; exact ⟨p, _, e, h, rfl⟩
  | .rep .., _, h => by simp only [It.At] at h; obtain ⟨p, q, xs, e, h, _⟩ := h; exact ⟨p, _, e, h, rfl⟩
  | .eit .., _, h => by simp only [It.At] at h; obtain ⟨p, q, xs, e, h, _⟩ := h; exact ⟨p, _, e, h, rfl⟩
  | .swi .., _, h => by simp only [It.At] at h; obtain ⟨p, q, xs, e, h, _⟩ := h; exact ⟨p, _, e, h, rfl⟩
theorem blocky_in (x : It) : inV (.str x.kind) [.str "repeat", .str "either", .str "switch"] = x.blocky := by cases x <;> simp only [It.kind, It.blocky] <;> decide +kernel
theorem ok_name {x : It} {d : Int} (h : isName x.name = false) : x.ok d = false := by
  cases x <;> simp only [It.name] at h <;> simp [It.ok, It.name, h]
theorem ok_deep {x : It} {d : Int} (h : ¬ d ≤ (if x.blocky = true then 2 else 3)) : x.ok d = false := by
  cases x <;> simp [It.blocky] at h <;> simp [It.ok] <;> intros <;> omega
theorem deep_go {c : Bool} {σ : L2.St} {H : Hp} {R : V → Hp → Prop} (h : R (.int (if c = true then 2 else 3)) H) : if c = true then tOp (rI0 fun i j => V.int (i - j)) (tC (.int 3)) (tC (.int 1)) σ H R else tC (.int 3) σ H R := by
  cases c with
  | true => exact iteT ⟨_, _, rfl, rfl, h⟩
  | false => exact iteF h
theorem kne {a b : Str} (h : a ≠ b) : ¬ V.str a = V.str b := fun z => h (V.str.inj z)
/-- the copies one deeper, where there is one -/
def spSub (sp : Nat → Sp) : Nat → Sp
  | 0 => fun _ _ _ _ => False
  | n + 1 => sp n
section
variable {P : Program} {w : World} {K : PySem.W.Frag} {mg : Str → Option Value} {base : Heap} {f C : Addr} {fd : FuncData}
theorem scCopItem : FnScope ["item", "depth", "kind", "deepest"] ["item", "depth"] (defScope sCopItem) := ⟨rfl, rfl, rfl, by decide +kernel, rfl, by decide +kernel, by decide +kernel⟩
theorem ok_copitem {n0 k : Nat} (F : Fun K "copied_item" "copied_item" sCopItem f fd) (hk : 1 ≤ k) (T : Kinds K w mg) (gR : Cal P w K mg base (L2.CX P w) 1 "require" ["holds", "words"] (spRequire C)) (gN : Cal P w K mg base CX0 1 "is_name" ["text"] spIsName)
    (mt : mg "tuple" = none) (mi : mg "isinstance" = none) (ml : mg "len" = none) (ms : mg "str" = none) (gD : GInt mg "DEEPEST" 3) (gL : Cal P w K mg base (L2.CX P w) k "copied_list" ["items", "depth"] (spSub (spCopList C) n0))
    (gCh : Cal P w K mg base (L2.CX P w) k "copied_choices" ["choices", "depth"] (spSub (spCopChoices C) n0)) (gCa : Cal P w K mg base (L2.CX P w) k "copied_cases" ["cases", "depth"] (spSub (spCopCases C) n0)) : FnOk P w K mg base (L2.CX P w) (k + 1) f fd ["item", "depth"] (spCopItem C n0) := by
  refine F.okX scCopItem (fun vs H Q E h => ?_) (fun cdv A outer s H vs Q E hr h => ?_)
  · obtain ⟨v, x, d, rfl, _⟩ := h
    rfl
  · obtain ⟨v, x, d, rfl, hd, hat, ht, q1, q2⟩ := h
    obtain ⟨p, rest, rfl, hp, hlen⟩ := At_head hat
    obtain ⟨dP, es, nn, gP, D, hP⟩ := T.p
    obtain ⟨aB, gB, hB⟩ := T.b
    obtain ⟨t6, ns6⟩ := hP x
    have hr1 : Room 1 _ := hr.mono (by omega)
    have tk : Takes (cxOf (L2.CX P w) P w K mg base ["item", "depth", "kind", "deepest"] "copied_item" (defScope sCopItem) f cdv A outer s H E) (fun cls d _ H => E cls d H) := takes_of rfl rfl rfl rfl
    have hx := passes_call tk (E := E) fun _ _ _ _ h => h
    refine ⟨_, pss_cons (ps_expr (pe_cal gR hr1 hx (pa_cons (pe_and (pe_callB call_isi (by rfl) mi (by decide +kernel) (pa_cons (pv 0) (pa_cons (pe_bltn (v := .ty "tuple") (by rfl) mt (by decide +kernel) rfl) pa_nil)))
          (pe_one (pe_cmpR op_gt (pe_callB call_len (by rfl) ml boot_len (pa_cons (pv 0) pa_nil)) pe_int (nomark _)))) (pa_cons pe_str pa_nil))))
      (pss_cons (ps_set (i := 2) scCopItem.nd rfl (.inl rfl) (pe_ix ix_tup (pv 0) pe_int (fun _ _ => rfl)))
      (pss_cons (ps_expr (pe_cal gR hr1 hx (pa_cons (pe_and (pe_callB call_isi (by rfl) mi (by decide +kernel) (pa_cons (pv 2) (pa_cons (pe_bltn (v := .ty "str") (by rfl) ms (by decide +kernel) rfl) pa_nil)))
          (pe_one (pe_cmpR (op_in_kd D) (pv 2) (pe_glob (v := .ref dP) (by rfl) gP rfl) (by rfl)))) (pa_cons pe_str pa_nil))))
      (pss_cons (ps_expr (pe_cal gR hr1 hx (pa_cons (pe_cmpR op_eq (pe_callB call_len (by rfl) ml boot_len (pa_cons (pv 0) pa_nil)) (pe_ix ix_kdict (pe_glob (v := .ref dP) (by rfl) gP rfl) (pv 2) (fun _ _ => rfl)) (nomark _))
          (pa_cons (pe_joined (.cons pe_str (.cons (pe_fmt (pv 2)) (.cons pe_str .nil)))) pa_nil))))
      (pss_cons (ps_expr (pe_cal gR hr1 hx (pa_cons (pe_cal gN hr1 pass0 (pa_cons (pe_ix ix_tup (pv 0) pe_int (fun _ _ => rfl)) pa_nil)) (pa_cons pe_str pa_nil))))
      (pss_cons (ps_set (i := 3) scCopItem.nd rfl (.inl rfl) (pe_ifExp (pt_cmpR op_in_seq (pv 2) (pe_glob (v := .ref aB) (by rfl) gB rfl) (by rfl)) (pe_op op_sub (pe_gint gD rfl) pe_int) (pe_gint gD rfl)))
      (pss_cons (ps_expr (pe_cal gR hr1 hx (pa_cons (pe_cmpR op_le (pv 1) (pv 3) (nomark _)) (pa_cons (pe_joined (.cons pe_str (.cons (pe_fmt (pv 2)) (.cons pe_str .nil)))) pa_nil))))
      (pss_cons (ps_if (pt_cmpR op_eq (pv 2) pe_str (nomark _)) (pss_one (ps_ret (pe_op op_catT (pe_slice sl_tup (pv 0) po_none (po_some pe_int)) (pe_tup (pa_cons (pe_cal gL hr hx (pa_cons (pe_ix ix_tup (pv 0) pe_int (fun _ _ => rfl)) (pa_cons (pe_op op_add (pv 1) pe_int) pa_nil))) pa_nil))))) pss_nil)
      (pss_cons (ps_if (pt_cmpR op_eq (pv 2) pe_str (nomark _)) (pss_one (ps_ret (pe_op op_catT (pe_slice sl_tup (pv 0) po_none (po_some pe_int)) (pe_tup (pa_cons (pe_cal gCh hr hx (pa_cons (pe_ix ix_tup (pv 0) pe_int (fun _ _ => rfl)) (pa_cons (pe_op op_add (pv 1) pe_int) pa_nil))) pa_nil))))) pss_nil)
      (pss_cons (ps_if (pt_cmpR op_eq (pv 2) pe_str (nomark _)) (pss_one (ps_ret (pe_op op_catT (pe_slice sl_tup (pv 0) po_none (po_some pe_int)) (pe_tup (pa_cons (pe_cal gCa hr hx (pa_cons (pe_ix ix_tup (pv 0) pe_int (fun _ _ => rfl)) (pa_cons (pe_op op_add (pv 1) pe_int) pa_nil))) pa_nil))))) pss_nil)
      (pss_one (ps_ret (pe_tupleOf rfl mt (pv 0))))))))))))), ?_⟩
    have fs1 : ∀ y : Str, y = x.kind → (Str.empty ++ ("the kind " : Str)).length ≤ sizeLine ∧ y.length ≤ sizeLine ∧ (Str.empty ++ ("the kind " : Str) ++ y).length ≤ sizeLine ∧ (Str.empty ++ ("the kind " : Str) ++ y ++ (" has another number of parts" : Str)).length ≤ sizeLine := by
      rintro y rfl; cases x <;> simp only [It.kind] <;> decide +kernel
    have fs2 : ∀ y : Str, y = x.kind → (Str.empty ++ ("an item of the kind " : Str)).length ≤ sizeLine ∧ y.length ≤ sizeLine ∧ (Str.empty ++ ("an item of the kind " : Str) ++ y).length ≤ sizeLine ∧ (Str.empty ++ ("an item of the kind " : Str) ++ y ++ (" stands too deep" : Str)).length ≤ sizeLine := by
      rintro y rfl; cases x <;> simp only [It.kind] <;> decide +kernel
    obtain ⟨a1, a2, a3, a4⟩ := fs1 _ rfl
    obtain ⟨b1, b2, b3, b4⟩ := fs2 _ rfl
    have hT : SqT K H p _ := SqT.of hp
    -- an item is a tuple
    refine ⟨_, rfl, _, _, _, _, true, rfl, .ty _, .base (.tup hp), kit_ty (by decide +kernel), _, rfl, iteT ?_⟩
    refine ⟨_, rfl, _, _, rfl, .inr ⟨_, hT, rfl⟩, _, _, rfl, rfl, ?_⟩
    refine ⟨_, _, rfl, fun _ => ?_, fun z => absurd (show (0 : Int) < ((V.str x.kind :: V.str x.name :: rest).length : Nat) by rw [List.length_cons]; omega) (of_decide_eq_false z)⟩
    -- its kind
    refine ⟨_, rfl, p, _, 0, _, rfl, rfl, hT, atI_nat (j := 0) rfl, ?_⟩
    refine ⟨_, rfl, _, _, _, _, true, rfl, .ty _, .base (.str _), kit_ty (by decide +kernel), _, rfl, iteT ?_⟩
    refine ⟨_, rfl, x.kind, _, rfl, rfl, ns6, _, _, rfl, fun _ => ?_, fun z => by cases z⟩
    -- its parts
    refine ⟨_, rfl, _, _, rfl, .inr ⟨_, hT, rfl⟩, _, rfl, dP, x.kind, .int (x.parts : Nat), rfl, rfl, ⟨es, nn, _, D.at_, D.lit, ns6, t6, rfl⟩, rfl, ?_⟩
    refine ⟨_, rfl, a1, _, rfl, .inl ⟨_, rfl, a2, _, rfl, a3, _, rfl, a4, _, _, rfl, fun _ => ?_, fun z => absurd (show V.int ((V.str x.kind :: V.str x.name :: rest).length : Nat) = V.int (x.parts : Nat) by rw [List.length_cons, List.length_cons, ← hlen]) (of_decide_eq_false z)⟩⟩
    -- its name
    refine ⟨_, rfl, p, _, 1, _, rfl, rfl, hT, atI_nat (j := 1) rfl, x.name, rfl, Nat.le_of_lt (small1000 (It.tame_name ht)), fun H1 s1 => ?_⟩
    refine ⟨_, _, rfl, fun en => ?_, fun en => q2 (ok_name en) H1 s1⟩
    have hT1 : SqT K H1 p _ := SqT.of (s1 _ _ hp)
    refine ⟨_, rfl, aB, _, rfl, .inr (hB H1), rfl, by decide +kernel, x.blocky, congrArg V.bl (blocky_in x), ?_⟩
    refine deep_go ?_
    refine ⟨_, rfl, _, rfl, _, _, rfl, rfl, _, rfl, b1, _, rfl, .inl ⟨_, rfl, b2, _, rfl, b3, _, rfl, b4, _, _, rfl, fun e => ?_, fun e => q2 (ok_deep (of_decide_eq_false e)) H1 s1⟩⟩
    have e : d ≤ (if x.blocky = true then 2 else 3) := of_decide_eq_true e
    cases x with
    | num n size order low high =>
      refine ⟨_, rfl, rfl, _, rfl, ite2 (fun z => absurd (of_decide_eq_true z) (kne (by simp only [It.kind]; decide +kernel))) (fun _ => ?_)⟩
      refine ⟨_, rfl, rfl, _, rfl, ite2 (fun z => absurd (of_decide_eq_true z) (kne (by simp only [It.kind]; decide +kernel))) (fun _ => ?_)⟩
      refine ⟨_, rfl, rfl, _, rfl, ite2 (fun z => absurd (of_decide_eq_true z) (kne (by simp only [It.kind]; decide +kernel))) (fun _ => ?_)⟩
      refine ⟨_, rfl, .inr ⟨p, _, rfl, hT1, q1 ?_ _ H1 s1 ?_⟩⟩
      · have e : d ≤ 3 := e
        have en : isName n = true := en
        simp [It.ok, It.name, en, e]
      · refine It.At.same s1 ?_
        simp only [It.At] at hat ⊢
        exact hat
    | byt n amt =>
      refine ⟨_, rfl, rfl, _, rfl, ite2 (fun z => absurd (of_decide_eq_true z) (kne (by simp only [It.kind]; decide +kernel))) (fun _ => ?_)⟩
      refine ⟨_, rfl, rfl, _, rfl, ite2 (fun z => absurd (of_decide_eq_true z) (kne (by simp only [It.kind]; decide +kernel))) (fun _ => ?_)⟩
      refine ⟨_, rfl, rfl, _, rfl, ite2 (fun z => absurd (of_decide_eq_true z) (kne (by simp only [It.kind]; decide +kernel))) (fun _ => ?_)⟩
      refine ⟨_, rfl, .inr ⟨p, _, rfl, hT1, q1 ?_ _ H1 s1 ?_⟩⟩
      · have e : d ≤ 3 := e
        have en : isName n = true := en
        simp [It.ok, It.name, en, e]
      · refine It.At.same s1 ?_
        simp only [It.At] at hat ⊢
        exact hat
    | txt n stop most =>
      refine ⟨_, rfl, rfl, _, rfl, ite2 (fun z => absurd (of_decide_eq_true z) (kne (by simp only [It.kind]; decide +kernel))) (fun _ => ?_)⟩
      refine ⟨_, rfl, rfl, _, rfl, ite2 (fun z => absurd (of_decide_eq_true z) (kne (by simp only [It.kind]; decide +kernel))) (fun _ => ?_)⟩
      refine ⟨_, rfl, rfl, _, rfl, ite2 (fun z => absurd (of_decide_eq_true z) (kne (by simp only [It.kind]; decide +kernel))) (fun _ => ?_)⟩
      refine ⟨_, rfl, .inr ⟨p, _, rfl, hT1, q1 ?_ _ H1 s1 ?_⟩⟩
      · have e : d ≤ 3 := e
        have en : isName n = true := en
        simp [It.ok, It.name, en, e]
      · refine It.At.same s1 ?_
        simp only [It.At] at hat ⊢
        exact hat
    | chk n m =>
      refine ⟨_, rfl, rfl, _, rfl, ite2 (fun z => absurd (of_decide_eq_true z) (kne (by simp only [It.kind]; decide +kernel))) (fun _ => ?_)⟩
      refine ⟨_, rfl, rfl, _, rfl, ite2 (fun z => absurd (of_decide_eq_true z) (kne (by simp only [It.kind]; decide +kernel))) (fun _ => ?_)⟩
      refine ⟨_, rfl, rfl, _, rfl, ite2 (fun z => absurd (of_decide_eq_true z) (kne (by simp only [It.kind]; decide +kernel))) (fun _ => ?_)⟩
      refine ⟨_, rfl, .inr ⟨p, _, rfl, hT1, q1 ?_ _ H1 s1 ?_⟩⟩
      · have e : d ≤ 3 := e
        have en : isName n = true := en
        simp [It.ok, It.name, en, e]
      · refine It.At.same s1 ?_
        simp only [It.At] at hat ⊢
        exact hat
    | pad n m b =>
      refine ⟨_, rfl, rfl, _, rfl, ite2 (fun z => absurd (of_decide_eq_true z) (kne (by simp only [It.kind]; decide +kernel))) (fun _ => ?_)⟩
      refine ⟨_, rfl, rfl, _, rfl, ite2 (fun z => absurd (of_decide_eq_true z) (kne (by simp only [It.kind]; decide +kernel))) (fun _ => ?_)⟩
      refine ⟨_, rfl, rfl, _, rfl, ite2 (fun z => absurd (of_decide_eq_true z) (kne (by simp only [It.kind]; decide +kernel))) (fun _ => ?_)⟩
      refine ⟨_, rfl, .inr ⟨p, _, rfl, hT1, q1 ?_ _ H1 s1 ?_⟩⟩
      · have e : d ≤ 3 := e
        have en : isName n = true := en
        simp [It.ok, It.name, en, e]
      · refine It.At.same s1 ?_
        simp only [It.At] at hat ⊢
        exact hat
    | rep n amt b =>
      have e : d ≤ 2 := e
      have en : isName n = true := en
      simp only [It.At] at hat
      obtain ⟨p', q, xs, e1, h1, hrow, hb⟩ := hat
      cases e1
      simp only [It.tame] at ht
      refine ⟨_, rfl, rfl, _, rfl, ite2 (fun _ => ?_) (fun z => (z (decide_eq_true rfl)).elim)⟩
      cases n0 with
      | zero => exfalso; omega
      | succ m =>
        have g1 : H1 p = _ := s1 _ _ h1
        refine ⟨_, rfl, 3, rfl, p, _, rfl, SqT.of g1, by simp only [List.length_cons, List.length_nil]; decide, fun p1 hp1 => ?_⟩
        have s2 := same_new hp1 (.tup (cutV [.str "repeat", .str n, kV amt, .ref q] none (some 3)))
        have g2 := s2 _ _ g1
        refine ⟨_, rfl, p, _, 3, _, rfl, rfl, SqT.of g2, atI_nat (j := 3) rfl, ?_⟩
        refine ⟨_, rfl, d, 1, rfl, rfl, ?_⟩
        have s12 := s1.trans s2
        refine ⟨q, _, xs, d + 1, rfl, by omega, hrow.same s12, hb.same s12, ht.2.2, fun ok p2 ys H2 s3 h2 a2 => ?_, fun no H2 s3 => q2 (by simp only [It.ok]; rw [no]; simp) H2 (s12.trans s3)⟩
        refine ⟨by show 1 ≤ sizeLine; decide, fun t ht4 => ?_⟩
        have s4 := same_new ht4 (.tup [.ref p2])
        refine ⟨p1, t, [.str "repeat", .str n, kV amt], [.ref p2], rfl, rfl, SqT.of (s4 _ _ (s3 _ _ upd_same)), SqT.of upd_same, by simp, by show 4 ≤ sizeLine; decide, fun z => absurd z (by simp), fun _ p3 hp3 => ?_⟩
        refine q1 (by simp only [It.ok]; rw [ok]; simp [en, e]) (.ref p3) _ (s12.trans (s3.trans (s4.trans (same_new hp3 _)))) ?_
        simp only [It.At]
        exact ⟨p3, p2, ys, rfl, upd_same, .inl ((s4.trans (same_new hp3 _)) _ _ h2), a2.same (s4.trans (same_new hp3 _))⟩
    | eit n bs =>
      have e : d ≤ 2 := e
      have en : isName n = true := en
      simp only [It.At] at hat
      obtain ⟨p', q, xs, e1, h1, hrow, hb⟩ := hat
      cases e1
      simp only [It.tame] at ht
      refine ⟨_, rfl, rfl, _, rfl, ite2 (fun z => absurd (of_decide_eq_true z) (kne (by simp only [It.kind]; decide +kernel))) (fun _ => ?_)⟩
      refine ⟨_, rfl, rfl, _, rfl, ite2 (fun _ => ?_) (fun z => (z (decide_eq_true rfl)).elim)⟩
      cases n0 with
      | zero => exfalso; omega
      | succ m =>
        have g1 : H1 p = _ := s1 _ _ h1
        refine ⟨_, rfl, 2, rfl, p, _, rfl, SqT.of g1, by simp only [List.length_cons, List.length_nil]; decide, fun p1 hp1 => ?_⟩
        have s2 := same_new hp1 (.tup (cutV [.str "either", .str n, .ref q] none (some 2)))
        have g2 := s2 _ _ g1
        refine ⟨_, rfl, p, _, 2, _, rfl, rfl, SqT.of g2, atI_nat (j := 2) rfl, ?_⟩
        refine ⟨_, rfl, d, 1, rfl, rfl, ?_⟩
        have s12 := s1.trans s2
        refine ⟨q, _, xs, d + 1, rfl, by omega, hrow.same s12, hb.same s12, ht.2, fun ok p2 ys H2 s3 h2 a2 => ?_, fun no H2 s3 => q2 (by simp only [It.ok]; rw [no]; simp) H2 (s12.trans s3)⟩
        refine ⟨by show 1 ≤ sizeLine; decide, fun t ht4 => ?_⟩
        have s4 := same_new ht4 (.tup [.ref p2])
        refine ⟨p1, t, [.str "either", .str n], [.ref p2], rfl, rfl, SqT.of (s4 _ _ (s3 _ _ upd_same)), SqT.of upd_same, by simp, by show 3 ≤ sizeLine; decide, fun z => absurd z (by simp), fun _ p3 hp3 => ?_⟩
        refine q1 (by simp only [It.ok]; rw [ok]; simp [en, e]) (.ref p3) _ (s12.trans (s3.trans (s4.trans (same_new hp3 _)))) ?_
        simp only [It.At]
        exact ⟨p3, p2, ys, rfl, upd_same, .inl ((s4.trans (same_new hp3 _)) _ _ h2), a2.same (s4.trans (same_new hp3 _))⟩
    | swi n tag bs =>
      have e : d ≤ 2 := e
      have en : isName n = true := en
      simp only [It.At] at hat
      obtain ⟨p', q, xs, e1, h1, hrow, hb⟩ := hat
      cases e1
      simp only [It.tame] at ht
      refine ⟨_, rfl, rfl, _, rfl, ite2 (fun z => absurd (of_decide_eq_true z) (kne (by simp only [It.kind]; decide +kernel))) (fun _ => ?_)⟩
      refine ⟨_, rfl, rfl, _, rfl, ite2 (fun z => absurd (of_decide_eq_true z) (kne (by simp only [It.kind]; decide +kernel))) (fun _ => ?_)⟩
      refine ⟨_, rfl, rfl, _, rfl, ite2 (fun _ => ?_) (fun z => (z (decide_eq_true rfl)).elim)⟩
      cases n0 with
      | zero => exfalso; omega
      | succ m =>
        have g1 : H1 p = _ := s1 _ _ h1
        refine ⟨_, rfl, 3, rfl, p, _, rfl, SqT.of g1, by simp only [List.length_cons, List.length_nil]; decide, fun p1 hp1 => ?_⟩
        have s2 := same_new hp1 (.tup (cutV [.str "switch", .str n, .str tag, .ref q] none (some 3)))
        have g2 := s2 _ _ g1
        refine ⟨_, rfl, p, _, 3, _, rfl, rfl, SqT.of g2, atI_nat (j := 3) rfl, ?_⟩
        refine ⟨_, rfl, d, 1, rfl, rfl, ?_⟩
        have s12 := s1.trans s2
        refine ⟨q, _, xs, d + 1, rfl, by omega, hrow.same s12, hb.same s12, ht.2.2, fun ok p2 ys H2 s3 h2 a2 => ?_, fun no H2 s3 => q2 (by simp only [It.ok]; rw [no]; simp) H2 (s12.trans s3)⟩
        refine ⟨by show 1 ≤ sizeLine; decide, fun t ht4 => ?_⟩
        have s4 := same_new ht4 (.tup [.ref p2])
        refine ⟨p1, t, [.str "switch", .str n, .str tag], [.ref p2], rfl, rfl, SqT.of (s4 _ _ (s3 _ _ upd_same)), SqT.of upd_same, by simp, by show 4 ≤ sizeLine; decide, fun z => absurd z (by simp), fun _ p3 hp3 => ?_⟩
        refine q1 (by simp only [It.ok]; rw [ok]; simp [en, e]) (.ref p3) _ (s12.trans (s3.trans (s4.trans (same_new hp3 _)))) ?_
        simp only [It.At]
        exact ⟨p3, p2, ys, rfl, upd_same, .inl ((s4.trans (same_new hp3 _)) _ _ h2), a2.same (s4.trans (same_new hp3 _))⟩
end
end Bs

set_option Elab.async false
set_option linter.all false
set_option maxRecDepth 100000
set_option maxHeartbeats 4000000
namespace Bs
open PySem L2
/-! ### lengths of items -/
/-- the numbers that are visible: a dict of pairs -/
def VisAt (H : Hp) (d : Addr) (f : Env) (m : Nat) : Prop := ∃ kvs : List (Key × V), H d = some (.dK kvs) ∧ kvs.length ≤ m ∧ ∀ z : Str, match f z with
  | some p => ∃ a, valV kvs (.inr z) = some (.ref a) ∧ H a = some (.tup [.int p.1, .int p.2]) ∧ 0 ≤ p.1 ∧ p.1 ≤ p.2
  | none => valV kvs (.inr z) = none
theorem VisAt.same {H H' : Hp} {d : Addr} {f : Env} {m : Nat} (s : Same H H') (h : VisAt H d f m) : VisAt H' d f m := by
  obtain ⟨kvs, h1, h2, h3⟩ := h
  refine ⟨kvs, s _ _ h1, h2, fun z => ?_⟩
  have q := h3 z
  cases e : f z with
  | none => rw [e] at q; exact q
  | some p => rw [e] at q; obtain ⟨a, q1, q2, q3⟩ := q; exact ⟨a, q1, s _ _ q2, q3⟩
/-- a pair of ints comes out, or the error -/
def Told (C : Addr) (r : Option (Int × Int)) (H : Hp) (Q : VK) (E : XK) : Prop :=
  (∀ l, r = some l → ∀ p H', Same H H' → H' p = some (.tup [.int l.1, .int l.2]) → Q (.ref p) H') ∧ (r = none → ∀ H', Same H H' → E (.ref C) none H')
theorem Told.same {C : Addr} {r : Option (Int × Int)} {H H1 : Hp} {Q : VK} {E : XK} (s : Same H H1) (h : Told C r H Q E) : Told C r H1 Q E :=
  ⟨fun l e p H' s' => h.1 l e p H' (s.trans s'), fun e H' s' => h.2 e H' (s.trans s')⟩
def spAmount (C : Addr) : Sp := fun vs H Q E => ∃ (amt : Key) (most : Int) (dv : Addr) (g : Env) (m : Nat), vs = [kV amt, .ref dv, .int most] ∧ (most = 64 ∨ most = 16) ∧ VisAt H dv g m ∧ (∀ z, amt = .inr z → z.length ≤ 1000 ∧ (reprText z).length ≤ 1000) ∧ Told C (amount g most amt) H Q E
/-- KIND_lengths(item, visible), of an item at depth d -/
def spLens (C : Addr) (k : Str) (n : Nat) : Sp := fun vs H Q E => ∃ (v : V) (dv : Addr) (x : It) (f : Env) (m : Nat) (d : Int), vs = [v, .ref dv] ∧ x.kind = k ∧ d + n = 3 ∧ x.ok d = true ∧ x.tame ∧ x.At true H v ∧ VisAt H dv f m ∧ m + 12 * n ≤ 100 ∧ Told C (x.lens f) H Q E
theorem seq_asg0 {te : TE} {g : TG} {u : TS} {D : Ends} {σ : L2.St} {H : Hp} (h : te σ H fun x H1 => g x σ H1 (u D)) : tSeq (tAsg te g) u D σ H := h
section
variable {P : Program} {w : World} {K : PySem.W.Frag} {mg : Str → Option Value} {base : Heap} {f C : Addr} {fd : FuncData}
theorem slen0 (x y : Str) : (x ++ y).length = x.length + y.length := by
  have h : ∀ z : Str, z.length = z.cps.toList.length := fun z => by simp [Str.length]
  have a : (x ++ y).cps.toList = x.cps.toList ++ y.cps.toList := by
    show (x.cps ++ y.cps).toList = _
    simp
  rw [h, h, h, a, List.length_append]
theorem scAmount : FnScope ["amount", "visible", "most", "low", "high"] ["amount", "visible", "most"] (defScope sAmount) := ⟨rfl, rfl, rfl, by decide +kernel, rfl, by decide +kernel, by decide +kernel⟩
theorem ok_amount (F : Fun K "amount_bounds" "amount_bounds" sAmount f fd) (gR : Cal P w K mg base (L2.CX P w) 1 "require" ["holds", "words"] (spRequire C)) (gI : Cal P w K mg base CX0 1 "is_integer" ["value", "low", "high"] spIsInt) (mi : mg "isinstance" = none) (ms : mg "str" = none) :
    FnOk P w K mg base (L2.CX P w) 2 f fd ["amount", "visible", "most"] (spAmount C) := by
  refine F.okX scAmount (fun vs H Q E h => ?_) (fun cdv A outer s H vs Q E hr h => ?_)
  · obtain ⟨amt, most, dv, g, m, rfl, _⟩ := h
    rfl
  · obtain ⟨amt, most, dv, g, m, rfl, hm, hv, hr0, q1, q2⟩ := h
    have tk : Takes (cxOf (L2.CX P w) P w K mg base ["amount", "visible", "most", "low", "high"] "amount_bounds" (defScope sAmount) f cdv A outer s H E) (fun cls d _ H => E cls d H) := takes_of rfl rfl rfl rfl
    have hx := passes_call tk (E := E) fun _ _ _ _ h => h
    have hu := hu_of hr
    refine ⟨_, pss_cons (ps_if (pt_val (pe_callB call_isi (by rfl) mi (by decide +kernel) (pa_cons (pv 0) (pa_cons (pe_bltn (v := .ty "str") (by rfl) ms (by decide +kernel) rfl) pa_nil))))
        (pss_cons (ps_expr (pe_cal gR hr hx (pa_cons (pe_cmp (pc_din hu (pv 0) (pv 1)) (by rfl)) (pa_cons (pe_joined (.cons pe_str (.cons (pe_fmtR (pv 0)) .nil))) pa_nil))))
        (pss_cons (ps_asg (pe_dget hu (pv 1) (pv 0) (fun _ _ => rfl)) (pg_tup rfl (pgs_cons (pg_name (i := 3) scAmount.nd rfl (Or.inl rfl)) (pgs_cons (pg_name (i := 4) scAmount.nd rfl (Or.inl rfl)) pgs_nil))))
        (pss_cons (ps_expr (pe_cal gR hr hx (pa_cons (pe_cmpR op_le (pv 4) (pv 2) (nomark _)) (pa_cons (pe_joined (.cons pe_str (.cons (pe_fmtR (pv 0)) (.cons pe_str (.cons (pe_fmt (pv 2)) .nil))))) pa_nil))))
        (pss_one (ps_ret (pe_tup (pa_cons (pv 3) (pa_cons (pv 4) pa_nil)))))))) pss_nil)
      (pss_cons (ps_expr (pe_cal gR hr hx (pa_cons (pe_cal gI hr pass0 (pa_cons (pv 0) (pa_cons pe_int (pa_cons (pv 2) pa_nil)))) (pa_cons (pe_joined (.cons pe_str (.cons (pe_fmt (pv 2)) .nil))) pa_nil))))
      (pss_one (ps_ret (pe_tup (pa_cons (pv 0) (pa_cons (pv 0) pa_nil)))))), ?_⟩
    have ms2 : most.natAbs.log2 < 1920 ∧ (toString most : Str).length ≤ 1000 := by rcases hm with rfl | rfl <;> decide +kernel
    cases amt with
    | inl i =>
      refine ⟨_, rfl, _, _, _, _, false, rfl, .ty _, .base (.int _), kit_ty (by decide +kernel), _, rfl, iteF ?_⟩
      have fs : most.natAbs.log2 < 1920 ∧ (Str.empty ++ ("not from 0 to " : Str) ++ toString most).length ≤ sizeLine := by rcases hm with rfl | rfl <;> decide +kernel
      refine ⟨_, rfl, _, rfl, i, 0, most, rfl, _, rfl, by decide +kernel, _, rfl, .inr ⟨most, rfl, fs.1, _, rfl, fs.2, _, _, rfl, fun e => ?_, fun e => ?_⟩⟩
      · have e := of_decide_eq_true e
        refine ⟨_, rfl, _, rfl, (by show 2 ≤ sizeLine; decide), fun p hp => ?_⟩
        exact q1 (i, i) (by simp [amount, e]) p _ (same_new hp _) upd_same
      · have e := of_decide_eq_false e
        exact q2 (by simp [amount, e]) _ (Same.refl H)
    | inr z =>
      obtain ⟨hz, hrz⟩ := hr0 z rfl
      obtain ⟨kvs, v1, v2, v3⟩ := id hv
      refine ⟨_, rfl, _, _, _, _, true, rfl, .ty _, .base (.str _), kit_ty (by decide +kernel), _, rfl, iteT ?_⟩
      refine ⟨_, rfl, _, rfl, dv, _, rfl, DGet.k (k := .inr z) v1, _, rfl, by decide +kernel, _, rfl, .inl ⟨z, rfl, le_line (by omega), _, rfl, ?_, _, _, rfl, fun e => ?_, fun e => ?_⟩⟩
      · rw [slen0, slen0]
        exact le_line (by have : (Str.empty : Str).length + ("no visible number " : Str).length ≤ 1000 := by decide +kernel
                          omega)
      rotate_left
      · have v := v3 z
        cases hg : g z with
        | none => exact q2 (by simp [amount, hg]) _ (Same.refl H)
        | some p =>
          rw [hg] at v
          obtain ⟨b, w1, _⟩ := v
          rw [w1] at e
          cases e
      have v := v3 z
      cases hg : g z with
      | none =>
        rw [hg] at v
        rw [show valV kvs (.inr z) = none from v] at e
        cases e
      | some p =>
        rw [hg] at v
        obtain ⟨b, w1, hb, _⟩ := v
        dsimp only
        refine seq_asg0 ?_
        refine ⟨_, rfl, _, rfl, dv, .ref b, rfl, (by have t := DGet.k (k := .inr z) v1; rw [w1] at t; exact t), ?_⟩
        refine ⟨b, _, rfl, SqT.of hb, rfl, _, _, rfl, _, _, rfl, rfl, ?_⟩
        have l0 : (Str.empty : Str).length = 0 := by decide +kernel
        have l1 : ("the number " : Str).length ≤ 100 := by decide +kernel
        have l2 : (" can be greater than " : Str).length ≤ 100 := by decide +kernel
        refine ⟨_, rfl, _, rfl, _, _, rfl, rfl, _, rfl, by decide +kernel, _, rfl, .inl ⟨z, rfl, le_line (by omega), _, rfl, le_line (by rw [slen0, slen0]; omega), _, rfl, le_line (by rw [slen0, slen0, slen0]; omega), _, rfl, .inr ⟨most, rfl, ms2.1, _, rfl, le_line (by rw [slen0, slen0, slen0, slen0]; omega), _, _, rfl, fun e2 => ?_, fun e2 => ?_⟩⟩⟩
        · have e2 : p.2 ≤ most := of_decide_eq_true e2
          refine ⟨_, rfl, _, rfl, (by show 2 ≤ sizeLine; decide), fun t ht => ?_⟩
          exact q1 p (by simp [amount, hg, e2]) t _ (same_new ht _) upd_same
        · have e2 : ¬ p.2 ≤ most := of_decide_eq_false e2
          exact q2 (by simp [amount, hg, e2]) _ (Same.refl H)
theorem scBytes : FnScope ["item", "visible"] ["item", "visible"] (defScope sBytes) := ⟨rfl, rfl, rfl, by decide +kernel, rfl, by decide +kernel, by decide +kernel⟩
theorem ok_bytes {n : Nat} (F : Fun K "bytes_lengths" "bytes_lengths" sBytes f fd) (gA : Cal P w K mg base (L2.CX P w) 2 "amount_bounds" ["amount", "visible", "most"] (spAmount C)) (gL : GInt mg "GREATEST_LENGTH" 64) :
    FnOk P w K mg base (L2.CX P w) 3 f fd ["item", "visible"] (spLens C "bytes" n) := by
  refine F.okX scBytes (fun vs H Q E h => ?_) (fun cdv A outer s H vs Q E hr h => ?_)
  · obtain ⟨v, dv, x, g, m, d, rfl, _⟩ := h
    rfl
  · obtain ⟨v, dv, x, g, m, d, rfl, hk, hd, ok, ht, hat, hv, hm, q⟩ := h
    have tk : Takes (cxOf (L2.CX P w) P w K mg base ["item", "visible"] "bytes_lengths" (defScope sBytes) f cdv A outer s H E) (fun cls d _ H => E cls d H) := takes_of rfl rfl rfl rfl
    have hx := passes_call tk (E := E) fun _ _ _ _ h => h
    cases x with
    | byt nm amt =>
      simp only [It.tame] at ht
      simp only [It.At] at hat
      obtain ⟨p, rfl, hp⟩ := hat
      refine ⟨_, pss_one (ps_ret (pe_cal gA hr hx (pa_cons (pe_ix ix_tup (pv 0) pe_int (fun _ _ => rfl)) (pa_cons (pv 1) (pa_cons (pe_gint gL rfl) pa_nil))))), ?_⟩
      exact ⟨_, rfl, p, _, 2, _, rfl, rfl, SqT.of hp, atI_nat (j := 2) rfl, _, rfl, amt, 64, dv, g, m, rfl, .inl rfl, hv, ht.2, q⟩
    | _ => exact absurd hk (by simp only [It.kind]; decide +kernel)
theorem scText : FnScope ["item", "visible"] ["item", "visible"] (defScope sText) := ⟨rfl, rfl, rfl, by decide +kernel, rfl, by decide +kernel, by decide +kernel⟩
theorem ok_text {n : Nat} (F : Fun K "text_lengths" "text_lengths" sText f fd) (gR : Cal P w K mg base (L2.CX P w) 1 "require" ["holds", "words"] (spRequire C)) (gI : Cal P w K mg base CX0 1 "is_integer" ["value", "low", "high"] spIsInt) (gL : GInt mg "GREATEST_LENGTH" 64) (gB : GInt mg "GREATEST_BYTE" 255) :
    FnOk P w K mg base (L2.CX P w) 2 f fd ["item", "visible"] (spLens C "text" n) := by
  refine F.okX scText (fun vs H Q E h => ?_) (fun cdv A outer s H vs Q E hr h => ?_)
  · obtain ⟨v, dv, x, g, m, d, rfl, _⟩ := h
    rfl
  · obtain ⟨v, dv, x, g, m, d, rfl, hk, hd, ok, ht, hat, hv, hm, q1, q2⟩ := h
    have tk : Takes (cxOf (L2.CX P w) P w K mg base ["item", "visible"] "text_lengths" (defScope sText) f cdv A outer s H E) (fun cls d _ H => E cls d H) := takes_of rfl rfl rfl rfl
    have hx := passes_call tk (E := E) fun _ _ _ _ h => h
    cases x with
    | txt nm stop most =>
      simp only [It.At] at hat
      obtain ⟨p, rfl, hp⟩ := hat
      have hT : SqT K H p _ := SqT.of hp
      refine ⟨_, pss_cons (ps_expr (pe_cal gR hr hx (pa_cons (pe_cal gI hr pass0 (pa_cons (pe_ix ix_tup (pv 0) pe_int (fun _ _ => rfl)) (pa_cons pe_int (pa_cons (pe_gint gB rfl) pa_nil)))) (pa_cons pe_str pa_nil))))
        (pss_cons (ps_expr (pe_cal gR hr hx (pa_cons (pe_cal gI hr pass0 (pa_cons (pe_ix ix_tup (pv 0) pe_int (fun _ _ => rfl)) (pa_cons pe_int (pa_cons (pe_gint gL rfl) pa_nil)))) (pa_cons (pe_joined (.cons pe_str (.cons (pe_fmt (pe_gint gL rfl)) (.cons pe_str .nil)))) pa_nil))))
        (pss_one (ps_ret (pe_tup (pa_cons pe_int (pa_cons (pe_op op_add (pe_ix ix_tup (pv 0) pe_int (fun _ _ => rfl)) pe_int) pa_nil)))))), ?_⟩
      refine ⟨_, rfl, p, _, 2, _, rfl, rfl, hT, atI_nat (j := 2) rfl, stop, 0, 255, rfl, _, _, rfl, fun e => ?_, fun e => q2 (by have e := of_decide_eq_false e; simp only [It.lens]; rw [if_neg fun z => e z.1]) _ (Same.refl H)⟩
      have e := of_decide_eq_true e
      refine ⟨_, rfl, p, _, 3, _, rfl, rfl, hT, atI_nat (j := 3) rfl, most, 0, 64, rfl, ?_⟩
      refine ⟨_, rfl, by decide +kernel, .inr ⟨64, rfl, by decide +kernel, _, rfl, by decide +kernel, _, rfl, by decide +kernel, _, _, rfl, fun e2 => ?_, fun e2 => q2 (by have e2 := of_decide_eq_false e2; simp only [It.lens]; rw [if_neg fun z => e2 z.2]) _ (Same.refl H)⟩⟩
      have e2 := of_decide_eq_true e2
      refine ⟨_, rfl, p, _, 3, _, rfl, rfl, hT, atI_nat (j := 3) rfl, most, 1, rfl, rfl, (by show 2 ≤ sizeLine; decide), fun t ht4 => ?_⟩
      exact q1 (1, most + 1) (by simp only [It.lens]; rw [if_pos ⟨e, e2⟩]) t _ (same_new ht4 _) upd_same
    | _ => exact absurd hk (by simp only [It.kind]; decide +kernel)
theorem scCheck : FnScope ["item", "visible"] ["item", "visible"] (defScope sCheck) := ⟨rfl, rfl, rfl, by decide +kernel, rfl, by decide +kernel, by decide +kernel⟩
theorem ok_check {n : Nat} (F : Fun K "check_lengths" "check_lengths" sCheck f fd) (gR : Cal P w K mg base (L2.CX P w) 1 "require" ["holds", "words"] (spRequire C)) (gI : Cal P w K mg base CX0 1 "is_integer" ["value", "low", "high"] spIsInt) (gM : GInt mg "GREATEST_MODULUS" 16) :
    FnOk P w K mg base (L2.CX P w) 2 f fd ["item", "visible"] (spLens C "check" n) := by
  refine F.okX scCheck (fun vs H Q E h => ?_) (fun cdv A outer s H vs Q E hr h => ?_)
  · obtain ⟨v, dv, x, g, m, d, rfl, _⟩ := h
    rfl
  · obtain ⟨v, dv, x, g, m, d, rfl, hk, hd, ok, ht, hat, hv, hm, q1, q2⟩ := h
    have tk : Takes (cxOf (L2.CX P w) P w K mg base ["item", "visible"] "check_lengths" (defScope sCheck) f cdv A outer s H E) (fun cls d _ H => E cls d H) := takes_of rfl rfl rfl rfl
    have hx := passes_call tk (E := E) fun _ _ _ _ h => h
    cases x with
    | chk nm mo =>
      simp only [It.At] at hat
      obtain ⟨p, rfl, hp⟩ := hat
      have hT : SqT K H p _ := SqT.of hp
      refine ⟨_, pss_cons (ps_expr (pe_cal gR hr hx (pa_cons (pe_cal gI hr pass0 (pa_cons (pe_ix ix_tup (pv 0) pe_int (fun _ _ => rfl)) (pa_cons pe_int (pa_cons (pe_gint gM rfl) pa_nil)))) (pa_cons (pe_joined (.cons pe_str (.cons (pe_fmt (pe_gint gM rfl)) .nil))) pa_nil))))
        (pss_one (ps_ret (pe_tup (pa_cons pe_int (pa_cons pe_int pa_nil))))), ?_⟩
      refine ⟨_, rfl, p, _, 2, _, rfl, rfl, hT, atI_nat (j := 2) rfl, mo, 1, 16, rfl, ?_⟩
      refine ⟨_, rfl, by decide +kernel, .inr ⟨16, rfl, by decide +kernel, _, rfl, by decide +kernel, _, _, rfl, fun e => ?_, fun e => q2 (by have e := of_decide_eq_false e; simp only [It.lens]; rw [if_neg e]) _ (Same.refl H)⟩⟩
      have e := of_decide_eq_true e
      refine ⟨(by show 2 ≤ sizeLine; decide), fun t ht4 => ?_⟩
      exact q1 (1, 1) (by simp only [It.lens]; rw [if_pos e]) t _ (same_new ht4 _) upd_same
    | _ => exact absurd hk (by simp only [It.kind]; decide +kernel)
end
end Bs

set_option Elab.async false
set_option linter.all false
set_option maxRecDepth 100000
set_option maxHeartbeats 4000000
namespace Bs
open PySem L2
theorem two_go {c : Bool} {a b : Int} {σ : L2.St} {H : Hp} {R : V → Hp → Prop} (h : R (.int (if c = true then a else b)) H) : if c = true then tC (.int a) σ H R else tC (.int b) σ H R := by
  cases c with
  | true => exact iteT h
  | false => exact iteF h
theorem order_in (o : Str) : inV (.str o) [.str "big", .str "little"] = decide (o = "big" ∨ o = "little") := by
  rw [Bool.eq_iff_iff, decide_eq_true_iff]
  simp only [inV, List.any_cons, List.any_nil, eqV, Bool.or_false, Bool.or_eq_true]
  constructor
  · rintro (h | h)
    · exact .inl (eq_of_beq h).symm
    · exact .inr (eq_of_beq h).symm
  · rintro (h | h)
    · exact .inl (beq_iff_eq.mpr h.symm)
    · exact .inr (beq_iff_eq.mpr h.symm)
theorem int_eq {a b : Int} : decide (V.int a = V.int b) = decide (a = b) := decide_eq_decide.mpr ⟨V.int.inj, fun h => congrArg _ h⟩
section
variable {P : Program} {w : World} {K : PySem.W.Frag} {mg : Str → Option Value} {base : Heap} {f C : Addr} {fd : FuncData}
theorem scNumber : FnScope ["item", "visible", "size", "order", "low", "high", "greatest"] ["item", "visible"] (defScope sNumber) := ⟨rfl, rfl, rfl, by decide +kernel, rfl, by decide +kernel, by decide +kernel⟩
theorem ok_number {n : Nat} (F : Fun K "number_lengths" "number_lengths" sNumber f fd) (gR : Cal P w K mg base (L2.CX P w) 1 "require" ["holds", "words"] (spRequire C)) (gI : Cal P w K mg base CX0 1 "is_integer" ["value", "low", "high"] spIsInt) (gB : GInt mg "GREATEST_BYTE" 255) (gP : GInt mg "GREATEST_PAIR" 65535) :
    FnOk P w K mg base (L2.CX P w) 2 f fd ["item", "visible"] (spLens C "number" n) := by
  refine F.okX scNumber (fun vs H Q E h => ?_) (fun cdv A outer s H vs Q E hr h => ?_)
  · obtain ⟨v, dv, x, g, m, d, rfl, _⟩ := h
    rfl
  · obtain ⟨v, dv, x, g, m, d, rfl, hk, hd, ok, ht, hat, hv, hm, q1, q2⟩ := h
    have tk : Takes (cxOf (L2.CX P w) P w K mg base ["item", "visible", "size", "order", "low", "high", "greatest"] "number_lengths" (defScope sNumber) f cdv A outer s H E) (fun cls d _ H => E cls d H) := takes_of rfl rfl rfl rfl
    have hx := passes_call tk (E := E) fun _ _ _ _ h => h
    cases x with
    | num nm size order low high =>
      simp only [It.At] at hat
      obtain ⟨p, rfl, hp⟩ := hat
      have hT : SqT K H p _ := SqT.of hp
      refine ⟨_, pss_cons (ps_asg (pe_slice sl_tup (pv 0) (po_some pe_int) po_none) (pg_tup rfl (pgs_cons (pg_name (i := 2) scNumber.nd rfl (.inl rfl)) (pgs_cons (pg_name (i := 3) scNumber.nd rfl (.inl rfl)) (pgs_cons (pg_name (i := 4) scNumber.nd rfl (.inl rfl)) (pgs_cons (pg_name (i := 5) scNumber.nd rfl (.inl rfl)) pgs_nil))))))
        (pss_cons (ps_expr (pe_cal gR hr hx (pa_cons (pe_cal gI hr pass0 (pa_cons (pv 2) (pa_cons pe_int (pa_cons pe_int pa_nil)))) (pa_cons pe_str pa_nil))))
        (pss_cons (ps_expr (pe_cal gR hr hx (pa_cons (pe_cmpR op_in_seq (pv 3) (pe_tup (pa_cons pe_str (pa_cons pe_str pa_nil))) (by rfl)) (pa_cons pe_str pa_nil))))
        (pss_cons (ps_set (i := 6) scNumber.nd rfl (.inl rfl) (pe_ifExp (pt_cmpR op_eq (pv 2) pe_int (nomark _)) (pe_gint gB rfl) (pe_gint gP rfl)))
        (pss_cons (ps_expr (pe_cal gR hr hx (pa_cons (pe_cal gI hr pass0 (pa_cons (pv 5) (pa_cons pe_int (pa_cons (pv 6) pa_nil)))) (pa_cons (pe_joined (.cons pe_str (.cons (pe_fmt (pv 6)) .nil))) pa_nil))))
        (pss_cons (ps_expr (pe_cal gR hr hx (pa_cons (pe_cal gI hr pass0 (pa_cons (pv 4) (pa_cons pe_int (pa_cons (pv 5) pa_nil)))) (pa_cons pe_str pa_nil))))
        (pss_one (ps_ret (pe_tup (pa_cons (pv 2) (pa_cons (pv 2) pa_nil)))))))))), ?_⟩
      have no : numOk size order low high = false → ∀ H', Same H H' → E (.ref C) none H' := fun e => q2 (by simp only [It.lens]; rw [e]; rfl)
      refine ⟨_, rfl, 2, rfl, p, _, rfl, hT, by simp only [List.length_cons, List.length_nil]; decide, fun t ht4 => ?_⟩
      have s1 := same_new ht4 (.tup [.int size, .str order, .int low, .int high])
      refine ⟨t, [.int size, .str order, .int low, .int high], rfl, SqT.of upd_same, rfl, _, _, rfl, _, _, rfl, _, _, rfl, _, _, rfl, rfl, ?_⟩
      refine ⟨_, rfl, size, 1, 2, rfl, _, _, rfl, fun e1 => ?_, fun e1 => no (by unfold numOk; rw [e1]; rfl) _ s1⟩
      refine ⟨_, rfl, (by show 2 ≤ sizeLine; decide), fun o ho => ?_⟩
      have s2 := s1.trans (same_new ho (.tup [.str "big", .str "little"]))
      refine ⟨o, _, rfl, .inr (SqT.of upd_same), rfl, by decide +kernel, decide (order = "big" ∨ order = "little"), _, by rw [← order_in]; rfl, fun e2 => ?_, fun e2 => no (by unfold numOk; rw [e1, e2]; rfl) _ s2⟩
      refine ⟨_, rfl, rfl, _, rfl, two_go ?_⟩
      rw [int_eq]
      refine ⟨_, rfl, _, rfl, high, 0, _, rfl, ?_⟩
      have eg : (if decide (size = 1) = true then (255 : Int) else 65535) = if size = 1 then 255 else 65535 := by by_cases z : size = 1 <;> simp [z]
      rw [eg]
      have fs : (if size = 1 then (255 : Int) else 65535).natAbs.log2 < 1920 ∧ (Str.empty ++ ("a high is from 0 to " : Str) ++ toString (if size = 1 then (255 : Int) else 65535)).length ≤ sizeLine := by
        by_cases z : size = 1
        · rw [if_pos z]; decide +kernel
        · rw [if_neg z]; decide +kernel
      refine ⟨_, rfl, by decide +kernel, _, rfl, .inr ⟨_, rfl, fs.1, _, rfl, fs.2, _, _, rfl, fun e3 => ?_, fun e3 => no (by unfold numOk; rw [e1, e2, e3]; rfl) _ s2⟩⟩
      refine ⟨_, rfl, _, rfl, low, 0, high, rfl, _, _, rfl, fun e4 => ?_, fun e4 => no (by unfold numOk; rw [e1, e2, e3, e4]; rfl) _ s2⟩
      refine ⟨_, rfl, _, rfl, (by show 2 ≤ sizeLine; decide), fun r hr4 => ?_⟩
      exact q1 (size, size) (by simp only [It.lens]; unfold numOk; rw [e1, e2, e3, e4]; rfl) r _ (s2.trans (same_new hr4 _)) upd_same
    | _ => exact absurd hk (by simp only [It.kind]; decide +kernel)
theorem scPad : FnScope ["item", "visible", "multiple"] ["item", "visible"] (defScope sPad) := ⟨rfl, rfl, rfl, by decide +kernel, rfl, by decide +kernel, by decide +kernel⟩
/-- MULTIPLES -/
def Mults (K : PySem.W.Frag) (mg : Str → Option Value) : Prop := ∃ a, mg "MULTIPLES" = some (.ref a) ∧ ∀ H, SqT K H a [.int 1, .int 2, .int 4, .int 8, .int 16]
theorem mult_in (o : Int) : inV (.int o) [.int 1, .int 2, .int 4, .int 8, .int 16] = decide (o = 1 ∨ o = 2 ∨ o = 4 ∨ o = 8 ∨ o = 16) := by
  rw [Bool.eq_iff_iff, decide_eq_true_iff]
  simp only [inV, List.any_cons, List.any_nil, eqV, Bool.or_false, Bool.or_eq_true, beq_iff_eq]
  omega
theorem ok_pad {n : Nat} (F : Fun K "pad_lengths" "pad_lengths" sPad f fd) (gR : Cal P w K mg base (L2.CX P w) 1 "require" ["holds", "words"] (spRequire C)) (gI : Cal P w K mg base CX0 1 "is_integer" ["value", "low", "high"] spIsInt) (gB : GInt mg "GREATEST_BYTE" 255) (gM : Mults K mg) :
    FnOk P w K mg base (L2.CX P w) 2 f fd ["item", "visible"] (spLens C "pad" n) := by
  refine F.okX scPad (fun vs H Q E h => ?_) (fun cdv A outer s H vs Q E hr h => ?_)
  · obtain ⟨v, dv, x, g, m, d, rfl, _⟩ := h
    rfl
  · obtain ⟨v, dv, x, g, m, d, rfl, hk, hd, ok, ht, hat, hv, hm, q1, q2⟩ := h
    obtain ⟨aM, gM1, gM2⟩ := gM
    have tk : Takes (cxOf (L2.CX P w) P w K mg base ["item", "visible", "multiple"] "pad_lengths" (defScope sPad) f cdv A outer s H E) (fun cls d _ H => E cls d H) := takes_of rfl rfl rfl rfl
    have hx := passes_call tk (E := E) fun _ _ _ _ h => h
    cases x with
    | pad nm mo b =>
      simp only [It.At] at hat
      obtain ⟨p, rfl, hp⟩ := hat
      have hT : SqT K H p _ := SqT.of hp
      refine ⟨_, pss_cons (ps_set (i := 2) scPad.nd rfl (.inl rfl) (pe_ix ix_tup (pv 0) pe_int (fun _ _ => rfl)))
        (pss_cons (ps_expr (pe_cal gR hr hx (pa_cons (pe_and (pe_cal gI hr pass0 (pa_cons (pv 2) (pa_cons pe_int (pa_cons pe_int pa_nil)))) (pe_one (pe_cmpR op_in_seq (pv 2) (pe_glob (v := .ref aM) (by rfl) gM1 rfl) (by rfl)))) (pa_cons pe_str pa_nil))))
        (pss_cons (ps_expr (pe_cal gR hr hx (pa_cons (pe_cal gI hr pass0 (pa_cons (pe_ix ix_tup (pv 0) pe_int (fun _ _ => rfl)) (pa_cons pe_int (pa_cons (pe_gint gB rfl) pa_nil)))) (pa_cons pe_str pa_nil))))
        (pss_one (ps_ret (pe_tup (pa_cons pe_int (pa_cons (pe_op op_sub (pv 2) pe_int) pa_nil))))))), ?_⟩
      refine ⟨_, rfl, p, _, 2, _, rfl, rfl, hT, atI_nat (j := 2) rfl, ?_⟩
      have no : ¬ ((mo = 1 ∨ mo = 2 ∨ mo = 4 ∨ mo = 8 ∨ mo = 16) ∧ 0 ≤ b ∧ b ≤ 255) → ∀ H', Same H H' → E (.ref C) none H' := fun e => q2 (by simp only [It.lens]; rw [if_neg e])
      refine ⟨_, rfl, mo, 1, 16, rfl, _, rfl, ?_⟩
      refine ite2 (fun e => ?_) (fun e => ⟨false, _, rfl, fun z => absurd z (by decide), fun _ => no (fun z => e (decide_eq_true (by omega))) _ (Same.refl H)⟩)
      refine ⟨_, rfl, aM, _, rfl, .inr (gM2 H), rfl, by decide +kernel, decide (mo = 1 ∨ mo = 2 ∨ mo = 4 ∨ mo = 8 ∨ mo = 16), _, by rw [← mult_in]; rfl, fun e2 => ?_, fun e2 => no (fun z => of_decide_eq_false e2 z.1) _ (Same.refl H)⟩
      refine ⟨_, rfl, p, _, 3, _, rfl, rfl, hT, atI_nat (j := 3) rfl, b, 0, 255, rfl, _, _, rfl, fun e3 => ?_, fun e3 => no (fun z => of_decide_eq_false e3 z.2) _ (Same.refl H)⟩
      refine ⟨_, rfl, mo, 1, rfl, rfl, (by show 2 ≤ sizeLine; decide), fun r hr4 => ?_⟩
      exact q1 (0, mo - 1) (by simp only [It.lens]; rw [if_pos ⟨of_decide_eq_true e2, of_decide_eq_true e3⟩]) r _ (same_new hr4 _) upd_same
    | _ => exact absurd hk (by simp only [It.kind]; decide +kernel)
end
end Bs

set_option Elab.async false
set_option linter.all false
set_option maxRecDepth 100000
set_option maxHeartbeats 4000000
namespace Bs
open PySem L2
/-! ### a call of a slot that holds one of the rules -/
structure HeldR (X : Cx) (CX : CXT) (k : Nat) (f : Addr) (sp : Sp) : Prop where
  ex : ∃ (fd : FuncData) (ps : List Str), FnOk X.prog X.w X.K X.mg X.base CX k f fd ps sp ∧ PySem.W.keepIn X.K (.ref f) = true ∧ Binds X.K fd ps []
def tCallR (X : Cx) (CX : CXT) (k : Nat) (i : Nat) (E : XK) (t : TA) : TE := fun σ H Q => ∃ f sp, σ[i]? = some (some (.ref f)) ∧ HeldR X CX k f sp ∧ t σ H fun vs H1 => sp vs H1 Q E
theorem pe_callR {X : Cx} {CX : CXT} {k i : Nat} {E : XK} {x : Str} {p pos : Pos} {e : Expr} {es : List Expr} {t : TA} (hr : Room k X.A) (hN : X.N[i]? = some x) (hv : Vis X.env.scope x) (hx : Passes CX X E) (ha : PA X (e :: es) t)
    (hdb : (x == ("__debug__" : Str)) = false := by decide) (hcd : (x == ("__classdict__" : Str)) = false := by decide)
    (he : starEach (e :: es) X.env = (false, eval e X.env) :: starEach es X.env := by rfl) (hpl : (backTo pos (starEach es X.env)).any (·.1) = false := by rfl) : PE X (.Call (.Name x p) (e :: es) [] pos) (tCallR X CX k i E t) := by
  refine ⟨fun pins s σ H Q I ⟨f, sp, hs, hh, ht⟩ => ?_⟩
  obtain ⟨fd, ps, F, hk, hb⟩ := hh.ex
  refine (pe_callL (i := i) (dvs := []) F hr hN hv hk hb .nil hx ha hdb hcd he hpl).run pins s σ H Q I ⟨hs, ?_⟩
  have e2 : (fun (vs : List V) (H1 : Hp) => sp (vs ++ []) H1 Q E) = fun vs H1 => sp vs H1 Q E := by
    funext vs H1
    rw [List.append_nil]
  show t σ H (fun vs H1 => sp (vs ++ []) H1 Q E)
  rw [e2]
  exact ht
/-! ### list_lengths -/
def Its.drop : Nat → Its → Its
  | 0, x => x
  | _ + 1, .nil => .nil
  | i + 1, .cons _ r => r.drop i
theorem drop_get : ∀ {x : Its} {i : Nat} {y : It}, x.get i = some y → x.drop i = .cons y (x.drop (i + 1))
  | .nil, _, _, e => by simp [Its.get] at e
  | .cons x r, 0, y, e => by simp [Its.get] at e; subst e; cases r <;> rfl
  | .cons x r, i + 1, y, e => drop_get (x := r) e
theorem drop_all : ∀ (x : Its), x.drop x.len = .nil
  | .nil => rfl
  | .cons x r => drop_all r
theorem get_okd : ∀ {x : Its} {i : Nat} {y : It} {d : Int}, x.ok d = true → x.get i = some y → y.ok d = true
  | .nil, _, _, _, _, e => by simp [Its.get] at e
  | .cons x r, 0, y, d, h, e => by simp [Its.get] at e; subst e; rw [Its.ok, Bool.and_eq_true] at h; exact h.1
  | .cons x r, i + 1, y, d, h, e => by rw [Its.ok, Bool.and_eq_true] at h; exact get_okd (x := r) h.2 e
/-- the numbers behind an item -/
def It.seen (f : Env) : It → Env
  | .num n _ _ low high => f.put n (low, high)
  | _ => f
theorem lens_cons (f : Env) (x : It) (r : Its) : (Its.cons x r).lens f = match x.lens f with
    | some a => (r.lens (x.seen f)).map fun b => (a.1 + b.1, a.2 + b.2)
    | none => none := by
  cases x <;> simp only [Its.lens, It.seen] <;> (generalize It.lens f _ = u; generalize Its.lens _ r = v; cases u <;> cases v <;> rfl)
theorem num_in {g : Env} {nm order : Str} {size low high : Int} {l : Int × Int} (e : It.lens g (.num nm size order low high) = some l) : 0 ≤ low ∧ low ≤ high := by
  simp only [It.lens] at e
  by_cases c : numOk size order low high = true
  · unfold numOk at c
    rw [Bool.and_eq_true, Bool.and_eq_true, Bool.and_eq_true] at c
    exact of_decide_eq_true c.2.2.2
  · rw [if_neg c] at e; cases e
theorem vis_put {H : Hp} {d t : Addr} {f : Env} {m : Nat} {n : Str} {p : Int × Int} {kvs : List (Key × V)} (hd : H d = some (.dK kvs)) (hl : kvs.length ≤ m) (hv : ∀ z : Str, match f z with
      | some p => ∃ a, valV kvs (.inr z) = some (.ref a) ∧ H a = some (.tup [.int p.1, .int p.2]) ∧ 0 ≤ p.1 ∧ p.1 ≤ p.2
      | none => valV kvs (.inr z) = none) (ht : H t = some (.tup [.int p.1, .int p.2])) (hp : 0 ≤ p.1 ∧ p.1 ≤ p.2) : VisAt (upd H d (.dK (putK kvs (.inr n) (.ref t)))) d (f.put n p) (m + 1) := by
  have ne : ∀ a xs, H a = some (.tup xs) → a ≠ d := fun a xs e => ne_of e hd (by intro z; cases z)
  refine ⟨_, upd_same, Nat.le_trans (length_putK _ _ _) (by omega), fun z => ?_⟩
  rw [valV_put]
  by_cases hz : z = n
  · subst hz
    rw [if_pos rfl]
    show match (if z = z then some p else f z) with | some p => _ | none => _
    rw [if_pos rfl]
    exact ⟨t, rfl, by rw [upd_ne (ne _ _ ht)]; exact ht, hp⟩
  · rw [if_neg (fun e => hz (Sum.inr.inj e))]
    show match (if z = n then some p else f z) with | some p => _ | none => _
    rw [if_neg hz]
    have q := hv z
    cases e : f z with
    | none => rw [e] at q; exact q
    | some y => rw [e] at q; obtain ⟨a, q1, q2, q3⟩ := q; exact ⟨a, q1, by rw [upd_ne (ne _ _ q2)]; exact q2, q3⟩
def spLensList (C : Addr) (n : Nat) : Sp := fun vs H Q E => ∃ (a dv : Addr) (x : Its) (xs : List V) (f : Env) (m : Nat) (d : Int), vs = [.ref a, .ref dv] ∧ d + n = 3 ∧ x.ok d = true ∧ x.len ≤ 12 ∧ x.tame ∧ H a = some (.tup xs) ∧ x.At true H xs ∧ VisAt H dv f m ∧ m + 12 * (n + 1) ≤ 100 ∧
  Told C (x.lens f) H Q E
/-- RULES -/
def Rules (P : Program) (w : World) (K : PySem.W.Frag) (mg : Str → Option Value) (base : Heap) (C : Addr) (k n : Nat) : Prop := ∃ d es nn, mg "RULES" = some (.ref d) ∧ KDict K w d es nn ∧
  ∀ x : It, ∃ f fd, PySem.W.nsIn K d x.kind = some (some (.ref f)) ∧ PySem.W.keepIn K (.ref f) = true ∧ Binds K fd ["item", "visible"] [] ∧ FnOk P w K mg base (L2.CX P w) k f fd ["item", "visible"] (spLens C x.kind n)
section
variable {P : Program} {w : World} {K : PySem.W.Frag} {mg : Str → Option Value} {base : Heap} {f C : Addr} {fd : FuncData}
theorem scListLen : FnScope ["items", "visible", "known", "least", "greatest", "item", "rule", "low", "high"] ["items", "visible"] (defScope sListLen) := ⟨rfl, rfl, rfl, by decide +kernel, rfl, by decide +kernel, by decide +kernel⟩
theorem ok_listlen {n k : Nat} (F : Fun K "list_lengths" "list_lengths" sListLen f fd) (mdict : mg "dict" = none) (R : Rules P w K mg base C k n) :
    FnOk P w K mg base (L2.CX P w) (k + 1) f fd ["items", "visible"] (spLensList C n) := by
  refine F.okX scListLen (fun vs H Q E h => ?_) (fun cdv A outer s H vs Q E hr h => ?_)
  · obtain ⟨a, dv, x, xs, g, m, d, rfl, _⟩ := h
    rfl
  · obtain ⟨a, dv, x, xs, g, m, d, rfl, hd, ok, hlen, ht, ha, hat, ⟨kvs, v1, v2, v3⟩, hm, q1, q2⟩ := h
    obtain ⟨dR, es, nn, gR, DR, hR⟩ := R
    have tk : Takes (cxOf (L2.CX P w) P w K mg base ["items", "visible", "known", "least", "greatest", "item", "rule", "low", "high"] "list_lengths" (defScope sListLen) f cdv A outer s H E) (fun cls d _ H => E cls d H) := takes_of rfl rfl rfl rfl
    have hx : Passes (L2.CX P w) (cxOf (L2.CX P w) P w K mg base ["items", "visible", "known", "least", "greatest", "item", "rule", "low", "high"] "list_lengths" (defScope sListLen) f cdv A outer s H E) E := passes_call tk (E := E) fun _ _ _ _ h => h
    have hu := hu_of hr
    refine ⟨_, pss_cons (ps_set (i := 2) scListLen.nd rfl (.inl rfl) (pe_callTy call_dictD (by rfl) mdict (by decide +kernel) (pa_cons (pv 1) pa_nil)))
      (pss_cons (ps_set (i := 3) scListLen.nd rfl (.inl rfl) pe_int)
      (pss_cons (ps_set (i := 4) scListLen.nd rfl (.inl rfl) pe_int)
      (pss_cons (ps_for (passes_of rfl) rfl (pi_row (pv 0)) (pg_name (i := 5) scListLen.nd rfl (.inl rfl))
        (pss_cons (ps_set (i := 6) scListLen.nd rfl (.inl rfl) (pe_ix ix_kdict (pe_glob (v := .ref dR) (by rfl) gR rfl) (pe_ix ix_tup (pv 5) pe_int (fun _ _ => rfl)) (fun _ _ => rfl)))
        (pss_cons (ps_asg (pe_callR (i := 6) hr rfl (.inl rfl) hx (pa_cons (pv 5) (pa_cons (pv 2) pa_nil))) (pg_tup rfl (pgs_cons (pg_name (i := 7) scListLen.nd rfl (.inl rfl)) (pgs_cons (pg_name (i := 8) scListLen.nd rfl (.inl rfl)) pgs_nil))))
        (pss_cons (ps_aug (i := 3) scListLen.nd rfl (.inl rfl) (pv 7) ip_add)
        (pss_cons (ps_aug (i := 4) scListLen.nd rfl (.inl rfl) (pv 8) ip_add)
        (pss_one (ps_if (pt_cmpR op_eq (pe_ix ix_tup (pv 5) pe_int (fun _ _ => rfl)) pe_str (nomark _))
          (pss_one (ps_dput hu (pv 2) (pe_ix ix_tup (pv 5) pe_int (fun _ _ => rfl)) (pe_tup (pa_cons (pe_ix ix_tup (pv 5) pe_int (fun _ _ => rfl)) (pa_cons (pe_ix ix_tup (pv 5) pe_int (fun _ _ => rfl)) pa_nil))) rfl)) pss_nil)))))))
      (pss_one (ps_ret (pe_tup (pa_cons (pv 3) (pa_cons (pv 4) pa_nil)))))))), ?_⟩
    refine ⟨_, rfl, dv, kvs, rfl, .of v1, fun kn hkn => ?_⟩
    have s0 := same_new hkn (.dK kvs)
    refine ⟨_, rfl, a, rfl, ?_⟩
    have el := hat.len
    refine row_go2 (H0 := H) (.inl ha) s0 (fun J wk => ?_)
    refine for_it wk (fun i σ H' => ∃ L G i5 i6 i7 i8, σ = [some (.ref a), some (.ref dv), some (.ref kn), some (.int L), some (.int G), i5, i6, i7, i8] ∧ Same H H' ∧ ∃ gi, VisAt H' kn gi (m + i) ∧ x.lens g = ((x.drop i).lens gi).map fun p => (L + p.1, G + p.2))
      ⟨0, 0, none, none, none, none, rfl, s0, g, ⟨kvs, upd_same, v2, fun z => ?_⟩, ?_⟩ (fun _ _ _ _ h => by obtain ⟨_, _, _, _, _, _, _, z, _⟩ := h; exact z) ?_ ?_
    · have q := v3 z
      cases e : g z with
      | none => rw [e] at q; exact q
      | some p => rw [e] at q; obtain ⟨b, q1, q2, q3⟩ := q; exact ⟨b, q1, s0 _ _ q2, q3⟩
    · show x.lens g = (x.lens g).map _
      cases x.lens g with
      | none => rfl
      | some p => simp
    · rintro i v σ H2 H3 hi ⟨L, G, i5, i6, i7, i8, rfl, s2, gi, vis, el2⟩ ⟨e3, hv⟩
      subst e3
      obtain ⟨y, gy, ay⟩ := At_item (hat.same s2) hv
      obtain ⟨p, rest, rfl, hp, hrest⟩ := At_head ay
      obtain ⟨fR, fdR, r1, r2, r3, r4⟩ := hR y
      rw [drop_get gy, lens_cons] at el2
      have hTy : SqT K H3 p _ := SqT.of hp
      refine ⟨_, rfl, p, _, 0, _, rfl, rfl, hTy, atI_nat (j := 0) rfl, dR, y.kind, .ref fR, rfl, rfl, ⟨es, nn, _, DR.at_, DR.lit, r1, rfl⟩, ?_⟩
      refine ⟨fR, spLens C y.kind n, rfl, ⟨fdR, _, r4, r2, r3⟩, ?_⟩
      refine ⟨_, rfl, _, rfl, .ref p, kn, y, gi, m + i, d, rfl, rfl, hd, get_okd ok gy, get_tame ht gy, ay, vis, by omega, fun l el3 pl H4 s4 h4 => ?_, fun en H4 s4 => q2 (by rw [el2, en]; rfl) H4 (s2.trans s4)⟩
      rw [el3] at el2
      refine ⟨pl, _, rfl, SqT.of h4, rfl, _, _, rfl, _, _, rfl, rfl, ?_⟩
      refine ⟨_, rfl, _, rfl, _, _, rfl, rfl, ?_⟩
      refine ⟨_, rfl, _, rfl, _, _, rfl, rfl, ?_⟩
      have hTy4 : SqT K H4 p _ := SqT.of (s4 _ _ hp)
      refine ⟨_, rfl, p, _, 0, _, rfl, rfl, hTy4, atI_nat (j := 0) rfl, rfl, _, rfl, ?_⟩
      have next : ∀ r, Option.map (fun q => (L + q.1, G + q.2)) (Option.map (fun b : Int × Int => (l.1 + b.1, l.2 + b.2)) r) = Option.map (fun q => (L + l.1 + q.1, G + l.2 + q.2)) r := fun r => by
        cases r with
        | none => rfl
        | some b => simp [Int.add_assoc]
      refine ite2 (fun e => ?_) (fun e => ?_)
      · cases y with
        | num nm size order low high =>
          simp only [It.At] at ay
          obtain ⟨p', e5, hp5⟩ := ay
          cases e5
          have hp4 := s4 _ _ hp5
          obtain ⟨kv2, w1, w2, w3⟩ := vis.same s4
          refine ⟨_, rfl, p, _, 4, _, rfl, rfl, SqT.of hp4, atI_nat (j := 4) rfl, _, rfl, p, _, 5, _, rfl, rfl, SqT.of hp4, atI_nat (j := 5) rfl, (by show 2 ≤ sizeLine; decide), fun t ht4 => ?_⟩
          have s5 := same_new ht4 (.tup [.int low, .int high])
          have w15 := s5 _ _ w1
          refine ⟨_, rfl, _, rfl, p, _, 1, _, rfl, rfl, SqT.of (s5 _ _ hp4), atI_nat (j := 1) rfl, kn, _, rfl, DPut.k (k := .inr nm) w15 (small1000 (by omega)), ?_⟩
          have v5 := (VisAt.same s5 ⟨kv2, w1, w2, w3⟩)
          refine ⟨_, _, _, _, _, _, rfl, same_set (s2.trans (s4.trans s5)) hkn, gi.put nm (low, high), ?_, ?_⟩
          · refine vis_put w15 w2 (fun z => ?_) upd_same (num_in el3)
            have q := w3 z
            cases e9 : gi z with
            | none => rw [e9] at q; exact q
            | some y => rw [e9] at q; obtain ⟨b, q1, q2, q3⟩ := q; exact ⟨b, q1, s5 _ _ q2, q3⟩
          · rw [el2]
            exact next _
        | _ => exact absurd (of_decide_eq_true e) (kne (by simp only [It.kind]; decide +kernel))
      · have ns : y.seen gi = gi := by
          cases y with
          | num => exact absurd (decide_eq_true rfl) e
          | _ => rfl
        refine ⟨_, _, _, _, _, _, rfl, s2.trans s4, gi, ?_, ?_⟩
        · obtain ⟨kv2, w1, w2, w3⟩ := vis.same s4
          exact ⟨kv2, w1, by omega, w3⟩
        · rw [el2, ns]
          exact next _
    · rintro σ H2 ⟨L, G, i5, i6, i7, i8, rfl, s2, gi, vis, el2⟩
      rw [el, drop_all] at el2
      refine ⟨_, rfl, _, rfl, (by show 2 ≤ sizeLine; decide), fun t ht4 => ?_⟩
      exact q1 (L, G) (by rw [el2]; simp [Its.lens]) t _ (s2.trans (same_new ht4 _)) upd_same
end
end Bs

set_option Elab.async false
set_option linter.all false
set_option maxRecDepth 100000
set_option maxHeartbeats 4000000
namespace Bs
open PySem L2
/-! ### lengths of repeats, eithers, switches -/
def Blks.drop : Nat → Blks → Blks
  | 0, x => x
  | _ + 1, .nil => .nil
  | i + 1, .cons _ _ r => r.drop i
theorem dropB_get : ∀ {x : Blks} {i : Nat} {v : Int} {b : Its}, x.get i = some (v, b) → x.drop i = .cons v b (x.drop (i + 1))
  | .nil, _, _, _, e => by simp [Blks.get] at e
  | .cons v b r, 0, _, _, e => by simp only [Blks.get, Option.some.injEq, Prod.mk.injEq] at e; obtain ⟨rfl, rfl⟩ := e; cases r <;> rfl
  | .cons v b r, i + 1, _, _, e => dropB_get (x := r) e
theorem dropB_all : ∀ (x : Blks), x.drop x.len = .nil
  | .nil => rfl
  | .cons v b r => dropB_all r
theorem getB_okd : ∀ {x : Blks} {i : Nat} {c : Int} {b : Its} {d : Int}, x.ok d = true → x.get i = some (c, b) → b.len ≤ 12 ∧ b.ok d = true
  | .nil, _, _, _, _, _, e => by simp [Blks.get] at e
  | .cons v b r, 0, c, y, d, h, e => by
    simp only [Blks.get, Option.some.injEq, Prod.mk.injEq] at e
    obtain ⟨rfl, rfl⟩ := e
    rw [Blks.ok, Bool.and_eq_true, Bool.and_eq_true] at h
    exact ⟨of_decide_eq_true h.1.1, h.1.2⟩
  | .cons v b r, i + 1, c, y, d, h, e => by rw [Blks.ok, Bool.and_eq_true] at h; exact getB_okd (x := r) h.2 e
theorem lensB_cons (f : Env) (v : Int) (b : Its) (r : Blks) : (Blks.cons v b r).lens f = match b.lens f with
    | some a => (r.lens f).map (a :: ·)
    | none => none := by
  rw [Blks.lens]
  generalize b.lens f = u
  generalize r.lens f = w
  cases u <;> cases w <;> rfl
theorem lensB_len : ∀ {x : Blks} {f : Env} {r : List (Int × Int)}, x.lens f = some r → r.length = x.len
  | .nil, f, r, e => by simp [Blks.lens] at e; subst e; rfl
  | .cons v b y, f, r, e => by
    rw [lensB_cons] at e
    cases h : b.lens f with
    | none => rw [h] at e; cases e
    | some a =>
      rw [h] at e
      cases h2 : y.lens f with
      | none => rw [h2] at e; cases e
      | some l => rw [h2] at e; cases e; simp [Blks.len, lensB_len h2]
/-- pairs of ints in tuples -/
abbrev PairsAt (H : Hp) : List V → List (Int × Int) → Prop := Paired fun v p => ∃ a, v = .ref a ∧ H a = some (.tup [.int p.1, .int p.2])
theorem PairsAt.kp {H H' : Hp} (s : ∀ b xs, H b = some (.tup xs) → H' b = some (.tup xs)) : ∀ {l : List V} {r : List (Int × Int)}, PairsAt H l r → PairsAt H' l r
  | _, _, .nil => .nil
  | _, _, .cons ⟨a, e, h⟩ t => .cons ⟨a, e, s _ _ h⟩ (PairsAt.kp s t)
theorem PairsAt.app {H : Hp} {v : V} {p : Int × Int} (h : ∃ a, v = .ref a ∧ H a = some (.tup [.int p.1, .int p.2])) : ∀ {l : List V} {r : List (Int × Int)}, PairsAt H l r → PairsAt H (l ++ [v]) (r ++ [p])
  | _, _, .nil => .cons h .nil
  | _, _, .cons q t => .cons q (PairsAt.app h t)
theorem PairsAt.len {H : Hp} : ∀ {l : List V} {r : List (Int × Int)}, PairsAt H l r → l.length = r.length
  | _, _, .nil => rfl
  | _, _, .cons _ t => by simp [PairsAt.len t]
theorem PairsAt.get {H : Hp} : ∀ {l : List V} {r : List (Int × Int)} {i : Nat} {v : V}, PairsAt H l r → l[i]? = some v → ∃ p a, r[i]? = some p ∧ v = .ref a ∧ H a = some (.tup [.int p.1, .int p.2])
  | _, _, _, _, .nil, e => by simp at e
  | _, _, 0, _, .cons ⟨a, e0, h⟩ _, e => by simp at e; subst e; exact ⟨_, a, by simp, e0, h⟩
  | _, _, i + 1, _, .cons _ t, e => by obtain ⟨p, a, h⟩ := PairsAt.get (i := i) t (by simpa using e); exact ⟨p, a, by simpa using h.1, h.2⟩
theorem g_nx {i : Nat} {v : V} {σ : L2.St} {H : Hp} {N : L2.St → Hp → Prop} (h : N (σ.set i (some v)) H) : gName i v σ H N := h
theorem seq_asg {te : TE} {g : TG} {u : TS} {D : Ends} {σ : L2.St} {H : Hp} (h : te σ H fun x H1 => g x σ H1 (u D)) : tSeq (tAsg te g) u D σ H := h
theorem ret_cb {r : List V → Hp → VK → Prop} {te : TE} {u : TA} {D : Ends} {σ : L2.St} {H : Hp} (h : te σ H fun x H1 => r [x] H1 fun y H2 => u σ H2 fun vs H3 => (y :: vs).length ≤ sizeLine ∧ ∀ p, H3 p = none → D.rt (.ref p) (upd H3 p (.tup (y :: vs)))) :
    tRet (tTup (tCons (tCB r (tCons te tNil)) u)) D σ H := h
theorem cons_cb {r : List V → Hp → VK → Prop} {te : TE} {σ : L2.St} {H : Hp} {Q : List V → Hp → Prop} (h : te σ H fun x H1 => r [x] H1 fun y H2 => Q [y] H2) : tCons (tCB r (tCons te tNil)) tNil σ H Q := h
theorem take_more {α : Type} {l : List α} {i : Nat} {x : α} (h : l[i]? = some x) : l.take (i + 1) = l.take i ++ [x] := by
  rw [List.take_add_one, h]; rfl
/-- [x for x, y in told], told a list of pairs in slot 2 -/
theorem proj_lc {K : PySem.W.Frag} {a b c j : Nat} {vs : List Nat} {σ : L2.St} {H : Hp} {Q : VK} {T : Addr} {acc : List V} {rs : List (Int × Int)} (pr : Int × Int → Int) (h2 : σ[j]? = some (some (.ref T))) (hT : H T = some (.lst acc)) (hp : PairsAt H acc rs) (hl : rs.length ≤ 100)
    (hw : ∀ v w, wipe (((wipe σ vs).set a (some v)).set b (some w)) vs = wipe σ vs) (hc : ∀ p : Int × Int, (((wipe σ vs).set a (some (.int p.1))).set b (some (.int p.2)))[c]? = some (some (.int (pr p))))
    (q : ∀ D H', Same H H' → H' D = some (.lst ((rs.map pr).map V.int)) → Q (.ref D) H') : tLc (iList K (tVar j)) (gTup K 2 (gCons (gName a) (gCons (gName b) gNil))) tYes (tVar c) vs σ H Q := by
  refine ⟨_, h2, T, rfl, ⟨acc, SqL.of hT⟩, fun D hD => lc_list (K := K) (a := T) (xs := acc) (fun i H' => Same H H' ∧ H' D = some (.lst (((rs.take i).map pr).map V.int))) ⟨same_new hD _, upd_same⟩ (fun i H' _ h => SqL.of (h.1 _ _ hT)) ?_ ?_⟩
  · rintro i v H2 hi ⟨s2, h2⟩
    obtain ⟨p, t, e1, rfl, ht⟩ := hp.get hi
    refine ⟨t, _, rfl, SqT.of (s2 _ _ ht), rfl, _, _, rfl, _, _, rfl, rfl, hw _ _, yes_go ⟨_, hc p, _, h2, small1000 (by rw [List.length_map, List.length_map, List.length_take]; omega), same_set s2 hD, ?_⟩⟩
    rw [upd_same, take_more e1, List.map_append, List.map_append]
    rfl
  · rintro H2 ⟨s2, h2⟩
    rw [hp.len, List.take_length] at h2
    exact q D H2 s2 h2
/-- [x for x, y in told if x == 0] -/
theorem zero_lc {K : PySem.W.Frag} {a b j : Nat} {vs : List Nat} {σ : L2.St} {H : Hp} {Q : VK} {T : Addr} {acc : List V} {rs : List (Int × Int)} (h2 : σ[j]? = some (some (.ref T))) (hT : H T = some (.lst acc)) (hp : PairsAt H acc rs) (hl : rs.length ≤ 100)
    (hw : ∀ v w, wipe (((wipe σ vs).set a (some v)).set b (some w)) vs = wipe σ vs) (hc : ∀ p : Int × Int, (((wipe σ vs).set a (some (.int p.1))).set b (some (.int p.2)))[a]? = some (some (.int p.1)))
    (q : ∀ D H', Same H H' → H' D = some (.lst (((rs.filter fun p => decide (p.1 = 0)).map (·.1)).map V.int)) → Q (.ref D) H') : tLc (iList K (tVar j)) (gTup K 2 (gCons (gName a) (gCons (gName b) gNil))) (tTest (tOp rEq (tVar a) (tC (.int 0)))) (tVar a) vs σ H Q := by
  refine ⟨_, h2, T, rfl, ⟨acc, SqL.of hT⟩, fun D hD => lc_list (K := K) (a := T) (xs := acc) (fun i H' => Same H H' ∧ H' D = some (.lst ((((rs.take i).filter fun p => decide (p.1 = 0)).map (·.1)).map V.int))) ⟨same_new hD _, upd_same⟩ (fun i H' _ h => SqL.of (h.1 _ _ hT)) ?_ ?_⟩
  · rintro i v H2 hi ⟨s2, h2⟩
    obtain ⟨p, t, e1, rfl, ht⟩ := hp.get hi
    refine ⟨t, _, rfl, SqT.of (s2 _ _ ht), rfl, _, _, rfl, _, _, rfl, rfl, hw _ _, _, hc p, rfl, _, rfl, ?_⟩
    rw [int_eq]
    by_cases z : p.1 = 0
    · rw [decide_eq_true z]
      refine iteT ⟨_, hc p, _, h2, small1000 (Nat.le_trans (by rw [List.length_map, List.length_map]; exact List.length_filter_le _ _) (by rw [List.length_take]; omega)), same_set s2 hD, ?_⟩
      rw [upd_same, take_more e1, List.filter_append, List.map_append, List.map_append]
      simp [z]
    · rw [decide_eq_false z]
      refine iteF ⟨s2, ?_⟩
      rw [h2, take_more e1, List.filter_append]
      simp [z]
  · rintro H2 ⟨s2, h2⟩
    rw [hp.len, List.take_length] at h2
    exact q D H2 s2 h2
theorem spread_of {r : List (Int × Int)} {a b : Int} (h1 : a ∈ r.map (·.1)) (h2 : ∀ y ∈ r.map (·.1), a ≤ y) (h3 : b ∈ r.map (·.2)) (h4 : ∀ y ∈ r.map (·.2), y ≤ b) : spread r = some (a, b) := by
  unfold spread
  rw [List.min?_eq_some_iff.mpr ⟨h1, h2⟩, List.max?_eq_some_iff.mpr ⟨h3, h4⟩]
section
variable {P : Program} {w : World} {K : PySem.W.Frag} {mg : Str → Option Value} {base : Heap} {f C : Addr} {fd : FuncData}
theorem scRepeat : FnScope ["item", "visible", "fewest", "most", "least", "greatest"] ["item", "visible"] (defScope sRepeat) := ⟨rfl, rfl, rfl, by decide +kernel, rfl, by decide +kernel, by decide +kernel⟩
theorem amount_in {H : Hp} {dv : Addr} {g : Env} {m : Nat} {most : Int} {amt : Key} {l : Int × Int} (hv : VisAt H dv g m) (h16 : most ≤ 1000) (e : amount g most amt = some l) : 0 ≤ l.1 ∧ l.1 ≤ most ∧ 0 ≤ l.2 ∧ l.2 ≤ most := by
  cases amt with
  | inl i =>
    simp only [amount] at e
    by_cases z : 0 ≤ i ∧ i ≤ most
    · rw [if_pos z] at e
      obtain rfl := Option.some.inj e
      exact ⟨z.1, z.2, z.1, z.2⟩
    · rw [if_neg z] at e; cases e
  | inr z =>
    simp only [amount] at e
    obtain ⟨kvs, _, _, v3⟩ := hv
    have v := v3 z
    cases hg : g z with
    | none => rw [hg] at e; cases e
    | some p =>
      rw [hg] at e v
      obtain ⟨a, _, _, p1, p2⟩ := v
      simp only at e
      by_cases c : p.2 ≤ most
      · rw [if_pos c] at e
        obtain rfl := Option.some.inj e
        exact ⟨p1, by omega, by omega, c⟩
      · rw [if_neg c] at e; cases e
theorem ok_repeat {n k : Nat} (hk : 2 ≤ k) (F : Fun K "repeat_lengths" "repeat_lengths" sRepeat f fd) (gR : Cal P w K mg base (L2.CX P w) 1 "require" ["holds", "words"] (spRequire C)) (gA : Cal P w K mg base (L2.CX P w) 2 "amount_bounds" ["amount", "visible", "most"] (spAmount C))
    (gN : GInt mg "GREATEST_COUNT" 16) (gL : Cal P w K mg base (L2.CX P w) k "list_lengths" ["items", "visible"] (spSub (spLensList C) n)) : FnOk P w K mg base (L2.CX P w) (k + 1) f fd ["item", "visible"] (spLens C "repeat" n) := by
  refine F.okX scRepeat (fun vs H Q E h => ?_) (fun cdv A outer s H vs Q E hr h => ?_)
  · obtain ⟨v, dv, x, g, m, d, rfl, _⟩ := h
    rfl
  · obtain ⟨v, dv, x, g, m, d, rfl, hk2, hd, ok, ht, hat, hv, hm, q1, q2⟩ := h
    have tk : Takes (cxOf (L2.CX P w) P w K mg base ["item", "visible", "fewest", "most", "least", "greatest"] "repeat_lengths" (defScope sRepeat) f cdv A outer s H E) (fun cls d _ H => E cls d H) := takes_of rfl rfl rfl rfl
    have hx := passes_call tk (E := E) fun _ _ _ _ h => h
    cases x with
    | rep nm amt b =>
      simp only [It.tame] at ht
      obtain ⟨_, hta, htb⟩ := ht
      simp only [It.At] at hat
      obtain ⟨p, q, xs, rfl, hp, hrow, hb⟩ := hat
      have hp : H p = some (.tup [.str "repeat", .str nm, kV amt, .ref q]) := hp
      have hq : H q = some (.tup xs) := hrow.elim id fun z => by cases z.1
      rw [It.ok, Bool.and_eq_true, Bool.and_eq_true, Bool.and_eq_true] at ok
      have d2 : d ≤ 2 := of_decide_eq_true ok.2.1
      have okb := ok.2.2.2
      have l12 : b.len ≤ 12 := of_decide_eq_true ok.2.2.1
      cases n with
      | zero => exfalso; omega
      | succ n =>
        refine ⟨_, pss_cons (ps_asg (pe_cal gA (hr.mono hk) hx (pa_cons (pe_ix ix_tup (pv 0) pe_int (fun _ _ => rfl)) (pa_cons (pv 1) (pa_cons (pe_gint gN rfl) pa_nil)))) (pg_tup rfl (pgs_cons (pg_name (i := 2) scRepeat.nd rfl (.inl rfl)) (pgs_cons (pg_name (i := 3) scRepeat.nd rfl (.inl rfl)) pgs_nil))))
          (pss_cons (ps_asg (pe_cal gL hr hx (pa_cons (pe_ix ix_tup (pv 0) pe_int (fun _ _ => rfl)) (pa_cons (pv 1) pa_nil))) (pg_tup rfl (pgs_cons (pg_name (i := 4) scRepeat.nd rfl (.inl rfl)) (pgs_cons (pg_name (i := 5) scRepeat.nd rfl (.inl rfl)) pgs_nil))))
          (pss_cons (ps_expr (pe_cal gR (hr.mono (by omega)) hx (pa_cons (pe_cmpR op_ge (pv 4) pe_int (nomark _)) (pa_cons pe_str pa_nil))))
          (pss_one (ps_ret (pe_tup (pa_cons (pe_op op_mul (pv 2) (pv 4)) (pa_cons (pe_op op_mul (pv 3) (pv 5)) pa_nil))))))), ?_⟩
        refine ⟨_, rfl, p, _, 2, _, rfl, rfl, SqT.of hp, atI_nat (j := 2) rfl, _, rfl, amt, 16, dv, g, m, rfl, .inr rfl, hv, hta, fun l e1 t H1 s1 h1 => ?_, fun e1 H1 s1 => q2 (by simp only [It.lens]; rw [e1]) H1 s1⟩
        have hi : 0 ≤ l.1 ∧ l.1 ≤ 16 ∧ 0 ≤ l.2 ∧ l.2 ≤ 16 := amount_in hv (by decide) e1
        refine ⟨t, _, rfl, SqT.of h1, rfl, _, _, rfl, _, _, rfl, rfl, ?_⟩
        refine ⟨_, rfl, p, _, 3, _, rfl, rfl, SqT.of (s1 _ _ hp), atI_nat (j := 3) rfl, _, rfl, q, dv, b, xs, g, m, d + 1, rfl, by omega, okb, l12, htb, s1 _ _ hq, hb.same s1, hv.same s1, by omega, fun l2 e2 t2 H2 s2 h2 => ?_, fun e2 H2 s2 => q2 (by simp only [It.lens]; rw [e1, e2]) H2 (s1.trans s2)⟩
        refine ⟨t2, _, rfl, SqT.of h2, rfl, _, _, rfl, _, _, rfl, rfl, ?_⟩
        refine ⟨_, rfl, _, _, rfl, rfl, _, _, rfl, fun e3 => ?_, fun e3 => q2 (by simp only [It.lens]; rw [e1, e2]; simp only; rw [if_neg (of_decide_eq_false e3)]) H2 (s1.trans s2)⟩
        have e3 : 1 ≤ l2.1 := of_decide_eq_true e3
        refine ⟨_, rfl, _, rfl, l.1, l2.1, rfl, rfl, .inl ⟨by omega, by omega⟩, _, rfl, _, rfl, l.2, l2.2, rfl, rfl, .inl ⟨by omega, by omega⟩, (by show 2 ≤ sizeLine; decide), fun t3 ht3 => ?_⟩
        exact q1 (l.1 * l2.1, l.2 * l2.2) (by simp only [It.lens]; rw [e1, e2]; simp only; rw [if_pos e3]) t3 _ (s1.trans (s2.trans (same_new ht3 _))) upd_same
    | _ => exact absurd hk2 (by simp only [It.kind]; decide +kernel)
theorem scEither : FnScope ["item", "visible", "told", "block", "empty", "least", "_", "greatest"] ["item", "visible"] (defScope sEither) := ⟨rfl, rfl, rfl, by decide +kernel, rfl, by decide +kernel, by decide +kernel⟩
theorem ok_either {n k : Nat} (hk : 2 ≤ k) (F : Fun K "either_lengths" "either_lengths" sEither f fd) (gR : Cal P w K mg base (L2.CX P w) 1 "require" ["holds", "words"] (spRequire C)) (ml : mg "len" = none) (mmin : mg "min" = none) (mmax : mg "max" = none)
    (gL : Cal P w K mg base (L2.CX P w) k "list_lengths" ["items", "visible"] (spSub (spLensList C) n)) : FnOk P w K mg base (L2.CX P w) (k + 1) f fd ["item", "visible"] (spLens C "either" n) := by
  refine F.okX scEither (fun vs H Q E h => ?_) (fun cdv A outer s H vs Q E hr h => ?_)
  · obtain ⟨v, dv, x, g, m, d, rfl, _⟩ := h
    rfl
  · obtain ⟨v, dv, x, g, m, d, rfl, hk2, hd, ok, ht, hat, hv, hm, q1, q2⟩ := h
    have tk : Takes (cxOf (L2.CX P w) P w K mg base ["item", "visible", "told", "block", "empty", "least", "_", "greatest"] "either_lengths" (defScope sEither) f cdv A outer s H E) (fun cls d _ H => E cls d H) := takes_of rfl rfl rfl rfl
    have hx := passes_call tk (E := E) fun _ _ _ _ h => h
    cases x with
    | eit nm bs =>
      simp only [It.tame] at ht
      simp only [It.At] at hat
      obtain ⟨p, q, xs, rfl, hp, hrow, hb⟩ := hat
      have hq : H q = some (.tup xs) := hrow.elim id fun z => by cases z.1
      rw [It.ok, Bool.and_eq_true, Bool.and_eq_true, Bool.and_eq_true] at ok
      have d2 : d ≤ 2 := of_decide_eq_true ok.2.1
      have okb := ok.2.2.2
      have l24 : 2 ≤ bs.len ∧ bs.len ≤ 4 := of_decide_eq_true ok.2.2.1
      have el := hb.len
      cases n with
      | zero => exfalso; omega
      | succ n =>
        refine ⟨_, pss_cons (Rj.ps_setLcx (Ex := E) (i := 2) (own := [("block", 3)]) (g := gName 3) rfl rfl tk rfl scEither.nd rfl rfl (sw_true rfl rfl rfl (by decide +kernel)) (pi_row (pe_ix ix_tup (pv 0) pe_int (fun _ _ => rfl)))
            (blkOk_by (own := [("block", 3)]) (N := ["item", "visible", "told", "block", "empty", "least", "_", "greatest"]) (sc := defScope sEither) (by decide +kernel)) (fun _ _ _ _ _ => pg_name (i := 3) scEither.nd rfl (Or.inl rfl)) (fun _ _ _ _ _ => pe_cal gL hr Rj.fell_passes (pa_cons (pv 3) (pa_cons (pv 1) pa_nil))))
          (pss_cons (ps_setLc (i := 4) (own := [("least", 5), ("_", 6)]) (g := gTup K 2 (gCons (gName 5) (gCons (gName 6) gNil))) rfl scEither.nd rfl rfl (sw_true rfl rfl rfl (by decide +kernel)) (pi_list (pv 2))
            (blkOk_by (own := [("least", 5), ("_", 6)]) (N := ["item", "visible", "told", "block", "empty", "least", "_", "greatest"]) (sc := defScope sEither) (by decide +kernel)) (fun _ _ _ _ _ => pg_tup rfl (pgs_cons (pg_name (i := 5) scEither.nd rfl (Or.inl rfl)) (pgs_cons (pg_name (i := 6) scEither.nd rfl (Or.inl rfl)) pgs_nil)))
            (fun _ _ _ _ _ => pts_one (pt_cmpR op_eq (pv 5) pe_int (nomark _))) (fun _ _ _ _ _ => pv 5))
          (pss_cons (ps_expr (pe_cal gR (hr.mono (by omega)) hx (pa_cons (pe_cmpR op_le (pe_callB call_len (by rfl) ml boot_len (pa_cons (pv 4) pa_nil)) pe_int (nomark _)) (pa_cons pe_str pa_nil))))
          (pss_one (ps_ret (pe_tup (pa_cons (pe_callB (cr_min rfl) (by rfl) mmin (by decide +kernel) (pa_cons (pe_lc (own := [("least", 5), ("_", 6)]) (g := gTup K 2 (gCons (gName 5) (gCons (gName 6) gNil))) (tt := tYes) rfl scEither.nd (pi_list (pv 2))
            (blkOk_by (own := [("least", 5), ("_", 6)]) (N := ["item", "visible", "told", "block", "empty", "least", "_", "greatest"]) (sc := defScope sEither) (by decide +kernel)) (fun _ _ _ _ _ => pg_tup rfl (pgs_cons (pg_name (i := 5) scEither.nd rfl (Or.inl rfl)) (pgs_cons (pg_name (i := 6) scEither.nd rfl (Or.inl rfl)) pgs_nil)))
            (fun _ _ _ _ _ => pts_nil) (fun _ _ _ _ _ => pv 5)) pa_nil))
            (pa_cons (pe_callB (cr_max rfl) (by rfl) mmax (by decide +kernel) (pa_cons (pe_lc (own := [("_", 6), ("greatest", 7)]) (g := gTup K 2 (gCons (gName 6) (gCons (gName 7) gNil))) (tt := tYes) rfl scEither.nd (pi_list (pv 2))
            (blkOk_by (own := [("_", 6), ("greatest", 7)]) (N := ["item", "visible", "told", "block", "empty", "least", "_", "greatest"]) (sc := defScope sEither) (by decide +kernel)) (fun _ _ _ _ _ => pg_tup rfl (pgs_cons (pg_name (i := 6) scEither.nd rfl (Or.inl rfl)) (pgs_cons (pg_name (i := 7) scEither.nd rfl (Or.inl rfl)) pgs_nil)))
            (fun _ _ _ _ _ => pts_nil) (fun _ _ _ _ _ => pv 7)) pa_nil)) pa_nil))))))), ?_⟩
        refine ⟨_, rfl, p, _, 2, _, rfl, rfl, SqT.of hp, atI_nat (j := 2) rfl, q, rfl, ?_⟩
        refine row_go (H := H) (.inl hq) (fun J wk => ?_)
        intro D hD
        refine lc_it wk (fun i H' => Same H H' ∧ ∃ acc rs, H' D = some (.lst acc) ∧ PairsAt H' acc rs ∧ rs.length = i ∧ bs.lens g = ((bs.drop i).lens g).map (rs ++ ·))
          ⟨same_new hD _, [], [], upd_same, .nil, rfl, by show bs.lens g = (bs.lens g).map _; cases bs.lens g <;> rfl⟩ (fun _ _ _ h => h.1) ?_ ?_
        · rintro i v H2 H3 hi ⟨s2, acc, rs, hacc, hpa, hrs, el2⟩ ⟨e3, hv3⟩
          subst e3
          obtain ⟨c, b, qb, zs, gb, rfl, hrw, hbb⟩ := AtE_item (hb.same s2) hv3
          have hqb : H3 qb = some (.tup zs) := hrw.elim id fun z => by cases z.1
          rw [dropB_get gb, lensB_cons] at el2
          obtain ⟨b12, bok⟩ := getB_okd okb gb
          refine ⟨rfl, yes_go ?_⟩
          refine ⟨_, rfl, _, rfl, qb, dv, b, zs, g, m, d + 1, rfl, by omega, bok, b12, getB_tame ht.2 gb, hqb, hbb, hv.same s2, by omega, fun l e2 t2 H4 s4 h4 => ?_, fun e2 H4 s4 => q2 (by simp only [It.lens]; rw [el2, e2]; rfl) H4 (s2.trans s4)⟩
          have hacc4 := s4 _ _ hacc
          have ka : ∀ b xs, H4 b = some (.tup xs) → upd H4 D (.lst (acc ++ [.ref t2])) b = some (.tup xs) := fun b xs e => by rw [upd_ne (ne_of e hacc4 (by intro z; cases z))]; exact e
          refine ⟨acc, hacc4, small1000 (by rw [hpa.len]; omega), same_set (s2.trans s4) hD, acc ++ [.ref t2], rs ++ [l], upd_same, (PairsAt.app ⟨t2, rfl, h4⟩ (hpa.kp fun b xs h => s4 _ _ h)).kp ka, by simp [hrs], ?_⟩
          rw [el2, e2]
          cases (bs.drop (i + 1)).lens g <;> simp
        · rintro H2 ⟨s2, acc, rs, hacc, hpa, hrs, el2⟩
          rw [el, dropB_all] at el2
          have el2 : bs.lens g = some rs := by rw [el2]; simp [Blks.lens]
          have rl : rs.length ≤ 100 := by omega
          have hpos : 0 < rs.length := by rw [lensB_len el2]; omega
          refine g_nx ?_
          dsimp only
          refine seq_asg ?_
          refine zero_lc (j := 2) (a := 5) (b := 6) (vs := [5, 6]) (σ := [some (.ref p), some (.ref dv), some (.ref D), none, none, none, none, none]) rfl hacc hpa rl (fun _ _ => rfl) (fun _ => rfl) (fun D2 H3 s3 h3 => ?_)
          have ez : (((rs.filter fun p => decide (p.1 = 0)).map (·.1)).map V.int).length = (rs.filter fun p => decide (p.1 = 0)).length := by rw [List.length_map, List.length_map]
          refine ⟨_, rfl, V.ref D2, _, rfl, .inl ⟨_, SqL.of h3, rfl⟩, _, _, rfl, rfl, _, _, rfl, fun e => ?_, fun e => q2 (by simp only [It.lens]; rw [el2]; simp only; rw [if_neg (fun z => of_decide_eq_false e (by rw [ez]; omega))]) H3 (s2.trans s3)⟩
          have e : (rs.filter fun p => decide (p.1 = 0)).length ≤ 1 := by have e := of_decide_eq_true e; rw [ez] at e; omega
          have hacc3 := s3 _ _ hacc
          dsimp only
          refine ret_cb ?_
          refine proj_lc (j := 2) (a := 5) (b := 6) (c := 5) (vs := [5, 6]) (σ := [some (.ref p), some (.ref dv), some (.ref D), none, some (.ref D2), none, none, none]) (·.1) rfl hacc3 (hpa.kp fun b xs h => s3 _ _ h) rl (fun _ _ => rfl) (fun _ => rfl) (fun D3 H4 s4 h4 => ?_)
          refine ⟨D3, _, rfl, SqL.of h4, by rw [List.length_map]; exact hpos, fun mn hmn hle => ?_⟩
          have s34 := s3.trans s4
          dsimp only
          refine cons_cb ?_
          refine proj_lc (j := 2) (a := 6) (b := 7) (c := 7) (vs := [6, 7]) (σ := [some (.ref p), some (.ref dv), some (.ref D), none, some (.ref D2), none, none, none]) (·.2) rfl (s4 _ _ hacc3) (hpa.kp fun b xs h => s34 _ _ h) rl (fun _ _ => rfl) (fun _ => rfl) (fun D5 H5 s5 h5 => ?_)
          refine ⟨D5, _, rfl, SqL.of h5, by rw [List.length_map]; exact hpos, fun mx hmx hge => ?_⟩
          refine ⟨(by show 2 ≤ sizeLine; decide), fun t ht4 => ?_⟩
          exact q1 (mn, mx) (by simp only [It.lens]; rw [el2]; simp only; rw [if_pos e]; exact spread_of hmn hle hmx hge) t _ (s2.trans (s34.trans (s5.trans (same_new ht4 _)))) upd_same
    | _ => exact absurd hk2 (by simp only [It.kind]; decide +kernel)
end
end Bs

set_option Elab.async false
set_option linter.all false
set_option maxRecDepth 100000
set_option maxHeartbeats 4000000
namespace Bs
open PySem L2
theorem vals_get : ∀ {x : Blks} {i : Nat} {c : Int} {b : Its}, x.get i = some (c, b) → x.vals[i]? = some c
  | .nil, _, _, _, e => by simp [Blks.get] at e
  | .cons v b r, 0, _, _, e => by simp only [Blks.get, Option.some.injEq, Prod.mk.injEq] at e; obtain ⟨rfl, rfl⟩ := e; rfl
  | .cons v b r, i + 1, _, _, e => vals_get (x := r) e
theorem vals_len : ∀ (x : Blks), x.vals.length = x.len
  | .nil => rfl
  | .cons v b r => by simp [Blks.vals, Blks.len, vals_len r]
section
variable {P : Program} {w : World} {K : PySem.W.Frag} {mg : Str → Option Value} {base : Heap} {f C : Addr} {fd : FuncData}
abbrev nSwitch : List Str := ["item", "visible", "tag", "values", "value", "_", "told", "block", "least", "greatest"]
theorem scSwitch : FnScope nSwitch ["item", "visible"] (defScope sSwitch) := ⟨rfl, rfl, rfl, by decide +kernel, rfl, by decide +kernel, by decide +kernel⟩
theorem ok_switch {n k : Nat} (hk : 2 ≤ k) (F : Fun K "switch_lengths" "switch_lengths" sSwitch f fd) (gR : Cal P w K mg base (L2.CX P w) 1 "require" ["holds", "words"] (spRequire C)) (gI : Cal P w K mg base CX0 1 "is_integer" ["value", "low", "high"] spIsInt) (gP : GInt mg "GREATEST_PAIR" 65535)
    (ml : mg "len" = none) (mmin : mg "min" = none) (mmax : mg "max" = none) (mset : mg "set" = none) (mi : mg "isinstance" = none) (ms : mg "str" = none)
    (gL : Cal P w K mg base (L2.CX P w) k "list_lengths" ["items", "visible"] (spSub (spLensList C) n)) : FnOk P w K mg base (L2.CX P w) (k + 1) f fd ["item", "visible"] (spLens C "switch" n) := by
  refine F.okX scSwitch (fun vs H Q E h => ?_) (fun cdv A outer s H vs Q E hr h => ?_)
  · obtain ⟨v, dv, x, g, m, d, rfl, _⟩ := h
    rfl
  · obtain ⟨v, dv, x, g, m, d, rfl, hk2, hd, ok, ht, hat, hv, hm, q1, q2⟩ := h
    have tk : Takes (cxOf (L2.CX P w) P w K mg base nSwitch "switch_lengths" (defScope sSwitch) f cdv A outer s H E) (fun cls d _ H => E cls d H) := takes_of rfl rfl rfl rfl
    have hx := passes_call tk (E := E) fun _ _ _ _ h => h
    have hu := hu_of hr
    have hr1 : Room 1 _ := hr.mono (by omega)
    cases x with
    | swi nm tag bs =>
      simp only [It.tame] at ht
      simp only [It.At] at hat
      obtain ⟨p, q, xs, rfl, hp, hrow, hb⟩ := hat
      have hq : H q = some (.tup xs) := hrow.elim id fun z => by cases z.1
      rw [It.ok, Bool.and_eq_true, Bool.and_eq_true, Bool.and_eq_true] at ok
      have d2 : d ≤ 2 := of_decide_eq_true ok.2.1
      have okb := ok.2.2.2
      have l18 : 1 ≤ bs.len ∧ bs.len ≤ 8 := of_decide_eq_true ok.2.2.1
      have el := hb.len
      cases n with
      | zero => exfalso; omega
      | succ n =>
        refine ⟨_, pss_cons (ps_set (i := 2) scSwitch.nd rfl (.inl rfl) (pe_ix ix_tup (pv 0) pe_int (fun _ _ => rfl)))
          (pss_cons (ps_expr (pe_cal gR hr1 hx (pa_cons (pe_and (pe_callB call_isi (by rfl) mi (by decide +kernel) (pa_cons (pv 2) (pa_cons (pe_bltn (v := .ty "str") (by rfl) ms (by decide +kernel) rfl) pa_nil))) (pe_one (pe_cmp (pc_din hu (pv 2) (pv 1)) (by rfl)))) (pa_cons pe_str pa_nil))))
          (pss_cons (ps_setLc (i := 3) (own := [("value", 4), ("_", 5)]) (g := gTup K 2 (gCons (gName 4) (gCons (gName 5) gNil))) (tt := tYes) rfl scSwitch.nd rfl rfl (sw_true rfl rfl rfl (by decide +kernel)) (pi_tup (pe_ix ix_tup (pv 0) pe_int (fun _ _ => rfl)))
            (blkOk_by (own := [("value", 4), ("_", 5)]) (N := nSwitch) (sc := defScope sSwitch) (by decide +kernel)) (fun _ _ _ _ _ => pg_tup rfl (pgs_cons (pg_name (i := 4) scSwitch.nd rfl (Or.inl rfl)) (pgs_cons (pg_name (i := 5) scSwitch.nd rfl (Or.inl rfl)) pgs_nil)))
            (fun _ _ _ _ _ => pts_nil) (fun _ _ _ _ _ => pv 4))
          (pss_cons (ps_for (passes_of rfl) rfl (pi_list (pv 3)) (pg_name (i := 4) scSwitch.nd rfl (.inl rfl)) (pss_one (ps_expr (pe_cal gR hr1 hx (pa_cons (pe_cal gI hr1 pass0 (pa_cons (pv 4) (pa_cons pe_int (pa_cons (pe_gint gP rfl) pa_nil)))) (pa_cons (pe_joined (.cons pe_str (.cons (pe_fmt (pe_gint gP rfl)) .nil))) pa_nil))))))
          (pss_cons (ps_expr (pe_cal gR hr1 hx (pa_cons (pe_cmpR op_eq (RZ.pe_lenSetI (by rfl) ml (by rfl) mset (pv 3)) (pe_callB call_len (by rfl) ml boot_len (pa_cons (pv 3) pa_nil)) (nomark _)) (pa_cons pe_str pa_nil))))
          (pss_cons (Rj.ps_setLcx (Ex := E) (i := 6) (own := [("_", 5), ("block", 7)]) (g := gTup K 2 (gCons (gName 5) (gCons (gName 7) gNil))) rfl rfl tk rfl scSwitch.nd rfl rfl (sw_true rfl rfl rfl (by decide +kernel)) (pi_tup (pe_ix ix_tup (pv 0) pe_int (fun _ _ => rfl)))
            (blkOk_by (own := [("_", 5), ("block", 7)]) (N := nSwitch) (sc := defScope sSwitch) (by decide +kernel)) (fun _ _ _ _ _ => pg_tup rfl (pgs_cons (pg_name (i := 5) scSwitch.nd rfl (Or.inl rfl)) (pgs_cons (pg_name (i := 7) scSwitch.nd rfl (Or.inl rfl)) pgs_nil))) (fun _ _ _ _ _ => pe_cal gL hr Rj.fell_passes (pa_cons (pv 7) (pa_cons (pv 1) pa_nil))))
          (pss_one (ps_ret (pe_tup (pa_cons (pe_callB (cr_min rfl) (by rfl) mmin (by decide +kernel) (pa_cons (pe_lc (own := [("least", 8), ("_", 5)]) (g := gTup K 2 (gCons (gName 8) (gCons (gName 5) gNil))) (tt := tYes) rfl scSwitch.nd (pi_list (pv 6))
            (blkOk_by (own := [("least", 8), ("_", 5)]) (N := nSwitch) (sc := defScope sSwitch) (by decide +kernel)) (fun _ _ _ _ _ => pg_tup rfl (pgs_cons (pg_name (i := 8) scSwitch.nd rfl (Or.inl rfl)) (pgs_cons (pg_name (i := 5) scSwitch.nd rfl (Or.inl rfl)) pgs_nil)))
            (fun _ _ _ _ _ => pts_nil) (fun _ _ _ _ _ => pv 8)) pa_nil))
            (pa_cons (pe_callB (cr_max rfl) (by rfl) mmax (by decide +kernel) (pa_cons (pe_lc (own := [("_", 5), ("greatest", 9)]) (g := gTup K 2 (gCons (gName 5) (gCons (gName 9) gNil))) (tt := tYes) rfl scSwitch.nd (pi_list (pv 6))
            (blkOk_by (own := [("_", 5), ("greatest", 9)]) (N := nSwitch) (sc := defScope sSwitch) (by decide +kernel)) (fun _ _ _ _ _ => pg_tup rfl (pgs_cons (pg_name (i := 5) scSwitch.nd rfl (Or.inl rfl)) (pgs_cons (pg_name (i := 9) scSwitch.nd rfl (Or.inl rfl)) pgs_nil)))
            (fun _ _ _ _ _ => pts_nil) (fun _ _ _ _ _ => pv 9)) pa_nil)) pa_nil)))))))))), ?_⟩
        have no : ¬ ((g tag).isSome = true ∧ (∀ v ∈ bs.vals, 0 ≤ v ∧ v ≤ 65535) ∧ bs.vals.Nodup) → ∀ H', Same H H' → E (.ref C) none H' := fun e => q2 (by simp only [It.lens]; rw [if_neg e])
        obtain ⟨kvs, v1, v2, v3⟩ := id hv
        have et : (valV kvs (.inr tag)).isSome = (g tag).isSome := by
          have z := v3 tag
          revert z
          cases g tag with
          | none => intro z; rw [show valV kvs (.inr tag) = none from z]; rfl
          | some y => rintro ⟨b, z1, _⟩; rw [z1]; rfl
        refine ⟨_, rfl, p, _, 2, _, rfl, rfl, SqT.of hp, atI_nat (j := 2) rfl, ?_⟩
        refine ⟨_, rfl, _, _, _, _, true, rfl, .ty _, .base (.str _), kit_ty (by decide +kernel), _, rfl, iteT ?_⟩
        refine ⟨_, rfl, _, rfl, dv, _, rfl, DGet.k (k := .inr tag) v1, _, _, rfl, fun e => ?_, fun e => no (fun z => by rw [et, z.1] at e; cases e) _ (Same.refl H)⟩
        rw [et] at e
        dsimp only
        refine seq_asg ?_
        refine ⟨_, rfl, p, _, 3, _, rfl, rfl, SqT.of hp, atI_nat (j := 3) rfl, q, rfl, ⟨_, SqT.of hq⟩, fun D hD => lc_tup (K := K) (a := q) (xs := xs) (fun i H' => Same H H' ∧ H' D = some (.lst ((bs.vals.take i).map V.int))) ⟨same_new hD _, upd_same⟩ (fun i H' _ z => SqT.of (z.1 _ _ hq)) ?_ ?_⟩
        · rintro i v H2 hi ⟨s2, h2⟩
          obtain ⟨c, b, pc, qb, zs, gb, rfl, hpc, _⟩ := AtS_item (hb.same s2) hi
          refine ⟨pc, _, rfl, SqT.of hpc, rfl, _, _, rfl, _, _, rfl, rfl, rfl, yes_go ⟨_, rfl, _, h2, small1000 (by rw [List.length_map, List.length_take, vals_len]; omega), same_set s2 hD, ?_⟩⟩
          rw [upd_same, take_more (vals_get gb), List.map_append]
          rfl
        rintro H2 ⟨s2, h2⟩
        have evl : xs.length = bs.vals.length := by rw [vals_len, el]
        rw [evl, List.take_length] at h2
        -- each value
        refine ⟨_, rfl, D, rfl, ⟨_, SqL.of h2⟩, for_list (K := K) (a := D) (xs := bs.vals.map V.int) (fun i σ H' => ∃ s4, σ = [some (.ref p), some (.ref dv), some (.str tag), some (.ref D), s4, none, none, none, none, none] ∧ H' = H2 ∧ ∀ v ∈ bs.vals.take i, 0 ≤ v ∧ v ≤ 65535)
          ⟨none, rfl, rfl, fun _ z => by simp at z⟩ (fun i σ H' _ z => by obtain ⟨_, _, z, _⟩ := z; rw [z]; exact SqL.of h2) ?_ ?_⟩
        · rintro i y σ H3 hi ⟨s4, rfl, rfl, hall⟩
          obtain ⟨z, hz, rfl⟩ : ∃ z, bs.vals[i]? = some z ∧ y = V.int z := by
            rw [List.getElem?_map] at hi
            cases e9 : bs.vals[i]? with
            | none => rw [e9] at hi; cases hi
            | some z => rw [e9] at hi; exact ⟨z, rfl, (Option.some.inj hi).symm⟩
          refine ⟨_, rfl, z, 0, 65535, rfl, ?_⟩
          refine ⟨_, rfl, by decide +kernel, .inr ⟨65535, rfl, by decide +kernel, _, rfl, by decide +kernel, _, _, rfl, fun e2 => ?_, fun e2 => no (fun w => of_decide_eq_false e2 (w.2.1 z (List.mem_of_getElem? hz))) _ s2⟩⟩
          refine ⟨_, rfl, rfl, fun v hv => ?_⟩
          rw [take_more hz, List.mem_append] at hv
          rcases hv with hv | hv
          · exact hall v hv
          · have : v = z := by simpa using hv
            rw [this]
            exact of_decide_eq_true e2
        rintro σ H3 ⟨s4, rfl, rfl, hall⟩
        rw [List.length_map, List.take_length] at hall
        -- all different
        refine ⟨_, rfl, D, bs.vals, rfl, SqL.of h2, ht.2.1, by rw [vals_len]; omega, _, rfl, V.ref D, _, rfl, .inl ⟨_, SqL.of h2, rfl⟩, rfl, _, _, rfl, fun _ => ?_, fun e2 => absurd (by rw [List.length_map]) (of_decide_eq_false e2)⟩
        dsimp only
        refine seq_asg ?_
        refine ⟨_, rfl, p, _, 3, _, rfl, rfl, SqT.of (s2 _ _ hp), atI_nat (j := 3) rfl, q, rfl, ⟨_, SqT.of (s2 _ _ hq)⟩, fun D6 hD6 => lc_tup (K := K) (a := q) (xs := xs) (fun i H' => Same H3 H' ∧ ∃ acc rs, H' D6 = some (.lst acc) ∧ PairsAt H' acc rs ∧ rs.length = i ∧ bs.lens g = ((bs.drop i).lens g).map (rs ++ ·))
          ⟨same_new hD6 _, [], [], upd_same, .nil, rfl, by show bs.lens g = (bs.lens g).map _; cases bs.lens g <;> rfl⟩ (fun i H' _ z => SqT.of ((s2.trans z.1) _ _ hq)) ?_ ?_⟩
        · rintro i v H4 hi ⟨s4', acc, rs, hacc, hpa, hrs, el2⟩
          have s24 := s2.trans s4'
          obtain ⟨c, b, pc, qb, zs, gb, rfl, hpc, hrw, hbb⟩ := AtS_item (hb.same s24) hi
          have hqb : H4 qb = some (.tup zs) := hrw.elim id fun z => by cases z.1
          rw [dropB_get gb, lensB_cons] at el2
          obtain ⟨b12, bok⟩ := getB_okd okb gb
          have hlt := getB_lt gb
          refine ⟨pc, _, rfl, SqT.of hpc, rfl, _, _, rfl, _, _, rfl, rfl, rfl, yes_go ?_⟩
          refine ⟨_, rfl, _, rfl, qb, dv, b, zs, g, m, d + 1, rfl, by omega, bok, b12, getB_tame ht.2.2 gb, hqb, hbb, hv.same s24, by omega, fun l e2 t2 H5 s5 h5 => ?_, fun e2 H5 s5 => q2 (by simp only [It.lens]; rw [el2, e2]; simp) H5 (s24.trans s5)⟩
          have hacc4 := s5 _ _ hacc
          have ka : ∀ b xs, H5 b = some (.tup xs) → upd H5 D6 (.lst (acc ++ [.ref t2])) b = some (.tup xs) := fun b xs e => by rw [upd_ne (ne_of e hacc4 (by intro z; cases z))]; exact e
          refine ⟨acc, hacc4, small1000 (by rw [hpa.len]; omega), same_set (s4'.trans s5) hD6, acc ++ [.ref t2], rs ++ [l], upd_same, (PairsAt.app ⟨t2, rfl, h5⟩ (hpa.kp fun b xs h => s5 _ _ h)).kp ka, by simp [hrs], ?_⟩
          rw [el2, e2]
          cases (bs.drop (i + 1)).lens g <;> simp
        rintro H4 ⟨s4', acc, rs, hacc, hpa, hrs, el2⟩
        rw [el, dropB_all] at el2
        have el2 : bs.lens g = some rs := by rw [el2]; simp [Blks.lens]
        have rl : rs.length ≤ 100 := by omega
        have hpos : 0 < rs.length := by rw [lensB_len el2]; omega
        refine g_nx ?_
        refine ret_cb ?_
        refine proj_lc (j := 6) (a := 8) (b := 5) (c := 8) (vs := [8, 5]) (σ := [some (.ref p), some (.ref dv), some (.str tag), some (.ref D), s4, none, some (.ref D6), none, none, none]) (·.1) rfl hacc hpa rl (fun _ _ => rfl) (fun _ => rfl) (fun D3 H5 s5 h5 => ?_)
        refine ⟨D3, _, rfl, SqL.of h5, by rw [List.length_map]; exact hpos, fun mn hmn hle => ?_⟩
        dsimp only
        refine cons_cb ?_
        refine proj_lc (j := 6) (a := 5) (b := 9) (c := 9) (vs := [5, 9]) (σ := [some (.ref p), some (.ref dv), some (.str tag), some (.ref D), s4, none, some (.ref D6), none, none, none]) (·.2) rfl (s5 _ _ hacc) (hpa.kp fun b xs h => s5 _ _ h) rl (fun _ _ => rfl) (fun _ => rfl) (fun D7 H6 s6 h6 => ?_)
        refine ⟨D7, _, rfl, SqL.of h6, by rw [List.length_map]; exact hpos, fun mx hmx hge => ?_⟩
        refine ⟨(by show 2 ≤ sizeLine; decide), fun t ht4 => ?_⟩
        exact q1 (mn, mx) (by simp only [It.lens]; rw [if_pos ⟨e, hall, ht.2.1⟩, el2]; exact spread_of hmn hle hmx hge) t _ (s2.trans (s4'.trans (s5.trans (s6.trans (same_new ht4 _))))) upd_same
    | _ => exact absurd hk2 (by simp only [It.kind]; decide +kernel)
end
end Bs

set_option Elab.async false
set_option linter.all false
set_option maxRecDepth 100000
set_option maxHeartbeats 4000000
namespace Bs
open PySem L2
/-! ### the items in their order -/
def Blks.list : Blks → List Its
  | .nil => []
  | .cons _ b r => b :: r.list
def It.blocks : It → List Its
  | .rep _ _ b => [b]
  | .eit _ bs => bs.list
  | .swi _ _ bs => bs.list
  | _ => []
theorem walkB_list : ∀ (bs : Blks) (d : Int), bs.walk d = bs.list.flatMap (·.walk d)
  | .nil, d => by simp [Blks.walk, Blks.list]
  | .cons v b r, d => by simp [Blks.walk, Blks.list, walkB_list r]
theorem walk_it (x : It) (d : Int) : x.walk d = (d, x) :: x.blocks.flatMap (·.walk (d + 1)) := by
  cases x <;> simp [It.walk, It.blocks, walkB_list]
theorem walk_take : ∀ {x : Its} {i : Nat} {y : It} {d : Int}, x.get i = some y → (x.take (i + 1)).walk d = (x.take i).walk d ++ y.walk d
  | .nil, _, _, _, e => by simp [Its.get] at e
  | .cons x r, 0, y, d, e => by simp [Its.get] at e; subst e; simp [Its.take, Its.walk]
  | .cons x r, i + 1, y, d, e => by
    show (Its.cons x (r.take (i + 1))).walk d = (Its.cons x (r.take i)).walk d ++ y.walk d
    simp only [Its.walk, walk_take (x := r) e, List.append_assoc]
theorem walk_len {x : Its} {i : Nat} {y : It} {d : Int} (h : x.get i = some y) : ((x.take i).walk d).length + (y.walk d).length ≤ (x.walk d).length := by
  have : ∀ {x : Its} {i : Nat}, ((x.take i).walk d).length ≤ (x.walk d).length := by
    intro x
    induction x using Its.rec (motive_1 := fun _ => True) (motive_3 := fun _ => True) <;> (try trivial)
    · intro i; cases i <;> simp [Its.take, Its.walk]
    · rename_i x r _ ih
      intro i
      cases i with
      | zero => simp [Its.take, Its.walk]
      | succ i => simp only [Its.take, Its.walk, List.length_append]; have := ih (i := i); omega
  have h2 := this (x := x) (i := i + 1)
  rw [walk_take h, List.length_append] at h2
  exact h2
/-- rows of items, frozen -/
abbrev RowsAt (H : Hp) : List V → List Its → Prop := Paired fun v b => ∃ q xs, v = .ref q ∧ H q = some (.tup xs) ∧ b.At true H xs
theorem RowsAt.kp {H H' : Hp} (s : Kp true H H') : ∀ {l : List V} {r : List Its}, RowsAt H l r → RowsAt H' l r
  | _, _, .nil => .nil
  | _, _, .cons ⟨q, xs, e, h, g⟩ t => .cons ⟨q, xs, e, s.t _ _ h, g.kp s⟩ (RowsAt.kp s t)
theorem RowsAt.len {H : Hp} : ∀ {l : List V} {r : List Its}, RowsAt H l r → l.length = r.length
  | _, _, .nil => rfl
  | _, _, .cons _ t => by simp [RowsAt.len t]
theorem RowsAt.get {H : Hp} : ∀ {l : List V} {r : List Its} {i : Nat} {v : V}, RowsAt H l r → l[i]? = some v → ∃ b q xs, r[i]? = some b ∧ v = .ref q ∧ H q = some (.tup xs) ∧ b.At true H xs
  | _, _, _, _, .nil, e => by simp at e
  | _, _, 0, _, .cons ⟨q, xs, e0, h, g⟩ _, e => by simp at e; subst e; exact ⟨_, q, xs, by simp, e0, h, g⟩
  | _, _, i + 1, _, .cons _ t, e => by obtain ⟨b, q, xs, h⟩ := RowsAt.get (i := i) t (by simpa using e); exact ⟨b, q, xs, by simpa using h.1, h.2⟩
theorem rows_E {H : Hp} : ∀ {bs : Blks} {l : List V}, bs.AtE true H l → RowsAt H l bs.list
  | .nil, _, h => by simp only [Blks.AtE] at h; subst h; exact .nil
  | .cons v b r, _, h => by
    simp only [Blks.AtE] at h
    obtain ⟨q, xs, l', rfl, h1, h2, h3⟩ := h
    exact .cons ⟨q, xs, rfl, (h1.elim id fun z => by cases z.1), h2⟩ (rows_E h3)
theorem listB_get : ∀ {x : Blks} {i : Nat} {c : Int} {b : Its}, x.get i = some (c, b) → x.list[i]? = some b
  | .nil, _, _, _, e => by simp [Blks.get] at e
  | .cons v b r, 0, _, _, e => by simp only [Blks.get, Option.some.injEq, Prod.mk.injEq] at e; obtain ⟨rfl, rfl⟩ := e; rfl
  | .cons v b r, i + 1, _, _, e => listB_get (x := r) e
theorem listB_len : ∀ (x : Blks), x.list.length = x.len
  | .nil => rfl
  | .cons v b r => by simp [Blks.list, Blks.len, listB_len r]
theorem RowsAt.app {H : Hp} {v : V} {p : Its} (h : ∃ q xs, v = .ref q ∧ H q = some (.tup xs) ∧ p.At true H xs) : ∀ {l : List V} {r : List Its}, RowsAt H l r → RowsAt H (l ++ [v]) (r ++ [p])
  | _, _, .nil => .cons h .nil
  | _, _, .cons q t => .cons q (RowsAt.app h t)
def spBlocks : Sp := fun vs H Q _ => ∃ (v : V) (x : It), vs = [v] ∧ x.At true H v ∧ x.blocks.length ≤ 100 ∧ ∀ r zs H', Same H H' → H' r = some (.tup zs) → RowsAt H' zs x.blocks → Q (.ref r) H'
section
variable {P : Program} {w : World} {K : PySem.W.Frag} {mg : Str → Option Value} {base : Heap} {f C : Addr} {fd : FuncData}
theorem scBlocksOf : FnScope ["item", "_", "block"] ["item"] (defScope sBlocksOf) := ⟨rfl, rfl, rfl, by decide +kernel, rfl, by decide +kernel, by decide +kernel⟩
theorem ok_blocks (F : Fun K "blocks_of" "blocks_of" sBlocksOf f fd) (mt : mg "tuple" = none) : FnOk P w K mg base CX0 1 f fd ["item"] spBlocks := by
  refine F.ok scBlocksOf (fun vs H Q E h => ?_) (fun cdv A outer s H vs Q E hr h => ?_)
  · obtain ⟨v, x, rfl, _⟩ := h
    rfl
  · obtain ⟨v, x, rfl, hat, hb, q⟩ := h
    obtain ⟨p, rest, rfl, hp, hlen⟩ := At_head hat
    have hT : SqT K H p _ := SqT.of hp
    refine ⟨_, pss_cons (ps_if (pt_cmpR op_eq (pe_ix ix_tup (pv 0) pe_int (fun _ _ => rfl)) pe_str (nomark _)) (pss_one (ps_ret (pe_tup (pa_cons (pe_ix ix_tup (pv 0) pe_int (fun _ _ => rfl)) pa_nil)))) pss_nil)
      (pss_cons (ps_if (pt_cmpR op_eq (pe_ix ix_tup (pv 0) pe_int (fun _ _ => rfl)) pe_str (nomark _)) (pss_one (ps_ret (pe_ix ix_tup (pv 0) pe_int (fun _ _ => rfl)))) pss_nil)
      (pss_cons (ps_if (pt_cmpR op_eq (pe_ix ix_tup (pv 0) pe_int (fun _ _ => rfl)) pe_str (nomark _)) (pss_one (ps_ret (pe_tupleOf rfl mt (pe_lc (own := [("_", 1), ("block", 2)]) (g := gTup K 2 (gCons (gName 1) (gCons (gName 2) gNil))) (tt := tYes) rfl scBlocksOf.nd (pi_tup (pe_ix ix_tup (pv 0) pe_int (fun _ _ => rfl)))
            (blkOk_by (own := [("_", 1), ("block", 2)]) (N := ["item", "_", "block"]) (sc := defScope sBlocksOf) (by decide +kernel)) (fun _ _ _ _ _ => pg_tup rfl (pgs_cons (pg_name (i := 1) scBlocksOf.nd rfl (Or.inl rfl)) (pgs_cons (pg_name (i := 2) scBlocksOf.nd rfl (Or.inl rfl)) pgs_nil)))
            (fun _ _ _ _ _ => pts_nil) (fun _ _ _ _ _ => pv 2))))) pss_nil)
      (pss_one (ps_ret (pe_tup pa_nil))))), ?_⟩
    refine ⟨_, rfl, p, _, 0, _, rfl, rfl, hT, atI_nat (j := 0) rfl, rfl, _, rfl, ?_⟩
    cases x with
    | rep n amt b =>
      simp only [It.At] at hat
      obtain ⟨p', q2, xs, e1, h1, hrow, hbb⟩ := hat
      cases e1
      refine ite2 (fun _ => ?_) (fun z => (z (decide_eq_true rfl)).elim)
      refine ⟨_, rfl, p, _, 3, _, rfl, rfl, SqT.of h1, atI_nat (j := 3) rfl, (by show 1 ≤ sizeLine; decide), fun t ht4 => ?_⟩
      have s1 := same_new ht4 (.tup [.ref q2])
      exact q t _ _ s1 upd_same (.cons ⟨q2, xs, rfl, s1 _ _ (hrow.elim id fun z => by cases z.1), hbb.same s1⟩ .nil)
    | eit n bs =>
      simp only [It.At] at hat
      obtain ⟨p', q2, xs, e1, h1, hrow, hbb⟩ := hat
      cases e1
      refine ite2 (fun z => absurd (of_decide_eq_true z) (kne (by simp only [It.kind]; decide +kernel))) (fun _ => ?_)
      refine ⟨_, rfl, p, _, 0, _, rfl, rfl, hT, atI_nat (j := 0) rfl, rfl, _, rfl, ite2 (fun _ => ?_) (fun z => (z (decide_eq_true rfl)).elim)⟩
      refine ⟨_, rfl, p, _, 2, _, rfl, rfl, SqT.of h1, atI_nat (j := 2) rfl, ?_⟩
      exact q q2 xs H (Same.refl H) (hrow.elim id fun z => by cases z.1) (rows_E hbb)
    | swi n tag bs =>
      simp only [It.At] at hat
      obtain ⟨p', q2, xs, e1, h1, hrow, hbb⟩ := hat
      cases e1
      have hq : H q2 = some (.tup xs) := hrow.elim id fun z => by cases z.1
      refine ite2 (fun z => absurd (of_decide_eq_true z) (kne (by simp only [It.kind]; decide +kernel))) (fun _ => ?_)
      refine ⟨_, rfl, p, _, 0, _, rfl, rfl, hT, atI_nat (j := 0) rfl, rfl, _, rfl, ite2 (fun z => absurd (of_decide_eq_true z) (kne (by simp only [It.kind]; decide +kernel))) (fun _ => ?_)⟩
      refine ⟨_, rfl, p, _, 0, _, rfl, rfl, hT, atI_nat (j := 0) rfl, rfl, _, rfl, ite2 (fun _ => ?_) (fun z => (z (decide_eq_true rfl)).elim)⟩
      have el := hbb.len
      have hb : bs.list.length ≤ 100 := hb
      refine ⟨_, rfl, p, _, 3, _, rfl, rfl, SqT.of h1, atI_nat (j := 3) rfl, q2, rfl, ⟨_, SqT.of hq⟩, fun D hD => lc_tup (K := K) (a := q2) (xs := xs) (fun i H' => Same H H' ∧ ∃ acc, H' D = some (.lst acc) ∧ RowsAt H' acc (bs.list.take i)) ⟨same_new hD _, [], upd_same, .nil⟩ (fun i H' _ z => SqT.of (z.1 _ _ hq)) ?_ ?_⟩
      · rintro i v H2 hi ⟨s2, acc, hacc, hra⟩
        obtain ⟨c, b, pc, qb, zs, gb, rfl, hpc, hrw, hb2⟩ := AtS_item (hbb.same s2) hi
        refine ⟨pc, _, rfl, SqT.of hpc, rfl, _, _, rfl, _, _, rfl, rfl, rfl, yes_go ⟨_, rfl, acc, hacc, small1000 (by rw [hra.len, List.length_take]; omega), same_set s2 hD, acc ++ [.ref qb], upd_same, ?_⟩⟩
        rw [take_more (listB_get gb)]
        exact (RowsAt.app ⟨qb, zs, rfl, (hrw.elim id fun z => by cases z.1), hb2⟩ hra).kp (.wr hacc)
      · rintro H2 ⟨s2, acc, hacc, hra⟩
        rw [el, ← listB_len, List.take_length] at hra
        refine .inl ⟨D, acc, rfl, SqL.of hacc, fun r hr2 => ?_⟩
        have s3 := same_new hr2 (.tup acc)
        exact q r acc _ (s2.trans s3) upd_same (hra.kp (.of s3))
    | _ =>
      refine ite2 (fun z => absurd (of_decide_eq_true z) (kne (by simp only [It.kind]; decide +kernel))) (fun _ => ?_)
      refine ⟨_, rfl, p, _, 0, _, rfl, rfl, hT, atI_nat (j := 0) rfl, rfl, _, rfl, ite2 (fun z => absurd (of_decide_eq_true z) (kne (by simp only [It.kind]; decide +kernel))) (fun _ => ?_)⟩
      refine ⟨_, rfl, p, _, 0, _, rfl, rfl, hT, atI_nat (j := 0) rfl, rfl, _, rfl, ite2 (fun z => absurd (of_decide_eq_true z) (kne (by simp only [It.kind]; decide +kernel))) (fun _ => ?_)⟩
      refine ⟨(by show 0 ≤ sizeLine; decide), fun r hr2 => ?_⟩
      exact q r [] _ (same_new hr2 _) upd_same .nil
/-- the rows of listed -/
abbrev WalkAt (H : Hp) : List V → List (Int × It) → Prop := Paired fun v p => ∃ t u, v = .ref t ∧ H t = some (.tup [.int p.1, u]) ∧ p.2.At true H u
theorem WalkAt.kp {H H' : Hp} (s : Kp true H H') : ∀ {l : List V} {r : List (Int × It)}, WalkAt H l r → WalkAt H' l r
  | _, _, .nil => .nil
  | _, _, .cons ⟨t, u, e, h, g⟩ r => .cons ⟨t, u, e, s.t _ _ h, g.kp s⟩ (WalkAt.kp s r)
theorem WalkAt.len {H : Hp} : ∀ {l : List V} {r : List (Int × It)}, WalkAt H l r → l.length = r.length
  | _, _, .nil => rfl
  | _, _, .cons _ t => by simp [WalkAt.len t]
theorem WalkAt.cat {H : Hp} : ∀ {l m : List V} {r q : List (Int × It)}, WalkAt H l r → WalkAt H m q → WalkAt H (l ++ m) (r ++ q)
  | _, _, _, _, .nil, h => h
  | _, _, _, _, .cons a t, h => .cons a (WalkAt.cat t h)
def spListed (n : Nat) : Sp := fun vs H Q _ => ∃ (a : Addr) (x : Its) (xs : List V) (d : Int), vs = [.ref a, .int d] ∧ d + n = 3 ∧ x.ok d = true ∧ H a = some (.tup xs) ∧ x.At true H xs ∧ (x.walk d).length ≤ 1000 ∧
  ∀ r rows H', Same H H' → H' r = some (.lst rows) → WalkAt H' rows (x.walk d) → Q (.ref r) H'
theorem bl_ok : ∀ {bs : Blks} {d : Int}, bs.ok d = true → ∀ b ∈ bs.list, b.ok d = true
  | .nil, _, _, _, h => by simp [Blks.list] at h
  | .cons v b r, d, h, c, hc => by
    rw [Blks.ok, Bool.and_eq_true, Bool.and_eq_true] at h
    rcases List.mem_cons.mp hc with e | hc
    · rw [e]; exact h.1.2
    · exact bl_ok h.2 c hc
theorem blocks_ok {x : It} {d : Int} (h : x.ok d = true) : x.blocks.length ≤ 8 ∧ ∀ b ∈ x.blocks, d ≤ 2 ∧ b.ok (d + 1) = true := by
  cases x with
  | rep n a b =>
    rw [It.ok, Bool.and_eq_true, Bool.and_eq_true, Bool.and_eq_true] at h
    refine ⟨by simp [It.blocks], fun c hc => ?_⟩
    have : c = b := by simpa [It.blocks] using hc
    rw [this]
    exact ⟨of_decide_eq_true h.2.1, h.2.2.2⟩
  | eit n bs =>
    rw [It.ok, Bool.and_eq_true, Bool.and_eq_true, Bool.and_eq_true] at h
    have := of_decide_eq_true h.2.2.1
    exact ⟨by show bs.list.length ≤ 8; rw [listB_len]; omega, fun c hc => ⟨of_decide_eq_true h.2.1, bl_ok h.2.2.2 c hc⟩⟩
  | swi n t bs =>
    rw [It.ok, Bool.and_eq_true, Bool.and_eq_true, Bool.and_eq_true] at h
    have := of_decide_eq_true h.2.2.1
    exact ⟨by show bs.list.length ≤ 8; rw [listB_len]; omega, fun c hc => ⟨of_decide_eq_true h.2.1, bl_ok h.2.2.2 c hc⟩⟩
  | _ => exact ⟨by simp [It.blocks], fun c hc => by simp [It.blocks] at hc⟩
theorem scListed : FnScope ["items", "depth", "found", "item", "block"] ["items", "depth"] (defScope sListed) := ⟨rfl, rfl, rfl, by decide +kernel, rfl, by decide +kernel, by decide +kernel⟩
theorem flat_len {l : List Its} {j : Nat} {b : Its} {d : Int} (h : l[j]? = some b) : ((l.take j).flatMap (·.walk d)).length + (b.walk d).length ≤ (l.flatMap (·.walk d)).length := by
  have e : l = l.take j ++ b :: l.drop (j + 1) := by
    have hj : j < l.length := (List.getElem?_eq_some_iff.mp h).1
    have hb : l[j] = b := (List.getElem?_eq_some_iff.mp h).2
    rw [← hb, ← List.drop_eq_getElem_cons hj, List.take_append_drop]
  have e2 : (l.flatMap (·.walk d)).length = ((l.take j ++ b :: l.drop (j + 1)).flatMap (·.walk d)).length := by rw [← e]
  rw [e2]
  simp only [List.flatMap_append, List.flatMap_cons, List.length_append]
  omega
theorem ok_listed {n k : Nat} (hk : 1 ≤ k) (F : Fun K "listed" "listed" sListed f fd) (gB : Cal P w K mg base CX0 1 "blocks_of" ["item"] spBlocks) (gS : Cal P w K mg base CX0 k "listed" ["items", "depth"] (spSub spListed n)) :
    FnOk P w K mg base CX0 (k + 1) f fd ["items", "depth"] (spListed n) := by
  refine F.ok scListed (fun vs H Q E h => ?_) (fun cdv A outer s H vs Q E hr h => ?_)
  · obtain ⟨a, x, xs, d, rfl, _⟩ := h
    rfl
  · obtain ⟨a, x, xs, d, rfl, hd, ok, ha, hat, hw, q⟩ := h
    refine ⟨_, pss_cons (ps_set (i := 2) scListed.nd rfl (.inl rfl) (pe_lst pa_nil))
      (pss_cons (ps_for PassesOwn.never rfl (pi_tup (pv 0)) (pg_name (i := 3) scListed.nd rfl (.inl rfl))
        (pss_cons (ps_expr (pe_bm PySem.F.plainAttrs_list PySem.F.slot_list_append PySem.F.type_list_append mt_append (pv 2) (pa_cons (pe_tup (pa_cons (pv 1) (pa_cons (pv 3) pa_nil))) pa_nil)))
        (pss_one (ps_for PassesOwn.never rfl (pi_tup (pe_cal gB (hr.mono hk) pass0 (pa_cons (pv 3) pa_nil))) (pg_name (i := 4) scListed.nd rfl (.inl rfl))
          (pss_one (ps_expr (pe_bm PySem.F.plainAttrs_list PySem.F.slot_list_extend PySem.F.type_list_extend mt_extend (pv 2) (pa_cons (pe_cal gS hr pass0 (pa_cons (pv 4) (pa_cons (pe_op op_add (pv 1) pe_int) pa_nil))) pa_nil))))))))
      (pss_one (ps_ret (pv 2)))), ?_⟩
    refine ⟨(by show 0 ≤ sizeLine; decide), fun D hD => ?_⟩
    have s0 := same_new hD (.lst [])
    have el := hat.len
    refine ⟨_, rfl, a, rfl, ⟨_, SqT.of (s0 _ _ ha)⟩, for_tup (K := K) (a := a) (xs := xs) (fun i σ H' => ∃ i3 i4, σ = [some (.ref a), some (.int d), some (.ref D), i3, i4] ∧ Same H H' ∧ ∃ acc, H' D = some (.lst acc) ∧ WalkAt H' acc ((x.take i).walk d))
      ⟨none, none, rfl, s0, [], upd_same, by simp [Its.take, Its.walk]; exact .nil⟩ (fun i σ H' _ z => by obtain ⟨_, _, _, z, _⟩ := z; exact SqT.of (z _ _ ha)) ?_ ?_⟩
    · rintro i v σ H2 hi ⟨i3, i4, rfl, s2, acc, hacc, hwa⟩
      obtain ⟨y, gy, ay⟩ := At_item (hat.same s2) hi
      obtain ⟨b8, bok⟩ := blocks_ok (get_okd ok gy)
      have wl := walk_len (d := d) gy
      have wy := walk_it y d
      have hal := hwa.len
      refine ⟨_, rfl, .inl ⟨rfl, _, SqL.of hacc⟩, _, rfl, _, rfl, (by show 2 ≤ sizeLine; decide), fun t ht4 => ?_⟩
      have s3 := same_new ht4 (.tup [.int d, v])
      have hacc3 := s3 _ _ hacc
      refine ⟨D, acc, .ref t, rfl, rfl, hacc3, small1000 (by omega), ?_⟩
      have k3 : Kp true H2 (upd (upd H2 t (.tup [.int d, v])) D (.lst (acc ++ [.ref t]))) := (Kp.of s3).trans (.wr hacc3)
      have hS3 : Same H (upd (upd H2 t (.tup [.int d, v])) D (.lst (acc ++ [.ref t]))) := same_set (s2.trans s3) hD
      have hw3 : WalkAt (upd (upd H2 t (.tup [.int d, v])) D (.lst (acc ++ [.ref t]))) (acc ++ [.ref t]) ((x.take i).walk d ++ [(d, y)]) := by
        refine (hwa.kp k3).cat (.cons ⟨t, v, rfl, ?_, ay.kp k3⟩ .nil)
        rw [upd_ne (ne_of upd_same hacc3 (by intro z; cases z)), upd_same]
      generalize hH3 : upd (upd H2 t (.tup [.int d, v])) D (.lst (acc ++ [.ref t])) = H3 at k3 hS3 hw3
      have hD3 : H3 D = some (.lst (acc ++ [.ref t])) := by rw [← hH3]; exact upd_same
      refine ⟨_, rfl, v, y, rfl, ay.kp k3, by omega, fun r zs H4 s4 hr4 hrows => ?_⟩
      refine ⟨r, rfl, ⟨_, SqT.of hr4⟩, for_tup (K := K) (a := r) (xs := zs) (fun j σ H' => ∃ i4, σ = [some (.ref a), some (.int d), some (.ref D), some v, i4] ∧ Same H H' ∧ H' r = some (.tup zs) ∧ RowsAt H' zs y.blocks ∧ ∃ acc', H' D = some (.lst acc') ∧ WalkAt H' acc' ((x.take i).walk d ++ [(d, y)] ++ (y.blocks.take j).flatMap (·.walk (d + 1))))
        ⟨_, rfl, hS3.trans s4, hr4, hrows, _, s4 _ _ hD3, by simpa using hw3.kp (.of s4)⟩ (fun j σ H' _ z => by obtain ⟨_, _, _, z, _⟩ := z; exact SqT.of z) ?_ ?_⟩
      · rintro j z σ H5 hj ⟨i4, rfl, s5, hr5, hrows5, acc', hacc', hwa'⟩
        obtain ⟨b, qb, xb, gb, rfl, hqb, hbb⟩ := hrows5.get hj
        obtain ⟨d2, bk⟩ := bok b (List.mem_of_getElem? gb)
        have fl := flat_len (d := d + 1) gb
        have yl : (y.walk d).length = 1 + (y.blocks.flatMap (·.walk (d + 1))).length := by rw [wy, List.length_cons]; omega
        have hal' := hwa'.len
        rw [List.length_append, List.length_append, List.length_singleton] at hal'
        cases n with
        | zero => exfalso; omega
        | succ m =>
          refine ⟨_, rfl, .inl ⟨rfl, _, SqL.of hacc'⟩, _, rfl, _, rfl, d, 1, rfl, rfl, qb, b, xb, d + 1, rfl, by omega, bk, hqb, hbb, by omega, fun r6 rows H6 s6 h6 w6 => ?_⟩
          have hacc6 := s6 _ _ hacc'
          refine ⟨D, r6, acc', rows, rfl, rfl, hacc6, h6, le_line (by rw [w6.len]; omega), ?_⟩
          have k6 : Kp true H6 (upd H6 D (.lst (acc' ++ rows))) := .wr hacc6
          refine ⟨_, rfl, same_set (s5.trans s6) hD, k6.t _ _ (s6 _ _ hr5), (hrows5.kp (.of s6)).kp k6, acc' ++ rows, upd_same, ?_⟩
          rw [take_more gb, List.flatMap_append, ← List.append_assoc]
          simp only [List.flatMap_cons, List.flatMap_nil, List.append_nil]
          exact ((hwa'.kp (.of s6)).cat w6).kp k6
      · rintro σ H5 ⟨i4, rfl, s5, hr5, hrows5, acc', hacc', hwa'⟩
        rw [hrows5.len, List.take_length] at hwa'
        refine ⟨_, _, rfl, s5, acc', hacc', ?_⟩
        rw [walk_take gy, wy]
        simpa using hwa'
    · rintro σ H2 ⟨i3, i4, rfl, s2, acc, hacc, hwa⟩
      rw [el, take_all] at hwa
      exact ⟨_, rfl, q D acc H2 s2 hacc hwa⟩
end
end Bs

set_option Elab.async false
set_option linter.all false
set_option maxRecDepth 100000
set_option maxHeartbeats 8000000
/-! len(set(t)), t a tuple of texts, any number below 4000 -/
namespace Bs
open PySem PySem.Spec PyProof.Rows L2
/-- how many different ones stand among the first i -/
def met (xs : List Str) : Nat → Nat
  | 0 => 0
  | i + 1 => if (xs.take i).any (· == xs.getD i Str.empty) = true then met xs i else met xs i + 1
theorem met_le (xs : List Str) : ∀ i, met xs i ≤ i
  | 0 => Nat.le_refl 0
  | i + 1 => by
    unfold met
    have := met_le xs i
    split <;> omega
theorem met_nodup {xs : List Str} : ∀ i, i ≤ xs.length → (met xs i = i ↔ (xs.take i).Nodup)
  | 0, _ => by simp [met]
  | i + 1, hi => by
    have ih := met_nodup (xs := xs) i (by omega)
    have hx : xs[i]? = some (xs.getD i Str.empty) := by rw [List.getD_eq_getElem?_getD, List.getElem?_eq_getElem (by omega)]; rfl
    have et : xs.take (i + 1) = xs.take i ++ [xs.getD i Str.empty] := by rw [List.take_add_one, hx]; rfl
    have le := met_le xs i
    rw [et, List.nodup_append]
    unfold met
    by_cases c : (xs.take i).any (· == xs.getD i Str.empty) = true
    · rw [if_pos c]
      constructor
      · intro e; omega
      · rintro ⟨_, _, k⟩
        obtain ⟨y, hy, ey⟩ := List.any_eq_true.mp c
        have ey : y = xs.getD i Str.empty := eq_of_beq ey
        exact absurd ey (k y hy _ (by simp))
    · rw [if_neg c]
      constructor
      · intro e
        refine ⟨ih.mp (by omega), by simp, fun a ha b hb => ?_⟩
        have hb : b = xs.getD i Str.empty := by simpa using hb
        rintro rfl
        exact c (List.any_eq_true.mpr ⟨a, ha, by rw [hb]; exact beq_self_eq_true _⟩)
      · rintro ⟨k, _, _⟩
        rw [ih.mpr k]
section
variable {prog : Program} {w : World} {A : Around} {R : Result → Shared → Prop} {I : Addr} {fp wr : List Addr} {G : Array GenState → Array GenState → Prop} {n : Nat} {P : Nat → Value → Prop} {St : Nat → Shared → Prop}
theorem loop_strs (W : WalksS prog w A.in1 I fp wr G n P St) (S : Addr) (hSf : S ∉ fp) (xs : List Str) (hsz : xs.length = n) (hb : n + 1 < scanBound) (hval : ∀ i v, P i v → ∃ t, v = .str (xs.getD i Str.empty) t) :
    ∀ (k i : Nat) (s : Shared), n = i + k → St i s → s.heap.SetOf (PySem.strKind prog w) S (fun z => (xs.take i).any (· == z)) (met xs i) →
      (∀ s', Moved (S :: wr) G s s' → s'.heap.SetOf (PySem.strKind prog w) S (fun z => (xs.take n).any (· == z)) (met xs n) → R (.ok (.ret .none)) s') →
      codeAny (model prog w) A (.builtin "set.update.loop" ⟨[.ref S, .ref I], []⟩) R s := by
  have nw : S ∉ wr := fun h => hSf (W.sub _ h)
  have more : ∀ b ∈ wr, b ∈ S :: wr := fun b hb => List.mem_cons_of_mem _ hb
  have stays : ∀ {s s' : Shared} {f : Str → Bool} {c : Nat}, Moved wr G s s' → s.heap.SetOf (PySem.strKind prog w) S f c → s'.heap.SetOf (PySem.strKind prog w) S f c := fun {s s' f c} hm ⟨o, es, ep, t, ho, r⟩ => ⟨o, es, ep, t, hm.heap S _ nw ho, r⟩
  intro k
  induction k with
  | zero =>
    intro i s hk hst hS hR
    have e : i = n := by omega
    subst e
    refine codeAny_builtin PyProof.Rows.F.entry_set_update_loop ?_
    rw [Around.under_plainId PyProof.Rows.F.plain_set_update_loop _]
    refine wpAny_bind (W.done s _ _ hst fun s1 hm => wpAny_pure (hR s1 (hm.mono more) (stays hm hS)))
  | succ k ih =>
    intro i s hk hst hS hR
    have lt : i < n := by omega
    refine codeAny_builtin PyProof.Rows.F.entry_set_update_loop ?_
    rw [Around.under_plainId PyProof.Rows.F.plain_set_update_loop _]
    refine wpAny_bind (W.item i s _ _ lt hst fun v s1 hP hst1 hm => ?_)
    obtain ⟨t, rfl⟩ := hval i v hP
    have hS1 := stays hm hS
    generalize hx : xs.getD i Str.empty = x at *
    show wpAny _ A.in1 (holding [Value.str x t] (setAdd S (.str x t)) >>= _) _ _ s1
    refine wpAny_bind (wpAny_holding ?_)
    unfold setAdd
    refine wpAny_holding (wpAny_bind ((PySem.strKind prog w).pyHash (k := x) (strKind_is _ _ _ _) ?_))
    have le := met_le xs i
    refine wpAny_setAddHashed_of (knd := PySem.strKind prog w) (s := { s1 with toks := s1.toks + 1 }) (strKind_is _ _ _ _) rfl hS1 (by omega) fun h2 sb hS2 => ?_
    have hi : xs[i]? = some x := by rw [← hx, List.getD_eq_getElem?_getD, List.getElem?_eq_getElem (by omega)]; rfl
    have hS3 : h2.SetOf (PySem.strKind prog w) S (fun z => (xs.take (i + 1)).any (· == z)) (met xs (i + 1)) := by
      refine SetOf_congr hS2 (fun z => ?_) ?_
      · rw [List.take_add_one, hi]
        show ((xs.take i).any (· == z) || decide (z = x)) = (xs.take i ++ [x]).any (· == z)
        rw [List.any_append]
        congr 1
        by_cases e : z = x
        · subst e; simp
        · have : (x == z) = false := by simpa using fun h : x = z => e h.symm
          simp [e, this]
      · show _ = (if (xs.take i).any (· == xs.getD i Str.empty) = true then met xs i else met xs i + 1)
        rw [hx]
    refine wpAny_pure ⟨plainId_quiet PyProof.Rows.F.plain_set_update_loop _, ih (i + 1) _ (by omega) (W.frame _ s1 _ _ hst1 (Nat.le_succ _) fun b hb o e => ?_) hS3 fun s2 hm2 hS2 => ?_⟩
    · exact (sb.2 b fun q => hSf (q ▸ hb)).trans e
    · exact hR s2 (Moved.trans W.gtrans ((hm.mono more).then_heap (Nat.le_succ _) fun b o hb e => (sb.2 b fun q => hb (q ▸ List.mem_cons_self)).trans e) hm2) hS2
end
section
variable {prog : Program} {w : World} {A : Around} {E : Value → Shared → Prop} {s : Shared}
abbrev newSet (lg : Bool) : Obj := { cls := .type "set", dict := none, data := .set #[] 0 (.fresh 0 0 lg) }
theorem set_of_texts {l : Addr} {items : Array Value} {xs : List Str} {Q : Value → Shared → Prop} (hh : A.handled = none) (ht : s.heap.IsTuple l items) (hx : PyProof.Rows.StrsAre items.toList xs) (hb : xs.length + 1 < scanBound)
    (hq : ∀ (g : Heap) (tk : Nat), g.SetOf (PySem.strKind prog w) s.heap.objs.size (fun z => (xs.take items.size).any (· == z)) (met xs items.size) → (∀ b o, b < s.heap.objs.size → s.heap.get? b = some o → g.get? b = some o) → Q (.ref s.heap.objs.size) { s with heap := g, toks := tk }) :
    wpAny (model prog w) A (call (.type "set") [.ref l]) Q E s := by
  obtain ⟨c0, t0, m0⟩ := PySem.F.called_set.mro
  have m1 := PySem.F.called_set.made
  have m2 := PySem.F.called_set.sub
  refine wpAny_call (codeAny_of_tree ?_)
  show wpAny _ _ (callAny (.type "set") _) _ _ _
  refine wpAny_pure ⟨Code.quiet_builtin _ (by decide +kernel), codeAny_builtin PySem.F.entry_type_call ?_⟩
  rw [Around.under_plain (weight_type_call_type "set" [.ref l] []) rfl]
  have m3 := PySem.F.called_set.notType
  have m4 := PySem.F.called_set.canCreate
  have m5 := PySem.F.typeCall_set_1 (.ref l)
  repeat (any_goals (first | assumption | wp_step))
  refine codeAny_mono (code_set_new_1 (.ref l) (E := E) (Q₁ := fun u s1 => ∃ lg : Bool, u = .ref s.heap.objs.size ∧ s1 = { s with heap := s.heap.push (newSet lg) }) fun lg => ⟨lg, rfl, rfl⟩) fun r s1 back => ?_
  cases r with
  | error e => exact back
  | ok fl =>
    cases fl with
    | ret u =>
      obtain ⟨lg, rfl, rfl⟩ := back
      have atS : (s.heap.push (newSet lg)).get? s.heap.objs.size = some (newSet lg) := Heap.get?_push_size _ rfl
      have isS : Shared.TypeIs { s with heap := s.heap.push (newSet lg) } (.ref s.heap.objs.size) "set" := ⟨_, atS, rfl⟩
      have n1 := PySem.F.called_set.init.lookup
      have n2 := PySem.F.called_set.init.bind (.ref s.heap.objs.size)
      repeat (any_goals (first | assumption | wp_step))
      refine codeAny_mono (codeAny_call_builtin (R := wants (fun r s2 => r = .none ∧ ∃ g tk, s2 = { s with heap := g, toks := tk } ∧ g.SetOf (PySem.strKind prog w) s.heap.objs.size (fun z => (xs.take items.size).any (· == z)) (met xs items.size) ∧
          (∀ b o, b < s.heap.objs.size → s.heap.get? b = some o → g.get? b = some o)) E) PySem.F.called_set.init.plain PySem.F.entry_set_init (check_set_init_1 isS ?_)) fun r2 s2 back2 => ?_
      · obtain ⟨⟨oc, od, odt, osl⟩, ho, hc, nl, hd⟩ := ht
        simp only at hc hd
        subst hc hd
        have ho2 : (s.heap.push (newSet lg)).get? l = some { cls := .type "tuple", dict := od, data := .seq items nl, slots := osl } := Heap.get?_push_of_some _ ho
        have u1 := PySem.F.sub_tuple_set
        have u2 := PySem.F.sub_tuple_frozenset
        have u3 : (Value.type "tuple" == Value.type "dict") = false := by decide
        have isT : (s.heap.push (newSet lg)).IsTuple l items := ⟨_, ho2, rfl, nl, rfl⟩
        unfold Builtin.«set.__init__» noKeywords Builtin.Frozenset.updateFrom
        generalize eP : pyIter = PI
        wp_walk
        subst eP
        refine wpAny_pyIter_tuple isT (wpAny_bind (wpAny_runValue ?_))
        have lt : l < s.heap.objs.size := Heap.lt_size ho
        have sz1 : (s.heap.push (newSet lg)).objs.size = s.heap.objs.size + 1 := Heap.size_push ..
        have a3 : A.in1.in1.in1.handled = none := by simp [hh]
        have neI : l ≠ (s.heap.push (newSet lg)).objs.size := Nat.ne_of_lt (by rw [sz1]; exact Nat.lt_succ_of_lt lt)
        have nS : s.heap.objs.size ∉ [(s.heap.push (newSet lg)).objs.size, l] := by
          rw [sz1]
          simp only [List.mem_cons, List.not_mem_nil, or_false, not_or]
          exact And.intro (Nat.ne_of_lt (Nat.lt_succ_self _)) (Nat.ne_of_gt lt)
        have len : xs.length = items.size := by rw [← StrsAre.len_eq hx, Array.length_toList]
        refine loop_strs ((Walks.tuple a3 _ l neI items).toS) s.heap.objs.size nS xs len (by rw [← len]; exact hb) (fun i v hv => SS.strs_at hx i v (by rw [Array.getElem?_toList]; exact hv)) items.size 0 _ (by omega) ⟨⟨_, Heap.get?_push_size _ rfl, rfl, rfl⟩, (isT.push _)⟩ ?start ?fin
        case start =>
          have z : ((s.heap.push (newSet lg)).push { cls := .type "tuple_iterator", data := .fields #[.ref l, .int 0 0] }).get? s.heap.objs.size = some (newSet lg) := Heap.get?_push_of_some _ atS
          exact PyProof.Rows.SetOf_congr ((PyProof.Rows.setObjOf_fresh (knd := PySem.strKind prog w) lg).setOf z (by unfold scanBound; omega)) (fun _ => rfl) rfl
        case fin =>
          rintro ⟨g, g2, d2, tk, o2⟩ hm hS
          obtain rfl : g2 = s.gens := hm.gens
          obtain rfl : d2 = s.drawn := hm.drawn
          obtain rfl : o2 = s.os := hm.os
          refine wpAny_pure (wpAny_pure ⟨rfl, g, tk, rfl, hS, fun b o hb2 e => hm.heap b o ?_ (Heap.get?_push_of_some _ (Heap.get?_push_of_some _ e))⟩)
          rw [sz1]
          simp only [List.mem_cons, List.not_mem_nil, or_false, not_or]
          exact And.intro (Nat.ne_of_lt hb2) (Nat.ne_of_lt (Nat.lt_succ_of_lt hb2))
      · cases r2 with
        | error e => exact back2
        | ok fl2 =>
          cases fl2 with
          | ret r =>
            obtain ⟨rfl, g, tk, rfl, k1, k2⟩ := back2
            repeat (any_goals (first | assumption | wp_step))
            exact hq _ _ k1 k2
          | _ => exact back2.elim
    | _ => exact back.elim
end
def tSetLen (K : PySem.W.Frag) (ta : TE) : TE := fun σ H Q => ta σ H fun x H1 => ∃ (l : Addr) (xs : List Str), x = .ref l ∧ SqT K H1 l (xs.map V.str) ∧ xs.length ≤ 4000 ∧ Q (.int (met xs xs.length : Nat)) H1
theorem pe_setLen {X : Cx} {a : Expr} {ta : TE} {p p2 q pos : Pos} (hc : X.calm = true) (hg : Gl X "len") (hm : X.mg "len" = none) (hg2 : Gl X "set") (hm2 : X.mg "set" = none) (ha : PE X a ta)
    (na : starEach [a] X.env = (false, eval a X.env) :: starEach [] X.env := by rfl) : PE X (.Call (.Name "len" p) [.Call (.Name "set" p2) [a] [] q] [] pos) (tSetLen X.K ta) := by
  refine ⟨fun pins s σ H Q I h => Call_ (ld_blt I hg hm boot_len (PyProof.Rows.callWith_builtin1 (PyProof.Rows.args_cons ?_ rfl) rfl rfl))⟩
  refine Call_ (ld_blt I hg2 hm2 boot_set (PyProof.Rows.callWith_type1 (PyProof.Rows.args_cons (thn (ha.run pins s σ H _ I h) fun v s1 ⟨x, H1, I1, r1, q1⟩ => PyProof.Rows.args_nil ?_) na) na rfl))
  obtain ⟨l, xs, rfl, ht, hz, q1⟩ := q1
  cases r1
  obtain ⟨its, r, pl, _⟩ := I1.tuple ht
  have len : its.toArray.size = xs.length := by rw [List.size_toArray, ← r.length, List.length_map]
  refine set_of_texts (I1.ok.hd hc) pl (by simpa using strsAre_of r) (by unfold scanBound; omega) fun g tk hS hk => PyProof.Rows.args_nil ?_
  rw [len] at hS
  obtain ⟨o, es, ep, t, ho, hex, hd, _, _, hbnd, hf, hn⟩ := hS
  have I2 : Inv X pins σ H1 { s1 with heap := g, toks := tk } := I1.kept fun b o e => hk b o (Heap.lt_size e) e
  have := met_le xs xs.length
  exact call_len_set ho hex hd hf (by rw [hn]; omega) ⟨.int (met xs xs.length : Nat), H1, I2.tok _, ⟨_, by rw [hn]⟩, q1⟩
end Bs

set_option Elab.async false
set_option linter.all false
set_option maxRecDepth 100000
set_option maxHeartbeats 4000000
namespace Bs
open PySem L2
/-! ### Shape -/
def gFld (K : PySem.W.Frag) (ta : TE) (f : Str) : TG := fun v σ H Q => ta σ H fun x H2 => ∃ a C dx fs, x = .ref a ∧ H2 a = some (.ins C dx fs) ∧ Cls K C ∧ NoAttr K C f ∧ fs.length < 1000 ∧ Q σ (upd H2 a (.ins C dx (putF f v fs)))
theorem pg_fld {X : Cx} {o : Expr} {f : Str} {pos : Pos} {ta : TE} (ha : PE X o ta) : PG X (.Attribute o f pos) (gFld X.K ta f) := by
  refine ⟨fun pins s σ H v u Q I r h => PySem.W.kas_attr (thn (ha.run pins s σ H _ I h) fun ov s2 ⟨x, H2, I2, rx, a, C, dx, fs, ex, ea, c, n, l, q⟩ => ?_)⟩
  subst ex
  obtain rfl : ov = Value.ref a := rx
  exact setattr_ok I2 ea c n l r fun s3 I3 => ⟨σ, _, I3, q⟩
theorem putF_len (f : Str) (v : V) : ∀ fs : List (Str × V), (putF f v fs).length ≤ fs.length + 1
  | [] => by simp [putF]
  | (g, x) :: r => by
    unfold putF
    split
    · simp
    · have := putF_len f v r
      simp only [List.length_cons]
      omega
/-- all but o is as it was -/
def Off (o : Addr) (H H' : Hp) : Prop := ∀ b u, b ≠ o → H b = some u → H' b = some u
theorem Off.refl (o : Addr) (H : Hp) : Off o H H := fun _ _ _ h => h
theorem Off.trans {o : Addr} {H H1 H2 : Hp} (a : Off o H H1) (b : Off o H1 H2) : Off o H H2 := fun c u n h => b c u n (a c u n h)
theorem Off.of {o : Addr} {H H' : Hp} (s : Same H H') : Off o H H' := fun b u _ h => s b u h
theorem Off.wr {o : Addr} {H : Hp} {u : HO} : Off o H (upd H o u) := fun b v n h => by rw [upd_ne n]; exact h
theorem Off.kp {o : Addr} {fz : Bool} {H H' : Hp} {C dx : Addr} {fs : List (Str × V)} (h : H o = some (.ins C dx fs)) (f : Off o H H') : Kp fz H H' :=
  ⟨fun b xs e => f b _ (ne_of e h (by intro z; cases z)) e, fun _ b xs e => f b _ (ne_of e h (by intro z; cases z)) e⟩
structure ShapeC (K : PySem.W.Frag) (C : Addr) : Prop where
  cl : Cls K C
  n1 : NoAttr K C "parts"
  n2 : NoAttr K C "_rows"
  n3 : NoAttr K C "names"
  n4 : NoAttr K C "_least"
  n5 : NoAttr K C "_greatest"
  n6 : NoAttr K C "_row_of"
/-- the shape in the making: o its instance, p its parts -/
structure Mk0 (o CS dx p : Addr) (x : Its) (ys : List V) (H0 H : Hp) (fs : List (Str × V)) : Prop where
  off : Off o H0 H
  ho : H o = some (.ins CS dx fs)
  hp : H p = some (.tup ys)
  at' : x.At true H ys
theorem Mk0.same {o CS dx p : Addr} {x : Its} {ys : List V} {H0 H H' : Hp} {fs : List (Str × V)} (m : Mk0 o CS dx p x ys H0 H fs) (s : Same H H') : Mk0 o CS dx p x ys H0 H' fs :=
  ⟨m.off.trans (.of s), s _ _ m.ho, s _ _ m.hp, m.at'.same s⟩
theorem Mk0.put {o CS dx p : Addr} {x : Its} {ys : List V} {H0 H : Hp} {fs gs : List (Str × V)} (m : Mk0 o CS dx p x ys H0 H fs) : Mk0 o CS dx p x ys H0 (upd H o (.ins CS dx gs)) gs :=
  ⟨m.off.trans .wr, upd_same, by rw [upd_ne (ne_of m.hp m.ho (by intro z; cases z))]; exact m.hp, m.at'.kp (Off.kp m.ho .wr)⟩
theorem WalkAt.get {H : Hp} : ∀ {l : List V} {r : List (Int × It)} {i : Nat} {v : V}, WalkAt H l r → l[i]? = some v → ∃ d y t u, r[i]? = some (d, y) ∧ v = .ref t ∧ H t = some (.tup [.int d, u]) ∧ y.At true H u
  | _, _, _, _, .nil, e => by simp at e
  | _, _, 0, _, .cons (b := (d, y)) ⟨t, u, e0, h, g⟩ _, e => by simp at e; subst e; exact ⟨d, y, t, u, by simp, e0, h, g⟩
  | _, _, i + 1, _, .cons _ t, e => by obtain ⟨d, y, t, u, h⟩ := WalkAt.get (i := i) t (by simpa using e); exact ⟨d, y, t, u, by simpa using h.1, h.2⟩
/-- the fields of a made shape -/
structure ShapeFs (x : Its) (H : Hp) (fs : List (Str × V)) : Prop where
  parts : ∃ p ys, fs.lookup ("parts" : Str) = some (.ref p) ∧ H p = some (.tup ys) ∧ x.At true H ys
  rows : ∃ r rows, fs.lookup ("_rows" : Str) = some (.ref r) ∧ H r = some (.tup rows) ∧ WalkAt H rows (x.walk 0)
  names : ∃ r, fs.lookup ("names" : Str) = some (.ref r) ∧ H r = some (.tup (x.names.map V.str))
  lens : ∃ l, x.lens (fun _ => none) = some l ∧ fs.lookup ("_least" : Str) = some (.int l.1) ∧ fs.lookup ("_greatest" : Str) = some (.int l.2)
theorem ShapeFs.kp {x : Its} {H H' : Hp} {fs : List (Str × V)} (s : ShapeFs x H fs) (k : Kp true H H') : ShapeFs x H' fs := by
  obtain ⟨⟨p, ys, p1, p2, p3⟩, ⟨r, rows, r1, r2, r3⟩, ⟨n, n1, n2⟩, l⟩ := s
  exact ⟨⟨p, ys, p1, k.t _ _ p2, p3.kp k⟩, ⟨r, rows, r1, k.t _ _ r2, r3.kp k⟩, ⟨n, n1, k.t _ _ n2⟩, l⟩
def spInit (CE CS : Addr) : Sp := fun vs H Q E => ∃ (o a dx : Addr) (x : Its) (xs : List V), vs = [.ref o, .ref a] ∧ H o = some (.ins CS dx []) ∧ RowAt false H a xs ∧ x.At false H xs ∧ x.tame ∧ (x.walk 0).length ≤ 1000 ∧
  (x.shape = true → ∀ H' fs, Off o H H' → H' o = some (.ins CS dx fs) → ShapeFs x H' fs → Q .non H') ∧ (x.shape = false → ∀ H', Off o H H' → E (.ref CE) none H')
section
variable {P : Program} {w : World} {K : PySem.W.Frag} {mg : Str → Option Value} {base : Heap} {f C CS : Addr} {fd : FuncData}
abbrev nInit : List Str := ["self", "items", "_", "item", "checks", "row"]
theorem scInit : FnScope nInit ["self", "items"] (defScope sInit) := ⟨rfl, rfl, rfl, by decide +kernel, rfl, by decide +kernel, by decide +kernel⟩
theorem ok_init {k : Nat} (hk : 2 ≤ k) (F : Fun K "__init__" "Shape.__init__" sInit f fd) (T : ShapeC K CS) (gR : Cal P w K mg base (L2.CX P w) 1 "require" ["holds", "words"] (spRequire C)) (gC : Cal P w K mg base (L2.CX P w) k "copied_list" ["items", "depth"] (spCopList C 3))
    (gW : Cal P w K mg base CX0 k "listed" ["items", "depth"] (spListed 3)) (gL : Cal P w K mg base (L2.CX P w) k "list_lengths" ["items", "visible"] (spLensList C 3)) (ml : mg "len" = none) (mt : mg "tuple" = none) (mset : mg "set" = none) (gM : GInt mg "MOST_ITEMS" 30) :
    FnOk P w K mg base (L2.CX P w) (k + 1) f fd ["self", "items"] (spInit C CS) := by
  refine F.okX scInit (fun vs H Q E h => ?_) (fun cdv A outer s H vs Q E hr h => ?_)
  · obtain ⟨o, a, dx, x, xs, rfl, _⟩ := h
    rfl
  · obtain ⟨o, a, dx, x, xs, rfl, ho, hrow, hat, ht, hw, q1, q2⟩ := h
    have tk : Takes (cxOf (L2.CX P w) P w K mg base nInit "Shape.__init__" (defScope sInit) f cdv A outer s H E) (fun cls d _ H => E cls d H) := takes_of rfl rfl rfl rfl
    have hx := passes_call tk (E := E) fun _ _ _ _ h => h
    have hr1 : Room 1 _ := hr.mono (by omega)
    refine ⟨_, pss_cons (ps_fld (pv 0) (pe_cal gC hr hx (pa_cons (pv 1) (pa_cons pe_int pa_nil))) rfl)
      (pss_cons (ps_expr (pe_cal gR hr1 hx (pa_cons (pe_cmpR op_ge (pe_callB call_len (by rfl) ml boot_len (pa_cons (pe_fld (pv 0) rfl) pa_nil)) pe_int (nomark _)) (pa_cons pe_str pa_nil))))
      (pss_cons (ps_fld (pv 0) (pe_tupleOf (by rfl) mt (pe_cal gW hr pass0 (pa_cons (pe_fld (pv 0) rfl) (pa_cons pe_int pa_nil)))) rfl)
      (pss_cons (ps_fld (pv 0) (pe_tupleOf (by rfl) mt (pe_lc (own := [("_", 2), ("item", 3)]) (g := gTup K 2 (gCons (gName 2) (gCons (gName 3) gNil))) (tt := tYes) rfl scInit.nd (pi_tup (pe_fld (pv 0) rfl))
            (blkOk_by (own := [("_", 2), ("item", 3)]) (N := nInit) (sc := defScope sInit) (by decide +kernel)) (fun _ _ _ _ _ => pg_tup rfl (pgs_cons (pg_name (i := 2) scInit.nd rfl (Or.inl rfl)) (pgs_cons (pg_name (i := 3) scInit.nd rfl (Or.inl rfl)) pgs_nil)))
            (fun _ _ _ _ _ => pts_nil) (fun _ _ _ _ _ => pe_ix (r := rIxT K) ix_tup (pv 3) pe_int (fun _ _ => rfl)))) rfl)
      (pss_cons (ps_expr (pe_cal gR hr1 hx (pa_cons (pe_cmpR op_le (pe_callB call_len (by rfl) ml boot_len (pa_cons (pe_fld (pv 0) rfl) pa_nil)) (pe_gint gM rfl) (nomark _)) (pa_cons (pe_joined (.cons pe_str (.cons (pe_fmt (pe_gint gM rfl)) (.cons pe_str .nil)))) pa_nil))))
      (pss_cons (ps_expr (pe_cal gR hr1 hx (pa_cons (pe_cmpR op_eq (pe_setLen rfl (by rfl) ml (by rfl) mset (pe_fld (pv 0) rfl)) (pe_callB call_len (by rfl) ml boot_len (pa_cons (pe_fld (pv 0) rfl) pa_nil)) (nomark _)) (pa_cons pe_str pa_nil))))
      (pss_cons (ps_setLc (i := 4) (own := [("_", 2), ("item", 3)]) (g := gTup K 2 (gCons (gName 2) (gCons (gName 3) gNil))) rfl scInit.nd rfl rfl (sw_true rfl rfl rfl (by decide +kernel)) (pi_tup (pe_fld (pv 0) rfl))
            (blkOk_by (own := [("_", 2), ("item", 3)]) (N := nInit) (sc := defScope sInit) (by decide +kernel)) (fun _ _ _ _ _ => pg_tup rfl (pgs_cons (pg_name (i := 2) scInit.nd rfl (Or.inl rfl)) (pgs_cons (pg_name (i := 3) scInit.nd rfl (Or.inl rfl)) pgs_nil)))
            (fun _ _ _ _ _ => pts_one (pt_cmpR op_eq (pe_ix (r := rIxT K) ix_tup (pv 3) pe_int (fun _ _ => rfl)) pe_str (nomark _))) (fun _ _ _ _ _ => pv 3))
      (pss_cons (ps_expr (pe_cal gR hr1 hx (pa_cons (pe_cmpR op_le (pe_callB call_len (by rfl) ml boot_len (pa_cons (pv 4) pa_nil)) pe_int (nomark _)) (pa_cons pe_str pa_nil))))
      (pss_cons (ps_asg (pe_cal gL hr hx (pa_cons (pe_fld (pv 0) rfl) (pa_cons pe_dnewK pa_nil))) (pg_tup rfl (pgs_cons (pg_fld (pv 0)) (pgs_cons (pg_fld (pv 0)) pgs_nil))))
      (pss_one (ps_fld (pv 0) (pe_dc (own := [("row", 5)]) (g := gName 5) (tt := tYes) rfl scInit.nd (pi_tup (pe_fld (pv 0) rfl)) (blkOk_by (own := [("row", 5)]) (N := nInit) (sc := defScope sInit) (by decide +kernel))
            (fun _ _ _ _ _ => pg_name (i := 5) scInit.nd rfl (Or.inl rfl)) (fun _ _ _ _ _ => pts_nil) (fun _ _ _ _ _ => pe_ix (r := rIxT K) ix_tup (pe_ix (r := rIxT K) ix_tup (pv 5) pe_int (fun _ _ => rfl)) pe_int (fun _ _ => rfl)) (fun _ _ _ _ _ => pv 5)) rfl)))))))))), ?_⟩
    unfold Its.shape at q1 q2
    refine ⟨_, rfl, a, x, xs, 0, rfl, rfl, hrow, hat, ht, fun c1 p ys H1 s1 hp hy => ?_, fun c1 H1 s1 => q2 (by rw [c1, Bool.false_and]) H1 (.of s1)⟩
    have hx12 : x.len ≤ 12 := of_decide_eq_true (Bool.and_eq_true _ _ ▸ c1).1
    have hok : x.ok 0 = true := (Bool.and_eq_true _ _ ▸ c1).2
    rw [c1, Bool.true_and] at q1 q2
    have hl := hy.len
    have m1 : Mk0 o CS dx p x ys H H1 [] := ⟨.of s1, s1 _ _ ho, hp, hy⟩
    refine ⟨_, rfl, o, CS, dx, [], rfl, m1.ho, T.cl, T.n1, by simp, ?_⟩
    have m2 := m1.put (gs := putF "parts" (.ref p) [])
    have lk2 : (putF "parts" (.ref p) []).lookup ("parts" : Str) = some (.ref p) := by rw [lookup_putF, if_pos rfl]
    generalize upd H1 o _ = H2 at m2 ⊢
    refine ⟨_, rfl, o, CS, dx, _, _, rfl, m2.ho, T.cl, T.n1, lk2, _, _, rfl, .inr ⟨_, SqT.of m2.hp, rfl⟩, _, _, rfl, rfl, ?_⟩
    refine ⟨_, _, rfl, fun e => ?_, fun e => ?_⟩
    rotate_left
    · have e := of_decide_eq_false e
      exact q2 (by rw [decide_eq_false (by omega), Bool.false_and]) _ m2.off
    have e := of_decide_eq_true e
    rw [decide_eq_true (by omega), Bool.true_and] at q1 q2
    refine ⟨_, rfl, o, CS, dx, _, _, rfl, m2.ho, T.cl, T.n1, lk2, p, x, ys, 0, rfl, rfl, hok, m2.hp, m2.at', hw, fun r rows H3 s3 hr3 wa3 => ?_⟩
    refine .inl ⟨r, rows, rfl, SqL.of hr3, fun r2 hr2 => ?_⟩
    have s4 := same_new hr2 (.tup rows)
    have m4 := m2.same (s3.trans s4)
    have wa4 := wa3.kp (.of s4)
    have h4 : upd H3 r2 (.tup rows) r2 = some (.tup rows) := upd_same
    generalize upd H3 r2 _ = H4 at m4 wa4 h4 ⊢
    refine ⟨_, rfl, o, CS, dx, _, rfl, m4.ho, T.cl, T.n2, by simp [putF], ?_⟩
    have m5 := m4.put (gs := putF "_rows" (.ref r2) (putF "parts" (.ref p) []))
    have k5 : Kp true H4 (upd H4 o (.ins CS dx (putF "_rows" (.ref r2) (putF "parts" (.ref p) [])))) := Off.kp m4.ho .wr
    have wa5 := wa4.kp k5
    have h5 := k5.t _ _ h4
    have lk5 : (putF "_rows" (.ref r2) (putF "parts" (.ref p) [])).lookup ("_rows" : Str) = some (.ref r2) := by rw [lookup_putF, if_pos rfl]
    generalize upd H4 o _ = H5 at m5 wa5 h5 ⊢
    have rl := wa5.len
    refine ⟨_, rfl, o, CS, dx, _, _, rfl, m5.ho, T.cl, T.n2, lk5, r2, rfl, ⟨_, SqT.of h5⟩, fun D hD => lc_tup (K := K) (a := r2) (xs := rows) (fun i H' => Same H5 H' ∧ H' D = some (.lst (((x.walk 0).take i).map fun z => V.str z.2.name))) ⟨same_new hD _, upd_same⟩ (fun i H' _ z => SqT.of (z.1 _ _ h5)) ?_ ?_⟩
    · rintro i v H6 hi ⟨s6, hacc⟩
      obtain ⟨d, y, t, u, gy, rfl, ht6, ay⟩ := (wa5.kp (.of s6)).get hi
      obtain ⟨pu, rest, rfl, hpu, _⟩ := At_head ay
      refine ⟨t, _, rfl, SqT.of ht6, rfl, _, _, rfl, _, _, rfl, rfl, rfl, yes_go ⟨_, rfl, pu, _, 1, _, rfl, rfl, SqT.of hpu, atI_nat (j := 1) rfl, _, hacc, small1000 (by rw [List.length_map, List.length_take]; omega), same_set s6 hD, ?_⟩⟩
      rw [upd_same, take_more gy, List.map_append]
      rfl
    rintro H6 ⟨s6, hacc⟩
    rw [rl, List.take_length] at hacc
    refine .inl ⟨D, _, rfl, SqL.of hacc, fun nt hnt => ?_⟩
    have hmap : ((x.walk 0).map fun z => V.str z.2.name) = x.names.map V.str := by rw [Its.names, List.map_map]; rfl
    rw [hmap] at hacc ⊢
    have nl : x.names.length = (x.walk 0).length := by rw [Its.names, List.length_map]
    have s7 := same_new hnt (.tup (x.names.map V.str))
    have m7 := m5.same (s6.trans s7)
    have wa7 := wa5.kp (.of (s6.trans s7))
    have h7 := (s6.trans s7) _ _ h5
    have n7 : upd H6 nt (.tup (x.names.map V.str)) nt = some (.tup (x.names.map V.str)) := upd_same
    generalize upd H6 nt _ = H7 at m7 wa7 h7 n7 ⊢
    refine ⟨_, rfl, o, CS, dx, _, rfl, m7.ho, T.cl, T.n3, Nat.lt_of_le_of_lt (Nat.le_trans (putF_len _ _ _) (Nat.succ_le_succ (putF_len _ _ _))) (by decide), ?_⟩
    generalize hfs8 : putF ("names" : Str) (.ref nt) (putF "_rows" (.ref r2) (putF "parts" (.ref p) [])) = fs8
    have m8 := m7.put (gs := fs8)
    have k8 : Kp true H7 (upd H7 o (.ins CS dx fs8)) := Off.kp m7.ho .wr
    have wa8 := wa7.kp k8
    have h8 := k8.t _ _ h7
    have n8 := k8.t _ _ n7
    have lkP : fs8.lookup ("parts" : Str) = some (.ref p) := by rw [← hfs8, lookup_putF, if_neg (by decide +kernel), lookup_putF, if_neg (by decide +kernel), lk2]
    have lkR : fs8.lookup ("_rows" : Str) = some (.ref r2) := by rw [← hfs8, lookup_putF, if_neg (by decide +kernel), lk5]
    have lkN : fs8.lookup ("names" : Str) = some (.ref nt) := by rw [← hfs8, lookup_putF, if_pos rfl]
    have fl8 : fs8.length ≤ 3 := by rw [← hfs8]; exact Nat.le_trans (putF_len _ _ _) (Nat.succ_le_succ (Nat.le_trans (putF_len _ _ _) (Nat.succ_le_succ (putF_len _ _ _))))
    generalize upd H7 o _ = H8 at m8 wa8 h8 n8 ⊢
    -- at most 30
    refine ⟨_, rfl, o, CS, dx, _, _, rfl, m8.ho, T.cl, T.n2, lkR, _, _, rfl, .inr ⟨_, SqT.of h8, rfl⟩, _, _, rfl, rfl, _, rfl, by decide +kernel, .inr ⟨30, rfl, by decide +kernel, _, rfl, by decide +kernel, _, rfl, by decide +kernel, ?_⟩⟩
    refine ⟨_, _, rfl, fun e => ?_, fun e => ?_⟩
    rotate_left
    · have e := of_decide_eq_false e
      exact q2 (by rw [decide_eq_false (by omega), Bool.false_and]) _ m8.off
    have e := of_decide_eq_true e
    have h30 : (x.walk 0).length ≤ 30 := by omega
    rw [decide_eq_true h30, Bool.true_and] at q1 q2
    -- no name twice
    refine ⟨_, rfl, o, CS, dx, _, _, rfl, m8.ho, T.cl, T.n3, lkN, nt, x.names, rfl, SqT.of n8, by omega, _, rfl, o, CS, dx, _, _, rfl, m8.ho, T.cl, T.n3, lkN, _, _, rfl, .inr ⟨_, SqT.of n8, rfl⟩, rfl, ?_⟩
    rw [int_eq, List.length_map]
    have mn := met_nodup (xs := x.names) x.names.length (Nat.le_refl _)
    rw [List.take_length] at mn
    refine ⟨_, _, rfl, fun e => ?_, fun e => ?_⟩
    rotate_left
    · have e := of_decide_eq_false e
      exact q2 (by rw [decide_eq_false (fun z => e (by rw [mn.mpr z])), Bool.false_and]) _ m8.off
    have e := of_decide_eq_true e
    have hnd : x.names.Nodup := mn.mp (by omega)
    rw [decide_eq_true hnd, Bool.true_and] at q1 q2
    have rl8 := wa8.len
    -- the checks
    refine ⟨_, rfl, o, CS, dx, _, _, rfl, m8.ho, T.cl, T.n2, lkR, r2, rfl, ⟨_, SqT.of h8⟩, fun D2 hD2 => lc_tup (K := K) (a := r2) (xs := rows) (fun i H' => Same H8 H' ∧ ∃ acc, H' D2 = some (.lst acc) ∧ acc.length = (((x.walk 0).take i).filter (·.2.isChk)).length) ⟨same_new hD2 _, [], upd_same, rfl⟩ (fun i H' _ z => SqT.of (z.1 _ _ h8)) ?_ ?_⟩
    · rintro i v H9 hi ⟨s9, acc, hacc, hlen⟩
      obtain ⟨d, y, t, u, gy, rfl, ht9, ay⟩ := (wa8.kp (.of s9)).get hi
      obtain ⟨pu, rest, rfl, hpu, _⟩ := At_head ay
      refine ⟨t, _, rfl, SqT.of ht9, rfl, _, _, rfl, _, _, rfl, rfl, rfl, _, rfl, pu, _, 0, _, rfl, rfl, SqT.of hpu, atI_nat (j := 0) rfl, rfl, _, rfl, ?_⟩
      have fl : (((x.walk 0).take (i + 1)).filter (·.2.isChk)).length = (((x.walk 0).take i).filter (·.2.isChk)).length + if y.isChk = true then 1 else 0 := by
        rw [take_more gy, List.filter_append, List.length_append]
        cases hy2 : y.isChk <;> simp [hy2]
      have le9 : (((x.walk 0).take i).filter (·.2.isChk)).length ≤ 30 := Nat.le_trans (List.length_filter_le _ _) (by rw [List.length_take]; omega)
      have ek : decide (V.str y.kind = V.str "check") = y.isChk := by
        cases y with
        | chk => exact decide_eq_true rfl
        | _ => exact decide_eq_false (kne (by simp only [It.kind]; decide +kernel))
      show (fun b H3 => if b = true then _ else _) (decide (V.str y.kind = V.str "check")) H9
      rw [ek]
      cases hc : y.isChk with
      | true =>
        rw [hc, if_pos rfl] at fl
        refine iteT ⟨_, rfl, acc, hacc, small1000 (by omega), same_set s9 hD2, _, upd_same, ?_⟩
        rw [List.length_append, List.length_singleton, hlen, fl]
      | false =>
        rw [hc, if_neg (by decide)] at fl
        exact iteF ⟨s9, acc, hacc, by omega⟩
    rintro H9 ⟨s9, acc, hacc, hlen⟩
    rw [rl8, List.take_length] at hlen
    have m9 := m8.same s9
    have wa9 := wa8.kp (.of s9)
    have h9 := s9 _ _ h8
    have n9 := s9 _ _ n8
    -- at most one
    refine ⟨_, rfl, _, _, rfl, .inl ⟨acc, SqL.of hacc, rfl⟩, _, _, rfl, rfl, ?_⟩
    refine ⟨_, _, rfl, fun e => ?_, fun e => ?_⟩
    rotate_left
    · have e := of_decide_eq_false e
      exact q2 (by rw [decide_eq_false (by omega), Bool.false_and]) _ m9.off
    have e := of_decide_eq_true e
    rw [decide_eq_true (by omega), Bool.true_and] at q1 q2
    -- the lengths
    refine ⟨_, rfl, o, CS, dx, _, _, rfl, m9.ho, T.cl, T.n1, lkP, fun dv hdv => ?_⟩
    have s10 := same_new hdv (.dK [])
    have m10 := m9.same s10
    refine ⟨p, dv, x, ys, fun _ => none, 0, 0, rfl, rfl, hok, hx12, ht, m10.hp, m10.at', ⟨[], upd_same, by simp, fun z => rfl⟩, by decide, fun l el lt H11 s11 hlt => ?_, fun el H11 s11 => q2 (by rw [el]; rfl) H11 (m10.same s11).off⟩
    rw [el] at q1
    have q1 := q1 rfl
    have lx := el
    have m11 := m10.same s11
    have wa11 := wa9.kp (.of (s10.trans s11))
    have h11 := (s10.trans s11) _ _ h9
    have n11 := (s10.trans s11) _ _ n9
    refine ⟨lt, _, rfl, SqT.of hlt, rfl, _, _, rfl, ?_⟩
    refine ⟨_, rfl, o, CS, dx, _, rfl, m11.ho, T.cl, T.n4, by omega, ?_⟩
    generalize hfs12 : putF ("_least" : Str) (.int l.1) fs8 = fs12
    have lkP2 : fs12.lookup ("parts" : Str) = some (.ref p) := by rw [← hfs12, lookup_putF, if_neg (by decide +kernel), lkP]
    have lkR2 : fs12.lookup ("_rows" : Str) = some (.ref r2) := by rw [← hfs12, lookup_putF, if_neg (by decide +kernel), lkR]
    have fl12 : fs12.length ≤ 4 := by rw [← hfs12]; exact Nat.le_trans (putF_len _ _ _) (Nat.succ_le_succ fl8)
    have m12 := m11.put (gs := fs12)
    have k12 : Kp true H11 (upd H11 o (.ins CS dx fs12)) := Off.kp m11.ho .wr
    have wa12 := wa11.kp k12
    have h12 := k12.t _ _ h11
    have n12 := k12.t _ _ n11
    have lkN2 : fs12.lookup ("names" : Str) = some (.ref nt) := by rw [← hfs12, lookup_putF, if_neg (by decide +kernel), lkN]
    have lkL2 : fs12.lookup ("_least" : Str) = some (.int l.1) := by rw [← hfs12, lookup_putF, if_pos rfl]
    generalize upd H11 o _ = H12 at m12 wa12 h12 n12 ⊢
    refine ⟨_, _, rfl, _, rfl, o, CS, dx, _, rfl, m12.ho, T.cl, T.n5, by omega, ?_⟩
    generalize hfs13 : putF ("_greatest" : Str) (.int l.2) fs12 = fs13
    have lkP3 : fs13.lookup ("parts" : Str) = some (.ref p) := by rw [← hfs13, lookup_putF, if_neg (by decide +kernel), lkP2]
    have lkR3 : fs13.lookup ("_rows" : Str) = some (.ref r2) := by rw [← hfs13, lookup_putF, if_neg (by decide +kernel), lkR2]
    have fl13 : fs13.length ≤ 5 := by rw [← hfs13]; exact Nat.le_trans (putF_len _ _ _) (Nat.succ_le_succ fl12)
    have m13 := m12.put (gs := fs13)
    have k13 : Kp true H12 (upd H12 o (.ins CS dx fs13)) := Off.kp m12.ho .wr
    have wa13 := wa12.kp k13
    have h13 := k13.t _ _ h12
    have n13 := k13.t _ _ n12
    have lkN3 : fs13.lookup ("names" : Str) = some (.ref nt) := by rw [← hfs13, lookup_putF, if_neg (by decide +kernel), lkN2]
    have lkL3 : fs13.lookup ("_least" : Str) = some (.int l.1) := by rw [← hfs13, lookup_putF, if_neg (by decide +kernel), lkL2]
    have lkG3 : fs13.lookup ("_greatest" : Str) = some (.int l.2) := by rw [← hfs13, lookup_putF, if_pos rfl]
    generalize upd H12 o _ = H13 at m13 wa13 h13 n13 ⊢
    refine ⟨rfl, ?_⟩
    have rl13 := wa13.len
    -- the rows by their names
    refine ⟨_, rfl, o, CS, dx, _, _, rfl, m13.ho, T.cl, T.n2, lkR3, r2, rfl, ⟨_, SqT.of h13⟩, fun D3 hD3 => dc_tup (K := K) (a := r2) (xs := rows) (fun i H' => Same H13 H' ∧ ∃ kvs, H' D3 = some (.dK kvs) ∧ kvs.length ≤ i) ⟨same_new hD3 _, [], upd_same, Nat.le_refl 0⟩ (fun i H' _ z => SqT.of (z.1 _ _ h13)) ?_ ?_⟩
    · rintro i v H14 hi ⟨s14, kvs, hkvs, hlen⟩
      have il : i < rows.length := (List.getElem?_eq_some_iff.mp hi).1
      obtain ⟨d, y, t, u, gy, rfl, ht14, ay⟩ := (wa13.kp (.of s14)).get hi
      obtain ⟨pu, rest, rfl, hpu, _⟩ := At_head ay
      refine ⟨rfl, yes_go ?_⟩
      refine ⟨_, rfl, t, _, 1, _, rfl, rfl, SqT.of ht14, atI_nat (j := 1) rfl, pu, _, 1, _, rfl, rfl, SqT.of hpu, atI_nat (j := 1) rfl, _, rfl, kvs, .inr y.name, rfl, hkvs, small1000 (by omega), same_set s14 hD3, _, upd_same, ?_⟩
      have := length_putK kvs (.inr y.name) (.ref t)
      omega
    rintro H14 ⟨s14, _⟩
    have m14 := m13.same s14
    refine ⟨_, rfl, o, CS, dx, _, rfl, m14.ho, T.cl, T.n6, by omega, ?_⟩
    have m15 := m14.put (gs := putF ("_row_of" : Str) (.ref D3) fs13)
    have k15 : Kp true H14 (upd H14 o (.ins CS dx (putF ("_row_of" : Str) (.ref D3) fs13))) := Off.kp m14.ho .wr
    exact q1 _ _ m15.off m15.ho ⟨⟨p, ys, by rw [lookup_putF, if_neg (by decide +kernel), lkP3], m15.hp, m15.at'⟩, ⟨r2, rows, by rw [lookup_putF, if_neg (by decide +kernel), lkR3], k15.t _ _ (s14 _ _ h13), (wa13.kp (.of s14)).kp k15⟩,
      ⟨nt, by rw [lookup_putF, if_neg (by decide +kernel), lkN3], k15.t _ _ (s14 _ _ n13)⟩, ⟨l, lx, by rw [lookup_putF, if_neg (by decide +kernel), lkL3], by rw [lookup_putF, if_neg (by decide +kernel), lkG3]⟩⟩
end
end Bs

set_option Elab.async false
set_option linter.all false
set_option maxRecDepth 100000
set_option maxHeartbeats 4000000
namespace Bs
open PySem L2
/-! ### all items of a shape, one behind another -/
mutual
def It.flat : It → List It
  | .rep n a b => .rep n a b :: b.flat
  | .eit n bs => .eit n bs :: bs.flat
  | .swi n t bs => .swi n t bs :: bs.flat
  | x => [x]
def Its.flat : Its → List It
  | .nil => []
  | .cons x r => x.flat ++ r.flat
def Blks.flat : Blks → List It
  | .nil => []
  | .cons _ b r => b.flat ++ r.flat
end
mutual
theorem It.walk_flat : ∀ (x : It) (d : Int), (x.walk d).map (·.2) = x.flat
  | .num .., d => by simp [It.walk, It.flat]
  | .byt .., d => by simp [It.walk, It.flat]
  | .txt .., d => by simp [It.walk, It.flat]
  | .chk .., d => by simp [It.walk, It.flat]
  | .pad .., d => by simp [It.walk, It.flat]
  | .rep n a b, d => by simp [It.walk, It.flat, Its.walk_flat b]
  | .eit n bs, d => by simp [It.walk, It.flat, Blks.walk_flat bs]
  | .swi n t bs, d => by simp [It.walk, It.flat, Blks.walk_flat bs]
theorem Its.walk_flat : ∀ (x : Its) (d : Int), (x.walk d).map (·.2) = x.flat
  | .nil, d => by simp [Its.walk, Its.flat]
  | .cons x r, d => by simp [Its.walk, Its.flat, It.walk_flat x, Its.walk_flat r]
theorem Blks.walk_flat : ∀ (x : Blks) (d : Int), (x.walk d).map (·.2) = x.flat
  | .nil, d => by simp [Blks.walk, Blks.flat]
  | .cons v b r, d => by simp [Blks.walk, Blks.flat, Its.walk_flat b, Blks.walk_flat r]
end
theorem Its.names_flat (x : Its) : x.names = x.flat.map It.name := by
  rw [Its.names, ← Its.walk_flat x 0, List.map_map]; rfl
theorem Its.checks_flat (x : Its) (d : Int) : ((x.walk d).filter (·.2.isChk)).length = (x.flat.filter It.isChk).length := by
  rw [← Its.walk_flat x d, List.filter_map, List.length_map]; rfl
/-! ### one item more -/
def Its.snoc : Its → It → Its
  | .nil, y => .cons y .nil
  | .cons x r, y => .cons x (r.snoc y)
def Its.seens (f : Env) : Its → Env
  | .nil => f
  | .cons x r => r.seens (x.seen f)
theorem snoc_len : ∀ (x : Its) (y : It), (x.snoc y).len = x.len + 1
  | .nil, y => rfl
  | .cons x r, y => by simp [Its.snoc, Its.len, snoc_len r]
theorem snoc_ok : ∀ (x : Its) (y : It) (d : Int), (x.snoc y).ok d = (x.ok d && y.ok d)
  | .nil, y, d => by simp [Its.snoc, Its.ok]
  | .cons x r, y, d => by simp [Its.snoc, Its.ok, snoc_ok r, Bool.and_assoc]
theorem snoc_tame : ∀ {x : Its} {y : It}, x.tame → y.tame → (x.snoc y).tame
  | .nil, y, _, h => by simp only [Its.snoc, Its.tame]; exact ⟨h, trivial⟩
  | .cons x r, y, t, h => by simp only [Its.snoc, Its.tame] at t ⊢; exact ⟨t.1, snoc_tame t.2 h⟩
theorem snoc_flat : ∀ (x : Its) (y : It), (x.snoc y).flat = x.flat ++ y.flat
  | .nil, y => by simp [Its.snoc, Its.flat]
  | .cons x r, y => by simp [Its.snoc, Its.flat, snoc_flat r]
theorem snoc_at {fz : Bool} {H : Hp} : ∀ {x : Its} {l : List V} {y : It} {v : V}, x.At fz H l → y.At fz H v → (x.snoc y).At fz H (l ++ [v])
  | .nil, l, y, v, h, g => by
    simp only [Its.At] at h
    subst h
    simp only [Its.snoc, Its.At]
    exact ⟨v, [], rfl, g, rfl⟩
  | .cons x r, l, y, v, h, g => by
    simp only [Its.At] at h
    obtain ⟨v0, l', rfl, h1, h2⟩ := h
    simp only [Its.snoc, Its.At]
    exact ⟨v0, l' ++ [v], rfl, h1, snoc_at h2 g⟩
theorem snoc_lens : ∀ (x : Its) (y : It) (f : Env), (x.snoc y).lens f = match x.lens f with
    | some a => (y.lens (x.seens f)).map fun b => (a.1 + b.1, a.2 + b.2)
    | none => none
  | .nil, y, f => by
    show (Its.cons y .nil).lens f = _
    rw [lens_cons]
    simp only [Its.lens, Its.seens]
    cases y.lens f <;> simp
  | .cons x r, y, f => by
    show (Its.cons x (r.snoc y)).lens f = _
    rw [lens_cons, lens_cons]
    cases hx : x.lens f with
    | none => rfl
    | some a =>
      simp only
      rw [snoc_lens r y (x.seen f)]
      show _ = match Option.map _ (r.lens (x.seen f)) with | some (a : Int × Int) => Option.map (fun b : Int × Int => (a.1 + b.1, a.2 + b.2)) (y.lens (r.seens (x.seen f))) | none => none
      cases r.lens (x.seen f) with
      | none => rfl
      | some b =>
        simp only [Option.map_some]
        cases y.lens (r.seens (x.seen f)) with
        | none => rfl
        | some c => simp [Int.add_assoc]
theorem snoc_seens : ∀ (x : Its) (y : It) (f : Env), (x.snoc y).seens f = y.seen (x.seens f)
  | .nil, y, f => rfl
  | .cons x r, y, f => snoc_seens r y (x.seen f)
def Blks.snoc : Blks → Int → Its → Blks
  | .nil, v, b => .cons v b .nil
  | .cons w a r, v, b => .cons w a (r.snoc v b)
theorem snocB_len : ∀ (x : Blks) (v : Int) (b : Its), (x.snoc v b).len = x.len + 1
  | .nil, v, b => rfl
  | .cons w a r, v, b => by simp [Blks.snoc, Blks.len, snocB_len r]
theorem snocB_vals : ∀ (x : Blks) (v : Int) (b : Its), (x.snoc v b).vals = x.vals ++ [v]
  | .nil, v, b => rfl
  | .cons w a r, v, b => by simp [Blks.snoc, Blks.vals, snocB_vals r]
theorem snocB_ok : ∀ (x : Blks) (v : Int) (b : Its) (d : Int), (x.snoc v b).ok d = (x.ok d && (decide (b.len ≤ 12) && b.ok d))
  | .nil, v, b, d => by simp [Blks.snoc, Blks.ok]
  | .cons w a r, v, b, d => by simp [Blks.snoc, Blks.ok, snocB_ok r, Bool.and_assoc]
theorem snocB_tame : ∀ {x : Blks} {v : Int} {b : Its}, x.tame → b.tame → (x.snoc v b).tame
  | .nil, v, b, _, h => by simp only [Blks.snoc, Blks.tame]; exact ⟨h, trivial⟩
  | .cons w a r, v, b, t, h => by simp only [Blks.snoc, Blks.tame] at t ⊢; exact ⟨t.1, snocB_tame t.2 h⟩
theorem snocB_flat : ∀ (x : Blks) (v : Int) (b : Its), (x.snoc v b).flat = x.flat ++ b.flat
  | .nil, v, b => by simp [Blks.snoc, Blks.flat]
  | .cons w a r, v, b => by simp [Blks.snoc, Blks.flat, snocB_flat r]
theorem snocB_atE {fz : Bool} {H : Hp} {q : Addr} {xs : List V} : ∀ {x : Blks} {l : List V} {v : Int} {b : Its}, x.AtE fz H l → RowAt fz H q xs → b.At fz H xs → (x.snoc v b).AtE fz H (l ++ [.ref q])
  | .nil, l, v, b, h, g, k => by
    simp only [Blks.AtE] at h
    subst h
    simp only [Blks.snoc, Blks.AtE]
    exact ⟨q, xs, [], rfl, g, k, rfl⟩
  | .cons w a r, l, v, b, h, g, k => by
    simp only [Blks.AtE] at h
    obtain ⟨q0, xs0, l', rfl, h1, h2, h3⟩ := h
    simp only [Blks.snoc, Blks.AtE]
    exact ⟨q0, xs0, l' ++ [.ref q], rfl, h1, h2, snocB_atE h3 g k⟩
theorem snocB_atS {fz : Bool} {H : Hp} {p q : Addr} {xs : List V} : ∀ {x : Blks} {l : List V} {v : Int} {b : Its}, x.AtS fz H l → H p = some (.tup [.int v, .ref q]) → RowAt fz H q xs → b.At fz H xs → (x.snoc v b).AtS fz H (l ++ [.ref p])
  | .nil, l, v, b, h, z, g, k => by
    simp only [Blks.AtS] at h
    subst h
    simp only [Blks.snoc, Blks.AtS]
    exact ⟨p, q, xs, [], rfl, z, g, k, rfl⟩
  | .cons w a r, l, v, b, h, z, g, k => by
    simp only [Blks.AtS] at h
    obtain ⟨p0, q0, xs0, l', rfl, h0, h1, h2, h3⟩ := h
    simp only [Blks.snoc, Blks.AtS]
    exact ⟨p0, q0, xs0, l' ++ [.ref p], rfl, h0, h1, h2, snocB_atS h3 z g k⟩
theorem snocB_lens : ∀ (x : Blks) (v : Int) (b : Its) (f : Env) (r : List (Int × Int)) (l : Int × Int), x.lens f = some r → b.lens f = some l → (x.snoc v b).lens f = some (r ++ [l])
  | .nil, v, b, f, r, l, h, g => by
    simp [Blks.lens] at h
    subst h
    rw [Blks.snoc, lensB_cons, g]
    simp [Blks.lens]
  | .cons w a y, v, b, f, r, l, h, g => by
    rw [lensB_cons] at h
    rw [Blks.snoc, lensB_cons]
    cases ha : a.lens f with
    | none => rw [ha] at h; cases h
    | some c =>
      rw [ha] at h
      cases hy : y.lens f with
      | none => rw [hy] at h; cases h
      | some r2 =>
        rw [hy] at h
        obtain rfl := Option.some.inj h
        simp only [snocB_lens y v b f r2 l hy g, Option.map_some, List.cons_append]
/-! ### what is drawn -/
abbrev Num := Str × Int × Int
def Fits (as : List Num) (f : Env) : Prop := ∀ p ∈ as, f p.1 = some p.2
def EnvOk (f : Env) : Prop := ∀ z p, f z = some p → 0 ≤ p.1 ∧ p.1 ≤ p.2
/-- the names of the items fl are those that were popped and those that were given -/
structure Drn (gs : List Str) (fl : List It) (N N' : List Str) (c c' : Nat) : Prop where
  pops : ∃ ps, N = ps ++ N' ∧ (fl.map It.name).Perm (gs ++ ps)
  chk : c' = c + (fl.filter It.isChk).length
theorem Drn.nil {N : List Str} {c : Nat} : Drn [] [] N N c c := ⟨⟨[], rfl, .refl _⟩, rfl⟩
theorem Drn.app {gs hs : List Str} {fl gl : List It} {N N1 N2 : List Str} {c c1 c2 : Nat} (a : Drn gs fl N N1 c c1) (b : Drn hs gl N1 N2 c1 c2) : Drn (gs ++ hs) (fl ++ gl) N N2 c c2 := by
  obtain ⟨⟨ps, e1, p1⟩, k1⟩ := a
  obtain ⟨⟨qs, e2, p2⟩, k2⟩ := b
  refine ⟨⟨ps ++ qs, by rw [e1, e2, List.append_assoc], ?_⟩, by rw [k2, k1, List.filter_append, List.length_append]; omega⟩
  rw [List.map_append]
  refine (p1.append p2).trans ?_
  rw [List.append_assoc, List.append_assoc]
  refine List.Perm.append_left gs ?_
  rw [← List.append_assoc, ← List.append_assoc]
  exact List.Perm.append_right qs List.perm_append_comm
/-- the names that were given were popped ahead -/
theorem Drn.pop {gs hs : List Str} {fl : List It} {N N' : List Str} {c c' : Nat} (a : Drn (hs ++ gs) fl N N' c c') : Drn gs fl (hs ++ N) N' c c' := by
  obtain ⟨⟨ps, e1, p1⟩, k1⟩ := a
  refine ⟨⟨hs ++ ps, by rw [e1, List.append_assoc], p1.trans ?_⟩, k1⟩
  rw [← List.append_assoc]
  exact List.Perm.append_right ps List.perm_append_comm
theorem Drn.suf {gs : List Str} {fl : List It} {N N' : List Str} {c c' : Nat} (a : Drn gs fl N N' c c') : ∃ ps, N = ps ++ N' := by
  obtain ⟨⟨ps, e1, _⟩, _⟩ := a
  exact ⟨ps, e1⟩
/-- what is around while one draws -/
structure Sit (as : List Num) (N : List Str) (c : Nat) : Prop where
  nd : N.Nodup
  nm : ∀ z ∈ N, isName z = true
  out : ∀ p ∈ as, p.1 ∉ N
  anm : ∀ p ∈ as, isName p.1 = true
  sz : as.length + N.length ≤ 40
  c1 : c ≤ 1
theorem Sit.suf {as : List Num} {ps N : List Str} {c c' : Nat} (s : Sit as (ps ++ N) c) (h : c' ≤ 1) : Sit as N c' :=
  ⟨(List.nodup_append.mp s.nd).2.1, fun z hz => s.nm z (List.mem_append_right _ hz), fun p hp q => s.out p hp (List.mem_append_right _ q), s.anm, by have := s.sz; rw [List.length_append] at this; omega, h⟩
theorem Sit.add {as : List Num} {z : Str} {N : List Str} {c : Nat} {lo hi : Int} (s : Sit as (z :: N) c) : Sit (as ++ [(z, lo, hi)]) N c := by
  have nd := List.nodup_cons.mp s.nd
  refine ⟨nd.2, fun y hy => s.nm y (List.mem_cons_of_mem _ hy), fun p hp q => ?_, fun p hp => ?_, by have := s.sz; rw [List.length_cons] at this; rw [List.length_append, List.length_singleton]; omega, s.c1⟩
  · rcases List.mem_append.mp hp with hp | hp
    · exact s.out p hp (List.mem_cons_of_mem _ q)
    · obtain rfl := List.mem_singleton.mp hp
      exact nd.1 q
  · rcases List.mem_append.mp hp with hp | hp
    · exact s.anm p hp
    · obtain rfl := List.mem_singleton.mp hp
      exact s.nm z (List.mem_cons_self ..)
theorem fits_put {as : List Num} {f : Env} {z : Str} {lo hi : Int} (h : Fits as f) (hz : ∀ p ∈ as, p.1 ≠ z) : Fits (as ++ [(z, lo, hi)]) (f.put z (lo, hi)) := by
  intro p hp
  unfold Env.put
  rcases List.mem_append.mp hp with hp | hp
  · rw [if_neg (hz p hp)]; exact h p hp
  · obtain rfl := List.mem_singleton.mp hp
    rw [if_pos rfl]
theorem env_put {f : Env} {z : Str} {lo hi : Int} (h : EnvOk f) (h0 : 0 ≤ lo) (h1 : lo ≤ hi) : EnvOk (f.put z (lo, hi)) := by
  intro y p e
  unfold Env.put at e
  by_cases c : y = z
  · rw [if_pos c] at e; obtain rfl := Option.some.inj e; exact ⟨h0, h1⟩
  · rw [if_neg c] at e; exact h y p e
/-- one item drawn -/
structure Dr1 (d : Int) (as : List Num) (N N' : List Str) (c c' : Nat) (y : It) : Prop where
  ok : y.ok d = true
  tame : y.tame
  drn : Drn [] y.flat N N' c c'
  c1 : c' ≤ 1
  lens : ∀ f, EnvOk f → Fits as f → ∃ l, y.lens f = some l ∧ 0 ≤ l.1
/-- items drawn so far: bs are the numbers that are visible behind them -/
structure DrS (d : Int) (as bs : List Num) (k : Nat) (N N' : List Str) (c c' : Nat) (x : Its) : Prop where
  len : x.len ≤ k
  len1 : 0 < k → N ≠ [] → 1 ≤ x.len
  ok : x.ok d = true
  tame : x.tame
  drn : Drn [] x.flat N N' c c'
  sit : Sit bs N' c'
  lens : ∀ f, EnvOk f → Fits as f → ∃ l, x.lens f = some l ∧ 0 ≤ l.1 ∧ EnvOk (x.seens f) ∧ Fits bs (x.seens f)
theorem DrS.start {d : Int} {as : List Num} {N : List Str} {c : Nat} (s : Sit as N c) : DrS d as as 0 N N c c .nil :=
  ⟨Nat.le_refl 0, fun h => absurd h (Nat.lt_irrefl 0), by simp [Its.ok], by simp [Its.tame], Drn.nil, s, fun f e h => ⟨(0, 0), by simp [Its.lens], Int.le_refl 0, e, h⟩⟩
theorem DrS.skip {d : Int} {as bs : List Num} {k : Nat} {N N' : List Str} {c c' : Nat} {x : Its} (h : DrS d as bs k N N' c c' x) (e : N' = []) : DrS d as bs (k + 1) N N' c c' x := by
  refine ⟨Nat.le_succ_of_le h.len, fun _ hN => ?_, h.ok, h.tame, h.drn, h.sit, h.lens⟩
  by_cases hk : 0 < k
  · exact h.len1 hk hN
  · exfalso
    have : x.len = 0 := by have := h.len; omega
    cases x with
    | nil =>
      obtain ⟨⟨ps, e1, p1⟩, _⟩ := h.drn
      have : ps = [] := by simpa [Its.flat] using p1.symm.eq_nil
      exact hN (by rw [e1, this, e]; rfl)
    | cons y r => simp [Its.len] at this
theorem numok_in {size low high : Int} {order : Str} (c : numOk size order low high = true) : 0 ≤ low ∧ low ≤ high := by
  unfold numOk at c
  rw [Bool.and_eq_true, Bool.and_eq_true, Bool.and_eq_true] at c
  exact of_decide_eq_true c.2.2.2
/-- one item more, no number -/
theorem DrS.step {d : Int} {as bs : List Num} {k : Nat} {N N1 N2 : List Str} {c c1 c2 : Nat} {x : Its} {y : It} (h : DrS d as bs k N N1 c c1 x) (g : Dr1 d bs N1 N2 c1 c2 y) (hy : ∀ f, y.seen f = f) : DrS d as bs (k + 1) N N2 c c2 (x.snoc y) := by
  obtain ⟨ps, e⟩ := g.drn.suf
  refine ⟨by rw [snoc_len]; have := h.len; omega, fun _ _ => by rw [snoc_len]; omega, by rw [snoc_ok, h.ok, g.ok]; rfl, snoc_tame h.tame g.tame, by rw [snoc_flat]; exact h.drn.app g.drn, (e ▸ h.sit).suf g.c1, fun f ef hf => ?_⟩
  obtain ⟨l, e1, l0, o1, f1⟩ := h.lens f ef hf
  obtain ⟨l2, e2, m0⟩ := g.lens _ o1 f1
  refine ⟨(l.1 + l2.1, l.2 + l2.2), by rw [snoc_lens, e1]; simp only [e2, Option.map_some], by show 0 ≤ l.1 + l2.1; omega, ?_, ?_⟩ <;> rw [snoc_seens, hy]
  · exact o1
  · exact f1
/-- a number more -/
theorem DrS.stepN {d : Int} {as bs : List Num} {k : Nat} {N N1 N2 : List Str} {c c1 c2 : Nat} {x : Its} {n order : Str} {size lo hi : Int} (h : DrS d as bs k N N1 c c1 x) (g : Dr1 d bs N1 N2 c1 c2 (.num n size order lo hi)) : DrS d as (bs ++ [(n, lo, hi)]) (k + 1) N N2 c c2 (x.snoc (.num n size order lo hi)) := by
  obtain ⟨⟨ps, e, pp⟩, ck⟩ := id g.drn
  have eps : ps = [n] := by
    have : [n].Perm ps := by simpa [It.flat, It.name] using pp
    exact this.symm.eq_singleton
  subst eps
  have ec : c2 = c1 := by simpa [It.flat, It.isChk] using ck
  have e : N1 = n :: N2 := e
  have hs : Sit bs (n :: N2) c1 := e ▸ h.sit
  refine ⟨by rw [snoc_len]; have := h.len; omega, fun _ _ => by rw [snoc_len]; omega, by rw [snoc_ok, h.ok, g.ok]; rfl, snoc_tame h.tame g.tame, by rw [snoc_flat]; exact h.drn.app g.drn, by rw [ec]; exact hs.add, fun f ef hf => ?_⟩
  obtain ⟨l, e1, l0, o1, f1⟩ := h.lens f ef hf
  obtain ⟨l2, e2, m0⟩ := g.lens _ o1 f1
  have nin := num_in e2
  refine ⟨(l.1 + l2.1, l.2 + l2.2), by rw [snoc_lens, e1]; simp only [e2, Option.map_some], by show 0 ≤ l.1 + l2.1; omega, ?_, ?_⟩ <;> rw [snoc_seens]
  · exact env_put o1 nin.1 nin.2
  · exact fits_put f1 fun p hp q => hs.out p hp (by rw [q]; exact List.mem_cons_self ..)
/-- a block: gs is the name of its first number, if it has one -/
structure DrB (d : Int) (as : List Num) (gs N N' : List Str) (c c' : Nat) (x : Its) : Prop where
  len : x.len ≤ 12
  ok : x.ok d = true
  tame : x.tame
  drn : Drn gs x.flat N N' c c'
  c1 : c' ≤ 1
  lens : ∀ f, EnvOk f → Fits as f → ∃ l, x.lens f = some l ∧ 0 ≤ l.1 ∧ (gs ≠ [] → 1 ≤ l.1)
theorem DrS.block {d : Int} {as bs : List Num} {k : Nat} {N N' : List Str} {c c' : Nat} {x : Its} (h : DrS d as bs k N N' c c' x) (hk : k ≤ 12) : DrB d as [] N N' c c' x :=
  ⟨Nat.le_trans h.len hk, h.ok, h.tame, h.drn, h.sit.c1, fun f ef hf => by obtain ⟨l, a, b, _⟩ := h.lens f ef hf; exact ⟨l, a, b, fun z => absurd rfl z⟩⟩
theorem num_lens {n order : Str} {size lo hi : Int} (hn : numOk size order lo hi = true) (f : Env) : It.lens f (.num n size order lo hi) = some (size, size) ∧ 1 ≤ size := by
  refine ⟨by simp only [It.lens]; rw [if_pos hn], ?_⟩
  unfold numOk at hn
  rw [Bool.and_eq_true] at hn
  exact (of_decide_eq_true hn.1).1
theorem DrS.blockN {d : Int} {as bs : List Num} {k : Nat} {n order : Str} {size lo hi : Int} {N N' : List Str} {c c' : Nat} {x : Its} (hd : d ≤ 3) (hnm : isName n = true) (hln : n.length ≤ 1000) (hout : ∀ p ∈ as, p.1 ≠ n) (hn : numOk size order lo hi = true)
    (h : DrS d (as ++ [(n, lo, hi)]) bs k N N' c c' x) (hk : k ≤ 11) : DrB d as [n] N N' c c' (.cons (.num n size order lo hi) x) := by
  refine ⟨by show x.len + 1 ≤ 12; have := h.len; omega, ?_, ?_, ?_, h.sit.c1, fun f ef hf => ?_⟩
  · rw [Its.ok, h.ok, It.ok]
    · simp [It.name, hnm, hd]
    all_goals simp
  · simp only [Its.tame, It.tame]
    exact ⟨hln, h.tame⟩
  · have : Drn [n] (It.flat (.num n size order lo hi)) N N c c := ⟨⟨[], rfl, by simp [It.flat, It.name]⟩, by simp [It.flat, It.isChk]⟩
    rw [Its.flat]
    exact this.app h.drn
  · obtain ⟨e1, s1⟩ := num_lens (n := n) hn f
    have nin := numok_in hn
    obtain ⟨l, e2, l0, _⟩ := h.lens (f.put n (lo, hi)) (env_put ef nin.1 nin.2) (fits_put hf hout)
    refine ⟨(size + l.1, size + l.2), ?_, by show 0 ≤ size + l.1; omega, fun _ => by show 1 ≤ size + l.1; omega⟩
    rw [lens_cons, e1]
    simp only [It.seen, e2, Option.map_some]
end Bs

set_option Elab.async false
set_option linter.all false
set_option maxRecDepth 100000
set_option maxHeartbeats 4000000
namespace Bs
open PySem L2
/-! ### the law's defs, from the place lb on -/
abbrev lb : Nat := 58
abbrev sLawNext : Stmt := top (lb + 2)
abbrev sLawBegin : Stmt := top (lb + 3)
abbrev sLawNumber : Stmt := top (lb + 4)
abbrev sLawUse : Stmt := top (lb + 5)
abbrev sLawBlock : Stmt := top (lb + 6)
abbrev sLawNested : Stmt := top (lb + 7)
abbrev sLawItem : Stmt := top (lb + 8)
abbrev sLawItems : Stmt := top (lb + 9)
abbrev sLawBlocks : Stmt := top (lb + 10)
abbrev sLawFrozen : Stmt := top (lb + 11)
abbrev sLawWalk : Stmt := top (lb + 12)
/-! ### the law's own numbers -/
/-- small numbers -/
def Nb (ns : List Int) : Prop := ∀ n ∈ ns, 0 ≤ n ∧ n < 1009
theorem Nb.nil : Nb [] := fun _ h => by cases h
theorem Nb.snoc {ns : List Int} {i : Int} (h : Nb ns) (hi : 0 ≤ i ∧ i < 1009) : Nb (ns ++ [i]) := fun n hn => (List.mem_append.mp hn).elim (h n) fun k => by rw [List.mem_singleton.mp k]; exact hi
theorem Nb.take {ns : List Int} (h : Nb ns) (k : Nat) : Nb (ns.take k) := fun n hn => h n (List.mem_of_mem_take hn)
theorem mod_nb (x : Int) : 0 ≤ x % 1009 ∧ x % 1009 < 1009 := ⟨Int.emod_nonneg x (by decide), Int.emod_lt_of_pos x (by decide)⟩
/-- ints of any size come back, so many -/
def spRow : Sp := fun vs H Q _ => ∃ c m : Int, vs = [.int c, .int m] ∧ 0 ≤ m ∧ m ≤ 200 ∧ ∀ p (ns : List Int) H', Same H H' → H p = none → H' p = some (.lst (ns.map V.int)) → ns.length = m.toNat → Nb ns → Q (.ref p) H'
def spNums (K : PySem.W.Frag) : Sp := fun vs H Q _ => ∃ (a : Addr) (ns : List Int), vs = [.ref a, .int 160] ∧ SqL K H a (ns.map V.int) ∧ ns.length ≤ 63 ∧ ∀ p (rs : List Int) H', Same H H' → H' p = some (.lst (rs.map V.int)) → rs.length = 160 → Nb rs → Q (.ref p) H'
section
variable {P : Program} {w : World} {K : PySem.W.Frag} {mg : Str → Option Value} {base : Heap} {f C : Addr} {fd : FuncData}
abbrev nLawRow : List Str := ["cell", "many", "row", "rest", "mixed", "k"]
theorem scLawRow : FnScope nLawRow ["cell", "many"] (defScope sLawRow) := ⟨rfl, rfl, rfl, by decide +kernel, rfl, by decide +kernel, by decide +kernel⟩
theorem map_snoc (ns : List Int) (i : Int) : ns.map V.int ++ [V.int i] = (ns ++ [i]).map V.int := by rw [List.map_append]; rfl
theorem ok_lawrow (F : Fun K "_law_row" "_law_row" sLawRow f fd) (mabs : mg "abs" = none) (mint : mg "int" = none) (mr : mg "range" = none) : FnOk P w K mg base CX0 1 f fd ["cell", "many"] spRow := by
  refine F.ok scLawRow (fun vs H Q E h => ?_) (fun cdv A outer s H vs Q E hr h => ?_)
  · obtain ⟨c, m, rfl, _⟩ := h
    rfl
  · obtain ⟨c, m, rfl, h0, h1, q⟩ := h
    refine ⟨_, pss_cons (ps_set (i := 2) scLawRow.nd rfl (.inl rfl) (pe_lst pa_nil))
      (pss_cons (ps_set (i := 3) scLawRow.nd rfl (.inl rfl) (pe_callB call_abs (by rfl) mabs (by decide +kernel) (pa_cons (pv 0) pa_nil)))
      (pss_cons (ps_set (i := 4) scLawRow.nd rfl (.inl rfl) (pe_op op_mod (pe_callTy call_int1 (by rfl) mint (by decide +kernel) (pa_cons (pe_op op_add (pe_op op_mul (pv 3) pe_int) pe_int) pa_nil)) pe_int))
      (pss_cons (ps_for PassesOwn.never rfl (pi_range1 (by rfl) mr (pa_cons (pv 1) pa_nil)) (pg_name (i := 5) scLawRow.nd rfl (.inl rfl))
        (pss_cons (ps_set (i := 4) scLawRow.nd rfl (.inl rfl) (pe_op op_mod (pe_callTy call_int1 (by rfl) mint (by decide +kernel) (pa_cons (pe_op op_add (pe_op op_mul (pv 4) pe_int) (pe_op op_mul pe_int (pe_op op_add (pv 5) pe_int))) pa_nil)) pe_int))
        (pss_one (ps_if (pt_cmpR op_ge (pe_callB call_abs (by rfl) mabs (by decide +kernel) (pa_cons (pv 0) pa_nil)) (pe_op op_pow pe_int pe_int) (nomark _))
          (pss_cons (ps_expr (pe_bm PySem.F.plainAttrs_list PySem.F.slot_list_append PySem.F.type_list_append mt_append (pv 2) (pa_cons (pe_op op_mod (pe_callTy call_int1 (by rfl) mint (by decide +kernel) (pa_cons (pv 3) pa_nil)) pe_int) pa_nil)))
            (pss_one (ps_set (i := 3) scLawRow.nd rfl (.inl rfl) (pe_op op_fdiv (pv 3) pe_int))))
          (pss_one (ps_expr (pe_bm PySem.F.plainAttrs_list PySem.F.slot_list_append PySem.F.type_list_append mt_append (pv 2) (pa_cons (pe_op op_mod (pe_callTy call_int1 (by rfl) mint (by decide +kernel) (pa_cons (pe_op op_fdiv (pv 4) pe_int) pa_nil)) pe_int) pa_nil))))))))
      (pss_one (ps_ret (pv 2)))))), ?_⟩
    refine ⟨(by show 0 ≤ sizeLine; decide), fun D hD => ?_⟩
    refine ⟨_, rfl, _, rfl, _, rfl, _, _, rfl, rfl, .inr ⟨by decide, by decide⟩, _, _, rfl, rfl, .inl ⟨_, rfl, _, _, rfl, rfl, (by show (0 : Int) < 2147483647; decide), ?_⟩⟩
    refine ⟨_, rfl, m, rfl, by omega, by omega, for_range (lo := 0) (n := m.toNat) (fun i σ H' => ∃ rest mixed k5, σ = [some (.int c), some (.int m), some (.ref D), some (.int rest), some (.int mixed), k5] ∧ Same H H' ∧ ∃ ns : List Int, ns.length = i ∧ Nb ns ∧ H' D = some (.lst (ns.map V.int)))
      ⟨_, _, none, rfl, same_new hD _, [], rfl, Nb.nil, upd_same⟩ ?_ ?_⟩
    · rintro i σ H2 hi ⟨rest, mixed, k5, rfl, s2, ns, hn, hb, hD2⟩
      refine ⟨_, rfl, _, _, rfl, rfl, .inr ⟨by decide, by decide⟩, _, rfl, _, _, rfl, rfl, _, _, rfl, rfl, .inl ⟨by decide, by decide⟩, _, _, rfl, rfl, .inl ⟨_, rfl, _, _, rfl, rfl, (by show (0 : Int) < 2147483629; decide), ?_⟩⟩
      have hz : (ns.map V.int).length < sizeLine := small1000 (by rw [List.length_map]; omega)
      refine ⟨_, rfl, _, rfl, _, _, rfl, rfl, ⟨by decide, by decide, by decide⟩, _, _, rfl, rfl, _, rfl, ite2 (fun _ => ?_) (fun _ => ?_)⟩
      · refine ⟨_, rfl, .inl ⟨rfl, _, SqL.of hD2⟩, _, rfl, .inl ⟨_, rfl, _, _, rfl, rfl, (by show (0 : Int) < 1009; decide), D, _, _, rfl, rfl, hD2, hz, ?_⟩⟩
        rw [map_snoc]
        refine ⟨_, rfl, _, _, rfl, rfl, ⟨by decide, by decide⟩, ?_⟩
        exact ⟨_, _, _, rfl, same_set s2 hD, _, by rw [List.length_append, hn]; rfl, hb.snoc (mod_nb _), upd_same⟩
      · refine ⟨_, rfl, .inl ⟨rfl, _, SqL.of hD2⟩, _, rfl, _, _, rfl, rfl, ⟨by decide, by decide⟩, .inl ⟨_, rfl, _, _, rfl, rfl, (by show (0 : Int) < 1009; decide), D, _, _, rfl, rfl, hD2, hz, ?_⟩⟩
        rw [map_snoc]
        exact ⟨_, _, _, rfl, same_set s2 hD, _, by rw [List.length_append, hn]; rfl, hb.snoc (mod_nb _), upd_same⟩
    · rintro σ H2 ⟨rest, mixed, k5, rfl, s2, ns, hn, hb, hD2⟩
      exact ⟨_, rfl, q D ns H2 s2 hD hD2 hn hb⟩
theorem cut_ints (ns : List Int) (h : Nat) : cutV (ns.map V.int) none (some (h : Int)) = (ns.take h).map V.int := by
  unfold cutV
  rw [HT.sIx_none, HT.sIx_nat, List.drop_zero, Nat.sub_zero, List.map_take]
  by_cases hh : h ≤ (ns.map V.int).length
  · rw [Nat.min_eq_left hh]
  · rw [Nat.min_eq_right (by omega), List.take_length, List.take_of_length_le (by omega)]
abbrev nLawNums : List Str := ["script", "many", "cells", "each", "numbers", "cell", "number"]
theorem scLawNums : FnScope nLawNums ["script", "many"] (defScope sLawNumbers) := ⟨rfl, rfl, rfl, by decide +kernel, rfl, by decide +kernel, by decide +kernel⟩
theorem ok_lawnums {k : Nat} (hk : 1 ≤ k) (F : Fun K "_law_numbers" "_law_numbers" sLawNumbers f fd) (gR : Cal P w K mg base CX0 1 "_law_row" ["cell", "many"] spRow) (mmax : mg "max" = none) (ml : mg "len" = none) : FnOk P w K mg base CX0 2 f fd ["script", "many"] (spNums K) := by
  refine F.ok scLawNums (fun vs H Q E h => ?_) (fun cdv A outer s H vs Q E hr h => ?_)
  · obtain ⟨a, ns, rfl, _⟩ := h
    rfl
  · obtain ⟨a, ns, rfl, ha, hlen, q⟩ := h
    refine ⟨_, pss_cons (ps_set (i := 2) scLawNums.nd rfl (.inl rfl) (pe_slice sl_list (pv 0) po_none (po_some pe_int)))
      (pss_cons (ps_set (i := 3) scLawNums.nd rfl (.inl rfl) (pe_op op_add pe_int (pe_op op_fdiv (pv 1) (pe_callB (call_max2 rfl) (by rfl) mmax (by decide +kernel) (pa_cons pe_int (pa_cons (pe_callB call_len (by rfl) ml boot_len (pa_cons (pv 2) pa_nil)) pa_nil))))))
      (pss_cons (ps_set (i := 4) scLawNums.nd rfl (.inl rfl) (pe_lst pa_nil))
      (pss_cons (ps_for PassesOwn.never rfl (pi_list (pv 2)) (pg_name (i := 5) scLawNums.nd rfl (.inl rfl))
        (pss_one (ps_for PassesOwn.never rfl (pi_list (pe_cal gR (hr.mono (by decide)) pass0 (pa_cons (pv 5) (pa_cons (pv 3) pa_nil)))) (pg_name (i := 6) scLawNums.nd rfl (.inl rfl))
          (pss_one (ps_expr (pe_bm PySem.F.plainAttrs_list PySem.F.slot_list_append PySem.F.type_list_append mt_append (pv 4) (pa_cons (pv 6) pa_nil)))))))
      (pss_cons (ps_while PassesOwn.never (pt_cmpR op_lt (pe_callB call_len (by rfl) ml boot_len (pa_cons (pv 4) pa_nil)) (pv 1) (nomark _))
        (pss_one (ps_expr (pe_bm PySem.F.plainAttrs_list PySem.F.slot_list_append PySem.F.type_list_append mt_append (pv 4) (pa_cons pe_int pa_nil)))))
      (pss_one (ps_ret (pe_slice sl_list (pv 4) po_none (po_some (pv 1))))))))), ?_⟩
    refine ⟨_, rfl, 63, rfl, a, _, rfl, ha, fun pc hpc => ?_⟩
    rw [show ((63 : Int) = ((63 : Nat) : Int)) from rfl, cut_ints]
    have lc : (ns.take 63).length ≤ 63 := by rw [List.length_take]; omega
    generalize hcs : ns.take 63 = cs at lc ⊢
    have s1 := same_new hpc (.lst (cs.map V.int))
    have hc1 : upd H pc (.lst (cs.map V.int)) pc = some (.lst (cs.map V.int)) := upd_same
    generalize upd H pc _ = H1 at s1 hc1 ⊢
    refine ⟨_, rfl, _, rfl, _, _, rfl, .inl ⟨_, SqL.of hc1, rfl⟩, _, _, rfl, ?_⟩
    rw [List.length_map]
    have hmx : (1 : Int) ≤ (if (cs.length : Int) > 1 then (cs.length : Int) else 1) ∧ (if (cs.length : Int) > 1 then (cs.length : Int) else 1) ≤ 63 := by split <;> omega
    generalize hmm : (if (cs.length : Int) > 1 then (cs.length : Int) else 1) = mx at hmx
    have he : (1 : Int) ≤ 1 + 160 / mx ∧ 1 + 160 / mx ≤ 161 := by
      have h1 : (0 : Int) ≤ 160 / mx := Int.ediv_nonneg (by decide) (by omega)
      have h2 : (160 : Int) / mx ≤ 160 := Int.ediv_le_self _ (by decide)
      omega
    refine ⟨_, _, rfl, rfl, ⟨by omega, by omega⟩, _, _, rfl, rfl, ?_⟩
    refine ⟨(by show 0 ≤ sizeLine; decide), fun D hD => ?_⟩
    have zz : ∀ n : Nat, n ≤ 20000 → n < sizeLine := fun n h => Nat.lt_of_le_of_lt h (by decide)
    refine ⟨_, rfl, pc, rfl, ⟨_, SqL.of (same_new hD (.lst []) _ _ hc1)⟩, for_list (K := K) (a := pc) (xs := cs.map V.int) (fun i σ H' => ∃ i5 i6, σ = [some (.ref a), some (.int 160), some (.ref pc), some (.int (1 + 160 / mx)), some (.ref D), i5, i6] ∧ Same H1 H' ∧ ∃ ms : List Int, ms.length ≤ i * 161 ∧ Nb ms ∧ H' D = some (.lst (ms.map V.int)))
      ⟨none, none, rfl, same_new hD _, [], Nat.le_refl _, Nb.nil, upd_same⟩ (fun i σ H' _ z => by obtain ⟨_, _, _, z, _⟩ := z; exact SqL.of (z _ _ hc1)) ?_ ?_⟩
    · rintro i v σ H2 hi ⟨i5, i6, rfl, s2, ms, hm, hb, hD2⟩
      have hil : i < (cs.map V.int).length := (List.getElem?_eq_some_iff.mp hi).1
      rw [List.length_map] at hil
      obtain ⟨z, rfl⟩ : ∃ z, v = V.int z := by
        rw [List.getElem?_map] at hi
        cases e : cs[i]? with
        | none => rw [e] at hi; cases hi
        | some z => rw [e] at hi; exact ⟨z, (Option.some.inj hi).symm⟩
      refine ⟨_, rfl, _, rfl, z, _, rfl, by omega, by omega, fun pr rs H3 s3 hnew hr3 hrl hrb => ?_⟩
      refine ⟨pr, rfl, ⟨_, SqL.of hr3⟩, for_list (K := K) (a := pr) (xs := rs.map V.int) (fun j σ H' => ∃ i6, σ = [some (.ref a), some (.int 160), some (.ref pc), some (.int (1 + 160 / mx)), some (.ref D), some (.int z), i6] ∧ Same H1 H' ∧ H' pr = some (.lst (rs.map V.int)) ∧ pr ≠ D ∧ ∃ ms : List Int, ms.length ≤ i * 161 + j ∧ Nb ms ∧ H' D = some (.lst (ms.map V.int)))
        ⟨_, rfl, s2.trans s3, hr3, ?_, ms, by omega, hb, s3 _ _ hD2⟩ (fun j σ H' _ z => by obtain ⟨_, _, _, z, _⟩ := z; exact SqL.of z) ?_ ?_⟩
      · exact fun z => ne_of_none hD2 hnew z.symm
      · rintro j v σ H4 hj ⟨i6, rfl, s4, hr4, ne, ms', hm', hb', hD4⟩
        have hjl : j < (rs.map V.int).length := (List.getElem?_eq_some_iff.mp hj).1
        rw [List.length_map] at hjl
        obtain ⟨y, rfl, hy⟩ : ∃ z, v = V.int z ∧ (0 ≤ z ∧ z < 1009) := by
          rw [List.getElem?_map] at hj
          cases e : rs[j]? with
          | none => rw [e] at hj; cases hj
          | some z => rw [e] at hj; exact ⟨z, (Option.some.inj hj).symm, hrb z (List.mem_of_getElem? e)⟩
        refine ⟨_, rfl, .inl ⟨rfl, _, SqL.of hD4⟩, _, rfl, D, _, _, rfl, rfl, hD4, zz _ (by rw [List.length_map]; omega), ?_⟩
        rw [map_snoc]
        exact ⟨_, rfl, same_set s4 hD, by rw [upd_ne ne]; exact hr4, ne, _, by rw [List.length_append]; simp; omega, hb'.snoc hy, upd_same⟩
      · rintro σ H4 ⟨i6, rfl, s4, hr4, ne, ms', hm', hb', hD4⟩
        rw [List.length_map] at hm'
        exact ⟨_, _, rfl, s4, ms', by omega, hb', hD4⟩
    · rintro σ H2 ⟨i5, i6, rfl, s2, ms, hm, hb, hD2⟩
      rw [List.length_map] at hm
      refine ⟨fun m σ H' => σ = [some (.ref a), some (.int 160), some (.ref pc), some (.int (1 + 160 / mx)), some (.ref D), i5, i6] ∧ Same H1 H' ∧ ∃ ms : List Int, ms.length ≤ 10200 ∧ m = 160 - ms.length ∧ Nb ms ∧ H' D = some (.lst (ms.map V.int)), ⟨_, rfl, s2, ms, by omega, rfl, hb, hD2⟩, ?_⟩
      rintro m σ H3 ⟨rfl, s3, ms', hm', rfl, hb', hD3⟩
      refine ⟨_, rfl, _, _, rfl, .inl ⟨_, SqL.of hD3, rfl⟩, _, rfl, _, _, rfl, rfl, _, rfl, ite2 (fun e => ?_) (fun e => ?_)⟩
      · have e := of_decide_eq_true e
        rw [List.length_map] at e
        refine ⟨_, fun σ' H' z => z, ?_⟩
        refine ⟨_, rfl, .inl ⟨rfl, _, SqL.of hD3⟩, D, _, _, rfl, rfl, hD3, zz _ (by rw [List.length_map]; omega), ?_⟩
        rw [show ms'.map V.int ++ [V.int 0] = (ms' ++ [0]).map V.int from map_snoc _ _]
        exact ⟨160 - (ms' ++ [0]).length, by rw [List.length_append]; simp; omega, rfl, same_set s3 hD, _, by rw [List.length_append]; simp; omega, rfl, hb'.snoc ⟨by decide, by decide⟩, upd_same⟩
      · have e : ¬ _ := fun z => e (decide_eq_true z)
        rw [List.length_map] at e
        refine ⟨_, rfl, _, rfl, 160, rfl, D, _, rfl, SqL.of hD3, fun r hr4 => ?_⟩
        rw [show ((160 : Int) = ((160 : Nat) : Int)) from rfl, cut_ints]
        exact q r (ms'.take 160) _ (s1.trans (s3.trans (same_new hr4 _))) upd_same (by rw [List.length_take]; omega) (hb'.take _)
end
end Bs

set_option Elab.async false
set_option linter.all false
set_option maxRecDepth 100000
set_option maxHeartbeats 4000000
namespace Bs
open PySem L2
/-! ### the heap while one draws -/
structure Dr4 where
  a : Addr
  u : Addr
  nl : Addr
  ml : Addr
/-- the heap without what the drawing changes -/
def Dr4.hid (D : Dr4) (H : Hp) : Hp := fun b => if b = D.a ∨ b = D.nl ∨ b = D.ml then none else H b
def Dr4.has (D : Dr4) (b : Addr) : Prop := b = D.a ∨ b = D.u ∨ b = D.nl ∨ b = D.ml
structure DAt (D : Dr4) (H : Hp) (N : List Str) (c : Nat) : Prop where
  a : ∃ i : Int, H D.a = some (.lst [.ref D.u, .int i, .ref D.nl, .ref D.ml])
  u : ∃ ns : List Int, H D.u = some (.lst (ns.map V.int)) ∧ ns.length = 160
  nl : H D.nl = some (.lst (N.map V.str))
  ml : ∃ ms : List V, H D.ml = some (.lst ms) ∧ ms.length = c
  d1 : D.a ≠ D.nl
  d2 : D.a ≠ D.ml
  d3 : D.nl ≠ D.ml
  d4 : D.u ≠ D.a
  d5 : D.u ≠ D.nl
  d6 : D.u ≠ D.ml
theorem hid_same {D : Dr4} {H H' : Hp} (s : Same H H') : Same (D.hid H) (D.hid H') := fun b o e => by
  unfold Dr4.hid at e ⊢
  by_cases c : b = D.a ∨ b = D.nl ∨ b = D.ml
  · rw [if_pos c] at e; cases e
  · rw [if_neg c] at e ⊢; exact s b o e
theorem hid_le {D : Dr4} {H : Hp} : Same (D.hid H) H := fun b o e => by
  unfold Dr4.hid at e
  by_cases c : b = D.a ∨ b = D.nl ∨ b = D.ml
  · rw [if_pos c] at e; cases e
  · rw [if_neg c] at e; exact e
theorem hid_at {D : Dr4} {H : Hp} {b : Addr} (h : ¬ D.has b) : D.hid H b = H b := by
  unfold Dr4.hid
  rw [if_neg fun q => h (q.elim .inl fun q => .inr (.inr q))]
theorem hid_none {D : Dr4} {H : Hp} {b : Addr} (h : H b = none) : D.hid H b = none := by
  unfold Dr4.hid
  by_cases c : b = D.a ∨ b = D.nl ∨ b = D.ml
  · rw [if_pos c]
  · rw [if_neg c]; exact h
theorem hid_upd {D : Dr4} {H : Hp} {b : Addr} {o : HO} (h : ¬ D.has b) : D.hid (upd H b o) = upd (D.hid H) b o := by
  funext x
  by_cases e : x = b
  · subst e; rw [hid_at h, upd_same, upd_same]
  · rw [upd_ne e]
    unfold Dr4.hid
    rw [upd_ne e]
theorem hid_own {D : Dr4} {H : Hp} {b : Addr} {o : HO} (h : b = D.a ∨ b = D.nl ∨ b = D.ml) : D.hid (upd H b o) = D.hid H := by
  funext x
  unfold Dr4.hid
  by_cases c : x = D.a ∨ x = D.nl ∨ x = D.ml
  · rw [if_pos c, if_pos c]
  · rw [if_neg c, if_neg c, upd_ne fun e => c (by rw [e]; exact h)]
theorem DAt.fresh {D : Dr4} {H : Hp} {N : List Str} {c : Nat} (d : DAt D H N c) {p : Addr} (h : H p = none) : ¬ D.has p := by
  obtain ⟨⟨i, a⟩, ⟨ns, u, _⟩, nl, ⟨ms, ml, _⟩, _⟩ := d
  rintro (e | e | e | e) <;> subst e
  · rw [a] at h; cases h
  · rw [u] at h; cases h
  · rw [nl] at h; cases h
  · rw [ml] at h; cases h
theorem DAt.same {D : Dr4} {H H' : Hp} {N : List Str} {c : Nat} (d : DAt D H N c) (s : Same H H') : DAt D H' N c := by
  obtain ⟨⟨i, a⟩, ⟨ns, u, ul⟩, nl, ⟨ms, ml, mlen⟩, d1, d2, d3, d4, d5, d6⟩ := d
  exact ⟨⟨i, s _ _ a⟩, ⟨ns, s _ _ u, ul⟩, s _ _ nl, ⟨ms, s _ _ ml, mlen⟩, d1, d2, d3, d4, d5, d6⟩
theorem DAt.off {D : Dr4} {H : Hp} {N : List Str} {c : Nat} (d : DAt D H N c) {b : Addr} {o : HO} (h : ¬ D.has b) : DAt D (upd H b o) N c := by
  have n1 : D.a ≠ b := fun e => h (.inl e.symm)
  have n2 : D.u ≠ b := fun e => h (.inr (.inl e.symm))
  have n3 : D.nl ≠ b := fun e => h (.inr (.inr (.inl e.symm)))
  have n4 : D.ml ≠ b := fun e => h (.inr (.inr (.inr e.symm)))
  obtain ⟨⟨i, a⟩, ⟨ns, u, ul⟩, nl, ⟨ms, ml, mlen⟩, d1, d2, d3, d4, d5, d6⟩ := d
  exact ⟨⟨i, (upd_ne n1).trans a⟩, ⟨ns, (upd_ne n2).trans u, ul⟩, (upd_ne n3).trans nl, ⟨ms, (upd_ne n4).trans ml, mlen⟩, d1, d2, d3, d4, d5, d6⟩
theorem DAt.tick {D : Dr4} {H : Hp} {N : List Str} {c : Nat} (d : DAt D H N c) (i : Int) : DAt D (upd H D.a (.lst [.ref D.u, .int i, .ref D.nl, .ref D.ml])) N c := by
  obtain ⟨_, ⟨ns, u, ul⟩, nl, ⟨ms, ml, mlen⟩, d1, d2, d3, d4, d5, d6⟩ := d
  exact ⟨⟨i, upd_same⟩, ⟨ns, (upd_ne d4).trans u, ul⟩, (upd_ne d1.symm).trans nl, ⟨ms, (upd_ne d2.symm).trans ml, mlen⟩, d1, d2, d3, d4, d5, d6⟩
theorem DAt.pop {D : Dr4} {H : Hp} {z : Str} {N : List Str} {c : Nat} (d : DAt D H (z :: N) c) : DAt D (upd H D.nl (.lst (N.map V.str))) N c := by
  obtain ⟨⟨i, a⟩, ⟨ns, u, ul⟩, nl, ⟨ms, ml, mlen⟩, d1, d2, d3, d4, d5, d6⟩ := d
  exact ⟨⟨i, (upd_ne d1).trans a⟩, ⟨ns, (upd_ne d5).trans u, ul⟩, upd_same, ⟨ms, (upd_ne d3.symm).trans ml, mlen⟩, d1, d2, d3, d4, d5, d6⟩
theorem DAt.mark {D : Dr4} {H : Hp} {N : List Str} {c : Nat} (d : DAt D H N c) {ms : List V} (h : ms.length = c) (v : V) : DAt D (upd H D.ml (.lst (ms ++ [v]))) N (c + 1) := by
  obtain ⟨⟨i, a⟩, ⟨ns, u, ul⟩, nl, _, d1, d2, d3, d4, d5, d6⟩ := d
  exact ⟨⟨i, (upd_ne d2).trans a⟩, ⟨ns, (upd_ne d6).trans u, ul⟩, (upd_ne d3).trans nl, ⟨_, upd_same, by rw [List.length_append, h]; rfl⟩, d1, d2, d3, d4, d5, d6⟩
/-- a new object -/
theorem DAt.new {D : Dr4} {H : Hp} {N : List Str} {c : Nat} (d : DAt D H N c) {p : Addr} (h : H p = none) (o : HO) : DAt D (upd H p o) N c ∧ Same (D.hid H) (D.hid (upd H p o)) ∧ D.hid (upd H p o) p = some o :=
  ⟨d.off (d.fresh h), hid_same (same_new h o), by rw [hid_at (d.fresh h)]; exact upd_same⟩
theorem same_eq {H H' : Hp} (e : H' = H) : Same H H' := fun b o h => by rw [e]; exact h
/-- what is new since H -/
def neu (H H' : Hp) : Hp := fun b => match H b with
  | none => H' b
  | some _ => none
theorem neu_at {H H' : Hp} {b : Addr} (h : H b = none) : neu H H' b = H' b := by unfold neu; rw [h]
theorem neu_in {H H' : Hp} {b : Addr} {o : HO} (h : neu H H' b = some o) : H b = none ∧ H' b = some o := by
  unfold neu at h
  cases e : H b with
  | none => rw [e] at h; exact ⟨rfl, h⟩
  | some _ => rw [e] at h; cases h
theorem neu_le {H H' : Hp} : Same (neu H H') H' := fun _ _ e => (neu_in e).2
theorem neu_hid {D : Dr4} {H H' : Hp} {N : List Str} {c : Nat} (d : DAt D H N c) : Same (neu H H') (D.hid H') := fun b o e => by
  obtain ⟨e1, e2⟩ := neu_in e
  rw [hid_at (d.fresh e1)]
  exact e2
theorem neu_mono {D : Dr4} {H0 H1 H2 H3 : Hp} {N : List Str} {c : Nat} (d : DAt D H1 N c) (h : ∀ b, H1 b = none → H0 b = none) (s : Same (D.hid H2) (D.hid H3)) : Same (neu H1 H2) (neu H0 H3) := fun b o e => by
  obtain ⟨e1, e2⟩ := neu_in e
  have nb := d.fresh e1
  have := s b o (by rw [hid_at nb]; exact e2)
  rw [neu_at (h b e1)]
  rw [hid_at nb] at this
  exact this
theorem neu_own {H0 H : Hp} {b : Addr} {o : HO} (h : H0 b ≠ none) : neu H0 (upd H b o) = neu H0 H := by
  funext x
  unfold neu
  cases e : H0 x with
  | some _ => rfl
  | none => exact upd_ne fun q => h (by rw [← q]; exact e)
theorem free_of {D : Dr4} {H H' : Hp} {N : List Str} {c : Nat} (d : DAt D H' N c) (s : Same (D.hid H) (D.hid H')) {r : Addr} (h : H' r = none) : H r = none := by
  cases e : H r with
  | none => rfl
  | some o =>
    exfalso
    have k := d.fresh h
    have := s r o (by rw [hid_at k]; exact e)
    rw [hid_at k, h] at this
    cases this
/-! ### numbers ahead -/
abbrev NumsAt (G : Hp) : List V → List Num → Prop := Paired fun v p => ∃ t size order, v = .ref t ∧ G t = some (.tup [.str "number", .str p.1, .int size, .str order, .int p.2.1, .int p.2.2])
theorem NumsAt.same {G G' : Hp} (s : Same G G') : ∀ {l : List V} {r : List Num}, NumsAt G l r → NumsAt G' l r
  | _, _, .nil => .nil
  | _, _, .cons ⟨t, z, o, e, h⟩ r => .cons ⟨t, z, o, e, s _ _ h⟩ (NumsAt.same s r)
theorem NumsAt.kp {G G' : Hp} (s : Kp true G G') : ∀ {l : List V} {r : List Num}, NumsAt G l r → NumsAt G' l r
  | _, _, .nil => .nil
  | _, _, .cons ⟨t, z, o, e, h⟩ r => .cons ⟨t, z, o, e, s.t _ _ h⟩ (NumsAt.kp s r)
theorem NumsAt.len {G : Hp} : ∀ {l : List V} {r : List Num}, NumsAt G l r → l.length = r.length
  | _, _, .nil => rfl
  | _, _, .cons _ t => by simp [NumsAt.len t]
theorem NumsAt.get {G : Hp} : ∀ {l : List V} {r : List Num} {i : Nat} {v : V}, NumsAt G l r → l[i]? = some v → ∃ z lo hi t size order, r[i]? = some (z, lo, hi) ∧ v = .ref t ∧ G t = some (.tup [.str "number", .str z, .int size, .str order, .int lo, .int hi])
  | _, _, _, _, .nil, e => by simp at e
  | _, _, 0, _, .cons (b := (z, lo, hi)) ⟨t, sz, o, e0, h⟩ _, e => by simp at e; subst e; exact ⟨z, lo, hi, t, sz, o, by simp, e0, h⟩
  | _, _, i + 1, _, .cons _ t, e => by obtain ⟨z, lo, hi, tt, sz, o, h⟩ := NumsAt.get (i := i) t (by simpa using e); exact ⟨z, lo, hi, tt, sz, o, by simpa using h.1, h.2⟩
theorem NumsAt.app {G : Hp} {v : V} {p : Num} (h : ∃ t size order, v = .ref t ∧ G t = some (.tup [.str "number", .str p.1, .int size, .str order, .int p.2.1, .int p.2.2])) : ∀ {l : List V} {r : List Num}, NumsAt G l r → NumsAt G (l ++ [v]) (r ++ [p])
  | _, _, .nil => .cons h .nil
  | _, _, .cons q t => .cons q (NumsAt.app h t)
/-! ### the promises of what draws -/
def spNext : Sp := fun vs H Q _ => ∃ (D : Dr4) (N : List Str) (c : Nat) (m : Int), vs = [.ref D.a, .int m] ∧ DAt D H N c ∧ 0 < m ∧ ∀ r H', 0 ≤ r → r < m → D.hid H' = D.hid H → DAt D H' N c → Q (.int r) H'
def spNumber : Sp := fun vs H Q _ => ∃ (D : Dr4) (N : List Str) (c : Nat) (z : Str), vs = [.ref D.a, .str z] ∧ DAt D H N c ∧
  ∀ t H' size order lo hi, Same (D.hid H) (D.hid H') → DAt D H' N c → neu H H' t = some (.tup [.str "number", .str z, .int size, .str order, .int lo, .int hi]) → numOk size order lo hi = true → Q (.ref t) H'
def AmtOk (as : List Num) (most : Int) : Key → Prop
  | .inl i => 0 ≤ i ∧ i ≤ most
  | .inr z => ∃ lo hi, (z, lo, hi) ∈ as ∧ hi ≤ most
def spUse : Sp := fun vs H Q _ => ∃ (D : Dr4) (N : List Str) (c : Nat) (ah : Addr) (refs : List V) (as : List Num) (most : Int), vs = [.ref D.a, .ref ah, .int most] ∧ DAt D H N c ∧ D.hid H ah = some (.lst refs) ∧ NumsAt (D.hid H) refs as ∧ as.length ≤ 40 ∧ 4 ≤ most ∧
  ∀ amt H', Same (D.hid H) (D.hid H') → DAt D H' N c → AmtOk as most amt → Q (kV amt) H'
section
variable {P : Program} {w : World} {K : PySem.W.Frag} {mg : Str → Option Value} {base : Heap} {f : Addr} {fd : FuncData}
theorem scNext : FnScope ["draw", "many"] ["draw", "many"] (defScope sLawNext) := ⟨rfl, rfl, rfl, by decide +kernel, rfl, by decide +kernel, by decide +kernel⟩
theorem ixN_nat {n j : Nat} (h : j < n) : ixN n (j : Int) = some j := by
  unfold ixN
  rw [if_pos (by omega), if_pos (by omega)]
  simp
theorem at_mod {l : List Int} (i : Int) (h : 0 < l.length) : ∃ c : Int, atI (l.map V.int) (i % (l.length : Int)) = some (.int c) := by
  have h0 := Int.emod_nonneg i (show (l.length : Int) ≠ 0 by omega)
  have h1 := Int.emod_lt_of_pos i (show (0 : Int) < (l.length : Int) by omega)
  obtain ⟨n, e⟩ := Int.eq_ofNat_of_zero_le h0
  rw [e] at h1 ⊢
  have hn : n < l.length := by omega
  exact ⟨l[n], atI_nat (by rw [List.getElem?_map, List.getElem?_eq_getElem hn]; rfl)⟩
theorem ok_next (F : Fun K "_law_next" "_law_next" sLawNext f fd) (mint : mg "int" = none) (ml : mg "len" = none) : FnOk P w K mg base CX0 1 f fd ["draw", "many"] spNext := by
  refine F.ok scNext (fun vs H Q E h => ?_) (fun cdv A outer s H vs Q E hr h => ?_)
  · obtain ⟨D, N, c, m, rfl, _⟩ := h
    rfl
  · obtain ⟨D, N, c, m, rfl, d, hm, q⟩ := h
    refine ⟨_, pss_cons (ps_asg (pe_op op_add (pe_ix ix_list (pv 0) pe_int (fun _ _ => rfl)) pe_int) (pg_sub (pv 0) pe_int set_list))
      (pss_one (ps_ret (pe_op op_mod (pe_callTy call_int1 (by rfl) mint (by decide +kernel) (pa_cons (pe_ix ix_list (pe_ix ix_list (pv 0) pe_int (fun _ _ => rfl)) (pe_op op_mod (pe_ix ix_list (pv 0) pe_int (fun _ _ => rfl)) (pe_callB call_len (by rfl) ml boot_len (pa_cons (pe_ix ix_list (pv 0) pe_int (fun _ _ => rfl)) pa_nil))) (fun _ _ => rfl)) pa_nil)) (pv 1)))), ?_⟩
    obtain ⟨i, ha⟩ := id d.a
    refine ⟨_, rfl, D.a, _, 1, _, rfl, rfl, SqL.of ha, atI_nat (j := 1) rfl, _, _, rfl, rfl, ?_⟩
    refine ⟨_, rfl, D.a, _, 1, 1, rfl, rfl, ha, ixN_nat (n := 4) (j := 1) (by decide), ?_⟩
    have d2 := d.tick (i + 1)
    have hh := hid_own (D := D) (H := H) (b := D.a) (o := .lst [.ref D.u, .int (i + 1), .ref D.nl, .ref D.ml]) (.inl rfl)
    have ha2 : upd H D.a (.lst [.ref D.u, .int (i + 1), .ref D.nl, .ref D.ml]) D.a = some (.lst [.ref D.u, .int (i + 1), .ref D.nl, .ref D.ml]) := upd_same
    obtain ⟨ns, hu, hl⟩ := id d2.u
    obtain ⟨y, hy⟩ := at_mod (l := ns) (i + 1) (by omega)
    refine ⟨_, rfl, D.a, _, 0, _, rfl, rfl, SqL.of ha2, atI_nat (j := 0) rfl, _, rfl, D.a, _, 1, _, rfl, rfl, SqL.of ha2, atI_nat (j := 1) rfl, _, rfl, D.a, _, 0, _, rfl, rfl, SqL.of ha2, atI_nat (j := 0) rfl, V.ref D.u, _, rfl, .inl ⟨_, SqL.of hu, rfl⟩, _, _, rfl, rfl, (by rw [List.length_map]; omega), ?_⟩
    rw [List.length_map]
    refine ⟨D.u, _, _, _, rfl, rfl, SqL.of hu, hy, .inl ⟨_, rfl, _, rfl, _, _, rfl, rfl, hm, ?_⟩⟩
    exact q _ _ (Int.emod_nonneg _ (by omega)) (Int.emod_lt_of_pos _ hm) hh d2
end
end Bs

set_option Elab.async false
set_option linter.all false
set_option maxRecDepth 100000
set_option maxHeartbeats 4000000
namespace Bs
open PySem L2
theorem at_mem {xs : List V} {r : Int} (h0 : 0 ≤ r) (h1 : r < (xs.length : Int)) : ∃ v, v ∈ xs ∧ atI xs r = some v := by
  obtain ⟨n, rfl⟩ := Int.eq_ofNat_of_zero_le h0
  have hn : n < xs.length := by omega
  exact ⟨xs[n], List.getElem_mem hn, atI_nat (List.getElem?_eq_getElem hn)⟩
/-- one of some ints -/
theorem at_ints {is : List Int} {r : Int} (h0 : 0 ≤ r) (h1 : r < (is.length : Int)) : ∃ i, i ∈ is ∧ atI (is.map V.int) r = some (.int i) := by
  obtain ⟨v, hv, e⟩ := at_mem (xs := is.map V.int) h0 (by rw [List.length_map]; exact h1)
  obtain ⟨i, hi, rfl⟩ := List.mem_map.mp hv
  exact ⟨i, hi, e⟩
/-- it stands behind a step -/
theorem hid_stay {D : Dr4} {H H' : Hp} {p : Addr} {o : HO} (e : D.hid H' = D.hid H) (h : D.hid H p = some o) : H' p = some o := hid_le _ _ (by rw [e]; exact h)
theorem max_le2 (a b : Int) : a ≤ (if b > a then b else a) ∧ b ≤ (if b > a then b else a) ∧ ((if b > a then b else a) = a ∨ (if b > a then b else a) = b) := by
  by_cases c : b > a
  · rw [if_pos c]; exact ⟨by omega, by omega, .inr rfl⟩
  · rw [if_neg c]; exact ⟨by omega, by omega, .inl rfl⟩
theorem min_le2 (a b : Int) : (if b < a then b else a) ≤ a ∧ (if b < a then b else a) ≤ b ∧ ((if b < a then b else a) = a ∨ (if b < a then b else a) = b) := by
  by_cases c : b < a
  · rw [if_pos c]; exact ⟨by omega, by omega, .inr rfl⟩
  · rw [if_neg c]; exact ⟨by omega, by omega, .inl rfl⟩
section
variable {P : Program} {w : World} {K : PySem.W.Frag} {mg : Str → Option Value} {base : Heap} {f : Addr} {fd : FuncData}
theorem scNum : FnScope ["draw", "name", "size", "most", "low", "high"] ["draw", "name"] (defScope sLawNumber) := ⟨rfl, rfl, rfl, by decide +kernel, rfl, by decide +kernel, by decide +kernel⟩
theorem ok_lawnumber (F : Fun K "_law_number" "_law_number" sLawNumber f fd) (gX : Cal P w K mg base CX0 1 "_law_next" ["draw", "many"] spNext) (mmin : mg "min" = none) (mmax : mg "max" = none) : FnOk P w K mg base CX0 2 f fd ["draw", "name"] spNumber := by
  refine F.ok scNum (fun vs H Q E h => ?_) (fun cdv A outer s H vs Q E hr h => ?_)
  · obtain ⟨D, N, c, z, rfl, _⟩ := h
    rfl
  · obtain ⟨D, N, c, z, rfl, d, q⟩ := h
    refine ⟨_, pss_cons (ps_set (i := 2) scNum.nd rfl (.inl rfl) (pe_op op_add pe_int (pe_cal gX hr pass0 (pa_cons (pv 0) (pa_cons pe_int pa_nil)))))
      (pss_cons (ps_set (i := 3) scNum.nd rfl (.inl rfl) (pe_ix ix_list (pe_lst (pa_cons pe_int (pa_cons pe_int pa_nil))) (pe_op op_sub (pv 2) pe_int) (fun _ _ => rfl)))
      (pss_cons (ps_set (i := 4) scNum.nd rfl (.inl rfl) (pe_ix ix_list (pe_lst (pa_cons pe_int (pa_cons (pe_cal gX hr pass0 (pa_cons (pv 0) (pa_cons pe_int pa_nil))) (pa_cons (pe_cal gX hr pass0 (pa_cons (pv 0) (pa_cons (pe_op op_add (pv 3) pe_int) pa_nil))) pa_nil)))) (pe_cal gX hr pass0 (pa_cons (pv 0) (pa_cons pe_int pa_nil))) (fun _ _ => rfl)))
      (pss_cons (ps_set (i := 5) scNum.nd rfl (.inl rfl) (pe_ix ix_list (pe_lst (pa_cons (pv 4) (pa_cons (pv 3) (pa_cons (pe_callB (call_min2 rfl) (by rfl) mmin (by decide +kernel) (pa_cons (pv 3) (pa_cons (pe_op op_add (pv 4) (pe_cal gX hr pass0 (pa_cons (pv 0) (pa_cons pe_int pa_nil)))) pa_nil)))
        (pa_cons (pe_callB (call_min2 rfl) (by rfl) mmin (by decide +kernel) (pa_cons pe_int (pa_cons (pe_callB (call_max2 rfl) (by rfl) mmax (by decide +kernel) (pa_cons (pv 4) (pa_cons pe_int pa_nil))) pa_nil))) pa_nil))))) (pe_cal gX hr pass0 (pa_cons (pv 0) (pa_cons pe_int pa_nil))) (fun _ _ => rfl)))
      (pss_one (ps_ret (pe_tup (pa_cons pe_str (pa_cons (pv 1) (pa_cons (pv 2) (pa_cons (pe_ix ix_list (pe_lst (pa_cons pe_str (pa_cons pe_str pa_nil))) (pe_cal gX hr pass0 (pa_cons (pv 0) (pa_cons pe_int pa_nil))) (fun _ _ => rfl)) (pa_cons (pv 4) (pa_cons (pe_callB (call_max2 rfl) (by rfl) mmax (by decide +kernel) (pa_cons (pv 4) (pa_cons (pv 5) pa_nil))) pa_nil)))))))))))), ?_⟩
    refine ⟨_, rfl, D, N, c, 2, rfl, d, by decide, fun r1 H1 a0 a1 e1 d1 => ⟨_, _, rfl, rfl, ?_⟩⟩
    -- most
    refine ⟨(by show 2 ≤ sizeLine; decide), fun p hp => ?_⟩
    obtain ⟨d2, s2, _⟩ := d1.new hp (.lst [.int 255, .int 65535])
    obtain ⟨most, hmost, hat⟩ : ∃ m : Int, m = (if 1 + r1 = 1 then 255 else 65535) ∧ atI [V.int 255, V.int 65535] (1 + r1 - 1) = some (.int m) := by
      by_cases h1 : r1 = 0
      · rw [if_pos (by omega), h1]; exact ⟨_, rfl, atI_nat (j := 0) rfl⟩
      · rw [if_neg (by omega), show r1 = 1 by omega]; exact ⟨_, rfl, atI_nat (j := 1) rfl⟩
    refine ⟨_, rfl, _, _, rfl, rfl, p, _, _, _, rfl, rfl, SqL.of upd_same, hat, ?_⟩
    have S2 : Same (D.hid H) (D.hid (upd H1 p (.lst [.int 255, .int 65535]))) := by rw [← e1]; exact s2
    generalize upd H1 p (.lst [.int 255, .int 65535]) = H2 at d2 S2 ⊢
    have hm255 : 255 ≤ most := by rw [hmost]; split <;> omega
    -- low
    refine ⟨_, rfl, D, N, c, 4, rfl, d2, by decide, fun r2 H3 b0 b1 e3 d3 => ?_⟩
    refine ⟨_, rfl, _, rfl, _, _, rfl, rfl, D, N, c, most + 1, rfl, d3, by omega, fun r3 H4 c0 c1 e4 d4 => ⟨(by show 3 ≤ sizeLine; decide), fun p5 hp5 => ?_⟩⟩
    obtain ⟨d5, s5, g5⟩ := d4.new hp5 (.lst [.int 0, .int r2, .int r3])
    refine ⟨_, rfl, D, N, c, 3, rfl, d5, by decide, fun r4 H6 x0 x1 e6 d6 => ?_⟩
    have h6 := hid_stay e6 g5
    obtain ⟨low, hlow, alow⟩ := at_ints (is := [0, r2, r3]) x0 (by exact x1)
    refine ⟨p5, _, _, _, rfl, rfl, SqL.of h6, alow, ?_⟩
    have S6 : Same (D.hid H) (D.hid H6) := by
      rw [e6]; exact S2.trans ((same_eq e3).trans ((same_eq e4).trans s5))
    have hlow : 0 ≤ low ∧ low ≤ most := by
      simp only [List.mem_cons, List.not_mem_nil, or_false] at hlow
      rcases hlow with rfl | rfl | rfl <;> omega
    -- high
    refine ⟨_, rfl, _, rfl, _, rfl, _, rfl, _, rfl, D, N, c, 16, rfl, d6, by decide, fun r5 H7 y0 y1 e7 d7 => ⟨_, _, rfl, rfl, _, _, rfl, ?_⟩⟩
    refine ⟨_, rfl, _, _, rfl, _, _, rfl, (by show 4 ≤ sizeLine; decide), fun p8 hp8 => ?_⟩
    obtain ⟨d8, s8, g8⟩ := d7.new hp8 (.lst [.int low, .int most, .int (if low + r5 < most then low + r5 else most), .int (if (if (64 : Int) > low then 64 else low) < 64 then (if (64 : Int) > low then 64 else low) else 64)])
    refine ⟨_, rfl, D, N, c, 4, rfl, d8, by decide, fun r6 H9 z0 z1 e9 d9 => ?_⟩
    have h9 := hid_stay e9 g8
    obtain ⟨high, hhigh, ahigh⟩ := at_ints (is := [low, most, (if low + r5 < most then low + r5 else most), (if (if (64 : Int) > low then 64 else low) < 64 then (if (64 : Int) > low then 64 else low) else 64)]) z0 (by exact z1)
    refine ⟨p8, _, _, _, rfl, rfl, SqL.of h9, ahigh, ?_⟩
    have S9 : Same (D.hid H) (D.hid H9) := by
      rw [e9]; exact S6.trans ((same_eq e7).trans s8)
    have hhigh : high ≤ most := by
      have m1 := min_le2 most (low + r5)
      have m2 := max_le2 low 64
      have m3 := min_le2 64 (if (64 : Int) > low then 64 else low)
      simp only [List.mem_cons, List.not_mem_nil, or_false] at hhigh
      rcases hhigh with rfl | rfl | rfl | rfl <;> omega
    -- the item
    refine ⟨_, rfl, _, rfl, (by show 2 ≤ sizeLine; decide), fun p10 hp10 => ?_⟩
    obtain ⟨d10, s10, g10⟩ := d9.new hp10 (.lst [.str "big", .str "little"])
    refine ⟨_, rfl, D, N, c, 2, rfl, d10, by decide, fun r7 H11 u0 u1 e11 d11 => ?_⟩
    have h11 := hid_stay e11 g10
    obtain ⟨ov, hov, aov⟩ := at_mem (xs := [V.str "big", V.str "little"]) u0 (by exact u1)
    obtain ⟨order, rfl, hord⟩ : ∃ o : Str, ov = .str o ∧ (o = "big" ∨ o = "little") := by
      simp only [List.mem_cons, List.not_mem_nil, or_false] at hov
      rcases hov with rfl | rfl
      · exact ⟨_, rfl, .inl rfl⟩
      · exact ⟨_, rfl, .inr rfl⟩
    refine ⟨p10, _, _, _, rfl, rfl, SqL.of h11, aov, ?_⟩
    refine ⟨_, rfl, _, rfl, _, rfl, _, _, rfl, (by show 6 ≤ sizeLine; decide), fun t ht => ?_⟩
    obtain ⟨d12, s12, g12⟩ := d11.new ht (.tup [.str "number", .str z, .int (1 + r1), .str order, .int low, .int (if high > low then high else low)])
    have m4 := max_le2 low high
    refine q t _ (1 + r1) order low (if high > low then high else low) (S9.trans (s10.trans ((same_eq e11).trans s12))) d12 (by rw [neu_at (free_of d11 (S9.trans (s10.trans (same_eq e11))) ht)]; exact upd_same) ?_
    unfold numOk
    rw [Bool.and_eq_true, Bool.and_eq_true, Bool.and_eq_true]
    rw [hmost] at hhigh hlow
    refine ⟨decide_eq_true (by omega), decide_eq_true hord, decide_eq_true ⟨by omega, ?_⟩, decide_eq_true ⟨by omega, by omega⟩⟩
    rcases m4.2.2 with e | e <;> rw [e]
    · exact hlow.2
    · exact hhigh
end
end Bs

set_option Elab.async false
set_option linter.all false
set_option maxRecDepth 100000
set_option maxHeartbeats 4000000
namespace Bs
open PySem L2
section
variable {P : Program} {w : World} {K : PySem.W.Frag} {mg : Str → Option Value} {base : Heap} {f : Addr} {fd : FuncData}
abbrev nUse : List Str := ["draw", "ahead", "most", "fit", "number"]
theorem scUse : FnScope nUse ["draw", "ahead", "most"] (defScope sLawUse) := ⟨rfl, rfl, rfl, by decide +kernel, rfl, by decide +kernel, by decide +kernel⟩
theorem at_strs {zs : List Str} {r : Int} (h0 : 0 ≤ r) (h1 : r < (zs.length : Int)) : ∃ z, z ∈ zs ∧ atI (zs.map V.str) r = some (.str z) := by
  obtain ⟨v, hv, e⟩ := at_mem (xs := zs.map V.str) h0 (by rw [List.length_map]; exact h1)
  obtain ⟨i, hi, rfl⟩ := List.mem_map.mp hv
  exact ⟨i, hi, e⟩
theorem ok_use (F : Fun K "_law_use" "_law_use" sLawUse f fd) (gX : Cal P w K mg base CX0 1 "_law_next" ["draw", "many"] spNext) (ml : mg "len" = none) : FnOk P w K mg base CX0 2 f fd ["draw", "ahead", "most"] spUse := by
  refine F.ok scUse (fun vs H Q E h => ?_) (fun cdv A outer s H vs Q E hr h => ?_)
  · obtain ⟨D, N, c, ah, refs, as, most, rfl, _⟩ := h
    rfl
  · obtain ⟨D, N, c, ah, refs, as, most, rfl, d, hah, hnum, h40, h4, q⟩ := h
    refine ⟨_, pss_cons (ps_setLc (i := 3) (own := [("number", 4)]) (g := gName 4) rfl scUse.nd rfl rfl (sw_true rfl rfl rfl (by decide +kernel)) (pi_list (pv 1))
            (blkOk_by (own := [("number", 4)]) (N := nUse) (sc := defScope sLawUse) (by decide +kernel)) (fun _ _ _ _ _ => pg_name (i := 4) scUse.nd rfl (Or.inl rfl))
            (fun _ _ _ _ _ => pts_one (pt_cmpR op_le (pe_ix (r := rIxT K) ix_tup (pv 4) pe_int (fun _ _ => rfl)) (pv 2) (nomark _))) (fun _ _ _ _ _ => pe_ix (r := rIxT K) ix_tup (pv 4) pe_int (fun _ _ => rfl)))
      (pss_cons (ps_if (PW.pt (pw_and (pt_cmpR op_gt (pe_callB call_len (by rfl) ml boot_len (pa_cons (pv 3) pa_nil)) pe_int (nomark _)) (pw_and1 (pt_cmpR op_eq (pe_cal gX hr pass0 (pa_cons (pv 0) (pa_cons pe_int pa_nil))) pe_int (nomark _)))))
        (pss_one (ps_ret (pe_ix ix_list (pv 3) (pe_cal gX hr pass0 (pa_cons (pv 0) (pa_cons (pe_callB call_len (by rfl) ml boot_len (pa_cons (pv 3) pa_nil)) pa_nil))) (fun _ _ => rfl)))) pss_nil)
      (pss_one (ps_ret (pe_ix ix_list (pe_lst (pa_cons pe_int (pa_cons (pv 2) (pa_cons (pe_op op_add pe_int (pe_cal gX hr pass0 (pa_cons (pv 0) (pa_cons pe_int pa_nil)))) pa_nil)))) (pe_cal gX hr pass0 (pa_cons (pv 0) (pa_cons pe_int pa_nil))) (fun _ _ => rfl))))), ?_⟩
    have hah1 := hid_le _ _ hah
    refine ⟨_, rfl, ah, rfl, ⟨_, SqL.of hah1⟩, fun L hL => lc_list (K := K) (a := ah) (xs := refs) (fun i H' => Same H H' ∧ ∃ fs : List Str, H' L = some (.lst (fs.map V.str)) ∧ fs.length ≤ i ∧ ∀ z ∈ fs, ∃ lo hi, (z, lo, hi) ∈ as ∧ hi ≤ most)
      ⟨same_new hL _, [], upd_same, Nat.le_refl 0, fun z hz => by cases hz⟩ (fun i H' _ z => SqL.of (z.1 _ _ hah1)) ?_ ?_⟩
    · rintro i v H2 hi ⟨s2, fs, hfs, hfl, hfa⟩
      have il : i < refs.length := (List.getElem?_eq_some_iff.mp hi).1
      have rl := hnum.len
      obtain ⟨z, lo, hi', t, size, order, gz, rfl, ht⟩ := (hnum.same (hid_same s2)).get hi
      have ht2 := hid_le _ _ ht
      refine ⟨rfl, _, rfl, t, _, 5, _, rfl, rfl, SqT.of ht2, atI_nat (j := 5) rfl, _, rfl, _, _, rfl, rfl, _, rfl, ?_⟩
      refine ite2 (fun e => ?_) (fun e => ?_)
      · have e := of_decide_eq_true e
        refine ⟨_, rfl, t, _, 1, _, rfl, rfl, SqT.of ht2, atI_nat (j := 1) rfl, _, hfs, small1000 (by rw [List.length_map]; omega), same_set s2 hL, fs ++ [z], by rw [upd_same, List.map_append]; rfl, by rw [List.length_append, List.length_singleton]; omega, fun y hy => ?_⟩
        rcases List.mem_append.mp hy with hy | hy
        · exact hfa y hy
        · obtain rfl := List.mem_singleton.mp hy
          exact ⟨lo, hi', List.mem_of_getElem? gz, e⟩
      · exact ⟨s2, fs, hfs, by omega, hfa⟩
    rintro H2 ⟨s2, fs, hfs, hfl, hfa⟩
    have d2 := d.same s2
    have nL : ¬ D.has L := d.fresh hL
    have hL2 : D.hid H2 L = some (.lst (fs.map V.str)) := by rw [hid_at nL]; exact hfs
    have S2 : Same (D.hid H) (D.hid H2) := hid_same s2
    have fin : ∀ H3, D.hid H3 = D.hid H2 → DAt D H3 N c → tRet (tOp (rIxL K) (tLst (tCons (tC (.int 0)) (tCons (tVar 2) (tCons (tOp (rI0 fun i j => V.int (i + j)) (tC (.int 1)) (tCl spNext E0 (tCons (tVar 0) (tCons (tC (.int 4)) tNil)))) tNil)))) (tCl spNext E0 (tCons (tVar 0) (tCons (tC (.int 3)) tNil))))
        { nx := fun _ H' => Q V.non H', rt := Q } [some (.ref D.a), some (.ref ah), some (.int most), some (.ref L), none] H3 := fun H3 e3 d3 => by
      refine ⟨_, rfl, _, rfl, D, N, c, 4, rfl, d3, by decide, fun r4 H4 a0 a1 e4 d4 => ⟨_, _, rfl, rfl, (by show 3 ≤ sizeLine; decide), fun p5 hp5 => ?_⟩⟩
      obtain ⟨d5, s5, g5⟩ := d4.new hp5 (.lst [.int 0, .int most, .int (1 + r4)])
      refine ⟨_, rfl, D, N, c, 3, rfl, d5, by decide, fun r6 H6 x0 x1 e6 d6 => ?_⟩
      have h6 := hid_stay e6 g5
      obtain ⟨i, hi, ai⟩ := at_ints (is := [0, most, 1 + r4]) x0 (by exact x1)
      refine ⟨p5, _, _, _, rfl, rfl, SqL.of h6, ai, ?_⟩
      refine q (.inl i) H6 ?_ d6 ?_
      · rw [e6]; exact S2.trans ((same_eq e3).trans ((same_eq e4).trans s5))
      · simp only [List.mem_cons, List.not_mem_nil, or_false] at hi
        show 0 ≤ i ∧ i ≤ most
        rcases hi with rfl | rfl | rfl <;> omega
    dsimp only
    refine ⟨_, rfl, _, _, rfl, .inl ⟨_, SqL.of hfs, rfl⟩, _, _, rfl, rfl, _, rfl, ?_⟩
    rw [List.length_map]
    refine ite2 (fun e => ?_) (fun _ => ?_)
    · have e : (0 : Int) < fs.length := of_decide_eq_true e
      refine ⟨_, rfl, D, N, c, 2, rfl, d2, by decide, fun r3 H3 a0 a1 e3 d3 => ⟨rfl, _, rfl, ite2 (fun _ => ?_) (fun _ => fin H3 e3 d3)⟩⟩
      have hf3 := hid_stay e3 hL2
      refine ⟨_, rfl, _, rfl, _, rfl, _, _, rfl, .inl ⟨_, SqL.of hf3, rfl⟩, ?_⟩
      rw [List.length_map]
      refine ⟨D, N, c, _, rfl, d3, e, fun r4 H4 b0 b1 e4 d4 => ?_⟩
      obtain ⟨z, hz, az⟩ := at_strs (zs := fs) b0 b1
      refine ⟨L, _, _, _, rfl, rfl, SqL.of (hid_stay (e4.trans e3) hL2), az, ?_⟩
      exact q (.inr z) H4 (by rw [e4, e3]; exact S2) d4 (hfa z hz)
    · exact fin H2 rfl d2
end
end Bs

set_option Elab.async false
set_option linter.all false
set_option maxRecDepth 100000
set_option maxHeartbeats 4000000
namespace Bs
open PySem L2
/-! ### blocks that are drawn -/
theorem name_len {z : Str} (h : isName z = true) : 1 ≤ z.length ∧ z.length ≤ 12 := by
  have hl : z.length = z.cps.toList.length := by simp [Str.length]
  rw [hl]
  apply Decidable.byContradiction
  intro c
  have := nameOk_len c
  unfold isName at h
  rw [this] at h
  cases h
theorem name_ne {z : Str} (h : isName z = true) : z ≠ "" := fun e => by rw [e] at h; exact absurd h (by decide +kernel)
theorem sign_lt {c : Nat} (h : isSign c = true) : c < 16 ^ 8 := by
  unfold isSign isLetter isDigit at h
  rw [Bool.or_eq_true, decide_eq_true_iff, decide_eq_true_iff] at h
  have a : ∀ c ∈ letters.cps.toList, c < 16 ^ 8 := by decide +kernel
  have b : ∀ c ∈ digits.cps.toList, c < 16 ^ 8 := by decide +kernel
  exact h.elim (a c) (b c)
theorem name_repr {z : Str} (h : isName z = true) : z.length ≤ 1000 ∧ (reprText z).length ≤ 1000 := by
  have l := name_len h
  have r := StrLaws.reprText_len z fun c hc => by
    unfold isName at h
    cases e : z.cps.toList with
    | nil => rw [e] at hc; cases hc
    | cons a t =>
      rw [e] at h hc
      rw [nameOk, Bool.and_eq_true, Bool.and_eq_true, List.all_eq_true] at h
      exact sign_lt (h.2.2 c hc)
  exact ⟨by omega, by omega⟩
theorem Sit.pick {as : List Num} {fs N ps N' : List Str} {c c' : Nat} {z : Str} (s : Sit as (fs ++ N) c) (e : N = ps ++ N') (hz : z ∈ fs) (h : c' ≤ 1) : Sit as (z :: N') c' := by
  subst e
  have nd := List.nodup_append.mp s.nd
  have nd2 := List.nodup_append.mp nd.2.1
  refine ⟨List.nodup_cons.mpr ⟨fun q => nd.2.2 z hz z (List.mem_append_right _ q) rfl, nd2.2.1⟩, fun y hy => ?_, fun p hp q => ?_, s.anm, ?_, h⟩
  · rcases List.mem_cons.mp hy with rfl | hy
    · exact s.nm _ (List.mem_append_left _ hz)
    · exact s.nm y (List.mem_append_right _ (List.mem_append_right _ hy))
  · rcases List.mem_cons.mp q with e | q
    · exact s.out p hp (List.mem_append_left _ (e ▸ hz))
    · exact s.out p hp (List.mem_append_right _ (List.mem_append_right _ q))
  · have sz := s.sz
    have : 0 < fs.length := List.length_pos_of_mem hz
    rw [List.length_append, List.length_append] at sz
    rw [List.length_cons]
    omega
/-- blocks drawn so far; tl says that all but the first one begin with a number -/
structure DrE (tl : Bool) (d : Int) (as : List Num) (gs N N' : List Str) (c c' : Nat) (bs : Blks) : Prop where
  ok : bs.ok d = true
  tame : bs.tame
  drn : Drn gs bs.flat N N' c c'
  c1 : c' ≤ 1
  lens : ∀ f, EnvOk f → Fits as f → ∃ r, bs.lens f = some r ∧ (∀ p ∈ r, 0 ≤ p.1) ∧ (tl = true → ∀ p ∈ r.tail, 1 ≤ p.1)
theorem DrE.nil {tl : Bool} {d : Int} {as : List Num} {N : List Str} {c : Nat} (h : c ≤ 1) : DrE tl d as [] N N c c .nil :=
  ⟨by simp [Blks.ok], by simp [Blks.tame], Drn.nil, h, fun f _ _ => ⟨[], by simp [Blks.lens], (fun p hp => by cases hp), fun _ p hp => by cases hp⟩⟩
theorem DrE.snoc {tl : Bool} {d : Int} {as : List Num} {gs hs N N1 N2 : List Str} {c c1 c2 : Nat} {bs : Blks} {v : Int} {b : Its} (h : DrE tl d as gs N N1 c c1 bs) (g : DrB d as hs N1 N2 c1 c2 b) (k : tl = true → bs.len = 0 ∨ hs ≠ []) : DrE tl d as (gs ++ hs) N N2 c c2 (bs.snoc v b) := by
  refine ⟨by rw [snocB_ok, h.ok, g.ok, decide_eq_true g.len]; rfl, snocB_tame h.tame g.tame, by rw [snocB_flat]; exact h.drn.app g.drn, g.c1, fun f ef hf => ?_⟩
  obtain ⟨r, e1, r0, r1⟩ := h.lens f ef hf
  obtain ⟨l, e2, l0, l1⟩ := g.lens f ef hf
  refine ⟨r ++ [l], snocB_lens _ _ _ _ _ _ e1 e2, fun p hp => ?_, fun ht p hp => ?_⟩
  · rcases List.mem_append.mp hp with hp | hp
    · exact r0 p hp
    · obtain rfl := List.mem_singleton.mp hp
      exact l0
  · have rl := lensB_len e1
    cases r with
    | nil => cases hp
    | cons a r =>
      have hp : p ∈ r ++ [l] := hp
      rcases List.mem_append.mp hp with hp | hp
      · exact r1 ht p hp
      · obtain rfl := List.mem_singleton.mp hp
        exact l1 ((k ht).elim (fun z => by rw [z] at rl; cases rl) id)
theorem min_some {l : List Int} (h : l ≠ []) : ∃ a, l.min? = some a := by
  cases e : l.min? with
  | some a => exact ⟨a, rfl⟩
  | none => exact absurd (List.min?_eq_none_iff.mp e) h
theorem max_some {l : List Int} (h : l ≠ []) : ∃ a, l.max? = some a := by
  cases e : l.max? with
  | some a => exact ⟨a, rfl⟩
  | none => exact absurd (List.max?_eq_none_iff.mp e) h
theorem spread_some {r : List (Int × Int)} (h : r ≠ []) (h0 : ∀ p ∈ r, 0 ≤ p.1) : ∃ l, spread r = some l ∧ 0 ≤ l.1 := by
  obtain ⟨a, ha⟩ := min_some (l := r.map (·.1)) (by simpa using h)
  obtain ⟨b, hb⟩ := max_some (l := r.map (·.2)) (by simpa using h)
  refine ⟨(a, b), by unfold spread; rw [ha, hb], ?_⟩
  obtain ⟨p, hp, e⟩ := List.mem_map.mp (List.min?_eq_some_iff.mp ha).1
  show 0 ≤ a
  rw [← e]
  exact h0 p hp
theorem zeros_one : ∀ {r : List (Int × Int)}, (∀ p ∈ r.tail, 1 ≤ p.1) → (r.filter fun p => decide (p.1 = 0)).length ≤ 1
  | [], _ => by simp
  | p :: r, h => by
    have : r.filter (fun p => decide (p.1 = 0)) = [] := by
      rw [List.filter_eq_nil_iff]
      intro q hq
      have : 1 ≤ q.1 := h q hq
      simp
      omega
    rw [List.filter_cons, this]
    split <;> simp
theorem amt_some {as : List Num} {f : Env} {most : Int} {amt : Key} (ef : EnvOk f) (hf : Fits as f) (h : AmtOk as most amt) : ∃ l, amount f most amt = some l ∧ 0 ≤ l.1 := by
  cases amt with
  | inl i =>
    have h : 0 ≤ i ∧ i ≤ most := h
    exact ⟨(i, i), by simp only [amount]; rw [if_pos h], h.1⟩
  | inr z =>
    obtain ⟨lo, hi, hm, hh⟩ := h
    have e := hf _ hm
    have e : f z = some (lo, hi) := e
    exact ⟨(lo, hi), by simp only [amount, e]; rw [if_pos hh], (ef z _ e).1⟩
theorem amt_tame {as : List Num} {most : Int} {amt : Key} (anm : ∀ p ∈ as, isName p.1 = true) (h : AmtOk as most amt) : ∀ z, amt = .inr z → z.length ≤ 1000 ∧ (reprText z).length ≤ 1000 := by
  rintro z rfl
  obtain ⟨lo, hi, hm, _⟩ := h
  exact name_repr (anm _ hm)
/-! ### the items themselves -/
theorem Dr1.num {d : Int} {as : List Num} {n order : Str} {size lo hi : Int} {N : List Str} {c : Nat} (hd : d ≤ 3) (s : Sit as (n :: N) c) (hn : numOk size order lo hi = true) : Dr1 d as (n :: N) N c c (.num n size order lo hi) := by
  have nm := s.nm n (List.mem_cons_self ..)
  refine ⟨by simp [It.ok, It.name, nm, hd], by simp only [It.tame, It.name]; exact (name_repr nm).1, ⟨⟨[n], rfl, by simp [It.flat, It.name]⟩, by simp [It.flat, It.isChk]⟩, s.c1, fun f _ _ => ?_⟩
  obtain ⟨e, h1⟩ := num_lens (n := n) hn f
  exact ⟨_, e, by show 0 ≤ size; omega⟩
theorem Dr1.byt {d : Int} {as : List Num} {n : Str} {amt : Key} {N : List Str} {c : Nat} (hd : d ≤ 3) (s : Sit as (n :: N) c) (ha : AmtOk as 64 amt) : Dr1 d as (n :: N) N c c (.byt n amt) := by
  have nm := s.nm n (List.mem_cons_self ..)
  refine ⟨by simp [It.ok, It.name, nm, hd], by simp only [It.tame]; exact ⟨(name_repr nm).1, amt_tame s.anm ha⟩, ⟨⟨[n], rfl, by simp [It.flat, It.name]⟩, by simp [It.flat, It.isChk]⟩, s.c1, fun f ef hf => ?_⟩
  obtain ⟨l, e, h1⟩ := amt_some ef hf ha
  exact ⟨l, by simp only [It.lens]; exact e, h1⟩
theorem Dr1.txt {d : Int} {as : List Num} {n : Str} {st mo : Int} {N : List Str} {c : Nat} (hd : d ≤ 3) (s : Sit as (n :: N) c) (h1 : 0 ≤ st ∧ st ≤ 255) (h2 : 0 ≤ mo ∧ mo ≤ 64) : Dr1 d as (n :: N) N c c (.txt n st mo) := by
  have nm := s.nm n (List.mem_cons_self ..)
  exact ⟨by simp [It.ok, It.name, nm, hd], by simp only [It.tame, It.name]; exact (name_repr nm).1, ⟨⟨[n], rfl, by simp [It.flat, It.name]⟩, by simp [It.flat, It.isChk]⟩, s.c1, fun f ef hf => ⟨(1, mo + 1), by simp only [It.lens]; rw [if_pos ⟨h1, h2⟩], by show (0 : Int) ≤ 1; decide⟩⟩
theorem Dr1.chk {d : Int} {as : List Num} {n : Str} {m : Int} {N : List Str} (hd : d ≤ 3) (s : Sit as (n :: N) 0) (h1 : 1 ≤ m ∧ m ≤ 16) : Dr1 d as (n :: N) N 0 1 (.chk n m) := by
  have nm := s.nm n (List.mem_cons_self ..)
  exact ⟨by simp [It.ok, It.name, nm, hd], by simp only [It.tame, It.name]; exact (name_repr nm).1, ⟨⟨[n], rfl, by simp [It.flat, It.name]⟩, by simp only [It.flat]; rfl⟩, Nat.le_refl 1, fun f ef hf => ⟨(1, 1), by simp only [It.lens]; rw [if_pos h1], by show (0 : Int) ≤ 1; decide⟩⟩
theorem Dr1.pad {d : Int} {as : List Num} {n : Str} {m b : Int} {N : List Str} {c : Nat} (hd : d ≤ 3) (s : Sit as (n :: N) c) (h1 : m = 1 ∨ m = 2 ∨ m = 4 ∨ m = 8 ∨ m = 16) (h2 : 0 ≤ b ∧ b ≤ 255) : Dr1 d as (n :: N) N c c (.pad n m b) := by
  have nm := s.nm n (List.mem_cons_self ..)
  exact ⟨by simp [It.ok, It.name, nm, hd], by simp only [It.tame, It.name]; exact (name_repr nm).1, ⟨⟨[n], rfl, by simp [It.flat, It.name]⟩, by simp [It.flat, It.isChk]⟩, s.c1, fun f ef hf => ⟨(0, m - 1), by simp only [It.lens]; rw [if_pos ⟨h1, h2⟩], by show (0 : Int) ≤ 0; decide⟩⟩
theorem Dr1.rep {d : Int} {as : List Num} {n z : Str} {amt : Key} {b : Its} {N N' : List Str} {c c' : Nat} (hd : d ≤ 2) (nm : isName n = true) (anm : ∀ p ∈ as, isName p.1 = true) (ha : AmtOk as 16 amt) (g : DrB (d + 1) as [z] N N' c c' b) : Dr1 d as (n :: z :: N) N' c c' (.rep n amt b) := by
  refine ⟨by rw [It.ok, nm, decide_eq_true hd, decide_eq_true g.len, g.ok]; rfl, by simp only [It.tame]; exact ⟨(name_repr nm).1, amt_tame anm ha, g.tame⟩, ?_, g.c1, fun f ef hf => ?_⟩
  · have : Drn [n] [It.rep n amt b] N N c c := ⟨⟨[], rfl, by simp [It.name]⟩, by simp [It.isChk]⟩
    have := this.app g.drn
    rw [It.flat]
    exact Drn.pop (hs := [n, z]) (gs := []) this
  · obtain ⟨a, e1, a0⟩ := amt_some ef hf ha
    obtain ⟨l, e2, l0, l1⟩ := g.lens f ef hf
    have l1 := l1 (by simp)
    refine ⟨(a.1 * l.1, a.2 * l.2), by simp only [It.lens, e1, e2]; rw [if_pos l1], Int.mul_nonneg a0 l0⟩
theorem Dr1.eit {d : Int} {as : List Num} {n : Str} {fs : List Str} {bs : Blks} {N N' : List Str} {c c' : Nat} (hd : d ≤ 2) (nm : isName n = true) (hl : 2 ≤ bs.len ∧ bs.len ≤ 4) (g : DrE true (d + 1) as fs N N' c c' bs) : Dr1 d as (n :: (fs ++ N)) N' c c' (.eit n bs) := by
  refine ⟨by rw [It.ok, nm, decide_eq_true hd, decide_eq_true hl, g.ok]; rfl, by simp only [It.tame]; exact ⟨(name_repr nm).1, g.tame⟩, ?_, g.c1, fun f ef hf => ?_⟩
  · have : Drn [n] [It.eit n bs] N N c c := ⟨⟨[], rfl, by simp [It.name]⟩, by simp [It.isChk]⟩
    have := this.app g.drn
    rw [It.flat]
    exact Drn.pop (hs := n :: fs) (gs := []) (by rw [List.append_nil]; exact this)
  · obtain ⟨r, e1, r0, r1⟩ := g.lens f ef hf
    have rl := lensB_len e1
    obtain ⟨l, e2, l0⟩ := spread_some (r := r) (fun z => by rw [z] at rl; simp at rl; omega) r0
    exact ⟨l, by simp only [It.lens, e1]; rw [if_pos (zeros_one (r1 rfl))]; exact e2, l0⟩
theorem Dr1.swi {d : Int} {as : List Num} {n tag : Str} {bs : Blks} {N N' : List Str} {c c' : Nat} (hd : d ≤ 2) (nm : isName n = true) (hl : 1 ≤ bs.len ∧ bs.len ≤ 8) (ht : ∃ p ∈ as, p.1 = tag) (hv : (∀ v ∈ bs.vals, 0 ≤ v ∧ v ≤ 65535) ∧ bs.vals.Nodup) (g : DrE false (d + 1) as [] N N' c c' bs) : Dr1 d as (n :: N) N' c c' (.swi n tag bs) := by
  refine ⟨by rw [It.ok, nm, decide_eq_true hd, decide_eq_true hl, g.ok]; rfl, by simp only [It.tame]; exact ⟨(name_repr nm).1, hv.2, g.tame⟩, ?_, g.c1, fun f ef hf => ?_⟩
  · have : Drn [n] [It.swi n tag bs] N N c c := ⟨⟨[], rfl, by simp [It.name]⟩, by simp [It.isChk]⟩
    have := this.app g.drn
    rw [It.flat]
    exact Drn.pop (hs := [n]) (gs := []) this
  · obtain ⟨r, e1, r0, r1⟩ := g.lens f ef hf
    have rl := lensB_len e1
    obtain ⟨l, e2, l0⟩ := spread_some (r := r) (fun z => by rw [z] at rl; simp at rl; omega) r0
    obtain ⟨p, hp, et⟩ := ht
    have : (f tag).isSome = true := by rw [← et, hf p hp]; rfl
    exact ⟨l, by simp only [It.lens]; rw [if_pos ⟨this, hv⟩, e1]; exact e2, l0⟩
/-! ### a whole shape -/
theorem drawn_shape {bs : List Num} {k : Nat} {N N' : List Str} {c' : Nat} {x : Its} (hk : k ≤ 12) (hk1 : 0 < k) (hN : N.length ≤ 30) (hN1 : N ≠ []) (hnd : N.Nodup) (h : DrS 0 [] bs k N N' 0 c' x) : x.shape = true ∧ (x.walk 0).length ≤ 30 ∧ x.names.Nodup := by
  obtain ⟨⟨ps, e, pp⟩, ck⟩ := h.drn
  have wl : (x.walk 0).length = x.flat.length := by rw [← Its.walk_flat x 0, List.length_map]
  have fl : x.flat.length = ps.length := by have := pp.length_eq; simpa using this
  have pl : ps.length ≤ 30 := by rw [e, List.length_append] at hN; omega
  have nd : x.names.Nodup := by
    rw [Its.names_flat]
    exact pp.symm.nodup (by rw [e] at hnd; exact (List.nodup_append.mp hnd).1)
  obtain ⟨l, el, _⟩ := h.lens (fun _ => none) (fun z p q => by cases q) (fun p hp => by cases hp)
  have ckl : ((x.walk 0).filter (·.2.isChk)).length ≤ 1 := by
    rw [Its.checks_flat]
    have := h.sit.c1
    omega
  refine ⟨?_, by omega, nd⟩
  unfold Its.shape
  rw [decide_eq_true (by have := h.len; omega : x.len ≤ 12), h.ok, decide_eq_true (h.len1 hk1 hN1), decide_eq_true (by omega : (x.walk 0).length ≤ 30), decide_eq_true nd, decide_eq_true ckl, el]
  rfl
end Bs

set_option Elab.async false
set_option linter.all false
set_option maxRecDepth 100000
set_option maxHeartbeats 4000000
namespace Bs
open PySem L2
/-! ### blocks and items -/
def spItems (n : Nat) : Sp := fun vs H Q _ => ∃ (D : Dr4) (N : List Str) (c : Nat) (ah : Addr) (refs : List V) (as : List Num) (d : Int) (k : Nat), vs = [.ref D.a, .ref ah, .int d, .int (k : Int)] ∧ d + n = 3 ∧ DAt D H N c ∧ D.hid H ah = some (.lst refs) ∧ NumsAt (D.hid H) refs as ∧ Sit as N c ∧ k ≤ 12 ∧
  ∀ r xs x bs H' N' c', Same (D.hid H) (D.hid H') → DAt D H' N' c' → neu H H' r = some (.lst xs) → x.At false (neu H H') xs → DrS d as bs k N N' c c' x → Q (.ref r) H'
def spBlock (n : Nat) : Sp := fun vs H Q _ => ∃ (D : Dr4) (gs N : List Str) (c : Nat) (ah : Addr) (refs : List V) (as : List Num) (d : Int) (z : Str), vs = [.ref D.a, .ref ah, .int d, .str z] ∧ d + n = 3 ∧ DAt D H N c ∧ D.hid H ah = some (.lst refs) ∧ NumsAt (D.hid H) refs as ∧ (z = "" ∧ gs = [] ∨ z ≠ "" ∧ gs = [z]) ∧ Sit as (gs ++ N) c ∧
  ∀ r xs x H' N' c', Same (D.hid H) (D.hid H') → DAt D H' N' c' → neu H H' r = some (.lst xs) → x.At false (neu H H') xs → DrB d as gs N N' c c' x → Q (.ref r) H'
def spItem (n : Nat) : Sp := fun vs H Q _ => ∃ (D : Dr4) (N : List Str) (c : Nat) (ah : Addr) (refs : List V) (as : List Num) (d : Int), vs = [.ref D.a, .ref ah, .int d] ∧ d + n = 3 ∧ DAt D H N c ∧ D.hid H ah = some (.lst refs) ∧ NumsAt (D.hid H) refs as ∧ Sit as N c ∧ N ≠ [] ∧
  ∀ v y H' N' c', Same (D.hid H) (D.hid H') → DAt D H' N' c' → y.At false (neu H H') v → Dr1 d as N N' c c' y → Q v H'
def spNested (n : Nat) : Sp := fun vs H Q _ => ∃ (D : Dr4) (N : List Str) (c : Nat) (ah : Addr) (refs : List V) (as : List Num) (d kind : Int), vs = [.ref D.a, .ref ah, .int d, .int kind] ∧ d + n = 3 ∧ d ≤ 2 ∧ DAt D H N c ∧ D.hid H ah = some (.lst refs) ∧ NumsAt (D.hid H) refs as ∧ Sit as N c ∧ 14 ≤ N.length ∧
  ∀ v y H' N' c', Same (D.hid H) (D.hid H') → DAt D H' N' c' → y.At false (neu H H') v → Dr1 d as N N' c c' y → Q v H'
section
variable {P : Program} {w : World} {K : PySem.W.Frag} {mg : Str → Option Value} {base : Heap} {f : Addr} {fd : FuncData}
abbrev nBlock : List Str := ["draw", "ahead", "depth", "name", "many", "number"]
theorem scBlock : FnScope nBlock ["draw", "ahead", "depth", "name"] (defScope sLawBlock) := ⟨rfl, rfl, rfl, by decide +kernel, rfl, by decide +kernel, by decide +kernel⟩
theorem ok_block {n k : Nat} (hk : 2 ≤ k) (F : Fun K "_law_block" "_law_block" sLawBlock f fd) (gX : Cal P w K mg base CX0 1 "_law_next" ["draw", "many"] spNext) (gN : Cal P w K mg base CX0 2 "_law_number" ["draw", "name"] spNumber) (gI : Cal P w K mg base CX0 k "_law_items" ["draw", "ahead", "depth", "many"] (spItems n)) :
    FnOk P w K mg base CX0 (k + 1) f fd ["draw", "ahead", "depth", "name"] (spBlock n) := by
  refine F.ok scBlock (fun vs H Q E h => ?_) (fun cdv A outer s H vs Q E hr h => ?_)
  · obtain ⟨D, gs, N, c, ah, refs, as, d, z, rfl, _⟩ := h
    rfl
  · obtain ⟨D, gs, N, c, ah, refs, as, d, z, rfl, hd, da, hah, hnum, hz, hs, q⟩ := h
    refine ⟨_, pss_cons (ps_set (i := 4) scBlock.nd rfl (.inl rfl) (pe_cal gX (hr.mono (by omega)) pass0 (pa_cons (pv 0) (pa_cons pe_int pa_nil))))
      (pss_cons (ps_if (pt_cmpR op_ne (pv 3) pe_str (nomark _)) (pss_cons (ps_set (i := 5) scBlock.nd rfl (.inl rfl) (pe_cal gN (hr.mono hk) pass0 (pa_cons (pv 0) (pa_cons (pv 3) pa_nil))))
          (pss_one (ps_ret (pe_op op_cat (pe_lst (pa_cons (pv 5) pa_nil)) (pe_cal gI hr pass0 (pa_cons (pv 0) (pa_cons (pe_op op_cat (pv 1) (pe_lst (pa_cons (pv 5) pa_nil))) (pa_cons (pv 2) (pa_cons (pv 4) pa_nil))))))))) pss_nil)
      (pss_one (ps_ret (pe_cal gI hr pass0 (pa_cons (pv 0) (pa_cons (pv 1) (pa_cons (pv 2) (pa_cons (pv 4) pa_nil)))))))), ?_⟩
    refine ⟨_, rfl, D, N, c, 3, rfl, da, by decide, fun r H1 r0 r1 e1 d1 => ?_⟩
    obtain ⟨m, rfl⟩ := Int.eq_ofNat_of_zero_le r0
    have hm : m ≤ 2 := by omega
    refine ⟨_, rfl, rfl, _, rfl, ?_⟩
    rcases hz with ⟨hz, rfl⟩ | ⟨hz, rfl⟩
    · rw [decide_eq_true (congrArg V.str hz)]
      refine iteF ?_
      refine ⟨_, rfl, _, rfl, _, rfl, _, rfl, D, N, c, ah, refs, as, d, m, rfl, hd, d1, by rw [e1]; exact hah, by rw [e1]; exact hnum, hs, by omega, fun r xs x bs H2 N' c' S2 d2 h2 a2 dr => ?_⟩
      have S2 : Same (D.hid H) (D.hid H2) := by rw [e1] at S2; exact S2
      have nm := neu_mono (H0 := H) d1 (fun b hb => free_of d1 (same_eq e1) hb) (Same.refl (D.hid H2))
      exact q r xs x H2 N' c' S2 d2 (nm _ _ h2) (a2.same nm) (dr.block (by omega))
    · rw [decide_eq_false (fun e => hz (V.str.inj e))]
      refine iteT ?_
      have hs : Sit as (z :: N) c := hs
      have nm := hs.nm z (List.mem_cons_self ..)
      refine ⟨_, rfl, _, rfl, D, N, c, z, rfl, d1, fun t H2 size order lo hi S2 d2 h2 hn => ?_⟩
      rw [e1] at S2
      have n2 := neu_mono (H0 := H) d1 (fun b hb => free_of d1 (same_eq e1) hb) (Same.refl (D.hid H2)) _ _ h2
      refine ⟨_, rfl, (by show 1 ≤ sizeLine; decide), fun p1 hp1 => ?_⟩
      obtain ⟨d3, s3, g3⟩ := d2.new hp1 (.lst [.ref t])
      generalize upd H2 p1 (.lst [.ref t]) = H3 at d3 s3 g3 ⊢
      have S3 := S2.trans s3
      refine ⟨_, rfl, _, rfl, _, rfl, (by show 1 ≤ sizeLine; decide), fun p2 hp2 => ?_⟩
      obtain ⟨d4, s4, g4⟩ := d3.new hp2 (.lst [.ref t])
      generalize upd H3 p2 (.lst [.ref t]) = H4 at d4 s4 g4 ⊢
      have S4 := S3.trans s4
      have rl := hnum.len
      have sz := hs.sz
      rw [List.length_cons] at sz
      refine ⟨ah, p2, refs, [.ref t], rfl, rfl, hid_le _ _ (S4 _ _ hah), hid_le _ _ g4, le_line (by rw [List.length_singleton]; omega), fun p3 hp3 => ?_⟩
      obtain ⟨d5, s5, g5⟩ := d4.new hp3 (.lst (refs ++ [.ref t]))
      generalize upd H4 p3 (.lst (refs ++ [.ref t])) = H5 at d5 s5 g5 ⊢
      have S5 := S4.trans s5
      have s25 := s3.trans (s4.trans s5)
      have h5 := s25 _ _ (neu_hid da _ _ n2)
      refine ⟨_, rfl, _, rfl, D, N, c, p3, _, as ++ [(z, lo, hi)], d, m, rfl, hd, d5, g5, NumsAt.app ⟨t, size, order, rfl, h5⟩ (hnum.same S5), hs.add, by omega, fun r xs x bs H6 N' c' S6 d6 h6 a6 dr => ?_⟩
      have lx := a6.len
      have ll := dr.len
      refine ⟨p1, r, [.ref t], xs, rfl, rfl, hid_le _ _ (S6 _ _ ((s4.trans s5) _ _ g3)), neu_le _ _ h6, le_line (by rw [List.length_singleton]; omega), fun p7 hp7 => ?_⟩
      obtain ⟨d7, s7, g7⟩ := d6.new hp7 (.lst ([.ref t] ++ xs))
      have S56 := S5.trans S6
      refine q p7 _ (.cons (.num z size order lo hi) x) _ N' c' (S56.trans s7) d7 (by rw [neu_at (free_of d6 S56 hp7)]; exact upd_same) ?_ (dr.blockN (by omega) nm (name_repr nm).1 (fun p hp e => hs.out p hp (by rw [e]; exact List.mem_cons_self ..)) hn (by omega))
      simp only [Its.At, It.At]
      exact ⟨.ref t, xs, rfl, ⟨t, rfl, neu_mono da (fun b hb => hb) (s25.trans (S6.trans s7)) _ _ n2⟩, a6.same (neu_mono d5 (fun b hb => free_of d5 S5 hb) s7)⟩
end
end Bs

set_option Elab.async false
set_option linter.all false
set_option maxRecDepth 100000
set_option maxHeartbeats 4000000
namespace Bs
open PySem L2
theorem same_wr {G H : Hp} {b : Addr} {o : HO} (s : Same G H) (h : G b = none) : Same G (upd H b o) := same_set s h
/-- a list that the frame owns is written -/
theorem own_wr {D : Dr4} {H H' : Hp} {N : List Str} {c : Nat} {b : Addr} {o : HO} (d : DAt D H' N c) (s : Same (D.hid H) (D.hid H')) (h : H b = none) (h2 : ¬ D.has b) : Same (D.hid H) (D.hid (upd H' b o)) := by
  rw [hid_upd h2]
  exact same_set s (hid_none h)
theorem isnum {y : It} : decide (V.str y.kind = V.str "number") = (match y with | .num .. => true | _ => false) := by
  cases y with
  | num => exact decide_eq_true rfl
  | _ => exact decide_eq_false (kne (by simp only [It.kind]; decide +kernel))
section
variable {P : Program} {w : World} {K : PySem.W.Frag} {mg : Str → Option Value} {base : Heap} {f : Addr} {fd : FuncData}
abbrev nItems : List Str := ["draw", "ahead", "depth", "many", "items", "visible", "k", "item"]
theorem scItems : FnScope nItems ["draw", "ahead", "depth", "many"] (defScope sLawItems) := ⟨rfl, rfl, rfl, by decide +kernel, rfl, by decide +kernel, by decide +kernel⟩
theorem ok_items {n k : Nat} (F : Fun K "_law_items" "_law_items" sLawItems f fd) (gT : Cal P w K mg base CX0 k "_law_item" ["draw", "ahead", "depth"] (spItem n)) (mlist : mg "list" = none) (mr : mg "range" = none) (ml : mg "len" = none) :
    FnOk P w K mg base CX0 (k + 1) f fd ["draw", "ahead", "depth", "many"] (spItems n) := by
  refine F.ok scItems (fun vs H Q E h => ?_) (fun cdv A outer s H vs Q E hr h => ?_)
  · obtain ⟨D, N, c, ah, refs, as, d, m, rfl, _⟩ := h
    rfl
  · obtain ⟨D, N, c, ah, refs, as, d, m, rfl, hd, da, hah, hnum, hs, hm, q⟩ := h
    refine ⟨_, pss_cons (ps_set (i := 4) scItems.nd rfl (.inl rfl) (pe_lst pa_nil))
      (pss_cons (ps_set (i := 5) scItems.nd rfl (.inl rfl) (pe_callTy call_list_of (by rfl) mlist (by decide +kernel) (pa_cons (pv 1) pa_nil)))
      (pss_cons (ps_for PassesOwn.never rfl (pi_range1 (by rfl) mr (pa_cons (pv 3) pa_nil)) (pg_name (i := 6) scItems.nd rfl (.inl rfl))
        (pss_one (ps_if (pt_cmpR op_gt (pe_callB call_len (by rfl) ml boot_len (pa_cons (pe_ix ix_list (pv 0) pe_int (fun _ _ => rfl)) pa_nil)) pe_int (nomark _))
          (pss_cons (ps_set (i := 7) scItems.nd rfl (.inl rfl) (pe_cal gT hr pass0 (pa_cons (pv 0) (pa_cons (pv 5) (pa_cons (pv 2) pa_nil)))))
          (pss_cons (ps_expr (pe_bm PySem.F.plainAttrs_list PySem.F.slot_list_append PySem.F.type_list_append mt_append (pv 4) (pa_cons (pv 7) pa_nil)))
          (pss_one (ps_if (pt_cmpR op_eq (pe_ix ix_tup (pv 7) pe_int (fun _ _ => rfl)) pe_str (nomark _)) (pss_one (ps_expr (pe_bm PySem.F.plainAttrs_list PySem.F.slot_list_append PySem.F.type_list_append mt_append (pv 5) (pa_cons (pv 7) pa_nil)))) pss_nil)))) pss_nil)))
      (pss_one (ps_ret (pv 4))))), ?_⟩
    refine ⟨(by show 0 ≤ sizeLine; decide), fun L hL => ?_⟩
    obtain ⟨d1, s1, g1⟩ := da.new hL (.lst [])
    have hah1 := s1 _ _ hah
    refine ⟨_, rfl, ah, _, rfl, .inl (SqL.of (hid_le _ _ hah1)), fun W hW => ?_⟩
    obtain ⟨d2, s2, g2⟩ := d1.new hW (.lst refs)
    have nLW : W ≠ L := fun e => by rw [e, upd_same] at hW; cases hW
    have hW0 : H W = none := by rw [upd_ne nLW] at hW; exact hW
    obtain ⟨B, hB⟩ : ∃ B, B = upd (upd H L (.lst [])) W (.lst refs) := ⟨_, rfl⟩
    have dB : DAt D B N c := by rw [hB]; exact d2
    have S2 : Same (D.hid H) (D.hid B) := by rw [hB]; exact s1.trans s2
    have BL : B L = some (.lst []) := by rw [hB, upd_ne nLW.symm, upd_same]
    have BW : B W = some (.lst refs) := by rw [hB, upd_same]
    have nL : ¬ D.has L := da.fresh hL
    have nW : ¬ D.has W := da.fresh hW0
    have Bdom : ∀ b, B b = none → H b = none := fun b hb => free_of dB S2 hb
    refine ⟨_, rfl, (m : Int), rfl, by omega, by omega, for_range (lo := 0) (n := m) (fun i σ H' => ∃ i6 i7, σ = [some (.ref D.a), some (.ref ah), some (.int d), some (.int (m : Int)), some (.ref L), some (.ref W), i6, i7] ∧
        ∃ N' c' x bs xs rf, Same (D.hid H) (D.hid H') ∧ DAt D H' N' c' ∧ H' L = some (.lst xs) ∧ x.At false (neu B H') xs ∧ H' W = some (.lst rf) ∧ NumsAt (D.hid H') rf bs ∧ DrS d as bs i N N' c c' x)
      ⟨none, none, rfl, N, c, .nil, as, [], refs, by rw [← hB]; exact S2, by rw [← hB]; exact dB, by rw [← hB]; exact BL, by simp [Its.At], by rw [← hB]; exact BW, by rw [← hB]; exact hnum.same S2, DrS.start hs⟩ ?_ ?_⟩
    · rintro i σ H2 hi ⟨i6, i7, rfl, N2, c2, x, bs, xs, rf, S, d2, hL2, hat, hW2, hnu, dr⟩
      obtain ⟨ii, ha⟩ := d2.a
      refine ⟨_, rfl, D.a, _, 2, _, rfl, rfl, SqL.of ha, atI_nat (j := 2) rfl, _, _, rfl, .inl ⟨_, SqL.of d2.nl, rfl⟩, _, _, rfl, rfl, _, rfl, ?_⟩
      rw [List.length_map]
      refine ite2 (fun e => ?_) (fun e => ?_)
      · have e : (0 : Int) < N2.length := of_decide_eq_true e
        refine ⟨_, rfl, _, rfl, _, rfl, D, N2, c2, W, rf, bs, d, rfl, hd, d2, by rw [hid_at nW]; exact hW2, hnu, dr.sit, (fun z => by rw [z] at e; simp at e), fun v y H3 N3 c3 S3 d3 ay dy => ?_⟩
        have hL3 := hid_le _ _ (S3 L _ (by rw [hid_at nL]; exact hL2))
        have hW3 := hid_le _ _ (S3 W _ (by rw [hid_at nW]; exact hW2))
        have lx := hat.len
        have ll := dr.len
        refine ⟨_, rfl, .inl ⟨rfl, _, SqL.of hL3⟩, _, rfl, L, xs, v, rfl, rfl, hL3, small1000 (by omega), ?_⟩
        have S4 : Same (D.hid H) (D.hid (upd H3 L (.lst (xs ++ [v])))) := own_wr d3 (S.trans S3) hL nL
        have d4 : DAt D (upd H3 L (.lst (xs ++ [v]))) N3 c3 := d3.off nL
        have hL4 : (upd H3 L (.lst (xs ++ [v]))) L = some (.lst (xs ++ [v])) := upd_same
        have hW4 : (upd H3 L (.lst (xs ++ [v]))) W = some (.lst rf) := by rw [upd_ne nLW]; exact hW3
        have neq : neu B (upd H3 L (.lst (xs ++ [v]))) = neu B H3 := neu_own (by rw [BL]; simp)
        have B2 : ∀ b, H2 b = none → B b = none := fun b hb => by
          by_cases e1 : b = L
          · rw [e1, hL2] at hb; cases hb
          by_cases e2 : b = W
          · rw [e2, hW2] at hb; cases hb
          rw [hB, upd_ne e2, upd_ne e1]
          exact free_of d2 S hb
        have hat4 : (x.snoc y).At false (neu B (upd H3 L (.lst (xs ++ [v])))) (xs ++ [v]) := by
          rw [neq]
          exact snoc_at (hat.same (neu_mono dB (fun b hb => hb) S3)) (ay.same (neu_mono d2 B2 (Same.refl _)))
        have tk : ∀ b ys, H3 b = some (.tup ys) → (upd H3 L (.lst (xs ++ [v]))) b = some (.tup ys) := fun b ys e => by rw [upd_ne (ne_of e hL3 (by intro z; cases z))]; exact e
        have kp4 : Kp true (D.hid H2) (D.hid (upd H3 L (.lst (xs ++ [v])))) := ⟨fun b ys e => by
          rw [hid_upd nL, upd_ne (fun z => by rw [z, hid_at nL, hL2] at e; cases e)]
          exact S3 _ _ e, fun z => by cases z⟩
        have hnu4 := hnu.kp kp4
        obtain ⟨p, rest, ev, hp, _⟩ := At_head ay
        have hp3 := neu_le _ _ hp
        have hp4 := tk _ _ hp3
        have hyy := ay
        generalize upd H3 L (.lst (xs ++ [v])) = H4 at S4 d4 hL4 hW4 neq hat4 hnu4 hp4 tk ⊢
        subst ev
        refine ⟨_, rfl, p, _, 0, _, rfl, rfl, SqT.of hp4, atI_nat (j := 0) rfl, rfl, _, rfl, ?_⟩
        rw [isnum]
        cases y with
        | num nm size order lo hi' =>
          refine iteT ?_
          refine ⟨_, rfl, .inl ⟨rfl, _, SqL.of hW4⟩, _, rfl, W, rf, .ref p, rfl, rfl, hW4, small1000 (by have := hnu.len; have := dr.sit.sz; omega), ?_⟩
          have kp5 : Kp true (D.hid H4) (D.hid (upd H4 W (.lst (rf ++ [.ref p])))) := ⟨fun b ys e => by
            rw [hid_upd nW, upd_ne (fun z => by rw [z, hid_at nW, hW4] at e; cases e)]
            exact e, fun z => by cases z⟩
          have neq5 : neu B (upd H4 W (.lst (rf ++ [.ref p]))) = neu B H4 := neu_own (by rw [BW]; simp)
          simp only [It.At] at hyy
          obtain ⟨p', ep, hpn⟩ := hyy
          cases ep
          have hpd : D.hid (upd H4 W (.lst (rf ++ [.ref p]))) p = some (.tup [.str "number", .str nm, .int size, .str order, .int lo, .int hi']) := by
            have := tk _ _ (neu_le _ _ hpn)
            have nD : ¬ D.has p := d2.fresh (neu_in hpn).1
            refine kp5.t _ _ ?_
            rw [hid_at nD]
            exact this
          exact ⟨_, _, rfl, N3, c3, _, bs ++ [(nm, lo, hi')], _, _, own_wr d4 S4 hW0 nW, d4.off nW, by rw [upd_ne nLW.symm]; exact hL4, by rw [neq5]; exact hat4, upd_same, NumsAt.app ⟨p, size, order, rfl, hpd⟩ (hnu4.kp kp5), dr.stepN dy⟩
        | _ => exact iteF ⟨_, _, rfl, N3, c3, _, bs, _, rf, S4, d4, hL4, hat4, hW4, hnu4, dr.step dy (fun _ => rfl)⟩
      · have e : ¬ (0 : Int) < N2.length := fun z => e (decide_eq_true z)
        have eN : N2 = [] := by cases N2 with
          | nil => rfl
          | cons a r => exact absurd (by simp) e
        exact ⟨_, _, rfl, N2, c2, x, bs, xs, rf, S, d2, hL2, hat, hW2, hnu, dr.skip eN⟩
    · rintro σ H2 ⟨i6, i7, rfl, N2, c2, x, bs, xs, rf, S, d2, hL2, hat, hW2, hnu, dr⟩
      refine ⟨_, rfl, q L xs x bs H2 N2 c2 S d2 (by rw [neu_at hL]; exact hL2) (hat.same (neu_mono dB Bdom (Same.refl _))) dr⟩
end
end Bs

set_option Elab.async false
set_option linter.all false
set_option maxRecDepth 100000
set_option maxHeartbeats 4000000
namespace Bs
open PySem L2
theorem with_rest {t u : TS} {D : Ends} {σ : L2.St} {H : Hp} (Pv : L2.St → Hp → Prop) (h2 : ∀ σ' H', Pv σ' H' → u D σ' H') (h1 : (∀ σ' H', Pv σ' H' → u D σ' H') → tSeq t u D σ H) : tSeq t u D σ H := h1 h2
/-! ### draws in short -/
theorem pop_go {K : PySem.W.Frag} {D : Dr4} {H : Hp} {z : Str} {N : List Str} {c : Nat} {σ : L2.St} {R : V → Hp → Prop} (h0 : σ[0]? = some (some (.ref D.a))) (da : DAt D H (z :: N) c) (h : ∀ H', DAt D H' N c → D.hid H' = D.hid H → R (.str z) H') :
    tBM K "list" rPopAt (tOp (rIxL K) (tVar 0) (tC (.int 2))) (tCons (tC (.int 0)) tNil) σ H R := by
  obtain ⟨i, ha⟩ := da.a
  refine ⟨_, h0, D.a, _, 2, _, rfl, rfl, SqL.of ha, atI_nat (j := 2) rfl, .inl ⟨rfl, _, SqL.of da.nl⟩, D.nl, _, 0, 0, _, rfl, rfl, da.nl, by decide, by decide, by unfold seqIndex?; simp, rfl, ?_⟩
  exact h _ da.pop (hid_own (.inr (.inl rfl)))
theorem next_go {D : Dr4} {H : Hp} {N : List Str} {c : Nat} {m : Int} {E : XK} {σ : L2.St} {R : V → Hp → Prop} (h0 : σ[0]? = some (some (.ref D.a))) (da : DAt D H N c) (hm : 0 < m) (h : ∀ r H', 0 ≤ r → r < m → DAt D H' N c → D.hid H' = D.hid H → R (.int r) H') :
    tCl spNext E (tCons (tVar 0) (tCons (tC (.int m)) tNil)) σ H R :=
  ⟨_, h0, D, N, c, m, rfl, da, hm, fun r H' a b e d => h r H' a b d e⟩
/-- [..][_law_next(draw, m)], the display made -/
theorem pick_go {K : PySem.W.Frag} {D : Dr4} {H : Hp} {N : List Str} {c : Nat} {m : Int} {E : XK} {σ : L2.St} {R : V → Hp → Prop} {is : List Int} (h0 : σ[0]? = some (some (.ref D.a))) (da : DAt D H N c) (hm : (is.length : Int) = m) (hp : 0 < m)
    (h : ∀ i H', i ∈ is → DAt D H' N c → Same (D.hid H) (D.hid H') → R (.int i) H') :
    ∀ p, H p = none → tCl spNext E (tCons (tVar 0) (tCons (tC (.int m)) tNil)) σ (upd H p (.lst (is.map V.int))) fun y H2 => rIxL K (.ref p) y H2 R := fun p hp2 => by
  obtain ⟨d1, s1, g1⟩ := da.new hp2 (.lst (is.map V.int))
  refine next_go h0 d1 hp fun r H' a b d e => ?_
  obtain ⟨i, hi, ai⟩ := at_ints (is := is) a (by rw [hm]; exact b)
  exact ⟨p, _, _, _, rfl, rfl, SqL.of (hid_stay e g1), ai, h i H' hi d (by rw [e]; exact s1)⟩
section
variable {P : Program} {w : World} {K : PySem.W.Frag} {mg : Str → Option Value} {base : Heap} {f : Addr} {fd : FuncData}
abbrev nItem : List Str := ["draw", "ahead", "depth", "kind"]
theorem scItem : FnScope nItem ["draw", "ahead", "depth"] (defScope sLawItem) := ⟨rfl, rfl, rfl, by decide +kernel, rfl, by decide +kernel, by decide +kernel⟩
theorem ok_item {n k : Nat} (hk : 2 ≤ k) (F : Fun K "_law_item" "_law_item" sLawItem f fd) (gX : Cal P w K mg base CX0 1 "_law_next" ["draw", "many"] spNext) (gN : Cal P w K mg base CX0 2 "_law_number" ["draw", "name"] spNumber) (gU : Cal P w K mg base CX0 2 "_law_use" ["draw", "ahead", "most"] spUse)
    (gS : Cal P w K mg base CX0 k "_law_nested" ["draw", "ahead", "depth", "kind"] (spNested n)) (ml : mg "len" = none) :
    FnOk P w K mg base CX0 (k + 1) f fd ["draw", "ahead", "depth"] (spItem n) := by
  refine F.ok scItem (fun vs H Q E h => ?_) (fun cdv A outer s H vs Q E hr h => ?_)
  · obtain ⟨D, N, c, ah, refs, as, d, rfl, _⟩ := h
    rfl
  · obtain ⟨D, N, c, ah, refs, as, d, rfl, hd, da, hah, hnum, hs, hN, q⟩ := h
    have hr1 : Room 1 _ := hr.mono (by omega)
    have hr2 : Room 2 _ := hr.mono hk
    refine ⟨_, pss_cons (ps_set (i := 3) scItem.nd rfl (.inl rfl) (pe_cal gX hr1 pass0 (pa_cons (pv 0) (pa_cons pe_int pa_nil))))
      (pss_cons (ps_if (PW.pt (pw_or (pt_cmpR op_lt (pv 3) pe_int (nomark _)) (pw_or1 (PW.pt (pw_and (pt_cmpR op_eq (pv 3) pe_int (nomark _)) (pw_and1 (pt_cmpR op_gt (pe_callB call_len (by rfl) ml boot_len (pa_cons (pe_ix ix_list (pv 0) pe_int (fun _ _ => rfl)) pa_nil)) pe_int (nomark _))))))))
        (pss_one (ps_ret (pe_cal gN hr2 pass0 (pa_cons (pv 0) (pa_cons (pe_bm PySem.F.plainAttrs_list PySem.F.slot_list_pop PySem.F.type_list_pop mt_popAt (pe_ix ix_list (pv 0) pe_int (fun _ _ => rfl)) (pa_cons pe_int pa_nil)) pa_nil))))) pss_nil)
      (pss_cons (ps_if (pt_cmpR op_eq (pv 3) pe_int (nomark _)) (pss_one (ps_ret (pe_tup (pa_cons pe_str (pa_cons (pe_bm PySem.F.plainAttrs_list PySem.F.slot_list_pop PySem.F.type_list_pop mt_popAt (pe_ix ix_list (pv 0) pe_int (fun _ _ => rfl)) (pa_cons pe_int pa_nil))
          (pa_cons (pe_cal gU hr2 pass0 (pa_cons (pv 0) (pa_cons (pv 1) (pa_cons pe_int pa_nil)))) pa_nil)))))) pss_nil)
      (pss_cons (ps_if (pt_cmpR op_eq (pv 3) pe_int (nomark _)) (pss_one (ps_ret (pe_tup (pa_cons pe_str (pa_cons (pe_bm PySem.F.plainAttrs_list PySem.F.slot_list_pop PySem.F.type_list_pop mt_popAt (pe_ix ix_list (pv 0) pe_int (fun _ _ => rfl)) (pa_cons pe_int pa_nil))
          (pa_cons (pe_ix ix_list (pe_lst (pa_cons pe_int (pa_cons pe_int (pa_cons pe_int pa_nil)))) (pe_cal gX hr1 pass0 (pa_cons (pv 0) (pa_cons pe_int pa_nil))) (fun _ _ => rfl))
          (pa_cons (pe_ix ix_list (pe_lst (pa_cons pe_int (pa_cons pe_int (pa_cons (pe_cal gX hr1 pass0 (pa_cons (pv 0) (pa_cons pe_int pa_nil))) pa_nil)))) (pe_cal gX hr1 pass0 (pa_cons (pv 0) (pa_cons pe_int pa_nil))) (fun _ _ => rfl)) pa_nil))))))) pss_nil)
      (pss_cons (ps_if (pt_cmpR op_eq (pv 3) pe_int (nomark _)) (pss_cons (ps_expr (pe_bm PySem.F.plainAttrs_list PySem.F.slot_list_append PySem.F.type_list_append mt_append (pe_ix ix_list (pv 0) pe_int (fun _ _ => rfl)) (pa_cons pe_int pa_nil)))
          (pss_one (ps_ret (pe_tup (pa_cons pe_str (pa_cons (pe_bm PySem.F.plainAttrs_list PySem.F.slot_list_pop PySem.F.type_list_pop mt_popAt (pe_ix ix_list (pv 0) pe_int (fun _ _ => rfl)) (pa_cons pe_int pa_nil))
          (pa_cons (pe_ix ix_list (pe_lst (pa_cons pe_int (pa_cons pe_int (pa_cons (pe_op op_add pe_int (pe_cal gX hr1 pass0 (pa_cons (pv 0) (pa_cons pe_int pa_nil)))) pa_nil)))) (pe_cal gX hr1 pass0 (pa_cons (pv 0) (pa_cons pe_int pa_nil))) (fun _ _ => rfl)) pa_nil))))))) pss_nil)
      (pss_cons (ps_if (pt_cmpR op_eq (pv 3) pe_int (nomark _)) (pss_one (ps_ret (pe_tup (pa_cons pe_str (pa_cons (pe_bm PySem.F.plainAttrs_list PySem.F.slot_list_pop PySem.F.type_list_pop mt_popAt (pe_ix ix_list (pv 0) pe_int (fun _ _ => rfl)) (pa_cons pe_int pa_nil))
          (pa_cons (pe_ix ix_list (pe_lst (pa_cons pe_int (pa_cons pe_int (pa_cons pe_int (pa_cons pe_int (pa_cons pe_int pa_nil)))))) (pe_cal gX hr1 pass0 (pa_cons (pv 0) (pa_cons pe_int pa_nil))) (fun _ _ => rfl))
          (pa_cons (pe_ix ix_list (pe_lst (pa_cons pe_int (pa_cons pe_int (pa_cons (pe_cal gX hr1 pass0 (pa_cons (pv 0) (pa_cons pe_int pa_nil))) pa_nil)))) (pe_cal gX hr1 pass0 (pa_cons (pv 0) (pa_cons pe_int pa_nil))) (fun _ _ => rfl)) pa_nil))))))) pss_nil)
      (pss_cons (ps_if (PW.pt (pw_or (pt_cmpR op_eq (pv 2) pe_int (nomark _)) (pw_or1 (pt_cmpR op_lt (pe_callB call_len (by rfl) ml boot_len (pa_cons (pe_ix ix_list (pv 0) pe_int (fun _ _ => rfl)) pa_nil)) pe_int (nomark _)))))
        (pss_one (ps_ret (pe_cal gN hr2 pass0 (pa_cons (pv 0) (pa_cons (pe_bm PySem.F.plainAttrs_list PySem.F.slot_list_pop PySem.F.type_list_pop mt_popAt (pe_ix ix_list (pv 0) pe_int (fun _ _ => rfl)) (pa_cons pe_int pa_nil)) pa_nil))))) pss_nil)
      (pss_one (ps_ret (pe_cal gS hr pass0 (pa_cons (pv 0) (pa_cons (pv 1) (pa_cons (pv 2) (pa_cons (pv 3) pa_nil))))))))))))), ?_⟩
    obtain ⟨z, N1, rfl⟩ : ∃ z r, N = z :: r := by
      cases N with
      | nil => exact absurd rfl hN
      | cons z r => exact ⟨z, r, rfl⟩
    have hd3 : d ≤ 3 := by omega
    have nm := hs.nm z (List.mem_cons_self ..)
    refine next_go rfl da (by decide) fun kind H1 k0 k1 d1 e1 => ?_
    -- a number
    have num : ∀ H2 σ, σ[0]? = some (some (.ref D.a)) → DAt D H2 (z :: N1) c → D.hid H2 = D.hid H → tCl spNumber E0 (tCons (tVar 0) (tCons (tBM K "list" rPopAt (tOp (rIxL K) (tVar 0) (tC (.int 2))) (tCons (tC (.int 0)) tNil)) tNil)) σ H2 (fun x H3 => Q x H3) := fun H2 σ h0 d2 e2 => by
      refine ⟨_, h0, pop_go h0 d2 fun H3 d3 e3 => ⟨D, N1, c, z, rfl, d3, fun t H4 size order lo hi S4 d4 h4 hn => ?_⟩⟩
      have S : Same (D.hid H) (D.hid H3) := by rw [e3, e2]; exact Same.refl _
      refine q (.ref t) (.num z size order lo hi) H4 N1 c (S.trans S4) d4 ?_ (Dr1.num hd3 hs hn)
      simp only [It.At]
      exact ⟨t, rfl, neu_mono d3 (fun b hb => free_of d3 S hb) (Same.refl _) _ _ h4⟩
    have S1 : Same (D.hid H) (D.hid H1) := by rw [e1]; exact Same.refl _
    -- a tuple is made
    have mk : ∀ (y : It) (xs : List V) (H' : Hp) (N' : List Str) (c' : Nat), Same (D.hid H) (D.hid H') → DAt D H' N' c' → (∀ p G, G p = some (.tup xs) → y.At false G (.ref p)) → Dr1 d as (z :: N1) N' c c' y → ∀ p, H' p = none → Q (.ref p) (upd H' p (.tup xs)) := fun y xs H' N' c' S' d' hy dy p hp => by
      obtain ⟨d2, s2, _⟩ := d'.new hp (.tup xs)
      exact q _ y _ N' c' (S'.trans s2) d2 (hy p _ (by rw [neu_at (free_of d' S' hp)]; exact upd_same)) dy
    dsimp only
    refine with_rest (fun σ' H' => σ' = [some (.ref D.a), some (.ref ah), some (.int d), some (.int kind)] ∧ H' = H1 ∧ ¬ kind < 3 ∧ (kind = 8 → c = 0)) ?_ fun rest => ?_
    rotate_left
    · refine ⟨_, rfl, _, _, rfl, rfl, _, rfl, ?_⟩
      refine ite2 (fun _ => iteT (num H1 _ rfl d1 e1)) (fun n3 => ?_)
      have n3 : ¬ kind < 3 := fun z => n3 (decide_eq_true z)
      refine ⟨_, rfl, rfl, _, rfl, ?_⟩
      rw [int_eq]
      refine ite2 (fun k8 => ?_) (fun k8 => ?_)
      · obtain ⟨ii, ha⟩ := d1.a
        obtain ⟨ms, hm, hml⟩ := d1.ml
        refine ⟨_, rfl, D.a, _, 3, _, rfl, rfl, SqL.of ha, atI_nat (j := 3) rfl, _, _, rfl, .inl ⟨_, SqL.of hm, rfl⟩, _, _, rfl, rfl, _, rfl, ?_⟩
        rw [hml]
        refine ite2 (fun _ => num H1 _ rfl d1 e1) (fun e => rest _ _ ⟨rfl, rfl, n3, fun _ => ?_⟩)
        have e : ¬ (0 : Int) < c := fun z => e (decide_eq_true z)
        omega
      · have k8 : ¬ kind = 8 := fun z => k8 (decide_eq_true z)
        exact iteF (rest _ _ ⟨rfl, rfl, n3, fun z => absurd z k8⟩)
    rintro σ H1' ⟨rfl, rfl, n3, hc8⟩
    -- bytes
    refine ⟨_, rfl, rfl, _, rfl, ?_⟩
    rw [int_eq]
    refine ite2 (fun _ => ?_) (fun n4 => ?_)
    · refine pop_go rfl d1 fun H2 d2 e2 => ?_
      have e12 : D.hid H2 = D.hid H := by rw [e2, e1]
      refine ⟨_, rfl, _, rfl, D, N1, c, ah, refs, as, 64, rfl, d2, by rw [e12]; exact hah, by rw [e12]; exact hnum, (by have := hs.sz; omega), by decide, fun amt H3 S3 d3 ha => ?_⟩
      refine ⟨(by show 3 ≤ sizeLine; decide), mk (.byt z amt) _ H3 N1 c (by rw [e12] at S3; exact S3) d3 (fun p G hp => by simp only [It.At]; exact ⟨p, rfl, hp⟩) (Dr1.byt hd3 hs ha)⟩
    have n4 : ¬ kind = 3 := fun z => n4 (decide_eq_true z)
    -- a text
    refine ⟨_, rfl, rfl, _, rfl, ?_⟩
    rw [int_eq]
    refine ite2 (fun _ => ?_) (fun n5 => ?_)
    · refine pop_go rfl d1 fun H2 d2 e2 => ?_
      have e12 : D.hid H2 = D.hid H := by rw [e2, e1]
      refine ⟨(by show 3 ≤ sizeLine; decide), pick_go (is := [0, 255, 10]) rfl d2 rfl (by decide) fun st H3 hst d3 S3 => ?_⟩
      refine next_go rfl d3 (by decide) fun r4 H4 a0 a1 d4 e4 => ?_
      refine ⟨(by show 3 ≤ sizeLine; decide), pick_go (is := [0, 64, r4]) rfl d4 rfl (by decide) fun mo H5 hmo d5 S5 => ?_⟩
      rw [e12] at S3
      rw [e4] at S5
      refine ⟨(by show 4 ≤ sizeLine; decide), mk (.txt z st mo) _ H5 N1 c (S3.trans S5) d5 (fun p G hp => by simp only [It.At]; exact ⟨p, rfl, hp⟩) (Dr1.txt hd3 hs ?_ ?_)⟩
      · simp only [List.mem_cons, List.not_mem_nil, or_false] at hst; omega
      · simp only [List.mem_cons, List.not_mem_nil, or_false] at hmo; omega
    -- a check
    refine ⟨_, rfl, rfl, _, rfl, ?_⟩
    rw [int_eq]
    refine ite2 (fun k8 => ?_) (fun n8 => ?_)
    · obtain rfl := hc8 (of_decide_eq_true k8)
      obtain ⟨ii, ha⟩ := d1.a
      obtain ⟨ms, hm, hml⟩ := id d1.ml
      refine ⟨_, rfl, D.a, _, 3, _, rfl, rfl, SqL.of ha, atI_nat (j := 3) rfl, .inl ⟨rfl, _, SqL.of hm⟩, D.ml, ms, .int 1, rfl, rfl, hm, small1000 (by omega), ?_⟩
      have d2 := d1.mark hml (.int 1)
      have e2 : D.hid (upd H1' D.ml (.lst (ms ++ [.int 1]))) = D.hid H := by rw [hid_own (.inr (.inr rfl)), e1]
      generalize upd H1' D.ml (.lst (ms ++ [.int 1])) = H2 at d2 e2 ⊢
      refine pop_go rfl d2 fun H3 d3 e3 => ?_
      have e13 : D.hid H3 = D.hid H := by rw [e3, e2]
      refine next_go rfl d3 (by decide) fun r4 H4 a0 a1 d4 e4 => ⟨_, _, rfl, rfl, ?_⟩
      refine ⟨(by show 3 ≤ sizeLine; decide), pick_go (is := [1, 16, 1 + r4]) rfl d4 rfl (by decide) fun mo H5 hmo d5 S5 => ?_⟩
      rw [e4, e13] at S5
      refine ⟨(by show 3 ≤ sizeLine; decide), mk (.chk z mo) _ H5 N1 1 S5 d5 (fun p G hp => by simp only [It.At]; exact ⟨p, rfl, hp⟩) (Dr1.chk hd3 hs ?_)⟩
      simp only [List.mem_cons, List.not_mem_nil, or_false] at hmo; omega
    -- a pad
    refine ⟨_, rfl, rfl, _, rfl, ?_⟩
    rw [int_eq]
    refine ite2 (fun _ => ?_) (fun n9 => ?_)
    · refine pop_go rfl d1 fun H2 d2 e2 => ?_
      have e12 : D.hid H2 = D.hid H := by rw [e2, e1]
      refine ⟨(by show 5 ≤ sizeLine; decide), pick_go (is := [1, 2, 4, 8, 16]) rfl d2 rfl (by decide) fun mu H3 hmu d3 S3 => ?_⟩
      refine next_go rfl d3 (by decide) fun r4 H4 a0 a1 d4 e4 => ?_
      refine ⟨(by show 3 ≤ sizeLine; decide), pick_go (is := [0, 255, r4]) rfl d4 rfl (by decide) fun by_ H5 hby d5 S5 => ?_⟩
      rw [e12] at S3
      rw [e4] at S5
      refine ⟨(by show 4 ≤ sizeLine; decide), mk (.pad z mu by_) _ H5 N1 c (S3.trans S5) d5 (fun p G hp => by simp only [It.At]; exact ⟨p, rfl, hp⟩) (Dr1.pad hd3 hs ?_ ?_)⟩
      · simpa only [List.mem_cons, List.not_mem_nil, or_false] using hmu
      · simp only [List.mem_cons, List.not_mem_nil, or_false] at hby; omega
    -- blocks
    refine ⟨_, rfl, rfl, _, rfl, ?_⟩
    rw [int_eq]
    refine ite2 (fun _ => iteT (num H1' _ rfl d1 e1)) (fun nd => ?_)
    have nd : ¬ d = 3 := fun z => nd (decide_eq_true z)
    obtain ⟨ii, ha⟩ := d1.a
    refine ⟨_, rfl, D.a, _, 2, _, rfl, rfl, SqL.of ha, atI_nat (j := 2) rfl, _, _, rfl, .inl ⟨_, SqL.of d1.nl, rfl⟩, _, _, rfl, rfl, _, rfl, ?_⟩
    rw [List.length_map]
    refine ite2 (fun _ => num H1' _ rfl d1 e1) (fun e => ?_)
    have e : ¬ (((z :: N1).length : Nat) : Int) < 14 := fun z => e (decide_eq_true z)
    refine ⟨_, rfl, _, rfl, _, rfl, _, rfl, D, z :: N1, c, ah, refs, as, d, kind, rfl, hd, by omega, d1, by rw [e1]; exact hah, by rw [e1]; exact hnum, hs, by omega, fun v y H2 N' c' S2 d2 ay dy => ?_⟩
    exact q v y H2 N' c' (by rw [e1] at S2; exact S2) d2 (ay.same (neu_mono d1 (fun b hb => free_of d1 S1 hb) (Same.refl _))) dy
end
end Bs

set_option Elab.async false
set_option linter.all false
set_option maxRecDepth 100000
set_option maxHeartbeats 8000000
namespace Bs
open PySem L2
/-- the heap without one list -/
def cut1 (L : Addr) (G : Hp) : Hp := fun b => if b = L then none else G b
theorem cut1_le {L : Addr} {G : Hp} : Same (cut1 L G) G := fun b o e => by
  unfold cut1 at e
  by_cases c : b = L
  · rw [if_pos c] at e; cases e
  · rw [if_neg c] at e; exact e
theorem to_cut {L : Addr} {G G' : Hp} (s : Same G G') (h : G L = none) : Same G (cut1 L G') := fun b o e => by
  unfold cut1
  rw [if_neg fun c => by rw [c, h] at e; cases e]
  exact s b o e
theorem cut1_same {L : Addr} {G G' : Hp} (s : Same G G') : Same (cut1 L G) (cut1 L G') := to_cut (cut1_le.trans s) (by unfold cut1; rw [if_pos rfl])
theorem cut1_wr {L : Addr} {H0 H : Hp} {o : HO} : cut1 L (neu H0 (upd H L o)) = cut1 L (neu H0 H) := by
  funext b
  unfold cut1
  by_cases c : b = L
  · rw [if_pos c, if_pos c]
  · rw [if_neg c, if_neg c]
    unfold neu
    cases H0 b with
    | some _ => rfl
    | none => exact upd_ne c
theorem pe_pop {X : Cx} {K : PySem.W.Frag} {o e : Expr} {es : List Expr} {apos cpos : Pos} {to : TE} {t : TA} (hK : X.K = K) (ho : PE X o to) (ha : PA X (e :: es) t)
    (hbase : attributeBase o "pop" X.env (eval o X.env) = eval o X.env := by rfl)
    (hfew : ((backTo cpos (starEach (e :: es) X.env)).all (fun x => !x.1) && (backToKw cpos (keywordEach [] X.env)).all (fun x => x.1.isSome)
      && decide ((e :: es).length + ([] : List Keyword).length + (if ([] : List Keyword).isEmpty then 0 else 1) < 30)) = true := by rfl)
    (hline : (apos.endLine == cpos.line) = true := by rfl) (hs : starEach (e :: es) X.env = (false, eval e X.env) :: starEach es X.env := by rfl) (hplain : (backTo cpos (starEach es X.env)).any (·.1) = false := by rfl) :
    PE X (.Call (.Attribute o "pop" apos) (e :: es) [] cpos) (tBM K "list" rPopAt to t) := by
  subst hK
  exact pe_bm PySem.F.plainAttrs_list PySem.F.slot_list_pop PySem.F.type_list_pop mt_popAt ho ha hbase hfew hline hs hplain
theorem s5_lst {H : Hp} {L C : Addr} {xs : List V} {o : HO} (h : H L = some (.lst xs)) (n : L ≠ C) : (upd H C o) L = some (.lst xs) := by rw [upd_ne n]; exact h
theorem either_or {K : PySem.W.Frag} {ah : Addr} {kind : Int} {n : Nat} {A B : TS} {D : Ends} {σ : L2.St} {H : Hp} (h3 : σ[3]? = some (some (.int kind))) (h1 : σ[1]? = some (some (.ref ah))) (hl : LenV K (.ref ah) H n) (ha : A D σ H) (hb : n ≠ 0 → B D σ H) :
    tIfS (tOr (tTest (tOp rEq (tVar 3) (tC (.int 6)))) (tTest (tOp rEq (tCB (fun xs H Q => ∃ x n, xs = [x] ∧ LenV K x H n ∧ Q (V.int (n : Nat)) H) (tCons (tVar 1) tNil)) (tC (.int 0))))) A B D σ H := by
  refine ⟨_, h3, rfl, _, rfl, ?_⟩
  refine ite2 (fun _ => iteT ha) (fun _ => ?_)
  refine ⟨_, h1, _, n, rfl, hl, rfl, _, rfl, ?_⟩
  rw [int_eq]
  refine ite2 (fun _ => ha) (fun e => hb fun z => e (decide_eq_true (by rw [z]; rfl)))
def rInt1 : List V → Hp → VK → Prop := fun xs H Q => (∃ i, xs = [.int i] ∧ Q (.int i) H) ∨ ∃ k, xs = [.bl k] ∧ Q (.int (if k then 1 else 0)) H
/-- the values of the cases -/
theorem case_vals {first r : Int} {m : Nat} (h0 : 0 ≤ first) (h1 : first < 1000) (r0 : 0 ≤ r) (r4 : r < 4) (hm : m ≤ 8) :
    (∀ v ∈ (List.range m).map (fun k : Nat => first + 8064 * ((0 + (k : Int)) * (1 + 2 * r) % 8)), 0 ≤ v ∧ v ≤ 65535) ∧ ((List.range m).map (fun k : Nat => first + 8064 * ((0 + (k : Int)) * (1 + 2 * r) % 8))).Nodup := by
  constructor
  · intro v hv
    obtain ⟨k, _, rfl⟩ := List.mem_map.mp hv
    have a := Int.emod_nonneg ((0 + (k : Int)) * (1 + 2 * r)) (show (8 : Int) ≠ 0 by decide)
    have b := Int.emod_lt_of_pos ((0 + (k : Int)) * (1 + 2 * r)) (show (0 : Int) < 8 by decide)
    omega
  · have key : ∀ (m : Fin 9) (r : Fin 4), ((List.range m.val).map fun k : Nat => (0 + (k : Int)) * (1 + 2 * (r.val : Int)) % 8).Nodup := by decide
    obtain ⟨rn, rfl⟩ := Int.eq_ofNat_of_zero_le r0
    have q := key ⟨m, by omega⟩ ⟨rn, by omega⟩
    have e : (List.range m).map (fun k : Nat => first + 8064 * ((0 + (k : Int)) * (1 + 2 * (rn : Int)) % 8)) = ((List.range m).map fun k : Nat => (0 + (k : Int)) * (1 + 2 * (rn : Int)) % 8).map (fun i => first + 8064 * i) := by rw [List.map_map]; rfl
    rw [e]
    exact List.Pairwise.map _ (fun a b hab => by omega) q
section
variable {P : Program} {w : World} {K : PySem.W.Frag} {mg : Str → Option Value} {base : Heap} {f : Addr} {fd : FuncData}
abbrev nNested : List Str := ["draw", "ahead", "depth", "kind", "name", "first", "firsts", "choices", "step", "cases", "k"]
theorem scNested : FnScope nNested ["draw", "ahead", "depth", "kind"] (defScope sLawNested) := ⟨rfl, rfl, rfl, by decide +kernel, rfl, by decide +kernel, by decide +kernel⟩
theorem ok_nested {n k : Nat} (hk : 2 ≤ k) (F : Fun K "_law_nested" "_law_nested" sLawNested f fd) (gX : Cal P w K mg base CX0 1 "_law_next" ["draw", "many"] spNext) (gU : Cal P w K mg base CX0 2 "_law_use" ["draw", "ahead", "most"] spUse)
    (gB : Cal P w K mg base CX0 k "_law_block" ["draw", "ahead", "depth", "name"] (spSub spBlock n)) (ml : mg "len" = none) (mr : mg "range" = none) (mint : mg "int" = none) :
    FnOk P w K mg base CX0 (k + 1) f fd ["draw", "ahead", "depth", "kind"] (spNested n) := by
  refine F.ok scNested (fun vs H Q E h => ?_) (fun cdv A outer s H vs Q E hr h => ?_)
  · obtain ⟨D, N, c, ah, refs, as, d, kind, rfl, _⟩ := h
    rfl
  · obtain ⟨D, N, c, ah, refs, as, d, kind, rfl, hd, hd2, da, hah, hnum, hs, h14, q⟩ := h
    have hr1 : Room 1 _ := hr.mono (by omega)
    have hr2 : Room 2 _ := hr.mono hk
    refine ⟨_, pss_cons (ps_set (i := 4) scNested.nd rfl (.inl rfl) (pe_bm PySem.F.plainAttrs_list PySem.F.slot_list_pop PySem.F.type_list_pop mt_popAt (pe_ix ix_list (pv 0) pe_int (fun _ _ => rfl)) (pa_cons pe_int pa_nil)))
      (pss_cons (ps_if (pt_cmpR op_eq (pv 3) pe_int (nomark _))
        (pss_cons (ps_set (i := 5) scNested.nd rfl (.inr rfl) (pe_bm PySem.F.plainAttrs_list PySem.F.slot_list_pop PySem.F.type_list_pop mt_popAt (pe_ix ix_list (pv 0) pe_int (fun _ _ => rfl)) (pa_cons pe_int pa_nil)))
        (pss_one (ps_ret (pe_tup (pa_cons pe_str (pa_cons (pv 4) (pa_cons (pe_cal gU hr2 pass0 (pa_cons (pv 0) (pa_cons (pv 1) (pa_cons pe_int pa_nil)))) (pa_cons (pe_cal gB hr pass0 (pa_cons (pv 0) (pa_cons (pv 1) (pa_cons (pe_op op_add (pv 2) pe_int) (pa_cons (pv 5) pa_nil))))) pa_nil)))))))) pss_nil)
      (pss_cons (ps_if (PW.pt (pw_or (pt_cmpR op_eq (pv 3) pe_int (nomark _)) (pw_or1 (pt_cmpR op_eq (pe_callB call_len (by rfl) ml boot_len (pa_cons (pv 1) pa_nil)) pe_int (nomark _)))))
        (pss_cons (ps_setLc (i := 6) (own := [("k", 10)]) (g := gName 10) (tt := tYes) rfl scNested.nd rfl rfl (sw_true rfl rfl rfl (by decide +kernel)) (pi_range1 (by rfl) mr (pa_cons (pe_op op_add pe_int (pe_cal gX hr1 pass0 (pa_cons (pv 0) (pa_cons pe_int pa_nil)))) pa_nil))
            (blkOk_by (own := [("k", 10)]) (N := nNested) (sc := defScope sLawNested) (by decide +kernel)) (fun _ _ _ _ _ => pg_name (i := 10) scNested.nd rfl (Or.inl rfl)) (fun _ _ _ _ _ => pts_nil)
            (fun _ _ _ _ _ => pe_pop (K := K) rfl (pe_ix (r := rIxL K) ix_list (pv 0) pe_int (fun _ _ => rfl)) (pa_cons pe_int pa_nil)))
        (pss_cons (ps_set (i := 7) scNested.nd rfl (.inl rfl) (pe_lst (pa_cons (pe_cal gB hr pass0 (pa_cons (pv 0) (pa_cons (pv 1) (pa_cons (pe_op op_add (pv 2) pe_int) (pa_cons pe_str pa_nil))))) pa_nil)))
        (pss_cons (ps_for PassesOwn.never rfl (pi_list (pv 6)) (pg_name (i := 5) scNested.nd rfl (.inr rfl))
          (pss_one (ps_expr (pe_bm PySem.F.plainAttrs_list PySem.F.slot_list_append PySem.F.type_list_append mt_append (pv 7) (pa_cons (pe_cal gB hr pass0 (pa_cons (pv 0) (pa_cons (pv 1) (pa_cons (pe_op op_add (pv 2) pe_int) (pa_cons (pv 5) pa_nil))))) pa_nil)))))
        (pss_one (ps_ret (pe_tup (pa_cons pe_str (pa_cons (pv 4) (pa_cons (pv 7) pa_nil)))))))))  pss_nil)
      (pss_cons (ps_set (i := 5) scNested.nd rfl (.inr rfl) (pe_cal gX hr1 pass0 (pa_cons (pv 0) (pa_cons pe_int pa_nil))))
      (pss_cons (ps_set (i := 8) scNested.nd rfl (.inr rfl) (pe_op op_add pe_int (pe_op op_mul pe_int (pe_cal gX hr1 pass0 (pa_cons (pv 0) (pa_cons pe_int pa_nil))))))
      (pss_cons (ps_setLc (i := 9) (own := [("k", 10)]) (g := gName 10) (tt := tYes) rfl scNested.nd rfl rfl (sw_true rfl rfl rfl (by decide +kernel)) (pi_range1 (by rfl) mr (pa_cons (pe_op op_add pe_int (pe_cal gX hr1 pass0 (pa_cons (pv 0) (pa_cons pe_int pa_nil)))) pa_nil))
            (blkOk_by (own := [("k", 10)]) (N := nNested) (sc := defScope sLawNested) (by decide +kernel)) (fun _ _ _ _ _ => pg_name (i := 10) scNested.nd rfl (Or.inl rfl)) (fun _ _ _ _ _ => pts_nil)
            (fun _ _ _ _ _ => pe_tup (pa_cons (pe_op op_add (pv 5) (pe_op op_mul pe_int (pe_op op_mod (pe_callTy (r := rInt1) call_int1 (by rfl) mint (by decide +kernel) (pa_cons (pe_op op_mul (pv 10) (pv 8)) pa_nil)) pe_int)))
              (pa_cons (pe_cal gB hr pass0 (pa_cons (pv 0) (pa_cons (pv 1) (pa_cons (pe_op op_add (pv 2) pe_int) (pa_cons pe_str pa_nil))))) pa_nil))))
      (pss_one (ps_ret (pe_tup (pa_cons pe_str (pa_cons (pv 4) (pa_cons (pe_ix ix_tup (pe_ix ix_list (pv 1) (pe_cal gX hr1 pass0 (pa_cons (pv 0) (pa_cons (pe_callB call_len (by rfl) ml boot_len (pa_cons (pv 1) pa_nil)) pa_nil))) (fun _ _ => rfl)) pe_int (fun _ _ => rfl)) (pa_cons (pv 9) pa_nil)))))))))))), ?_⟩
    obtain ⟨name, N1, rfl⟩ : ∃ z r, N = z :: r := by
      cases N with
      | nil => simp at h14
      | cons z r => exact ⟨z, r, rfl⟩
    rw [List.length_cons] at h14
    have nm := hs.nm name (List.mem_cons_self ..)
    have hs1 : Sit as N1 c := Sit.suf (ps := [name]) hs hs.c1
    obtain ⟨n, rfl⟩ : ∃ m, n = m + 1 := ⟨n - 1, by omega⟩
    have hd1 : d + 1 + (n : Int) = 3 := by omega
    refine pop_go rfl da fun H1 d1 e1 => ?_
    have S1 : Same (D.hid H) (D.hid H1) := by rw [e1]; exact Same.refl _
    have mk : ∀ (y : It) (xs : List V) (H' : Hp) (N' : List Str) (c' : Nat), Same (D.hid H) (D.hid H') → DAt D H' N' c' → (∀ p G, Same (neu H H') G → G p = some (.tup xs) → y.At false G (.ref p)) → Dr1 d as (name :: N1) N' c c' y → ∀ p, H' p = none → Q (.ref p) (upd H' p (.tup xs)) := fun y xs H' N' c' S' d' hy dy p hp => by
      obtain ⟨d2, s2, _⟩ := d'.new hp (.tup xs)
      exact q _ y _ N' c' (S'.trans s2) d2 (hy p _ (neu_mono da (fun b hb => hb) s2) (by rw [neu_at (free_of d' S' hp)]; exact upd_same)) dy
    refine ⟨_, rfl, rfl, _, rfl, ?_⟩
    rw [int_eq]
    refine ite2 (fun _ => ?_) (fun _ => ?_)
    · -- a repeat
      obtain ⟨z, N2, rfl⟩ : ∃ z r, N1 = z :: r := by
        cases N1 with
        | nil => simp at h14
        | cons z r => exact ⟨z, r, rfl⟩
      refine pop_go rfl d1 fun H2 d2 e2 => ?_
      have e12 : D.hid H2 = D.hid H := by rw [e2, e1]
      refine ⟨_, rfl, _, rfl, _, rfl, D, N2, c, ah, refs, as, 16, rfl, d2, by rw [e12]; exact hah, by rw [e12]; exact hnum, (by have := hs.sz; omega), by decide, fun amt H3 S3 d3 ha => ?_⟩
      rw [e12] at S3
      have nz := hs1.nm z (List.mem_cons_self ..)
      refine ⟨_, rfl, _, rfl, _, rfl, _, _, rfl, rfl, _, rfl, D, [z], N2, c, ah, refs, as, d + 1, z, rfl, hd1, d3, S3 _ _ hah, hnum.same S3, .inr ⟨name_ne nz, rfl⟩, hs1, fun r xs x H4 N' c' S4 d4 h4 a4 dr => ?_⟩
      have nmo := neu_mono (H0 := H) d3 (fun b hb => free_of d3 S3 hb) (Same.refl (D.hid H4))
      refine ⟨(by show 4 ≤ sizeLine; decide), mk (.rep name amt x) _ H4 N' c' (S3.trans S4) d4 (fun p G sG hp => ?_) (Dr1.rep hd2 nm hs.anm ha dr)⟩
      simp only [It.At]
      exact ⟨p, r, xs, rfl, hp, .inr ⟨rfl, sG _ _ (nmo _ _ h4)⟩, (a4.same nmo).same sG⟩
    dsimp only
    refine either_or rfl rfl (.inl ⟨_, SqL.of (hid_le _ _ (by rw [e1]; exact hah)), rfl⟩) ?_ (fun hne => ?_)
    · -- an either
      refine seq_asg ?_
      refine next_go rfl d1 (by decide) fun r2 H2 a0 a1 d2 e2 => ?_
      obtain ⟨j, rfl⟩ := Int.eq_ofNat_of_zero_le a0
      have e12 : D.hid H2 = D.hid H := by rw [e2, e1]
      refine ⟨_, _, rfl, rfl, (1 + (j : Int)), rfl, by omega, by omega, fun L hL => ?_⟩
      rw [show (1 + (j : Int)).toNat = j + 1 by omega]
      have nL : ¬ D.has L := d2.fresh hL
      refine lc_range (lo := 0) (n := j + 1) (fun i H' => ∃ fs Nk, N1 = fs ++ Nk ∧ fs.length = i ∧ DAt D H' Nk c ∧ Same (D.hid H) (D.hid H') ∧ H' L = some (.lst (fs.map V.str)))
        ⟨[], N1, rfl, rfl, d2.off nL, by rw [← e12]; exact hid_same (same_new hL _), upd_same⟩ ?_ ?_
      · rintro i H3 hi ⟨fs, Nk, rfl, hfs, d3, S3, hL3⟩
        obtain ⟨z, Nr, rfl⟩ : ∃ z r, Nk = z :: r := by
          cases Nk with
          | nil => rw [List.append_nil] at h14; omega
          | cons z r => exact ⟨z, r, rfl⟩
        refine ⟨rfl, yes_go (pop_go rfl d3 fun H4 d4 e4 => ?_)⟩
        have hL4 := hid_stay e4 (by rw [hid_at nL]; exact hL3)
        refine ⟨_, hL4, small1000 (by rw [List.length_map]; omega), fs ++ [z], Nr, by simp, by rw [List.length_append, hfs]; rfl, d4.off nL, ?_, by rw [upd_same, List.map_append]; rfl⟩
        exact own_wr d4 (by rw [e4]; exact S3) (free_of d2 (same_eq e12) hL) nL
      rintro H3 ⟨fs, Nk, rfl, hfs, d3, S3, hL3⟩
      refine g_nx ?_
      have hsk : Sit as Nk c := hs1.suf hs1.c1
      have hahL : D.hid H3 ah = some (.lst refs) := S3 _ _ hah
      refine ⟨_, rfl, _, rfl, _, rfl, _, _, rfl, rfl, D, [], Nk, c, ah, refs, as, d + 1, "", rfl, hd1, d3, hahL, hnum.same S3, .inl ⟨rfl, rfl⟩, hsk, fun r0 xs0 x0 H4 N4 c4 S4 d4 h4 a4 dr4 => ?_⟩
      refine ⟨(by show 1 ≤ sizeLine; decide), fun C hC => ?_⟩
      obtain ⟨d5, s5, g5⟩ := d4.new hC (.lst [.ref r0])
      have S34 := S3.trans S4
      have nC : ¬ D.has C := d4.fresh hC
      have hC0 := free_of d4 S34 hC
      have hL4 := hid_le _ _ (S4 L _ (by rw [hid_at nL]; exact hL3))
      have nLC : L ≠ C := fun e => by rw [e, hC] at hL4; cases hL4
      have nm3 := neu_mono (H0 := H) d3 (fun b hb => free_of d3 S3 hb) s5
      have cm3 : Same (neu H3 H4) (cut1 C (neu H (upd H4 C (.lst [.ref r0])))) := to_cut nm3 (by
        unfold neu
        cases H3 C with
        | some _ => rfl
        | none => exact hC)
      have E0 : DrE true (d + 1) as [] Nk N4 c c4 (.cons 0 x0 .nil) := (DrE.nil hsk.c1).snoc (v := 0) dr4 (fun _ => .inl rfl)
      refine ⟨_, rfl, L, rfl, ⟨_, SqL.of (s5_lst hL4 nLC)⟩, for_list (K := K) (a := L) (xs := fs.map V.str) (fun i σ H' => ∃ i5, σ = [some (.ref D.a), some (.ref ah), some (.int d), some (.int kind), some (.str name), i5, some (.ref L), some (.ref C), none, none, none] ∧
          ∃ N' c' bs ls, Same (D.hid H) (D.hid H') ∧ DAt D H' N' c' ∧ H' L = some (.lst (fs.map V.str)) ∧ H' C = some (.lst ls) ∧ bs.AtE false (cut1 C (neu H H')) ls ∧ DrE true (d + 1) as (fs.take i) Nk N' c c' bs ∧ bs.len = i + 1)
        ⟨none, rfl, N4, c4, .cons 0 x0 .nil, [.ref r0], S34.trans s5, d5, s5_lst hL4 nLC, upd_same, ?_, E0, rfl⟩ (fun i σ H' _ z => by obtain ⟨_, _, _, _, _, _, _, _, z, _⟩ := z; exact SqL.of z) ?_ ?_⟩
      · simp only [Blks.AtE]
        exact ⟨r0, xs0, [], rfl, .inr ⟨rfl, cm3 _ _ h4⟩, a4.same cm3, rfl⟩
      · rintro i v σ H6 hi ⟨i5, rfl, N6, c6, bs, ls, S6, d6, hL6, hC6, at6, dr6, bl6⟩
        obtain ⟨z, hz, rfl⟩ : ∃ z, fs[i]? = some z ∧ v = V.str z := by
          rw [List.getElem?_map] at hi
          cases e9 : fs[i]? with
          | none => rw [e9] at hi; cases hi
          | some z => rw [e9] at hi; exact ⟨z, rfl, (Option.some.inj hi).symm⟩
        have zm := List.mem_of_getElem? hz
        obtain ⟨ps, eps⟩ := dr6.drn.suf
        have hsz : Sit as (z :: N6) c6 := hs1.pick eps zm dr6.c1
        have nz := hsz.nm z (List.mem_cons_self ..)
        have il : i < fs.length := (List.getElem?_eq_some_iff.mp hz).1
        refine ⟨_, rfl, .inl ⟨rfl, _, SqL.of hC6⟩, _, rfl, _, rfl, _, rfl, _, _, rfl, rfl, _, rfl, D, [z], N6, c6, ah, refs, as, d + 1, z, rfl, hd1, d6, S6 _ _ hah, hnum.same S6, .inr ⟨name_ne nz, rfl⟩, hsz, fun r xs x H7 N7 c7 S7 d7 h7 a7 dr7 => ?_⟩
        have hC7 := hid_le _ _ (S7 C _ (by rw [hid_at nC]; exact hC6))
        have hL7 := hid_le _ _ (S7 L _ (by rw [hid_at nL]; exact hL6))
        have ll := at6.len
        refine ⟨C, ls, _, rfl, rfl, hC7, small1000 (by omega), ?_⟩
        have S67 := S6.trans S7
        have cm : Same (neu H6 H7) (cut1 C (neu H H7)) := to_cut (neu_mono (H0 := H) d6 (fun b hb => free_of d6 S6 hb) (Same.refl _)) (by unfold neu; rw [hC6])
        refine ⟨_, rfl, N7, c7, bs.snoc 0 x, ls ++ [.ref r], own_wr d7 S67 hC0 nC, d7.off nC, by rw [upd_ne nLC]; exact hL7, upd_same, ?_, ?_, by rw [snocB_len, bl6]⟩
        · rw [cut1_wr]
          exact snocB_atE (at6.same (cut1_same (neu_mono da (fun b hb => hb) S7))) (.inr ⟨rfl, cm _ _ h7⟩) (a7.same cm)
        · rw [take_more hz]
          exact dr6.snoc dr7 (fun _ => .inr (by simp))
      · rintro σ H6 ⟨i5, rfl, N6, c6, bs, ls, S6, d6, hL6, hC6, at6, dr6, bl6⟩
        rw [List.length_map] at dr6 bl6
        rw [List.take_length] at dr6
        refine ⟨_, rfl, _, rfl, (by show 3 ≤ sizeLine; decide), mk (.eit name bs) _ H6 N6 c6 S6 d6 (fun p G sG hp => ?_) (Dr1.eit hd2 nm ⟨by omega, by omega⟩ dr6)⟩
        simp only [It.At]
        exact ⟨p, C, ls, rfl, hp, .inr ⟨rfl, sG _ _ (by rw [neu_at hC0]; exact hC6)⟩, (at6.same cut1_le).same sG⟩
    · -- a switch
      refine next_go rfl d1 (by decide) fun first H2 f0 f1 d2 e2 => ?_
      dsimp only
      refine seq_asg ?_
      refine next_go rfl d2 (by decide) fun r3 H3 g0 g1 d3 e3 => ⟨_, _, rfl, rfl, .inl ⟨by decide, by decide⟩, _, _, rfl, rfl, ?_⟩
      refine g_nx ?_
      dsimp only
      refine seq_asg ?_
      refine next_go rfl d3 (by decide) fun r4 H4 h0 h1 d4 e4 => ?_
      obtain ⟨j, rfl⟩ := Int.eq_ofNat_of_zero_le h0
      have e14 : D.hid H4 = D.hid H := by rw [e4, e3, e2, e1]
      refine ⟨_, _, rfl, rfl, (1 + (j : Int)), rfl, by omega, by omega, fun C hC => ?_⟩
      rw [show (1 + (j : Int)).toNat = j + 1 by omega]
      have nC : ¬ D.has C := d4.fresh hC
      have hC0 := free_of d4 (same_eq e14) hC
      refine lc_range (lo := 0) (n := j + 1) (fun i H' => ∃ N' c' bs ls, Same (D.hid H) (D.hid H') ∧ DAt D H' N' c' ∧ H' C = some (.lst ls) ∧ bs.AtS false (cut1 C (neu H H')) ls ∧ DrE false (d + 1) as [] N1 N' c c' bs ∧ bs.len = i ∧ bs.vals = (List.range i).map (fun k : Nat => first + 8064 * ((0 + (k : Int)) * (1 + 2 * r3) % 8)))
        ⟨N1, c, .nil, [], by rw [← e14]; exact hid_same (same_new hC _), d4.off nC, upd_same, by simp [Blks.AtS], DrE.nil hs1.c1, rfl, rfl⟩ ?_ ?_
      · rintro i H5 hi ⟨N5, c5, bs, ls, S5, d5, hC5, at5, dr5, bl5, bv5⟩
        obtain ⟨ps, eps⟩ := dr5.drn.suf
        have hs5 : Sit as N5 c5 := Sit.suf (ps := ps) (by rw [← eps]; exact hs1) dr5.c1
        refine ⟨rfl, yes_go ?_⟩
        refine ⟨_, rfl, _, rfl, _, rfl, _, _, rfl, rfl, .inl ⟨by omega, by omega⟩, .inl ⟨_, rfl, _, _, rfl, rfl, (by show (0 : Int) < 8; decide), _, _, rfl, rfl, .inl ⟨by decide, by decide⟩, _, _, rfl, rfl, ?_⟩⟩
        refine ⟨_, rfl, _, rfl, _, rfl, _, _, rfl, rfl, D, [], N5, c5, ah, refs, as, d + 1, "", rfl, hd1, d5, S5 _ _ hah, hnum.same S5, .inl ⟨rfl, rfl⟩, hs5, fun r xs x H6 N6 c6 S6 d6 h6 a6 dr6 => ?_⟩
        refine ⟨(by show 2 ≤ sizeLine; decide), fun t ht => ?_⟩
        obtain ⟨d7, s7, g7⟩ := d6.new ht (.tup [.int (first + 8064 * ((0 + (i : Int)) * (1 + 2 * r3) % 8)), .ref r])
        have hC6 := hid_le _ _ (S6 C _ (by rw [hid_at nC]; exact hC5))
        have ntC : t ≠ C := fun e => by rw [e, hC6] at ht; cases ht
        have hC7 : (upd H6 t (.tup [.int (first + 8064 * ((0 + (i : Int)) * (1 + 2 * r3) % 8)), .ref r])) C = some (.lst ls) := by rw [upd_ne ntC.symm]; exact hC6
        have S56 := S5.trans S6
        have ht0 := free_of d6 S56 ht
        have ht7 : neu H (upd H6 t (.tup [.int (first + 8064 * ((0 + (i : Int)) * (1 + 2 * r3) % 8)), .ref r])) t = some (.tup [.int (first + 8064 * ((0 + (i : Int)) * (1 + 2 * r3) % 8)), .ref r]) := by rw [neu_at ht0, upd_same]
        have cm : Same (neu H5 H6) (cut1 C (neu H (upd H6 t (.tup [.int (first + 8064 * ((0 + (i : Int)) * (1 + 2 * r3) % 8)), .ref r])))) := to_cut (neu_mono (H0 := H) d5 (fun b hb => free_of d5 S5 hb) s7) (by unfold neu; rw [hC5])
        have am := at5.same (cut1_same (L := C) (neu_mono (H0 := H) da (fun b hb => hb) (S6.trans s7)))
        have ll := at5.len
        have S7 := S56.trans s7
        have tt : cut1 C (neu H (upd H6 t (.tup [.int (first + 8064 * ((0 + (i : Int)) * (1 + 2 * r3) % 8)), .ref r]))) t = some (.tup [.int (first + 8064 * ((0 + (i : Int)) * (1 + 2 * r3) % 8)), .ref r]) := by unfold cut1; rw [if_neg ntC]; exact ht7
        refine ⟨ls, hC7, small1000 (by omega), N6, c6, bs.snoc (first + 8064 * ((0 + (i : Int)) * (1 + 2 * r3) % 8)) x, ls ++ [.ref t], own_wr d7 S7 hC0 nC, d7.off nC, upd_same, ?_, ?_, by rw [snocB_len, bl5], by rw [snocB_vals, bv5, List.range_succ, List.map_append]; rfl⟩
        · rw [cut1_wr]
          exact snocB_atS am tt (.inr ⟨rfl, cm _ _ h6⟩) (a6.same cm)
        · exact dr5.snoc dr6 (fun z => by cases z)
      · rintro H5 ⟨N5, c5, bs, ls, S5, d5, hC5, at5, dr5, bl5, bv5⟩
        refine g_nx ?_
        have hah5 := hid_le _ _ (S5 _ _ hah)
        refine ⟨_, rfl, _, rfl, _, rfl, _, rfl, _, _, rfl, .inl ⟨_, SqL.of hah5, rfl⟩, ?_⟩
        refine ⟨D, N5, c5, _, rfl, d5, by omega, fun r6 H6 u0 u1 e6 d6 => ?_⟩
        obtain ⟨un, rfl⟩ := Int.eq_ofNat_of_zero_le u0
        have hlt : un < refs.length := by omega
        have ge : refs[un]? = some refs[un] := List.getElem?_eq_getElem hlt
        have S6 : Same (D.hid H) (D.hid H6) := by rw [e6]; exact S5
        obtain ⟨z, lo, hi, t, size, order, gz, ev, ht⟩ := (hnum.same S6).get ge
        refine ⟨ah, _, _, _, rfl, rfl, SqL.of (hid_le _ _ (S6 _ _ hah)), atI_nat ge, ?_⟩
        rw [ev]
        refine ⟨t, _, 1, _, rfl, rfl, SqT.of (hid_le _ _ ht), atI_nat (j := 1) rfl, _, rfl, (by show 4 ≤ sizeLine; decide), ?_⟩
        have hC6 := hid_stay e6 (by rw [hid_at nC]; exact hC5)
        have cv := case_vals (m := j + 1) f0 f1 g0 g1 (by omega)
        have sm : Same (neu H H5) (neu H H6) := neu_mono da (fun b hb => hb) (same_eq e6)
        refine mk (.swi name z bs) _ H6 N5 c5 S6 d6 (fun p G sG hp => ?_) (Dr1.swi hd2 nm ⟨by omega, by omega⟩ ⟨_, List.mem_of_getElem? gz, rfl⟩ (by rw [bv5]; exact cv) dr5)
        simp only [It.At]
        exact ⟨p, C, ls, rfl, hp, .inr ⟨rfl, sG _ _ (by rw [neu_at hC0]; exact hC6)⟩, ((at5.same cut1_le).same sm).same sG⟩
end
end Bs

set_option Elab.async false
set_option linter.all false
set_option maxRecDepth 100000
set_option maxHeartbeats 8000000
namespace Bs
open PySem L2
/-! ### the names -/
theorem str_app (z y : Str) : (z ++ y).cps.toList = z.cps.toList ++ y.cps.toList := by
  show (z.cps ++ y.cps).toList = _
  simp
theorem cutS_to (z : Str) (p : Nat) : (cutS z none (some (p : Int))).cps.toList = z.cps.toList.take p := by
  have h : ∀ z : Str, z.length = z.cps.toList.length := fun z => by simp [Str.length]
  unfold cutS
  rw [HT.sIx_none, HT.sIx_nat, h, List.drop_zero, Nat.sub_zero]
  by_cases c : p ≤ z.cps.toList.length
  · rw [Nat.min_eq_left c]
  · rw [Nat.min_eq_right (by omega), List.take_length, List.take_of_length_le (by omega)]
theorem cutS_from (z : Str) (p : Nat) : (cutS z (some (p : Int)) none).cps.toList = z.cps.toList.drop p := by
  have h : ∀ z : Str, z.length = z.cps.toList.length := fun z => by simp [Str.length]
  unfold cutS
  rw [HT.sIx_none, HT.sIx_nat, h]
  by_cases c : p ≤ z.cps.toList.length
  · rw [Nat.min_eq_left c, List.take_of_length_le (by rw [List.length_drop]; omega)]
  · rw [Nat.min_eq_right (by omega)]
    rw [List.drop_of_length_le (by omega), List.drop_of_length_le (by omega)]
    simp
abbrev chs : Str := "abcdefghijklmnopqrstuvwxyz0123456789"
theorem chs_len : chs.cps.toList.length = 36 := by decide +kernel
theorem chs_sign : ∀ c ∈ chs.cps.toList, isSign c = true := by decide +kernel
theorem chs_letter : ∀ c ∈ chs.cps.toList.take 26, isLetter c = true := by decide +kernel
theorem chs_nodup : chs.cps.toList.Nodup := by decide +kernel
theorem ch_at (i : Int) (h0 : 0 ≤ i) (h1 : i < 36) : ∃ c, atI chs.cps.toList i = some c ∧ chs.cps.toList[i.toNat]? = some c ∧ isSign c = true ∧ (i < 26 → isLetter c = true) := by
  obtain ⟨n, rfl⟩ := Int.eq_ofNat_of_zero_le h0
  have hn : n < chs.cps.toList.length := by rw [chs_len]; omega
  have e : chs.cps.toList[n]? = some chs.cps.toList[n] := List.getElem?_eq_getElem hn
  refine ⟨chs.cps.toList[n], atI_nat e, e, chs_sign _ (List.getElem_mem hn), fun h => chs_letter _ ?_⟩
  refine List.mem_of_getElem? (i := n) ?_
  rw [List.getElem?_take, if_pos (by omega)]
  exact e
/-- the name of the k-th sign -/
structure IsNm (pl : List Nat) (p : Nat) (c : Nat) (z : Str) : Prop where
  e : z.cps.toList = pl.take p ++ c :: pl.drop p
theorem nm_ok {a : Nat} {r : List Nat} {p c : Nat} {z : Str} (h : IsNm (a :: r) p c z) (ha : isLetter a = true) (hr : r.all isSign = true) (hl : r.length ≤ 10) (hp : 1 ≤ p) (hc : isSign c = true) : isName z = true := by
  obtain ⟨q, rfl⟩ : ∃ q, p = q + 1 := ⟨p - 1, by omega⟩
  unfold isName
  rw [h.e, List.take_succ_cons, List.drop_succ_cons, List.cons_append, nameOk]
  have hs : isSign a = true := by rw [isSign, ha]; rfl
  have tl := List.take_append_drop q r
  have hr2 := hr
  rw [← tl, List.all_append, Bool.and_eq_true] at hr2
  rw [decide_eq_true (by rw [List.length_append, List.length_cons, List.length_take, List.length_drop]; omega), ha, List.all_cons, hs, List.all_append, hr2.1, List.all_cons, hc, hr2.2]
  rfl
theorem nm_inj {pl : List Nat} {p c c' : Nat} {z z' : Str} (h : IsNm pl p c z) (h' : IsNm pl p c' z') (e : z = z') : c = c' := by
  have e2 : pl.take p ++ c :: pl.drop p = pl.take p ++ c' :: pl.drop p := by rw [← h.e, ← h'.e, e]
  have := List.append_cancel_left e2
  injection this
/-- how long the names are -/
def nmLen (ns : List Int) : Nat := 2 + ((ns.getD 1 0) % 11).toNat
def spBegin : Sp := fun vs H Q _ => ∃ (u : Addr) (ns : List Int), vs = [.ref u] ∧ H u = some (.lst (ns.map V.int)) ∧ ns.length = 160 ∧
  ∀ (D : Dr4) (N : List Str) H', Same H H' → D.u = u → DAt D H' N 0 → N.length = 30 → N.Nodup → (∀ z ∈ N, isName z = true) → (∀ z ∈ N, z.length = nmLen ns) → Q (.ref D.a) H'
section
variable {P : Program} {w : World} {K : PySem.W.Frag} {mg : Str → Option Value} {base : Heap} {f : Addr} {fd : FuncData}
abbrev nBegin : List Str := ["numbers", "chars", "prefix", "k", "place", "shift", "names"]
theorem scBegin : FnScope nBegin ["numbers"] (defScope sLawBegin) := ⟨rfl, rfl, rfl, by decide +kernel, rfl, by decide +kernel, by decide +kernel⟩
theorem ok_begin (F : Fun K "_law_begin" "_law_begin" sLawBegin f fd) (ml : mg "len" = none) (mr : mg "range" = none) (mint : mg "int" = none) : FnOk P w K mg base CX0 1 f fd ["numbers"] spBegin := by
  refine F.ok scBegin (fun vs H Q E h => ?_) (fun cdv A outer s H vs Q E hr h => ?_)
  · obtain ⟨u, ns, rfl, _⟩ := h
    rfl
  · obtain ⟨u, ns, rfl, hu, hlen, q⟩ := h
    refine ⟨_, pss_cons (ps_set (i := 1) scBegin.nd rfl (.inr rfl) pe_str)
      (pss_cons (ps_set (i := 2) scBegin.nd rfl (.inr rfl) (pe_ix ix_str (pv 1) (pe_op op_mod (pe_callTy (r := rInt1) call_int1 (by rfl) mint (by decide +kernel) (pa_cons (pe_ix ix_list (pv 0) pe_int (fun _ _ => rfl)) pa_nil)) pe_int) (fun _ _ => rfl)))
      (pss_cons (ps_for PassesOwn.never rfl (pi_range1 (by rfl) mr (pa_cons (pe_op op_mod (pe_callTy (r := rInt1) call_int1 (by rfl) mint (by decide +kernel) (pa_cons (pe_ix ix_list (pv 0) pe_int (fun _ _ => rfl)) pa_nil)) pe_int) pa_nil)) (pg_name (i := 3) scBegin.nd rfl (.inl rfl))
        (pss_one (ps_set (i := 2) scBegin.nd rfl (.inr rfl) (pe_op op_add_str (pv 2) (pe_ix ix_str (pv 1) (pe_op op_mod (pe_callTy (r := rInt1) call_int1 (by rfl) mint (by decide +kernel) (pa_cons (pe_op op_add (pe_ix ix_list (pv 0) pe_int (fun _ _ => rfl)) (pe_op op_mul (pv 3) (pe_ix ix_list (pv 0) pe_int (fun _ _ => rfl)))) pa_nil)) pe_int) (fun _ _ => rfl))))))
      (pss_cons (ps_set (i := 4) scBegin.nd rfl (.inr rfl) (pe_op op_add pe_int (pe_op op_mod (pe_callTy (r := rInt1) call_int1 (by rfl) mint (by decide +kernel) (pa_cons (pe_ix ix_list (pv 0) pe_int (fun _ _ => rfl)) pa_nil)) (pe_callB call_len_str (by rfl) ml boot_len (pa_cons (pv 2) pa_nil)))))
      (pss_cons (ps_set (i := 5) scBegin.nd rfl (.inr rfl) (pe_callTy (r := rInt1) call_int1 (by rfl) mint (by decide +kernel) (pa_cons (pe_ix ix_list (pv 0) pe_int (fun _ _ => rfl)) pa_nil)))
      (pss_cons (ps_setLc (i := 6) (own := [("k", 3)]) (g := gName 3) (tt := tYes) rfl scBegin.nd rfl rfl (sw_true rfl rfl rfl (by decide +kernel)) (pi_range1 (by rfl) mr (pa_cons pe_int pa_nil))
            (blkOk_by (own := [("k", 3)]) (N := nBegin) (sc := defScope sLawBegin) (by decide +kernel)) (fun _ _ _ _ _ => pg_name (i := 3) scBegin.nd rfl (Or.inl rfl)) (fun _ _ _ _ _ => pts_nil)
            (fun _ _ _ _ _ => pe_op op_add_str (pe_op op_add_str (pe_slice sl_str (pv 2) po_none (po_some (pv 4))) (pe_ix ix_str (pv 1) (pe_op op_mod (pe_callTy (r := rInt1) call_int1 (by rfl) mint (by decide +kernel) (pa_cons (pe_op op_add (pv 5) (pv 3)) pa_nil)) pe_int) (fun _ _ => rfl))) (pe_slice sl_str (pv 2) (po_some (pv 4)) po_none)))
      (pss_one (ps_ret (pe_lst (pa_cons (pv 0) (pa_cons pe_int (pa_cons (pv 6) (pa_cons (pe_lst pa_nil) pa_nil)))))))))))), ?_⟩
    have g : ∀ (j : Nat) (hj : j < 160), (ns.map V.int)[j]? = some (.int (ns[j]'(by omega))) := fun j hj => by rw [List.getElem?_map, List.getElem?_eq_getElem (by omega)]; rfl
    have zz : ∀ n : Nat, n ≤ 2000 → n ≤ sizeLine := fun n h => Nat.le_trans h (by decide)
    have m26 := Int.emod_nonneg (ns[0]'(by omega)) (show (26 : Int) ≠ 0 by decide)
    have l26 := Int.emod_lt_of_pos (ns[0]'(by omega)) (show (0 : Int) < 26 by decide)
    obtain ⟨a, ha, _, sa, la⟩ := ch_at _ m26 (by omega)
    have la := la l26
    refine ⟨_, rfl, _, rfl, u, _, 0, _, rfl, rfl, SqL.of hu, atI_nat (j := 0) (g 0 (by decide)), .inl ⟨_, rfl, _, _, rfl, rfl, (by show (0 : Int) < 26; decide), ?_⟩⟩
    refine ⟨_, _, a, rfl, rfl, by decide +kernel, ha, ?_⟩
    refine ⟨_, rfl, u, _, 1, _, rfl, rfl, SqL.of hu, atI_nat (j := 1) (g 1 (by decide)), .inl ⟨_, rfl, _, _, rfl, rfl, (by show (0 : Int) < 11; decide), _, rfl, ?_, ?_, for_range (lo := 0) (n := (ns[1]'(by omega) % 11).toNat) (fun i σ H' => ∃ (k3 : Option V) (pz : Str) (r : List Nat), σ = [some (.ref u), some (.str chs), some (.str pz), k3, none, none, none] ∧ pz.cps.toList = a :: r ∧ r.length = i ∧ r.all isSign = true ∧ H' = H)
      ⟨none, _, [], rfl, rfl, rfl, rfl, rfl⟩ ?_ ?_⟩⟩
    · have := Int.emod_nonneg (ns[1]'(by omega)) (show (11 : Int) ≠ 0 by decide); omega
    · have := Int.emod_lt_of_pos (ns[1]'(by omega)) (show (0 : Int) < 11 by decide); omega
    · rintro i σ H' hi ⟨k3, pz, r, rfl, hpz, hrl, hrs, rfl⟩
      have hi11 : i < 11 := by have := Int.emod_lt_of_pos (ns[1]'(by omega)) (show (0 : Int) < 11 by decide); omega
      obtain ⟨c, hc, _, sc, _⟩ := ch_at ((ns[2]'(by omega) + (0 + (i : Int)) * ns[3]'(by omega)) % 36) (Int.emod_nonneg _ (by decide)) (Int.emod_lt_of_pos _ (by decide))
      have hl : pz.length = i + 1 := by rw [show pz.length = pz.cps.toList.length by simp [Str.length], hpz, List.length_cons, hrl]
      refine ⟨_, rfl, _, rfl, _, rfl, u, _, 2, _, rfl, rfl, SqL.of hu, atI_nat (j := 2) (g 2 (by decide)), _, rfl, _, rfl, u, _, 3, _, rfl, rfl, SqL.of hu, atI_nat (j := 3) (g 3 (by decide)), _, _, rfl, rfl, .inl ⟨by omega, by omega⟩, _, _, rfl, rfl, .inl ⟨_, rfl, _, _, rfl, rfl, (by show (0 : Int) < 36; decide), _, _, c, rfl, rfl, by decide +kernel, hc, _, _, rfl, rfl, zz _ (by rw [hl]; show i + 1 + 1 ≤ 2000; omega), ?_⟩⟩
      refine ⟨_, _, r ++ [c], rfl, by rw [str_app, hpz]; rfl, by rw [List.length_append, hrl]; rfl, ?_, rfl⟩
      rw [List.all_append, hrs, List.all_cons, sc]
      rfl
    rintro σ H' ⟨k3, pz, r, rfl, hpz, hrl, hrs, rfl⟩
    have hr10 : r.length ≤ 10 := by have := Int.emod_lt_of_pos (ns[1]'(by omega)) (show (0 : Int) < 11 by decide); omega
    have hl : pz.length = r.length + 1 := by rw [show pz.length = pz.cps.toList.length by simp [Str.length], hpz, List.length_cons]
    refine ⟨_, rfl, u, _, 4, _, rfl, rfl, SqL.of hu, atI_nat (j := 4) (g 4 (by decide)), .inl ⟨_, rfl, _, rfl, pz, rfl, zz _ (by omega), _, _, rfl, rfl, (by show (0 : Int) < (pz.length : Int); omega), _, _, rfl, rfl, ?_⟩⟩
    obtain ⟨p0, hp0⟩ := Int.eq_ofNat_of_zero_le (Int.emod_nonneg (ns[4]'(by omega)) (show (pz.length : Int) ≠ 0 by omega))
    obtain ⟨p, hp, hp1⟩ : ∃ p : Nat, ((1 : Int) + ns[4]'(by omega) % (pz.length : Int)) = (p : Int) ∧ 1 ≤ p := ⟨1 + p0, by rw [hp0]; omega, by omega⟩
    refine ⟨_, rfl, u, _, 5, _, rfl, rfl, SqL.of hu, atI_nat (j := 5) (g 5 (by decide)), .inl ⟨_, rfl, ?_⟩⟩
    dsimp only
    refine seq_asg ?_
    have clt : ∀ q : Nat, (cutS pz none (some (q : Int))).length ≤ 11 := fun q => by
      rw [show (cutS pz none (some (q : Int))).length = (cutS pz none (some (q : Int))).cps.toList.length by simp [Str.length], cutS_to, List.length_take, hpz, List.length_cons]; omega
    have clf : ∀ q : Nat, (cutS pz (some (q : Int)) none).length ≤ 11 := fun q => by
      rw [show (cutS pz (some (q : Int)) none).length = (cutS pz (some (q : Int)) none).cps.toList.length by simp [Str.length], cutS_from, List.length_drop, hpz, List.length_cons]; omega
    refine ⟨30, rfl, by decide, by decide, fun L hL => lc_range (lo := 0) (n := 30) (fun i H1 => ∃ zs : List Str, H1 L = some (.lst (zs.map V.str)) ∧ Same H' H1 ∧ zs.length = i ∧ ∀ (j : Nat) (z : Str), zs[j]? = some z → ∃ c, chs.cps.toList[((ns[5]'(by omega) + (0 + (j : Int))) % 36).toNat]? = some c ∧ isSign c = true ∧ IsNm (a :: r) p c z)
      ⟨[], upd_same, same_new hL _, rfl, fun j z hz => by simp at hz⟩ ?_ ?_⟩
    · rintro i H1 hi ⟨zs, hzs, s1, hzl, hza⟩
      obtain ⟨c, hc, hc2, sc, _⟩ := ch_at ((ns[5]'(by omega) + (0 + (i : Int))) % 36) (Int.emod_nonneg _ (by decide)) (Int.emod_lt_of_pos _ (by decide))
      refine ⟨rfl, yes_go ?_⟩
      refine ⟨_, rfl, _, rfl, _, rfl, pz, rfl, zz _ (by omega), _, rfl, _, rfl, _, rfl, _, _, rfl, rfl, .inl ⟨_, rfl, _, _, rfl, rfl, (by show (0 : Int) < 36; decide), _, _, c, rfl, rfl, by decide +kernel, hc, _, _, rfl, rfl, ?_, _, rfl, _, rfl, _, rfl, pz, rfl, zz _ (by omega), _, _, rfl, rfl, ?_, ?_⟩⟩
      · rw [hp]; exact zz _ (by have := clt p; show _ + 1 ≤ 2000; omega)
      · rw [hp]; exact zz _ (by
          have := clt p
          have := clf p
          have e : (cutS pz none (some (p : Int)) ++ (⟨#[c]⟩ : Str)).length = (cutS pz none (some (p : Int))).length + 1 := by rw [slen0]; rfl
          show (cutS pz none (some (p : Int)) ++ (⟨#[c]⟩ : Str)).length + _ ≤ 2000
          omega)
      · rw [hp]
        refine ⟨_, hzs, small1000 (by rw [List.length_map]; omega), zs ++ [cutS pz none (some (p : Int)) ++ ⟨#[c]⟩ ++ cutS pz (some (p : Int)) none], by rw [upd_same, List.map_append]; rfl, same_set s1 hL, by rw [List.length_append, hzl]; rfl, fun j z hz => ?_⟩
        by_cases hj : j < zs.length
        · rw [List.getElem?_append_left hj] at hz
          exact hza j z hz
        · rw [List.getElem?_append_right (by omega)] at hz
          have hj0 : j - zs.length = 0 := by
            apply Decidable.byContradiction
            intro k
            rw [List.getElem?_eq_none (by rw [List.length_singleton]; omega)] at hz
            cases hz
          rw [hj0] at hz
          have hz := Option.some.inj hz
          have ej : j = i := by omega
          subst ej
          refine ⟨c, hc2, sc, ⟨?_⟩⟩
          rw [← hz, str_app, str_app, cutS_to, cutS_from, hpz]
          simp
    rintro H1 ⟨zs, hzs, s1, hzl, hza⟩
    refine g_nx ?_
    refine ⟨_, rfl, _, rfl, (by show 0 ≤ sizeLine; decide), fun M hM => ⟨(by show 4 ≤ sizeLine; decide), fun A2 hA2 => ?_⟩⟩
    have hu1 := s1 _ _ hu
    have nML : M ≠ L := fun e => by rw [e, hzs] at hM; cases hM
    have nMu : M ≠ u := fun e => by rw [e, hu1] at hM; cases hM
    have hA3 : H1 A2 = none := by
      by_cases e : A2 = M
      · rw [e, upd_same] at hA2; cases hA2
      · rw [upd_ne e] at hA2; exact hA2
    have nAM : A2 ≠ M := fun e => by rw [e, upd_same] at hA2; cases hA2
    have nAL : A2 ≠ L := fun e => by rw [e, hzs] at hA3; cases hA3
    have nAu : A2 ≠ u := fun e => by rw [e, hu1] at hA3; cases hA3
    have nLu : L ≠ u := fun e => by rw [e, hu] at hL; cases hL
    refine q ⟨A2, u, L, M⟩ zs _ (s1.trans ((same_new hM _).trans (same_new hA2 _))) rfl ⟨⟨6, upd_same⟩, ⟨ns, by rw [upd_ne nAu.symm, upd_ne nMu.symm]; exact hu1, hlen⟩, by show upd _ A2 _ L = _; rw [upd_ne nAL.symm, upd_ne nML.symm]; exact hzs, ⟨[], by show upd _ A2 _ M = _; rw [upd_ne nAM.symm, upd_same], rfl⟩, nAL, nAM, nML.symm, nAu.symm, nLu.symm, nMu.symm⟩ hzl ?_ ?_ ?_
    · refine List.pairwise_iff_getElem.mpr fun i j hi hj hij e => ?_
      obtain ⟨c1, e1, _, n1⟩ := hza i _ (List.getElem?_eq_getElem hi)
      obtain ⟨c2, e2, _, n2⟩ := hza j _ (List.getElem?_eq_getElem hj)
      have ec := nm_inj n1 n2 e
      rw [ec, ← e2] at e1
      have z1 := Int.emod_nonneg (ns[5]'(by omega) + (0 + (i : Int))) (show (36 : Int) ≠ 0 by decide)
      have z2 := Int.emod_lt_of_pos (ns[5]'(by omega) + (0 + (i : Int))) (show (0 : Int) < 36 by decide)
      have z3 := Int.emod_nonneg (ns[5]'(by omega) + (0 + (j : Int))) (show (36 : Int) ≠ 0 by decide)
      have hlt : ((ns[5]'(by omega) + (0 + (i : Int))) % 36).toNat < chs.cps.toList.length := by rw [chs_len]; omega
      have := (List.getElem?_inj hlt chs_nodup).mp e1
      omega
    · intro z hz
      obtain ⟨j, hj, e⟩ := List.mem_iff_getElem.mp hz
      obtain ⟨c, _, sc, n1⟩ := hza j z (by rw [List.getElem?_eq_getElem hj, e])
      exact nm_ok n1 la hrs hr10 hp1 sc
    · intro z hz
      obtain ⟨j, hj, e⟩ := List.mem_iff_getElem.mp hz
      obtain ⟨c, _, sc, n1⟩ := hza j z (by rw [List.getElem?_eq_getElem hj, e])
      have l1 : z.length = z.cps.toList.length := by simp [Str.length]
      have e1 : ns.getD 1 0 = ns[1]'(by omega) := by rw [List.getD_eq_getElem?_getD, List.getElem?_eq_getElem (by omega)]; rfl
      rw [l1, n1.e, List.length_append, List.length_cons, List.length_take, List.length_drop, List.length_cons, nmLen, e1]
      omega
end
end Bs

set_option Elab.async false
set_option linter.all false
set_option maxRecDepth 100000
set_option maxHeartbeats 4000000
namespace Bs
open PySem L2
/-! ### the law's own blocks and walk, over items that are not frozen; G is where they stood at the beginning -/
abbrev RowsF (G : Hp) : List V → List Its → Prop := Paired fun v b => ∃ q xs, v = .ref q ∧ RowAt false G q xs ∧ b.At false G xs
theorem RowsF.len {H : Hp} : ∀ {l : List V} {r : List Its}, RowsF H l r → l.length = r.length
  | _, _, .nil => rfl
  | _, _, .cons _ t => by simp [RowsF.len t]
theorem RowsF.get {H : Hp} : ∀ {l : List V} {r : List Its} {i : Nat} {v : V}, RowsF H l r → l[i]? = some v → ∃ b q xs, r[i]? = some b ∧ v = .ref q ∧ RowAt false H q xs ∧ b.At false H xs
  | _, _, _, _, .nil, e => by simp at e
  | _, _, 0, _, .cons ⟨q, xs, e0, h, g⟩ _, e => by simp at e; subst e; exact ⟨_, q, xs, by simp, e0, h, g⟩
  | _, _, i + 1, _, .cons _ t, e => by obtain ⟨b, q, xs, h⟩ := RowsF.get (i := i) t (by simpa using e); exact ⟨b, q, xs, by simpa using h.1, h.2⟩
theorem rowsF_E {H : Hp} : ∀ {bs : Blks} {l : List V}, bs.AtE false H l → RowsF H l bs.list
  | .nil, _, h => by simp only [Blks.AtE] at h; subst h; exact .nil
  | .cons v b r, _, h => by
    simp only [Blks.AtE] at h
    obtain ⟨q, xs, l', rfl, h1, h2, h3⟩ := h
    exact .cons ⟨q, xs, rfl, h1, h2⟩ (rowsF_E h3)
theorem RowsF.app {H : Hp} {v : V} {p : Its} (h : ∃ q xs, v = .ref q ∧ RowAt false H q xs ∧ p.At false H xs) : ∀ {l : List V} {r : List Its}, RowsF H l r → RowsF H (l ++ [v]) (r ++ [p])
  | _, _, .nil => .cons h .nil
  | _, _, .cons q t => .cons q (RowsF.app h t)
def spLBlocks : Sp := fun vs H Q _ => ∃ (G : Hp) (v : V) (x : It), vs = [v] ∧ Same G H ∧ x.At false G v ∧ x.blocks.length ≤ 100 ∧ ∀ r zs H', Same H H' → H r = none → H' r = some (.lst zs) → RowsF G zs x.blocks → Q (.ref r) H'
theorem seqOf {K : PySem.W.Frag} {H : Hp} {p : Addr} {xs : List V} (h : RowAt false H p xs) : SqL K H p xs ∨ SqT K H p xs := h.elim (fun h => .inr (SqT.of h)) fun h => .inl (SqL.of h.2)
section
variable {P : Program} {w : World} {K : PySem.W.Frag} {mg : Str → Option Value} {base : Heap} {f : Addr} {fd : FuncData}
theorem scLBlocks : FnScope ["item", "case"] ["item"] (defScope sLawBlocks) := ⟨rfl, rfl, rfl, by decide +kernel, rfl, by decide +kernel, by decide +kernel⟩
theorem ok_lblocks (F : Fun K "_law_blocks" "_law_blocks" sLawBlocks f fd) (mlist : mg "list" = none) : FnOk P w K mg base CX0 1 f fd ["item"] spLBlocks := by
  refine F.ok scLBlocks (fun vs H Q E h => ?_) (fun cdv A outer s H vs Q E hr h => ?_)
  · obtain ⟨G, v, x, rfl, _⟩ := h
    rfl
  · obtain ⟨G, v, x, rfl, sG, hat0, hb, q⟩ := h
    have hat := hat0.same sG
    obtain ⟨p, rest, rfl, hp, hlen⟩ := At_head hat
    have hT : SqT K H p _ := SqT.of hp
    refine ⟨_, pss_cons (ps_if (pt_cmpR op_eq (pe_ix ix_tup (pv 0) pe_int (fun _ _ => rfl)) pe_str (nomark _)) (pss_one (ps_ret (pe_lst (pa_cons (pe_ix ix_tup (pv 0) pe_int (fun _ _ => rfl)) pa_nil)))) pss_nil)
      (pss_cons (ps_if (pt_cmpR op_eq (pe_ix ix_tup (pv 0) pe_int (fun _ _ => rfl)) pe_str (nomark _)) (pss_one (ps_ret (pe_callTy call_list_of (by rfl) mlist (by decide +kernel) (pa_cons (pe_ix ix_tup (pv 0) pe_int (fun _ _ => rfl)) pa_nil)))) pss_nil)
      (pss_cons (ps_if (pt_cmpR op_eq (pe_ix ix_tup (pv 0) pe_int (fun _ _ => rfl)) pe_str (nomark _)) (pss_one (ps_ret (pe_lc (own := [("case", 1)]) (g := gName 1) (tt := tYes) rfl scLBlocks.nd (pi_row (pe_ix ix_tup (pv 0) pe_int (fun _ _ => rfl)))
            (blkOk_by (own := [("case", 1)]) (N := ["item", "case"]) (sc := defScope sLawBlocks) (by decide +kernel)) (fun _ _ _ _ _ => pg_name (i := 1) scLBlocks.nd rfl (Or.inl rfl))
            (fun _ _ _ _ _ => pts_nil) (fun _ _ _ _ _ => pe_ix (r := rIxT K) ix_tup (pv 1) pe_int (fun _ _ => rfl))))) pss_nil)
      (pss_one (ps_ret (pe_lst pa_nil))))), ?_⟩
    refine ⟨_, rfl, p, _, 0, _, rfl, rfl, hT, atI_nat (j := 0) rfl, rfl, _, rfl, ?_⟩
    cases x with
    | rep n amt b =>
      simp only [It.At] at hat0
      obtain ⟨p', q2, xs, e1, h1, hrow, hbb⟩ := hat0
      cases e1
      refine ite2 (fun _ => ?_) (fun z => (z (decide_eq_true rfl)).elim)
      refine ⟨_, rfl, p, _, 3, _, rfl, rfl, SqT.of (sG _ _ h1), atI_nat (j := 3) rfl, (by show 1 ≤ sizeLine; decide), fun t ht4 => ?_⟩
      exact q t _ _ (same_new ht4 _) ht4 upd_same (.cons ⟨q2, xs, rfl, hrow, hbb⟩ .nil)
    | eit n bs =>
      simp only [It.At] at hat0
      obtain ⟨p', q2, xs, e1, h1, hrow, hbb⟩ := hat0
      cases e1
      refine ite2 (fun z => absurd (of_decide_eq_true z) (kne (by simp only [It.kind]; decide +kernel))) (fun _ => ?_)
      refine ⟨_, rfl, p, _, 0, _, rfl, rfl, hT, atI_nat (j := 0) rfl, rfl, _, rfl, ite2 (fun _ => ?_) (fun z => (z (decide_eq_true rfl)).elim)⟩
      refine ⟨_, rfl, p, _, 2, _, rfl, rfl, SqT.of (sG _ _ h1), atI_nat (j := 2) rfl, q2, xs, rfl, seqOf (hrow.same sG), fun r hr2 => ?_⟩
      exact q r xs _ (same_new hr2 _) hr2 upd_same (rowsF_E hbb)
    | swi n tag bs =>
      simp only [It.At] at hat0
      obtain ⟨p', q2, xs, e1, h1, hrow, hbb⟩ := hat0
      cases e1
      refine ite2 (fun z => absurd (of_decide_eq_true z) (kne (by simp only [It.kind]; decide +kernel))) (fun _ => ?_)
      refine ⟨_, rfl, p, _, 0, _, rfl, rfl, hT, atI_nat (j := 0) rfl, rfl, _, rfl, ite2 (fun z => absurd (of_decide_eq_true z) (kne (by simp only [It.kind]; decide +kernel))) (fun _ => ?_)⟩
      refine ⟨_, rfl, p, _, 0, _, rfl, rfl, hT, atI_nat (j := 0) rfl, rfl, _, rfl, ite2 (fun _ => ?_) (fun z => (z (decide_eq_true rfl)).elim)⟩
      have el := hbb.len
      have hb : bs.list.length ≤ 100 := hb
      refine ⟨_, rfl, p, _, 3, _, rfl, rfl, SqT.of (sG _ _ h1), atI_nat (j := 3) rfl, q2, rfl, ?_⟩
      refine row_go (hrow.same sG) (fun J wk => ?_)
      intro D hD
      refine lc_it wk (fun i H' => Same H H' ∧ ∃ acc, H' D = some (.lst acc) ∧ RowsF G acc (bs.list.take i)) ⟨same_new hD _, [], upd_same, .nil⟩ (fun _ _ _ z => z.1) ?_ ?_
      · rintro i v H2 H3 hi ⟨s2, acc, hacc, hra⟩ ⟨e3, hv⟩
        subst e3
        obtain ⟨c, b, pc, qb, zs, gb, rfl, hpc, hrw, hb2⟩ := AtS_item hbb hv
        refine ⟨rfl, yes_go ⟨_, rfl, pc, _, 1, _, rfl, rfl, SqT.of (s2 _ _ (sG _ _ hpc)), atI_nat (j := 1) rfl, acc, hacc, small1000 (by rw [hra.len, List.length_take]; omega), same_set s2 hD, acc ++ [.ref qb], upd_same, ?_⟩⟩
        rw [take_more (listB_get gb)]
        exact RowsF.app ⟨qb, zs, rfl, hrw, hb2⟩ hra
      · rintro H2 ⟨s2, acc, hacc, hra⟩
        rw [el, ← listB_len, List.take_length] at hra
        exact q D acc H2 s2 hD hacc hra
    | _ =>
      refine ite2 (fun z => absurd (of_decide_eq_true z) (kne (by simp only [It.kind]; decide +kernel))) (fun _ => ?_)
      refine ⟨_, rfl, p, _, 0, _, rfl, rfl, hT, atI_nat (j := 0) rfl, rfl, _, rfl, ite2 (fun z => absurd (of_decide_eq_true z) (kne (by simp only [It.kind]; decide +kernel))) (fun _ => ?_)⟩
      refine ⟨_, rfl, p, _, 0, _, rfl, rfl, hT, atI_nat (j := 0) rfl, rfl, _, rfl, ite2 (fun z => absurd (of_decide_eq_true z) (kne (by simp only [It.kind]; decide +kernel))) (fun _ => ?_)⟩
      refine ⟨(by show 0 ≤ sizeLine; decide), fun r hr2 => ?_⟩
      exact q r [] _ (same_new hr2 _) hr2 upd_same .nil
/-- the rows of _law_walk -/
abbrev WalkF (G H : Hp) : List V → List (Int × It) → Prop := Paired fun v p => ∃ t u, v = .ref t ∧ H t = some (.tup [.int p.1, u]) ∧ p.2.At false G u
theorem WalkF.kp {G H H' : Hp} (s : ∀ b xs, H b = some (.tup xs) → H' b = some (.tup xs)) : ∀ {l : List V} {r : List (Int × It)}, WalkF G H l r → WalkF G H' l r
  | _, _, .nil => .nil
  | _, _, .cons ⟨t, u, e, h, g⟩ r => .cons ⟨t, u, e, s _ _ h, g⟩ (WalkF.kp s r)
theorem WalkF.len {G H : Hp} : ∀ {l : List V} {r : List (Int × It)}, WalkF G H l r → l.length = r.length
  | _, _, .nil => rfl
  | _, _, .cons _ t => by simp [WalkF.len t]
theorem WalkF.cat {G H : Hp} : ∀ {l m : List V} {r q : List (Int × It)}, WalkF G H l r → WalkF G H m q → WalkF G H (l ++ m) (r ++ q)
  | _, _, _, _, .nil, h => h
  | _, _, _, _, .cons a t, h => .cons a (WalkF.cat t h)
theorem WalkF.get {G H : Hp} : ∀ {l : List V} {r : List (Int × It)} {i : Nat} {v : V}, WalkF G H l r → l[i]? = some v → ∃ d y t u, r[i]? = some (d, y) ∧ v = .ref t ∧ H t = some (.tup [.int d, u]) ∧ y.At false G u
  | _, _, _, _, .nil, e => by simp at e
  | _, _, 0, _, .cons (b := (d, y)) ⟨t, u, e0, h, g⟩ _, e => by simp at e; subst e; exact ⟨d, y, t, u, by simp, e0, h, g⟩
  | _, _, i + 1, _, .cons _ t, e => by obtain ⟨d, y, t, u, h⟩ := WalkF.get (i := i) t (by simpa using e); exact ⟨d, y, t, u, by simpa using h.1, h.2⟩
def spLWalk (n : Nat) : Sp := fun vs H Q _ => ∃ (G : Hp) (a : Addr) (x : Its) (xs : List V) (d : Int), vs = [.ref a, .int d] ∧ d + n = 3 ∧ x.ok d = true ∧ Same G H ∧ RowAt false G a xs ∧ x.At false G xs ∧ (x.walk d).length ≤ 1000 ∧
  ∀ r rows H', Same H H' → H r = none → H' r = some (.lst rows) → WalkF G H' rows (x.walk d) → Q (.ref r) H'
theorem scLWalk : FnScope ["items", "depth", "found", "item", "block"] ["items", "depth"] (defScope sLawWalk) := ⟨rfl, rfl, rfl, by decide +kernel, rfl, by decide +kernel, by decide +kernel⟩
theorem ok_lwalk {n k : Nat} (hk : 1 ≤ k) (F : Fun K "_law_walk" "_law_walk" sLawWalk f fd) (gB : Cal P w K mg base CX0 1 "_law_blocks" ["item"] spLBlocks) (gS : Cal P w K mg base CX0 k "_law_walk" ["items", "depth"] (spSub spLWalk n)) :
    FnOk P w K mg base CX0 (k + 1) f fd ["items", "depth"] (spLWalk n) := by
  refine F.ok scLWalk (fun vs H Q E h => ?_) (fun cdv A outer s H vs Q E hr h => ?_)
  · obtain ⟨G, a, x, xs, d, rfl, _⟩ := h
    rfl
  · obtain ⟨G, a, x, xs, d, rfl, hd, ok, sG, hrow, hat, hw, q⟩ := h
    refine ⟨_, pss_cons (ps_set (i := 2) scLWalk.nd rfl (.inl rfl) (pe_lst pa_nil))
      (pss_cons (ps_for PassesOwn.never rfl (pi_row (pv 0)) (pg_name (i := 3) scLWalk.nd rfl (.inl rfl))
        (pss_cons (ps_expr (pe_bm PySem.F.plainAttrs_list PySem.F.slot_list_append PySem.F.type_list_append mt_append (pv 2) (pa_cons (pe_tup (pa_cons (pv 1) (pa_cons (pv 3) pa_nil))) pa_nil)))
        (pss_one (ps_for PassesOwn.never rfl (pi_list (pe_cal gB (hr.mono hk) pass0 (pa_cons (pv 3) pa_nil))) (pg_name (i := 4) scLWalk.nd rfl (.inl rfl))
          (pss_one (ps_set (i := 2) scLWalk.nd rfl (.inl rfl) (pe_op op_cat (pv 2) (pe_cal gS hr pass0 (pa_cons (pv 4) (pa_cons (pe_op op_add (pv 1) pe_int) pa_nil))))))))))
      (pss_one (ps_ret (pv 2)))), ?_⟩
    refine ⟨(by show 0 ≤ sizeLine; decide), fun D0 hD0 => ?_⟩
    have s0 := same_new hD0 (.lst [])
    have el := hat.len
    refine ⟨_, rfl, a, rfl, ?_⟩
    refine row_go2 (H0 := H) (hrow.same sG) s0 (fun J wk => ?_)
    refine for_it wk (fun i σ H' => ∃ D i3 i4, σ = [some (.ref a), some (.int d), some (.ref D), i3, i4] ∧ Same H H' ∧ H D = none ∧ ∃ acc, H' D = some (.lst acc) ∧ WalkF G H' acc ((x.take i).walk d))
      ⟨D0, none, none, rfl, s0, hD0, [], upd_same, by simp [Its.take, Its.walk]; exact .nil⟩ (fun _ _ _ _ h => by obtain ⟨_, _, _, _, z, _⟩ := h; exact z) ?_ ?_
    · rintro i v σ H2 H2' hi ⟨D, i3, i4, rfl, s2, hD, acc, hacc, hwa⟩ ⟨e3, hv⟩
      subst e3
      obtain ⟨y, gy, ay⟩ := At_item hat hv
      obtain ⟨b8, bok⟩ := blocks_ok (get_okd ok gy)
      have wl := walk_len (d := d) gy
      have wy := walk_it y d
      have hal := hwa.len
      refine ⟨_, rfl, .inl ⟨rfl, _, SqL.of hacc⟩, _, rfl, _, rfl, (by show 2 ≤ sizeLine; decide), fun t ht4 => ?_⟩
      have s3 := same_new ht4 (.tup [.int d, v])
      have hacc3 := s3 _ _ hacc
      refine ⟨D, acc, .ref t, rfl, rfl, hacc3, small1000 (by omega), ?_⟩
      have hS3 : Same H (upd (upd H2' t (.tup [.int d, v])) D (.lst (acc ++ [.ref t]))) := same_set (s2.trans s3) hD
      have k3 : ∀ b ys, H2' b = some (.tup ys) → (upd (upd H2' t (.tup [.int d, v])) D (.lst (acc ++ [.ref t]))) b = some (.tup ys) := fun b ys e => by
        rw [upd_ne (ne_of e hacc (by intro z; cases z))]
        exact s3 _ _ e
      have hw3 : WalkF G (upd (upd H2' t (.tup [.int d, v])) D (.lst (acc ++ [.ref t]))) (acc ++ [.ref t]) ((x.take i).walk d ++ [(d, y)]) := by
        refine (hwa.kp k3).cat (.cons ⟨t, v, rfl, ?_, ay⟩ .nil)
        rw [upd_ne (ne_of upd_same hacc3 (by intro z; cases z)), upd_same]
      generalize hH3 : upd (upd H2' t (.tup [.int d, v])) D (.lst (acc ++ [.ref t])) = H3 at k3 hS3 hw3
      have hD3 : H3 D = some (.lst (acc ++ [.ref t])) := by rw [← hH3]; exact upd_same
      refine ⟨_, rfl, G, v, y, rfl, sG.trans hS3, ay, by omega, fun r zs H4 s4 hr0 hr4 hrows => ?_⟩
      refine ⟨r, rfl, ⟨_, SqL.of hr4⟩, for_list (K := K) (a := r) (xs := zs) (fun j σ H' => ∃ D i4, σ = [some (.ref a), some (.int d), some (.ref D), some v, i4] ∧ Same H H' ∧ H D = none ∧ H' r = some (.lst zs) ∧ ∃ acc', H' D = some (.lst acc') ∧ WalkF G H' acc' ((x.take i).walk d ++ [(d, y)] ++ (y.blocks.take j).flatMap (·.walk (d + 1))))
        ⟨D, _, rfl, hS3.trans s4, hD, hr4, _, s4 _ _ hD3, by simpa using hw3.kp (fun b xs h => s4 _ _ h)⟩ (fun j σ H' _ z => by obtain ⟨_, _, _, _, _, z, _⟩ := z; exact SqL.of z) ?_ ?_⟩
      · rintro j z σ H5 hj ⟨D, i4, rfl, s5, hD5, hr5, acc', hacc', hwa'⟩
        obtain ⟨b, qb, xb, gb, rfl, hqb, hbb⟩ := hrows.get hj
        obtain ⟨d2, bk⟩ := bok b (List.mem_of_getElem? gb)
        have fl := flat_len (d := d + 1) gb
        have yl : (y.walk d).length = 1 + (y.blocks.flatMap (·.walk (d + 1))).length := by rw [wy, List.length_cons]; omega
        have hal' := hwa'.len
        rw [List.length_append, List.length_append, List.length_singleton] at hal'
        cases n with
        | zero => exfalso; omega
        | succ m =>
          refine ⟨_, rfl, _, rfl, _, rfl, d, 1, rfl, rfl, G, qb, b, xb, d + 1, rfl, by omega, bk, sG.trans s5, hqb, hbb, by omega, fun r6 rows H6 s6 h60 h6 w6 => ?_⟩
          have hacc6 := s6 _ _ hacc'
          refine ⟨D, r6, acc', rows, rfl, rfl, hacc6, h6, le_line (by rw [w6.len]; omega), fun p7 hp7 => ?_⟩
          have s7 := same_new hp7 (.lst (acc' ++ rows))
          refine ⟨p7, _, rfl, s5.trans (s6.trans s7), (s5.trans s6).free hp7, (s6.trans s7) _ _ hr5, acc' ++ rows, upd_same, ?_⟩
          rw [take_more gb, List.flatMap_append, ← List.append_assoc]
          simp only [List.flatMap_cons, List.flatMap_nil, List.append_nil]
          exact (hwa'.kp (fun b xs h => (s6.trans s7) _ _ h)).cat (w6.kp (fun b xs h => s7 _ _ h))
      · rintro σ H5 ⟨D, i4, rfl, s5, hD5, hr5, acc', hacc', hwa'⟩
        rw [hrows.len, List.take_length] at hwa'
        refine ⟨D, _, _, rfl, s5, hD5, acc', hacc', ?_⟩
        rw [walk_take gy, wy]
        simpa using hwa'
    · rintro σ H2 ⟨D, i3, i4, rfl, s2, hD, acc, hacc, hwa⟩
      rw [el, take_all] at hwa
      exact ⟨_, rfl, q D acc H2 s2 hD hacc hwa⟩
end
end Bs

set_option Elab.async false
set_option linter.all false
set_option maxRecDepth 100000
set_option maxHeartbeats 4000000
namespace Bs
open PySem L2
/-! ### the written form -/
def iS (i : Int) : Str := Str.ofString (toString i)
def kS : Key → Str
  | .inl i => iS i
  | .inr z => z
def wd (l : List Str) : Str := Txt.join " " l
def It.words : It → List Str
  | .num n s o lo hi => ["number", n, iS s, o, iS lo, iS hi]
  | .byt n a => ["bytes", n, kS a]
  | .txt n st m => ["text", n, iS st, iS m]
  | .chk n m => ["check", n, iS m]
  | .pad n m b => ["pad", n, iS m, iS b]
  | .rep n a _ => ["repeat", n, kS a]
  | .eit n _ => ["either", n]
  | .swi n t _ => ["switch", n, t]
mutual
def It.lines : It → List Str
  | .rep n a b => wd ["repeat", n, kS a] :: (b.lines ++ [("end" : Str)])
  | .eit n bs => wd ["either", n] :: (bs.linesE ++ [("end" : Str)])
  | .swi n t bs => wd ["switch", n, t] :: (bs.linesS ++ [("end" : Str)])
  | x => [wd x.words]
def Its.lines : Its → List Str
  | .nil => []
  | .cons x r => x.lines ++ r.lines
def Blks.linesE : Blks → List Str
  | .nil => []
  | .cons _ b r => ("choice" : Str) :: (b.lines ++ r.linesE)
def Blks.linesS : Blks → List Str
  | .nil => []
  | .cons v b r => (("case " : Str) ++ iS v) :: (b.lines ++ r.linesS)
end
theorem lines_take : ∀ {x : Its} {i : Nat} {y : It}, x.get i = some y → (x.take (i + 1)).lines = (x.take i).lines ++ y.lines
  | .nil, _, _, e => by simp [Its.get] at e
  | .cons x r, 0, y, e => by simp [Its.get] at e; subst e; simp [Its.take, Its.lines]
  | .cons x r, i + 1, y, e => by
    show (Its.cons x (r.take (i + 1))).lines = (Its.cons x (r.take i)).lines ++ y.lines
    simp only [Its.lines, lines_take (x := r) e, List.append_assoc]
theorem linesE_take : ∀ {x : Blks} {i : Nat} {c : Int} {b : Its}, x.get i = some (c, b) → (x.take (i + 1)).linesE = (x.take i).linesE ++ (("choice" : Str) :: b.lines)
  | .nil, _, _, _, e => by simp [Blks.get] at e
  | .cons v x r, 0, c, b, e => by simp only [Blks.get, Option.some.injEq, Prod.mk.injEq] at e; obtain ⟨rfl, rfl⟩ := e; simp [Blks.take, Blks.linesE]
  | .cons v x r, i + 1, c, b, e => by
    show (Blks.cons v x (r.take (i + 1))).linesE = (Blks.cons v x (r.take i)).linesE ++ _
    simp only [Blks.linesE, linesE_take (x := r) e, List.append_assoc, List.cons_append]
theorem linesS_take : ∀ {x : Blks} {i : Nat} {c : Int} {b : Its}, x.get i = some (c, b) → (x.take (i + 1)).linesS = (x.take i).linesS ++ ((("case " : Str) ++ iS c) :: b.lines)
  | .nil, _, _, _, e => by simp [Blks.get] at e
  | .cons v x r, 0, c, b, e => by simp only [Blks.get, Option.some.injEq, Prod.mk.injEq] at e; obtain ⟨rfl, rfl⟩ := e; simp [Blks.take, Blks.linesS]
  | .cons v x r, i + 1, c, b, e => by
    show (Blks.cons v x (r.take (i + 1))).linesS = (Blks.cons v x (r.take i)).linesS ++ _
    simp only [Blks.linesS, linesS_take (x := r) e, List.append_assoc, List.cons_append]
/-! ### ints are small -/
def sm (i : Int) : Prop := i.natAbs.log2 < 1920
theorem sm_of {i : Int} (h : i.natAbs < 2 ^ 64) : sm i := by
  unfold sm
  by_cases z : i.natAbs = 0
  · rw [z]; decide
  · rw [Nat.log2_lt z]
    exact Nat.lt_of_lt_of_le h (Nat.pow_le_pow_right (by decide) (by omega))
theorem iS_len {i : Int} (h : sm i) : (iS i).length ≤ 1921 := PyProof.Rows.int_text_len_1921 h
def kSm : Key → Prop
  | .inl i => sm i
  | .inr z => z.length ≤ 1000
mutual
def It.fine : It → Prop
  | .num n s o lo hi => n.length ≤ 1000 ∧ o.length ≤ 1000 ∧ sm s ∧ sm lo ∧ sm hi
  | .byt n a => n.length ≤ 1000 ∧ kSm a
  | .txt n st m => n.length ≤ 1000 ∧ sm st ∧ sm m
  | .chk n m => n.length ≤ 1000 ∧ sm m
  | .pad n m b => n.length ≤ 1000 ∧ sm m ∧ sm b
  | .rep n a b => n.length ≤ 1000 ∧ kSm a ∧ b.fine
  | .eit n bs => n.length ≤ 1000 ∧ bs.fine
  | .swi n t bs => n.length ≤ 1000 ∧ t.length ≤ 1000 ∧ (∀ v ∈ bs.vals, sm v) ∧ bs.fine
def Its.fine : Its → Prop
  | .nil => True
  | .cons x r => x.fine ∧ r.fine
def Blks.fine : Blks → Prop
  | .nil => True
  | .cons _ b r => b.fine ∧ r.fine
end
/-- the names in an environment are short -/
def EnvN (f : Env) : Prop := ∀ z p, f z = some p → z.length ≤ 1000
theorem amount_sm {f : Env} (hf : EnvN f) {most : Int} (hm : most ≤ 1000) {a : Key} {l : Int × Int} (e : amount f most a = some l) : kSm a := by
  cases a with
  | inl i =>
    simp only [amount] at e
    by_cases c : 0 ≤ i ∧ i ≤ most
    · exact sm_of (by omega)
    · rw [if_neg c] at e; cases e
  | inr z =>
    simp only [amount] at e
    cases h : f z with
    | none => rw [h] at e; cases e
    | some p => exact hf z p h
theorem envN_seen {f : Env} (hf : EnvN f) {y : It} (ht : y.tame) : EnvN (y.seen f) := by
  cases y with
  | num n s o lo hi =>
    intro z p e
    have e : (if z = n then some (lo, hi) else f z) = some p := e
    by_cases c : z = n
    · rw [c]; exact It.tame_name ht
    · rw [if_neg c] at e; exact hf z p e
  | _ => exact hf
mutual
theorem It.fine_of : ∀ (x : It) (f : Env) (l : Int × Int), EnvN f → x.tame → x.lens f = some l → x.fine
  | .num n s o lo hi, f, l, hf, t, e => by
    have nm := It.tame_name t
    simp only [It.lens] at e
    by_cases c : numOk s o lo hi = true
    · unfold numOk at c
      rw [Bool.and_eq_true, Bool.and_eq_true, Bool.and_eq_true] at c
      have c1 := of_decide_eq_true c.1
      have c2 := of_decide_eq_true c.2.1
      have c3 := of_decide_eq_true c.2.2.1
      have c4 := of_decide_eq_true c.2.2.2
      have h65 : hi ≤ 65535 := by have := c3.2; split at this <;> omega
      simp only [It.fine]
      refine ⟨nm, ?_, sm_of (by omega), sm_of (by omega), sm_of (by omega)⟩
      rcases c2 with rfl | rfl <;> decide +kernel
    · rw [if_neg c] at e; cases e
  | .byt n a, f, l, hf, t, e => by
    simp only [It.lens] at e
    simp only [It.fine]
    exact ⟨It.tame_name t, amount_sm hf (by decide) e⟩
  | .txt n st m, f, l, hf, t, e => by
    simp only [It.lens] at e
    by_cases c : (0 ≤ st ∧ st ≤ 255) ∧ 0 ≤ m ∧ m ≤ 64
    · simp only [It.fine]; exact ⟨It.tame_name t, sm_of (by omega), sm_of (by omega)⟩
    · rw [if_neg c] at e; cases e
  | .chk n m, f, l, hf, t, e => by
    simp only [It.lens] at e
    by_cases c : 1 ≤ m ∧ m ≤ 16
    · simp only [It.fine]; exact ⟨It.tame_name t, sm_of (by omega)⟩
    · rw [if_neg c] at e; cases e
  | .pad n m b, f, l, hf, t, e => by
    simp only [It.lens] at e
    by_cases c : (m = 1 ∨ m = 2 ∨ m = 4 ∨ m = 8 ∨ m = 16) ∧ 0 ≤ b ∧ b ≤ 255
    · simp only [It.fine]; exact ⟨It.tame_name t, sm_of (by omega), sm_of (by omega)⟩
    · rw [if_neg c] at e; cases e
  | .rep n a b, f, l, hf, t, e => by
    simp only [It.lens] at e
    have nm := It.tame_name t
    simp only [It.tame] at t
    cases ha : amount f 16 a with
    | none => rw [ha] at e; cases e
    | some q =>
      cases hb : b.lens f with
      | none => rw [ha, hb] at e; cases e
      | some p => simp only [It.fine]; exact ⟨nm, amount_sm hf (by decide) ha, Its.fine_of b f p hf t.2.2 hb⟩
  | .eit n bs, f, l, hf, t, e => by
    simp only [It.lens] at e
    simp only [It.tame] at t
    cases hb : bs.lens f with
    | none => rw [hb] at e; cases e
    | some p => simp only [It.fine]; exact ⟨t.1, Blks.fine_of bs f p hf t.2 hb⟩
  | .swi n tag bs, f, l, hf, t, e => by
    simp only [It.lens] at e
    simp only [It.tame] at t
    by_cases c : (f tag).isSome = true ∧ (∀ v ∈ bs.vals, 0 ≤ v ∧ v ≤ 65535) ∧ bs.vals.Nodup
    · rw [if_pos c] at e
      cases hb : bs.lens f with
      | none => rw [hb] at e; cases e
      | some p =>
        simp only [It.fine]
        obtain ⟨q, hq⟩ := Option.isSome_iff_exists.mp c.1
        exact ⟨t.1, hf tag q hq, fun v hv => sm_of (by have := c.2.1 v hv; omega), Blks.fine_of bs f p hf t.2.2 hb⟩
    · rw [if_neg c] at e; cases e
theorem Its.fine_of : ∀ (x : Its) (f : Env) (l : Int × Int), EnvN f → x.tame → x.lens f = some l → x.fine
  | .nil, f, l, hf, t, e => by simp only [Its.fine]
  | .cons x r, f, l, hf, t, e => by
    rw [lens_cons] at e
    simp only [Its.tame] at t
    simp only [Its.fine]
    cases hx : x.lens f with
    | none => rw [hx] at e; cases e
    | some a =>
      rw [hx] at e
      simp only at e
      cases hr : r.lens (x.seen f) with
      | none => rw [hr] at e; cases e
      | some b => exact ⟨It.fine_of x f a hf t.1 hx, Its.fine_of r _ b (envN_seen hf t.1) t.2 hr⟩
theorem Blks.fine_of : ∀ (x : Blks) (f : Env) (l : List (Int × Int)), EnvN f → x.tame → x.lens f = some l → x.fine
  | .nil, f, l, hf, t, e => by simp only [Blks.fine]
  | .cons v b r, f, l, hf, t, e => by
    rw [lensB_cons] at e
    simp only [Blks.tame] at t
    simp only [Blks.fine]
    cases hx : b.lens f with
    | none => rw [hx] at e; cases e
    | some a =>
      rw [hx] at e
      simp only at e
      cases hr : r.lens f with
      | none => rw [hr] at e; cases e
      | some c => exact ⟨Its.fine_of b f a hf t.1 hx, Blks.fine_of r f c hf t.2 hr⟩
end
/-! ### how long it is -/
theorem str_len_app (x y : Str) : (x ++ y).length = x.length + y.length := slen0 x y
theorem join_len (y : Str) : ∀ (l : List Str), (Str.join y l).length ≤ (l.map (·.length)).sum + l.length * y.length
  | [] => by show (Str.empty : Str).length ≤ _; have : (Str.empty : Str).length = 0 := by decide +kernel
             omega
  | [x] => by show x.length ≤ _; simp
  | x :: z :: r => by
    have ih := join_len y (z :: r)
    show (x ++ y ++ Str.join y (z :: r)).length ≤ _
    rw [slen0, slen0, List.map_cons, List.sum_cons, List.length_cons, Nat.succ_mul]
    omega
theorem wd_len {l : List Str} (h : ∀ z ∈ l, z.length ≤ 1921) (h6 : l.length ≤ 6) : (wd l).length ≤ 12000 := by
  unfold wd
  rw [TL.join_eq]
  have a := join_len " " l
  have b : ∀ (l : List Str), (∀ z ∈ l, z.length ≤ 1921) → (l.map (·.length)).sum ≤ l.length * 1921 := by
    intro l
    induction l with
    | nil => simp
    | cons x r ih =>
      intro h
      have h1 := h x (List.mem_cons_self ..)
      have h2 := ih fun z hz => h z (List.mem_cons_of_mem _ hz)
      rw [List.map_cons, List.sum_cons, List.length_cons, Nat.succ_mul]
      omega
  have c := b l h
  have e : (" " : Str).length = 1 := by decide +kernel
  rw [e] at a
  have : l.length * 1921 ≤ 6 * 1921 := Nat.mul_le_mul_right _ h6
  omega
theorem kS_len {a : Key} (h : kSm a) : (kS a).length ≤ 1921 := by
  cases a with
  | inl i => exact iS_len h
  | inr z => have h : z.length ≤ 1000 := h; show z.length ≤ 1921; omega
theorem kw_len (z : Str) (h : z = "number" ∨ z = "bytes" ∨ z = "text" ∨ z = "check" ∨ z = "pad" ∨ z = "repeat" ∨ z = "either" ∨ z = "switch") : z.length ≤ 1921 := by
  rcases h with rfl | rfl | rfl | rfl | rfl | rfl | rfl | rfl <;> decide +kernel
theorem words_len {x : It} (h : x.fine) : (∀ z ∈ x.words, z.length ≤ 1921) ∧ x.words.length ≤ 6 := by
  cases x <;> simp only [It.fine] at h <;> refine ⟨fun z hz => ?_, by simp [It.words]⟩ <;> simp only [It.words, List.mem_cons, List.not_mem_nil, or_false] at hz
  · obtain ⟨h1, h2, h3, h4, h5⟩ := h
    rcases hz with rfl | rfl | rfl | rfl | rfl | rfl
    · exact kw_len _ (by simp)
    · omega
    · exact iS_len h3
    · omega
    · exact iS_len h4
    · exact iS_len h5
  · rcases hz with rfl | rfl | rfl
    · exact kw_len _ (by simp)
    · omega
    · exact kS_len h.2
  · rcases hz with rfl | rfl | rfl | rfl
    · exact kw_len _ (by simp)
    · omega
    · exact iS_len h.2.1
    · exact iS_len h.2.2
  · rcases hz with rfl | rfl | rfl
    · exact kw_len _ (by simp)
    · omega
    · exact kS_len h.2.1
  · rcases hz with rfl | rfl
    · exact kw_len _ (by simp)
    · omega
  · rcases hz with rfl | rfl | rfl
    · exact kw_len _ (by simp)
    · omega
    · omega
  · rcases hz with rfl | rfl | rfl
    · exact kw_len _ (by simp)
    · omega
    · exact iS_len h.2
  · rcases hz with rfl | rfl | rfl | rfl
    · exact kw_len _ (by simp)
    · omega
    · exact iS_len h.2.1
    · exact iS_len h.2.2
theorem fixed_len : ("end" : Str).length ≤ 12000 ∧ ("choice" : Str).length ≤ 12000 ∧ ("case " : Str).length ≤ 100 := by decide +kernel
mutual
theorem It.lines_len : ∀ (x : It), x.fine → ∀ z ∈ x.lines, z.length ≤ 12000
  | .num .., h, z, hz => by have w := words_len h; simp only [It.lines, List.mem_singleton] at hz; rw [hz]; exact wd_len w.1 w.2
  | .byt .., h, z, hz => by have w := words_len h; simp only [It.lines, List.mem_singleton] at hz; rw [hz]; exact wd_len w.1 w.2
  | .txt .., h, z, hz => by have w := words_len h; simp only [It.lines, List.mem_singleton] at hz; rw [hz]; exact wd_len w.1 w.2
  | .chk .., h, z, hz => by have w := words_len h; simp only [It.lines, List.mem_singleton] at hz; rw [hz]; exact wd_len w.1 w.2
  | .pad .., h, z, hz => by have w := words_len h; simp only [It.lines, List.mem_singleton] at hz; rw [hz]; exact wd_len w.1 w.2
  | .rep n a b, h, z, hz => by
    have w := words_len h
    simp only [It.fine] at h
    simp only [It.lines, List.mem_cons, List.mem_append, List.not_mem_nil, or_false] at hz
    rcases hz with rfl | hz | rfl
    · exact wd_len w.1 w.2
    · exact Its.lines_len b h.2.2 z hz
    · exact fixed_len.1
  | .eit n bs, h, z, hz => by
    have w := words_len h
    simp only [It.fine] at h
    simp only [It.lines, List.mem_cons, List.mem_append, List.not_mem_nil, or_false] at hz
    rcases hz with rfl | hz | rfl
    · exact wd_len w.1 w.2
    · exact Blks.linesE_len bs h.2 z hz
    · exact fixed_len.1
  | .swi n t bs, h, z, hz => by
    have w := words_len h
    simp only [It.fine] at h
    simp only [It.lines, List.mem_cons, List.mem_append, List.not_mem_nil, or_false] at hz
    rcases hz with rfl | hz | rfl
    · exact wd_len w.1 w.2
    · exact Blks.linesS_len bs h.2.2.2 h.2.2.1 z hz
    · exact fixed_len.1
theorem Its.lines_len : ∀ (x : Its), x.fine → ∀ z ∈ x.lines, z.length ≤ 12000
  | .nil, _, z, hz => by simp [Its.lines] at hz
  | .cons x r, h, z, hz => by
    simp only [Its.fine] at h
    simp only [Its.lines, List.mem_append] at hz
    exact hz.elim (It.lines_len x h.1 z) (Its.lines_len r h.2 z)
theorem Blks.linesE_len : ∀ (x : Blks), x.fine → ∀ z ∈ x.linesE, z.length ≤ 12000
  | .nil, _, z, hz => by simp [Blks.linesE] at hz
  | .cons v b r, h, z, hz => by
    simp only [Blks.fine] at h
    simp only [Blks.linesE, List.mem_cons, List.mem_append] at hz
    rcases hz with rfl | hz | hz
    · exact fixed_len.2.1
    · exact Its.lines_len b h.1 z hz
    · exact Blks.linesE_len r h.2 z hz
theorem Blks.linesS_len : ∀ (x : Blks), x.fine → (∀ v ∈ x.vals, sm v) → ∀ z ∈ x.linesS, z.length ≤ 12000
  | .nil, _, _, z, hz => by simp [Blks.linesS] at hz
  | .cons v b r, h, hv, z, hz => by
    simp only [Blks.fine] at h
    simp only [Blks.linesS, List.mem_cons, List.mem_append] at hz
    rcases hz with rfl | hz | hz
    · rw [slen0]
      have := iS_len (hv v (by simp [Blks.vals]))
      have := fixed_len.2.2
      omega
    · exact Its.lines_len b h.1 z hz
    · exact Blks.linesS_len r h.2 (fun u hu => hv u (by simp [Blks.vals, hu])) z hz
end
mutual
theorem It.lines_num : ∀ (x : It) (d : Int), x.ok d = true → x.lines.length ≤ 12 * x.flat.length
  | .num .., d, _ => by simp [It.lines, It.flat]
  | .byt .., d, _ => by simp [It.lines, It.flat]
  | .txt .., d, _ => by simp [It.lines, It.flat]
  | .chk .., d, _ => by simp [It.lines, It.flat]
  | .pad .., d, _ => by simp [It.lines, It.flat]
  | .rep n a b, d, h => by
    rw [It.ok, Bool.and_eq_true, Bool.and_eq_true, Bool.and_eq_true] at h
    have := Its.lines_num b (d + 1) h.2.2.2
    simp only [It.lines, It.flat, List.length_cons, List.length_append, List.length_nil]
    omega
  | .eit n bs, d, h => by
    rw [It.ok, Bool.and_eq_true, Bool.and_eq_true, Bool.and_eq_true] at h
    have l := of_decide_eq_true h.2.2.1
    have := Blks.linesE_num bs (d + 1) h.2.2.2
    simp only [It.lines, It.flat, List.length_cons, List.length_append, List.length_nil]
    omega
  | .swi n t bs, d, h => by
    rw [It.ok, Bool.and_eq_true, Bool.and_eq_true, Bool.and_eq_true] at h
    have l := of_decide_eq_true h.2.2.1
    have := Blks.linesS_num bs (d + 1) h.2.2.2
    simp only [It.lines, It.flat, List.length_cons, List.length_append, List.length_nil]
    omega
theorem Its.lines_num : ∀ (x : Its) (d : Int), x.ok d = true → x.lines.length ≤ 12 * x.flat.length
  | .nil, d, _ => by simp [Its.lines]
  | .cons x r, d, h => by
    rw [Its.ok, Bool.and_eq_true] at h
    have a := It.lines_num x d h.1
    have b := Its.lines_num r d h.2
    simp only [Its.lines, Its.flat, List.length_append]
    omega
theorem Blks.linesE_num : ∀ (x : Blks) (d : Int), x.ok d = true → x.linesE.length ≤ x.len + 12 * x.flat.length
  | .nil, d, _ => by simp [Blks.linesE]
  | .cons v b r, d, h => by
    rw [Blks.ok, Bool.and_eq_true, Bool.and_eq_true] at h
    have a := Its.lines_num b d h.1.2
    have c := Blks.linesE_num r d h.2
    simp only [Blks.linesE, Blks.flat, Blks.len, List.length_append, List.length_cons]
    omega
theorem Blks.linesS_num : ∀ (x : Blks) (d : Int), x.ok d = true → x.linesS.length ≤ x.len + 12 * x.flat.length
  | .nil, d, _ => by simp [Blks.linesS]
  | .cons v b r, d, h => by
    rw [Blks.ok, Bool.and_eq_true, Bool.and_eq_true] at h
    have a := Its.lines_num b d h.1.2
    have c := Blks.linesS_num r d h.2
    simp only [Blks.linesS, Blks.flat, Blks.len, List.length_append, List.length_cons]
    omega
end
theorem lines_sum {l : List Str} (h : ∀ z ∈ l, z.length ≤ 12000) (h4 : l.length ≤ 1000) : (l.map (·.length)).sum + l.length * ("\n" : Str).length ≤ 16777216 := by
  have b : ∀ (l : List Str), (∀ z ∈ l, z.length ≤ 12000) → (l.map (·.length)).sum ≤ l.length * 12000 := by
    intro l
    induction l with
    | nil => simp
    | cons x r ih =>
      intro h
      have h1 := h x (List.mem_cons_self ..)
      have h2 := ih fun z hz => h z (List.mem_cons_of_mem _ hz)
      rw [List.map_cons, List.sum_cons, List.length_cons, Nat.succ_mul]
      omega
  have c := b l h
  have e : ("\n" : Str).length = 1 := by decide +kernel
  rw [e]
  have : l.length * 12000 ≤ 1000 * 12000 := Nat.mul_le_mul_right _ h4
  omega
theorem words_sum {l : List Str} (h : ∀ z ∈ l, z.length ≤ 1921) (h6 : l.length ≤ 6) : (l.map (·.length)).sum + l.length * (" " : Str).length ≤ 16777216 := by
  have b : ∀ (l : List Str), (∀ z ∈ l, z.length ≤ 1921) → (l.map (·.length)).sum ≤ l.length * 1921 := by
    intro l
    induction l with
    | nil => simp
    | cons x r ih =>
      intro h
      have h1 := h x (List.mem_cons_self ..)
      have h2 := ih fun z hz => h z (List.mem_cons_of_mem _ hz)
      rw [List.map_cons, List.sum_cons, List.length_cons, Nat.succ_mul]
      omega
  have c := b l h
  have e : (" " : Str).length = 1 := by decide +kernel
  rw [e]
  have : l.length * 1921 ≤ 6 * 1921 := Nat.mul_le_mul_right _ h6
  omega
/-! ### a line, word by word -/
theorem join_snoc (y : Str) : ∀ (l : List Str) (z : Str), l ≠ [] → Str.join y (l ++ [z]) = Str.join y l ++ y ++ z
  | [], z, h => absurd rfl h
  | [x], z, _ => rfl
  | x :: w :: r, z, _ => by
    have ih := join_snoc y (w :: r) z (by simp)
    show x ++ y ++ Str.join y (w :: r ++ [z]) = x ++ y ++ Str.join y (w :: r) ++ y ++ z
    rw [ih]
    apply PyProof.Rows.ext_toList
    simp [str_app]
theorem wd_snoc {l : List Str} {z : Str} (h : l ≠ []) : wd (l ++ [z]) = wd l ++ " " ++ z := by
  unfold wd
  rw [TL.join_eq, TL.join_eq]
  exact join_snoc _ _ _ h
theorem wd_two (x y : Str) : wd [x, y] = x ++ " " ++ y := by
  unfold wd
  rw [TL.join_eq]
  rfl
end Bs

set_option Elab.async false
set_option linter.all false
set_option maxRecDepth 100000
set_option maxHeartbeats 4000000
/-! for x, y in zip(a list, a tuple) -/
namespace Bs
open PySem PySem.Spec PyProof.Rows L2
/-- the list at a and the tuple at b as they stand at each turn -/
def ItzM (K : PySem.W.Frag) (a b : Addr) : L2.It :=
  ⟨fun i H => ∃ (xs ys : List V) (x y : V), SqL K H a xs ∧ SqT K H b ys ∧ xs[i]? = some x ∧ ys[i]? = some y,
    fun i H v G => ∃ T x y, v = V.ref T ∧ H T = none ∧ G = upd H T (.tup [x, y]) ∧ (∀ l, SqL K H a l → l[i]? = some x) ∧ ∀ l, SqT K H b l → l[i]? = some y,
    fun i H => ∃ xs ys : List V, SqL K H a xs ∧ SqT K H b ys ∧ i = min xs.length ys.length⟩
theorem sep_of {z TI TO i1 i2 a b : Addr} (D : ZipApart z TI TO i1 i2 a b) : ZipSep2 z TI TO i1 i2 [i1, a] [i2, b] where
  TIz := D.TIz
  TOz := D.TOz
  TITO := D.TITO
  TIi1 := D.TIi1
  mem1 := by simp
  zf1 := by
    intro h
    simp only [List.mem_cons, List.not_mem_nil, or_false] at h
    exact h.elim (fun e => D.i1z e.symm) (fun e => D.l1z e.symm)
  Tf1 := by
    intro h
    simp only [List.mem_cons, List.not_mem_nil, or_false] at h
    exact h.elim (fun e => D.TOi1 e) (fun e => D.l1TO e.symm)
  TIi2 := D.TIi2
  mem2 := by simp
  zf2 := by
    intro h
    simp only [List.mem_cons, List.not_mem_nil, or_false] at h
    exact h.elim (fun e => D.i2z e.symm) (fun e => D.l2z e.symm)
  Tf2 := by
    intro h
    simp only [List.mem_cons, List.not_mem_nil, or_false] at h
    exact h.elim (fun e => D.TOi2 e) (fun e => D.l2TO e.symm)
  sep1_2 := by
    intro h
    simp only [List.mem_cons, List.not_mem_nil, or_false] at h
    exact h.elim (fun e => D.i12 e) (fun e => D.l2i1 e.symm)
  sep2_1 := by
    intro h
    simp only [List.mem_cons, List.not_mem_nil, or_false] at h
    exact h.elim (fun e => D.i12 e.symm) (fun e => D.l1i2 e.symm)
/-- what a turn leans on -/
def TnM (a b z TI TO i1 i2 : Addr) (i : Nat) (h : Heap) : Prop := IsZip h z TI TO .none ∧ IsTupOf2 h TI (.ref i1) (.ref i2) ∧ (∃ u v, IsTupOf2 h TO u v) ∧ h.IsListIter i1 a i ∧ h.IsTupleIter i2 b i
theorem turn_zipM {P : Program} {w : World} {K : PySem.W.Frag} {elts : List Expr} {kk : Nat} {tpos : Pos} {a b z TI TO i1 i2 : Addr} (D : ZipApart z TI TO i1 i2 a b) :
    Turn P w K (.Tuple elts kk tpos) (ItzM K a b) [z, TI, TO, i1, i2] z (TnM a b z TI TO i1 i2) where
  mem := List.mem_cons_self ..
  obj := fun i h tn c mem => by
    obtain ⟨cz, cI, ⟨u, v, cO⟩, ⟨o1, g1, _, d1⟩, ⟨o2, g2, _, d2⟩⟩ := tn
    simp only [List.mem_cons, List.not_mem_nil, or_false] at mem
    rcases mem with rfl | rfl | rfl | rfl | rfl
    · exact ⟨_, cz, fun _ e => by cases e⟩
    · exact ⟨_, cI, fun _ e => by cases e⟩
    · exact ⟨_, cO, fun _ e => by cases e⟩
    · exact ⟨o1, g1, fun _ e => by rw [d1] at e; cases e⟩
    · exact ⟨o2, g2, fun _ e => by rw [d2] at e; cases e⟩
  keep := fun i h h2 tn stay => by
    obtain ⟨cz, cI, ⟨u, v, cO⟩, t1, t2⟩ := tn
    exact ⟨stay z (by simp) _ cz, stay TI (by simp) _ cI, ⟨u, v, stay TO (by simp) _ cO⟩, t1.at fun o e => stay i1 (by simp) o e, t2.at fun o e => stay i2 (by simp) o e⟩
  item := by
    intro X eP ew eK calm i pins s σ H E I free tn go
    subst eP ew eK
    obtain ⟨cz, cI, ⟨ua, ub, cO⟩, t1, t2⟩ := tn
    obtain ⟨xs, ys, x, y, q1, q2, e1, e2⟩ := go
    obtain ⟨its, rl, p1, _⟩ := I.list q1
    obtain ⟨jts, rt, p2, _⟩ := I.tuple q2
    have hd := I.ok.hd calm
    obtain ⟨v1, a1, r1⟩ := rl.get e1
    obtain ⟨v2, a2, r2⟩ := rt.get e2
    have W := GoesN.zip2 (prog := X.prog) (w := X.w) (A := X.A) (elts := elts) (x1 := kk) (pos := tpos) (sep_of D) (Draws.list (A := X.A.in1) hd i1 a D.l1i1 its.toArray) (Draws.tuple (A := X.A.in1) hd i2 b D.l2i2 jts.toArray)
    have l1 : i < its.length := (List.getElem?_eq_some_iff.mp a1).1
    have l2 : i < jts.length := (List.getElem?_eq_some_iff.mp a2).1
    refine W.goes i s _ E (by simp only [List.size_toArray]; omega) ⟨cz, cI, ⟨ua, ub, cO⟩, ⟨t1, p1.isList⟩, t2, p2⟩ fun v h' tk Y st' old le => ?_
    obtain ⟨T, u, u2, rfl, hT, hu, hu2, hTt⟩ := Y
    obtain ⟨z', tI', tO', ⟨t1', _⟩, t2', _⟩ := st'
    have ru : RelV x u := by
      have e : u = v1 := by
        have : its[i]? = some u := by simpa using hu
        rw [a1] at this
        exact (Option.some.inj this).symm
      rw [e]; exact r1
    have ru2 : RelV y u2 := by
      have e : u2 = v2 := by
        have : jts[i]? = some u2 := by simpa using hu2
        rw [a2] at this
        exact (Option.some.inj this).symm
      rw [e]; exact r2
    have ob : ObjOk X.prog X.w (upd H T (.tup [x, y])) h' T (.tup [x, y]) := ⟨(by show 2 ≤ sizeLine; decide), [u, u2], .cons ru (.cons ru2 .nil), hTt⟩
    have sub : ∀ c ∈ [z, TO, i1, i2], c ∈ [z, TI, TO, i1, i2] := fun c hc => by
      simp only [List.mem_cons, List.not_mem_nil, or_false] at hc ⊢
      rcases hc with rfl | rfl | rfl | rfl <;> simp
    have J := I.turnedNew (t' := tk) (ch := [z, TO, i1, i2]) (fun c o hc e => old c o hc e) (fun c hc => free c (sub c hc)) hT ob
    refine ⟨V.ref T, _, J, rfl, ⟨T, x, y, rfl, I.hok.fresh hT, rfl, fun l hl => ?_, fun l hl => ?_⟩, ⟨z', tI', tO', t1', t2'⟩, fun c hc => ?_⟩
    · rw [I.list_inj hl q1]; exact e1
    · rw [I.tuple_inj hl q2]; exact e2
    · have lt : c < s.heap.objs.size := by
        simp only [List.mem_cons, List.not_mem_nil, or_false] at hc
        obtain ⟨o1, g1, _⟩ := t1
        obtain ⟨o2, g2, _⟩ := t2
        rcases hc with rfl | rfl | rfl | rfl | rfl
        · exact Heap.lt_size cz
        · exact Heap.lt_size cI
        · exact Heap.lt_size cO
        · exact Heap.lt_size g1
        · exact Heap.lt_size g2
      rw [upd_ne (Nat.ne_of_lt (Nat.lt_of_lt_of_le lt hT))]
      exact (free c hc).1
  done := by
    intro X eP ew eK calm i pins s σ H E I free tn stop
    subst eP ew eK
    obtain ⟨cz, cI, ⟨ua, ub, cO⟩, t1, t2⟩ := tn
    obtain ⟨xs, ys, q1, q2, rfl⟩ := stop
    obtain ⟨its, rl, p1, _⟩ := I.list q1
    obtain ⟨jts, rt, p2, _⟩ := I.tuple q2
    have hd := I.ok.hd calm
    have W := GoesN.zip2 (prog := X.prog) (w := X.w) (A := X.A) (elts := elts) (x1 := kk) (pos := tpos) (sep_of D) (Draws.list (A := X.A.in1) hd i1 a D.l1i1 its.toArray) (Draws.tuple (A := X.A.in1) hd i2 b D.l2i2 jts.toArray)
    have n1 : its.toArray.size = xs.length := by have := rl.length; simp; omega
    have n2 : jts.toArray.size = ys.length := by have := rt.length; simp; omega
    rw [n1, n2] at W
    have sub : ∀ c ∈ [z, TO, i1, i2], c ∈ [z, TI, TO, i1, i2] := fun c hc => by
      simp only [List.mem_cons, List.not_mem_nil, or_false] at hc ⊢
      rcases hc with rfl | rfl | rfl | rfl <;> simp
    exact W.stops s _ E ⟨cz, cI, ⟨ua, ub, cO⟩, ⟨t1, p1.isList⟩, t2, p2⟩ fun h' tk old le => I.turnedL (t' := tk) (ch := [z, TO, i1, i2]) (fun c o hc e => old c o hc e) (fun c hc => free c (sub c hc))
  self := fun A i s Q E tn q => wpAny_pyIter_zip tn.1 q
def iZipM (K : PySem.W.Frag) (ta : TA) : TI := fun σ H R => ta σ H fun vs G => ∃ a b xs ys, vs = [V.ref a, V.ref b] ∧ SqL K G a xs ∧ SqT K G b ys ∧ R (ItzM K a b) G
theorem pi_zipM {X : Cx} {e f : Expr} {ta : TA} {p pos tpos : Pos} {elts : List Expr} {kk : Nat} (hg : Gl X "zip") (hm : X.mg "zip" = none) (ha : PA X [e, f] ta)
    (h1 : starEach [e, f] X.env = (false, eval e X.env) :: starEach [f] X.env := by rfl) (h2 : (backTo pos (starEach [f] X.env)).any (·.1) = false := by rfl) :
    PI X (.Tuple elts kk tpos) (.Call (.Name "zip" p) [e, f] [] pos) (iZipM X.K ta) := by
  constructor
  intro pins s σ H R I h
  refine Call_ ?_
  refine ld_blt I hg hm PyProof.Rows.boot_zip ?_
  refine PyProof.Rows.callWith_type1 (thn (ha.run pos pins s σ H _ I h) ?_) h1 h2
  rintro us s1 ⟨vs, G, J, rel, a, b, xs, ys, rfl, q1, q2, q⟩
  cases rel with
  | cons ra rr =>
    cases rr with
    | cons rb rr =>
      cases rr
      cases ra
      cases rb
      obtain ⟨its, rl, p1, _⟩ := J.list q1
      obtain ⟨jts, rt, p2, _⟩ := J.tuple q2
      have lb := p2
      obtain ⟨ob, hob, _⟩ := id p2
      refine zip_begins2 (begins_list a its.toArray) (begins_tuple b jts.toArray) p1.isList p2 fun h' hz hI hO g1 g2 hsz hk => wpAny_pyIter_zip hz ?_
      have J2 : Inv X pins σ G { s1 with heap := h' } := J.kept (t' := s1.toks) hk
      refine ⟨s1.heap.objs.size + 4, [s1.heap.objs.size + 4, s1.heap.objs.size + 2, s1.heap.objs.size + 3, s1.heap.objs.size, s1.heap.objs.size + 1], TnM a b _ _ _ _ _, ItzM X.K a b, G, rfl, J2, turn_zipM (PySem.W.ktu_apart s1.heap.objs.size a b p1.lt (Heap.lt_size hob)), ?_, ?_, q⟩
      · exact ⟨hz, hI, ⟨_, _, hO⟩, ⟨_, g1, rfl, rfl⟩, ⟨_, g2, rfl, rfl⟩⟩
      · intro c hc
        have le : s1.heap.objs.size ≤ c := by
          simp only [List.mem_cons, List.not_mem_nil, or_false] at hc
          rcases hc with rfl | rfl | rfl | rfl | rfl
          · exact Nat.le_add_right _ _
          · exact Nat.le_add_right _ _
          · exact Nat.le_add_right _ _
          · exact Nat.le_refl _
          · exact Nat.le_add_right _ _
        exact J.fpOk le (J.hok.fresh le)
/-- the walk -/
theorem walk_zipM {K : PySem.W.Frag} {a b : Addr} {xs ys : List V} (hl : xs.length = ys.length) : Walk (ItzM K a b) xs.length (fun H => SqL K H a xs ∧ SqT K H b ys) (fun i H v G => ∃ T x y, v = V.ref T ∧ H T = none ∧ G = upd H T (.tup [x, y]) ∧ xs[i]? = some x ∧ ys[i]? = some y) where
  goes := fun i H hi q => ⟨xs, ys, xs[i], ys[i]'(by omega), q.1, q.2, by simp [hi], by rw [List.getElem?_eq_getElem]⟩
  stops := fun H q => ⟨xs, ys, q.1, q.2, by omega⟩
  yields := fun i H v G hi q ⟨T, x, y, e, f, g, k1, k2⟩ => ⟨T, x, y, e, f, g, k1 _ q.1, k2 _ q.2⟩
end Bs

set_option Elab.async false
set_option linter.all false
set_option maxRecDepth 100000
set_option maxHeartbeats 8000000
namespace Bs
open PySem L2
theorem paired_get {R : V → Str → Prop} : ∀ {l : List V} {r : List Str} {i : Nat} {v : V}, Paired R l r → l[i]? = some v → ∃ z, r[i]? = some z ∧ R v z
  | _, _, _, _, .nil, e => by simp at e
  | _, _, 0, _, .cons h _, e => by simp at e; subst e; exact ⟨_, by simp, h⟩
  | _, _, i + 1, _, .cons _ t, e => by obtain ⟨z, h⟩ := paired_get (i := i) t (by simpa using e); exact ⟨z, by simpa using h.1, h.2⟩
theorem paired_len {R : V → Str → Prop} : ∀ {l : List V} {r : List Str}, Paired R l r → l.length = r.length
  | _, _, .nil => rfl
  | _, _, .cons _ t => by simp [paired_len t]
theorem emp_app (x : Str) : Str.empty ++ x = x := by
  apply PyProof.Rows.ext_toList
  rw [str_app]
  rfl
/-! ### str of ints and texts -/
def rStr : List V → Hp → VK → Prop := fun xs H Q => (∃ i, xs = [.int i] ∧ i.natAbs.log2 < 1920 ∧ Q (.str (toString i)) H) ∨ ∃ a, xs = [.str a] ∧ Q (.str a) H
theorem call_str_any {X : Cx} : CallR X (.type "str") rStr := fun pins s σ H xs us Q I r h => h.elim (fun h => call_str_int pins s σ H xs us Q I r h) (fun h => SkE.call_str_str pins s σ H xs us Q I r h)
/-- a part and its text -/
def VW (v : V) (z : Str) : Prop := (∃ i, v = .int i ∧ sm i ∧ z = iS i) ∨ v = .str z
theorem vw_go {v : V} {z : Str} {H : Hp} {Q : VK} (h : VW v z) (q : Q (.str z) H) : rStr [v] H Q := by
  rcases h with ⟨i, rfl, hs, rfl⟩ | rfl
  · exact .inl ⟨i, rfl, hs, q⟩
  · exact .inr ⟨z, rfl, q⟩
theorem vw_k {a : Key} (h : kSm a) : VW (kV a) (kS a) := by
  cases a with
  | inl i => exact .inl ⟨i, rfl, h, rfl⟩
  | inr z => exact .inr rfl
theorem At_vw {fz : Bool} {H : Hp} : ∀ {x : It} {v : V}, x.At fz H v → x.fine → ∃ p xs, v = .ref p ∧ H p = some (.tup (.str x.kind :: xs)) ∧ (x.blocky = false → Paired VW (.str x.kind :: xs) x.words) ∧ (x.blocky = true → Paired VW (cutV (.str x.kind :: xs) none (some (-1))) x.words ∧
    ¬ (HT.sIx (V.str x.kind :: xs).length 0 none = 0 ∧ HT.sIx (V.str x.kind :: xs).length (V.str x.kind :: xs).length (some (-1)) = (V.str x.kind :: xs).length))
  | .num n s o lo hi, v, h, f => by
    simp only [It.At] at h
    simp only [It.fine] at f
    obtain ⟨p, rfl, h⟩ := h
    exact ⟨p, _, rfl, h, fun _ => .cons (.inr rfl) (.cons (.inr rfl) (.cons (.inl ⟨_, rfl, f.2.2.1, rfl⟩) (.cons (.inr rfl) (.cons (.inl ⟨_, rfl, f.2.2.2.1, rfl⟩) (.cons (.inl ⟨_, rfl, f.2.2.2.2, rfl⟩) .nil))))), fun e => by cases e⟩
  | .byt n a, v, h, f => by
    simp only [It.At] at h
    simp only [It.fine] at f
    obtain ⟨p, rfl, h⟩ := h
    exact ⟨p, _, rfl, h, fun _ => .cons (.inr rfl) (.cons (.inr rfl) (.cons (vw_k f.2) .nil)), fun e => by cases e⟩
  | .txt n st m, v, h, f => by
    simp only [It.At] at h
    simp only [It.fine] at f
    obtain ⟨p, rfl, h⟩ := h
    exact ⟨p, _, rfl, h, fun _ => .cons (.inr rfl) (.cons (.inr rfl) (.cons (.inl ⟨_, rfl, f.2.1, rfl⟩) (.cons (.inl ⟨_, rfl, f.2.2, rfl⟩) .nil))), fun e => by cases e⟩
  | .chk n m, v, h, f => by
    simp only [It.At] at h
    simp only [It.fine] at f
    obtain ⟨p, rfl, h⟩ := h
    exact ⟨p, _, rfl, h, fun _ => .cons (.inr rfl) (.cons (.inr rfl) (.cons (.inl ⟨_, rfl, f.2, rfl⟩) .nil)), fun e => by cases e⟩
  | .pad n m b, v, h, f => by
    simp only [It.At] at h
    simp only [It.fine] at f
    obtain ⟨p, rfl, h⟩ := h
    exact ⟨p, _, rfl, h, fun _ => .cons (.inr rfl) (.cons (.inr rfl) (.cons (.inl ⟨_, rfl, f.2.1, rfl⟩) (.cons (.inl ⟨_, rfl, f.2.2, rfl⟩) .nil))), fun e => by cases e⟩
  | .rep n a b, v, h, f => by
    simp only [It.At] at h
    simp only [It.fine] at f
    obtain ⟨p, q, xs, rfl, h, _⟩ := h
    exact ⟨p, _, rfl, h, (fun e => by cases e), fun _ => ⟨.cons (.inr rfl) (.cons (.inr rfl) (.cons (vw_k f.2.1) .nil)), by simp only [List.length_cons, List.length_nil]; decide⟩⟩
  | .eit n bs, v, h, f => by
    simp only [It.At] at h
    obtain ⟨p, q, xs, rfl, h, _⟩ := h
    exact ⟨p, _, rfl, h, (fun e => by cases e), fun _ => ⟨.cons (.inr rfl) (.cons (.inr rfl) .nil), by simp only [List.length_cons, List.length_nil]; decide⟩⟩
  | .swi n t bs, v, h, f => by
    simp only [It.At] at h
    obtain ⟨p, q, xs, rfl, h, _⟩ := h
    exact ⟨p, _, rfl, h, (fun e => by cases e), fun _ => ⟨.cons (.inr rfl) (.cons (.inr rfl) (.cons (.inr rfl) .nil)), by simp only [List.length_cons, List.length_nil]; decide⟩⟩
/-! ### the first lines of the blocks -/
def It.firsts : It → List (List Str)
  | .rep _ _ _ => [[]]
  | .eit _ bs => bs.list.map fun _ => [("choice" : Str)]
  | .swi _ _ bs => bs.vals.map fun v => [("case " : Str) ++ iS v]
  | _ => []
theorem firsts_len (x : It) : x.firsts.length = x.blocks.length := by
  cases x <;> simp [It.firsts, It.blocks]
  rename_i n t bs
  rw [vals_len, listB_len]
def It.mid (x : It) (j : Nat) : List Str := ((x.firsts.zip x.blocks).take j).flatMap fun p => p.1 ++ p.2.lines
theorem linesE_zip : ∀ (bs : Blks), ((bs.list.map fun _ => [("choice" : Str)]).zip bs.list).flatMap (fun p => p.1 ++ p.2.lines) = bs.linesE
  | .nil => by simp [Blks.list, Blks.linesE]
  | .cons v b r => by simp [Blks.list, Blks.linesE, linesE_zip r]
theorem linesS_zip : ∀ (bs : Blks), ((bs.vals.map fun v => [("case " : Str) ++ iS v]).zip bs.list).flatMap (fun p => p.1 ++ p.2.lines) = bs.linesS
  | .nil => by simp [Blks.list, Blks.vals, Blks.linesS]
  | .cons v b r => by simp [Blks.list, Blks.vals, Blks.linesS, linesS_zip r]
theorem lines_mid {x : It} (h : x.blocky = true) : x.lines = wd x.words :: (x.mid x.blocks.length ++ [("end" : Str)]) := by
  have e : x.mid x.blocks.length = (x.firsts.zip x.blocks).flatMap fun p => p.1 ++ p.2.lines := by
    unfold It.mid
    rw [List.take_of_length_le (by rw [List.length_zip, firsts_len]; simp)]
  rw [e]
  cases x with
  | rep n a b => simp [It.lines, It.words, It.firsts, It.blocks]
  | eit n bs => simp only [It.lines, It.words, It.firsts, It.blocks, linesE_zip]
  | swi n t bs => simp only [It.lines, It.words, It.firsts, It.blocks, linesS_zip]
  | _ => cases h
theorem lines_flat {x : It} (h : x.blocky = false) : x.lines = [wd x.words] := by
  cases x <;> simp only [It.lines] <;> cases h
theorem mid_more {x : It} {j : Nat} {fl : List Str} {b : Its} (h1 : x.firsts[j]? = some fl) (h2 : x.blocks[j]? = some b) : x.mid (j + 1) = x.mid j ++ (fl ++ b.lines) := by
  unfold It.mid
  have : (x.firsts.zip x.blocks)[j]? = some (fl, b) := by
    rw [List.getElem?_zip_eq_some]
    exact ⟨h1, h2⟩
  rw [take_more this, List.flatMap_append]
  simp
theorem mid_le {x : It} (h : x.blocky = true) {j : Nat} {fl : List Str} {b : Its} (h1 : x.firsts[j]? = some fl) (h2 : x.blocks[j]? = some b) : (x.mid j).length + fl.length + b.lines.length + 2 ≤ x.lines.length := by
  have e := mid_more h1 h2
  have a : ∀ k, (x.mid k).length ≤ ((x.firsts.zip x.blocks).flatMap fun p => p.1 ++ p.2.lines).length := fun k => by
    unfold It.mid
    have : (x.firsts.zip x.blocks) = (x.firsts.zip x.blocks).take k ++ (x.firsts.zip x.blocks).drop k := (List.take_append_drop ..).symm
    conv => rhs; rw [this, List.flatMap_append, List.length_append]
    omega
  have c := a (j + 1)
  have e2 : x.mid x.blocks.length = (x.firsts.zip x.blocks).flatMap fun p => p.1 ++ p.2.lines := by
    unfold It.mid
    rw [List.take_of_length_le (by rw [List.length_zip, firsts_len]; simp)]
  rw [lines_mid h, e2]
  rw [e, List.length_append, List.length_append] at c
  simp only [List.length_cons, List.length_append, List.length_nil]
  omega
theorem lines_le {x : Its} {i : Nat} {y : It} (h : x.get i = some y) : (x.take i).lines.length + y.lines.length ≤ x.lines.length := by
  have : ∀ {x : Its} {i : Nat}, (x.take i).lines.length ≤ x.lines.length := by
    intro x
    induction x using Its.rec (motive_1 := fun _ => True) (motive_3 := fun _ => True) <;> (try trivial)
    · intro i; cases i <;> simp [Its.take, Its.lines]
    · rename_i x r _ ih
      intro i
      cases i with
      | zero => simp [Its.take, Its.lines]
      | succ i => simp only [Its.take, Its.lines, List.length_append]; have := ih (i := i); omega
  have h2 := this (x := x) (i := i + 1)
  rw [lines_take h, List.length_append] at h2
  exact h2
abbrev FL (G : Hp) : List V → List (List Str) → Prop := Paired fun v ls => ∃ q, v = .ref q ∧ G q = some (.lst (ls.map V.str))
theorem FL.same {G G' : Hp} (s : Same G G') : ∀ {l : List V} {r : List (List Str)}, FL G l r → FL G' l r
  | _, _, .nil => .nil
  | _, _, .cons ⟨q, e, h⟩ t => .cons ⟨q, e, s _ _ h⟩ (FL.same s t)
theorem FL.len {G : Hp} : ∀ {l : List V} {r : List (List Str)}, FL G l r → l.length = r.length
  | _, _, .nil => rfl
  | _, _, .cons _ t => by simp [FL.len t]
theorem FL.get {G : Hp} : ∀ {l : List V} {r : List (List Str)} {i : Nat} {v : V}, FL G l r → l[i]? = some v → ∃ ls q, r[i]? = some ls ∧ v = .ref q ∧ G q = some (.lst (ls.map V.str))
  | _, _, _, _, .nil, e => by simp at e
  | _, _, 0, _, .cons ⟨q, e0, h⟩ _, e => by simp at e; subst e; exact ⟨_, q, by simp, e0, h⟩
  | _, _, i + 1, _, .cons _ t, e => by obtain ⟨ls, q, h⟩ := FL.get (i := i) t (by simpa using e); exact ⟨ls, q, by simpa using h.1, h.2⟩
theorem FL.app {G : Hp} {v : V} {ls : List Str} (h : ∃ q, v = .ref q ∧ G q = some (.lst (ls.map V.str))) : ∀ {l : List V} {r : List (List Str)}, FL G l r → FL G (l ++ [v]) (r ++ [ls])
  | _, _, .nil => .cons h .nil
  | _, _, .cons q t => .cons q (FL.app h t)
theorem neu_same {H0 H H' : Hp} (s : Same H H') : Same (neu H0 H) (neu H0 H') := fun b o e => by
  obtain ⟨e1, e2⟩ := neu_in e
  rw [neu_at e1]
  exact s _ _ e2
def spFirst : Sp := fun vs H Q _ => ∃ (v : V) (x : It), vs = [v] ∧ x.At true H v ∧ x.blocky = true ∧ x.fine ∧ x.blocks.length ≤ 8 ∧ ∀ r zs H', Same H H' → neu H H' r = some (.lst zs) → FL (neu H H') zs x.firsts → Q (.ref r) H'
end Bs

set_option Elab.async false
set_option linter.all false
set_option maxRecDepth 100000
set_option maxHeartbeats 8000000
namespace Bs
open PySem L2
/-- OPENERS -/
def Opens (K : PySem.W.Frag) (mg : Str → Option Value) : Prop := ∃ a, mg "OPENERS" = some (.ref a) ∧ ∀ H, SqT K H a [.str "repeat", .str "either", .str "switch"]
def spWritten (n : Nat) : Sp := fun vs H Q _ => ∃ (a : Addr) (x : Its) (xs : List V) (d : Int), vs = [.ref a] ∧ d + n = 3 ∧ x.ok d = true ∧ H a = some (.tup xs) ∧ x.At true H xs ∧ x.fine ∧ x.lines.length ≤ 1000 ∧
  ∀ r H', Same H H' → H' r = some (.lst (x.lines.map V.str)) → Q (.ref r) H'
theorem Its.fine_get : ∀ {x : Its} {i : Nat} {y : It}, x.fine → x.get i = some y → y.fine
  | .nil, _, _, _, e => by simp [Its.get] at e
  | .cons x r, 0, y, t, e => by simp [Its.get] at e; subst e; simp only [Its.fine] at t; exact t.1
  | .cons x r, i + 1, y, t, e => by simp only [Its.fine] at t; exact Its.fine_get t.2 e
theorem fineB_mem : ∀ {bs : Blks} {b : Its}, bs.fine → b ∈ bs.list → b.fine
  | .nil, _, _, h => by simp [Blks.list] at h
  | .cons v c r, b, t, h => by
    simp only [Blks.fine] at t
    rcases List.mem_cons.mp h with e | h
    · rw [e]; exact t.1
    · exact fineB_mem t.2 h
theorem fine_blocks {y : It} (h : y.fine) {b : Its} (hb : b ∈ y.blocks) : b.fine := by
  cases y with
  | rep n a c =>
    have : b = c := by simpa [It.blocks] using hb
    rw [this]
    simp only [It.fine] at h
    exact h.2.2
  | eit n bs => simp only [It.fine] at h; exact fineB_mem h.2 hb
  | swi n t bs => simp only [It.fine] at h; exact fineB_mem h.2.2.2 hb
  | _ => simp [It.blocks] at hb
end Bs

set_option Elab.async false
set_option linter.all false
set_option maxRecDepth 100000
set_option maxHeartbeats 4000000
namespace Bs
open PySem L2
/-! how deep blocks are -/
mutual
def It.lev (d : Int) : It → Prop
  | .rep _ _ b => d ≤ 2 ∧ b.lev (d + 1)
  | .eit _ bs => d ≤ 2 ∧ bs.lev (d + 1)
  | .swi _ _ bs => d ≤ 2 ∧ bs.lev (d + 1)
  | _ => True
def Its.lev (d : Int) : Its → Prop
  | .nil => True
  | .cons x r => x.lev d ∧ r.lev d
def Blks.lev (d : Int) : Blks → Prop
  | .nil => True
  | .cons _ b r => b.lev d ∧ r.lev d
end
mutual
theorem It.lev_of : ∀ (x : It) (d : Int), x.ok d = true → x.lev d
  | .rep n a b, d, ok => by
    rw [It.ok, Bool.and_eq_true, Bool.and_eq_true, Bool.and_eq_true] at ok
    simp only [It.lev]
    exact ⟨of_decide_eq_true ok.2.1, Its.lev_of b _ ok.2.2.2⟩
  | .eit n bs, d, ok => by
    rw [It.ok, Bool.and_eq_true, Bool.and_eq_true, Bool.and_eq_true] at ok
    simp only [It.lev]
    exact ⟨of_decide_eq_true ok.2.1, Blks.lev_of bs _ ok.2.2.2⟩
  | .swi n t bs, d, ok => by
    rw [It.ok, Bool.and_eq_true, Bool.and_eq_true, Bool.and_eq_true] at ok
    simp only [It.lev]
    exact ⟨of_decide_eq_true ok.2.1, Blks.lev_of bs _ ok.2.2.2⟩
  | .num .., _, _ => trivial
  | .byt .., _, _ => trivial
  | .txt .., _, _ => trivial
  | .chk .., _, _ => trivial
  | .pad .., _, _ => trivial
theorem Its.lev_of : ∀ (x : Its) (d : Int), x.ok d = true → x.lev d
  | .nil, _, _ => trivial
  | .cons x r, d, ok => by
    rw [Its.ok, Bool.and_eq_true] at ok
    exact ⟨It.lev_of x d ok.1, Its.lev_of r d ok.2⟩
theorem Blks.lev_of : ∀ (x : Blks) (d : Int), x.ok d = true → x.lev d
  | .nil, _, _ => trivial
  | .cons v b r, d, ok => by
    rw [Blks.ok, Bool.and_eq_true, Bool.and_eq_true] at ok
    exact ⟨Its.lev_of b d ok.1.2, Blks.lev_of r d ok.2⟩
end
theorem get_lev : ∀ {x : Its} {i : Nat} {y : It} {d : Int}, x.lev d → x.get i = some y → y.lev d
  | .nil, _, _, _, _, e => by simp [Its.get] at e
  | .cons x r, 0, y, d, h, e => by simp [Its.get] at e; subst e; exact h.1
  | .cons x r, i + 1, y, d, h, e => get_lev (x := r) h.2 e
theorem list_lev : ∀ {bs : Blks} {d : Int} {b : Its}, bs.lev d → b ∈ bs.list → b.lev d
  | .nil, _, _, _, m => by simp [Blks.list] at m
  | .cons v c r, d, b, h, m => by
    simp only [Blks.list, List.mem_cons] at m
    rcases m with rfl | m
    · exact h.1
    · exact list_lev h.2 m
theorem blocks_lev {y : It} {d : Int} (h : y.lev d) : ∀ b ∈ y.blocks, d ≤ 2 ∧ b.lev (d + 1) := fun b hb => by
  cases y with
  | rep n a c => simp [It.blocks] at hb; subst hb; exact h
  | eit n bs => exact ⟨h.1, list_lev h.2 hb⟩
  | swi n t bs => exact ⟨h.1, list_lev h.2 hb⟩
  | _ => simp [It.blocks] at hb
end Bs

set_option Elab.async false
set_option linter.all false
set_option maxRecDepth 100000
set_option maxHeartbeats 8000000
namespace Bs
open PySem L2
abbrev sLLines : Stmt := top 71
/-! ### the whole text, and the law's own lines -/
def spFormat (CS : Addr) : Sp := fun vs H Q _ => ∃ (o dx : Addr) (fs : List (Str × V)) (x : Its), vs = [.ref o] ∧ H o = some (.ins CS dx fs) ∧ ShapeFs x H fs ∧ x.ok 0 = true ∧ x.fine ∧ x.lines.length ≤ 1000 ∧ ∀ H', Same H H' → Q (.str (Txt.join "\n" x.lines)) H'
def spLLines (n : Nat) : Sp := fun vs H Q _ => ∃ (G : Hp) (a : Addr) (x : Its) (xs : List V) (d : Int), vs = [.ref a] ∧ d + n = 3 ∧ x.lev d ∧ Same G H ∧ RowAt false G a xs ∧ x.At false G xs ∧ x.fine ∧ x.lines.length ≤ 1000 ∧
  ∀ r H', Same H H' → H r = none → H' r = some (.lst (x.lines.map V.str)) → Q (.ref r) H'
theorem kname_len {x : It} (h : x.fine) : x.kind.length ≤ 1921 ∧ x.name.length ≤ 1000 := by
  refine ⟨?_, ?_⟩
  · cases x <;> exact kw_len _ (by simp [It.kind])
  · cases x <;> simp only [It.fine] at h <;> first | exact h.1 | exact h
theorem sp1 : (" " : Str).length = 1 := by decide +kernel
theorem wd_app {l : List Str} {z : Str} (h : l ≠ []) : wd l ++ " " ++ z = wd (l ++ [z]) := (wd_snoc h).symm
theorem wdt_len {x : It} (h : x.fine) (j : Nat) : (wd (x.words.take j)).length ≤ 12000 :=
  wd_len (fun z hz => (words_len h).1 z (List.mem_of_mem_take hz)) (by rw [List.length_take]; have := (words_len h).2; omega)

theorem cut2 {xs : List V} (h : 2 ≤ xs.length) : cutV xs (some 2) none = xs.drop 2 := by
  unfold cutV HT.sIx
  dsimp only
  rw [if_neg (by decide)]
  have e : min (2 : Int).toNat xs.length = 2 := by show min 2 xs.length = 2; omega
  rw [e]
  exact List.take_of_length_le (by rw [List.length_drop]; omega)
theorem cut2_ne {xs : List V} (h : 2 ≤ xs.length) : ¬ (HT.sIx xs.length 0 (some 2) = 0 ∧ HT.sIx xs.length xs.length none = xs.length) := by
  unfold HT.sIx
  dsimp only
  rw [if_neg (by decide)]
  have e : min (2 : Int).toNat xs.length = 2 := by show min 2 xs.length = 2; omega
  rw [e]
  omega
theorem words_two (x : It) : 2 ≤ x.words.length := by cases x <;> simp [It.words]
theorem kind_flat {x : It} (h : x.blocky = false) : x.kind ≠ "repeat" ∧ x.kind ≠ "either" ∧ x.kind ≠ "switch" := by
  cases x <;> first | (cases h; done) | (simp only [It.kind]; decide +kernel)
section
variable {P : Program} {w : World} {K : PySem.W.Frag} {mg : Str → Option Value} {base : Heap} {f CS : Addr} {fd : FuncData}
abbrev nLL : List Str := ["items", "lines", "item", "words", "block", "case", "part"]
theorem scLLines : FnScope nLL ["items"] (defScope sLLines) := ⟨rfl, rfl, rfl, by decide +kernel, rfl, by decide +kernel, by decide +kernel⟩

theorem ok_llines {n k : Nat} (F : Fun K "_law_lines" "_law_lines" sLLines f fd) (gS : Cal P w K mg base CX0 k "_law_lines" ["items"] (spSub spLLines n)) (ms : mg "str" = none) : FnOk P w K mg base CX0 (k + 1) f fd ["items"] (spLLines n) := by
  refine F.ok scLLines (fun vs H Q E h => ?_) (fun cdv A outer s H vs Q E hr h => ?_)
  · obtain ⟨G, a, x, xs, d, rfl, _⟩ := h
    rfl
  · obtain ⟨G, a, x, xs, d, rfl, hd, ok, sG, hrow, hat, hfi, hll, q⟩ := h
    refine ⟨_, pss_cons (ps_set (i := 1) scLLines.nd rfl (.inl rfl) (pe_lst pa_nil))
      (pss_cons (ps_for PassesOwn.never rfl (pi_row (pv 0)) (pg_name (i := 2) scLLines.nd rfl (.inl rfl))
        (pss_cons (ps_set (i := 3) scLLines.nd rfl (.inl rfl) (pe_op op_add_str (pe_op op_add_str (pe_ix ix_tup (pv 2) pe_int (fun _ _ => rfl)) pe_str) (pe_ix ix_tup (pv 2) pe_int (fun _ _ => rfl))))
        (pss_one (ps_if (pt_cmpR op_eq (pe_ix ix_tup (pv 2) pe_int (fun _ _ => rfl)) pe_str (nomark _))
          (pss_one (ps_set (i := 1) scLLines.nd rfl (.inl rfl) (pe_op op_cat (pe_op op_cat (pe_op op_cat (pv 1) (pe_lst (pa_cons (pe_op op_add_str (pe_op op_add_str (pv 3) pe_str) (pe_callTy (r := rStr) call_str_any (by rfl) ms (by decide +kernel) (pa_cons (pe_ix ix_tup (pv 2) pe_int (fun _ _ => rfl)) pa_nil))) pa_nil)))
              (pe_cal gS hr pass0 (pa_cons (pe_ix ix_tup (pv 2) pe_int (fun _ _ => rfl)) pa_nil))) (pe_lst (pa_cons pe_str pa_nil)))))
          (pss_one (ps_if (pt_cmpR op_eq (pe_ix ix_tup (pv 2) pe_int (fun _ _ => rfl)) pe_str (nomark _))
            (pss_cons (ps_expr (pe_bm PySem.F.plainAttrs_list PySem.F.slot_list_append PySem.F.type_list_append mt_append (pv 1) (pa_cons (pv 3) pa_nil)))
            (pss_cons (ps_for PassesOwn.never rfl (pi_row (pe_ix ix_tup (pv 2) pe_int (fun _ _ => rfl))) (pg_name (i := 4) scLLines.nd rfl (.inl rfl))
              (pss_one (ps_set (i := 1) scLLines.nd rfl (.inl rfl) (pe_op op_cat (pe_op op_cat (pv 1) (pe_lst (pa_cons pe_str pa_nil))) (pe_cal gS hr pass0 (pa_cons (pv 4) pa_nil))))))
            (pss_one (ps_expr (pe_bm PySem.F.plainAttrs_list PySem.F.slot_list_append PySem.F.type_list_append mt_append (pv 1) (pa_cons pe_str pa_nil))))))
            (pss_one (ps_if (pt_cmpR op_eq (pe_ix ix_tup (pv 2) pe_int (fun _ _ => rfl)) pe_str (nomark _))
              (pss_cons (ps_expr (pe_bm PySem.F.plainAttrs_list PySem.F.slot_list_append PySem.F.type_list_append mt_append (pv 1) (pa_cons (pe_op op_add_str (pe_op op_add_str (pv 3) pe_str) (pe_ix ix_tup (pv 2) pe_int (fun _ _ => rfl))) pa_nil)))
              (pss_cons (ps_for PassesOwn.never rfl (pi_row (pe_ix ix_tup (pv 2) pe_int (fun _ _ => rfl))) (pg_name (i := 5) scLLines.nd rfl (.inl rfl))
                (pss_one (ps_set (i := 1) scLLines.nd rfl (.inl rfl) (pe_op op_cat (pe_op op_cat (pv 1) (pe_lst (pa_cons (pe_op op_add_str pe_str (pe_callTy (r := rStr) call_str_any (by rfl) ms (by decide +kernel) (pa_cons (pe_ix ix_tup (pv 5) pe_int (fun _ _ => rfl)) pa_nil))) pa_nil)))
                  (pe_cal gS hr pass0 (pa_cons (pe_ix ix_tup (pv 5) pe_int (fun _ _ => rfl)) pa_nil))))))
              (pss_one (ps_expr (pe_bm PySem.F.plainAttrs_list PySem.F.slot_list_append PySem.F.type_list_append mt_append (pv 1) (pa_cons pe_str pa_nil))))))
              (pss_cons (ps_for PassesOwn.never rfl (pi_tup (pe_slice sl_tup (pv 2) (po_some pe_int) po_none)) (pg_name (i := 6) scLLines.nd rfl (.inl rfl))
                (pss_one (ps_set (i := 3) scLLines.nd rfl (.inl rfl) (pe_op op_add_str (pe_op op_add_str (pv 3) pe_str) (pe_callTy (r := rStr) call_str_any (by rfl) ms (by decide +kernel) (pa_cons (pv 6) pa_nil))))))
              (pss_one (ps_expr (pe_bm PySem.F.plainAttrs_list PySem.F.slot_list_append PySem.F.type_list_append mt_append (pv 1) (pa_cons (pv 3) pa_nil)))))))))))))
      (pss_one (ps_ret (pv 1)))), ?_⟩
    refine ⟨(by show 0 ≤ sizeLine; decide), fun D0 hD0 => ?_⟩
    have s0 := same_new hD0 (.lst [])
    have el := hat.len
    refine ⟨_, rfl, a, rfl, ?_⟩
    refine row_go2 (H0 := H) (hrow.same sG) s0 (fun J wk => ?_)
    refine for_it wk (fun i σ H' => ∃ D i2 i3 i4 i5 i6, σ = [some (.ref a), some (.ref D), i2, i3, i4, i5, i6] ∧ Same H H' ∧ H D = none ∧ H' D = some (.lst ((x.take i).lines.map V.str)))
      ⟨D0, none, none, none, none, none, rfl, s0, hD0, upd_same⟩ (fun _ _ _ _ h => by obtain ⟨_, _, _, _, _, _, _, z, _⟩ := h; exact z) ?_ ?_
    · rintro i v σ H2' H2 hi ⟨D, i2, i3, i4, i5, i6, rfl, s2, hD, hD2⟩ ⟨e3, hv⟩
      subst e3
      obtain ⟨y, gy, ay⟩ := At_item hat hv
      have fy := Its.fine_get hfi gy
      have bok := blocks_lev (get_lev ok gy)
      obtain ⟨p, rest, rfl, hp, hlen⟩ := At_head ay
      have sG2 := sG.trans s2
      have hT : SqT K H2 p _ := SqT.of (sG2 _ _ hp)
      have ll := lines_le gy
      obtain ⟨kl, nl⟩ := kname_len fy
      have tk := lines_take gy
      refine ⟨_, rfl, p, _, 0, _, rfl, rfl, hT, atI_nat (j := 0) rfl, _, _, rfl, rfl, le_line (by rw [sp1]; omega), ?_⟩
      refine ⟨_, rfl, p, _, 1, _, rfl, rfl, hT, atI_nat (j := 1) rfl, _, _, rfl, rfl, le_line (by rw [slen0, sp1]; omega), ?_⟩
      rw [← wd_two]
      refine ⟨_, rfl, p, _, 0, _, rfl, rfl, hT, atI_nat (j := 0) rfl, rfl, _, rfl, ?_⟩
      cases hb : y.blocky with
      | false =>
        obtain ⟨f1, f2, f3⟩ := kind_flat hb
        refine ite2 (fun z => absurd (of_decide_eq_true z) (kne f1)) (fun _ => ?_)
        refine ⟨_, rfl, p, _, 0, _, rfl, rfl, hT, atI_nat (j := 0) rfl, rfl, _, rfl, ite2 (fun z => absurd (of_decide_eq_true z) (kne f2)) (fun _ => ?_)⟩
        refine ⟨_, rfl, p, _, 0, _, rfl, rfl, hT, atI_nat (j := 0) rfl, rfl, _, rfl, ite2 (fun z => absurd (of_decide_eq_true z) (kne f3)) (fun _ => ?_)⟩
        obtain ⟨p2, ys, e2, hp2, w1, _⟩ := At_vw ay fy
        cases e2
        have pv := w1 hb
        have pl := paired_len pv
        have wl := words_len fy
        have take_twoE : y.words.take (0 + 2) = [y.kind, y.name] := by cases y <;> first | rfl | cases hb
        have xl : 2 ≤ (V.str (y.kind) :: ys).length := by rw [pl]; exact words_two y
        refine ⟨_, rfl, _, rfl, p, _, rfl, SqT.of (sG2 _ _ hp2), cut2_ne xl, fun c hc => ?_⟩
        rw [cut2 xl]
        have s3 := same_new hc (.tup ((V.str (y.kind) :: ys).drop 2))
        refine ⟨c, rfl, ⟨_, SqT.of upd_same⟩, for_tup (K := K) (a := c) (xs := (V.str (y.kind) :: ys).drop 2) (fun j σ H' => ∃ i6, σ = [some (.ref a), some (.ref D), some (.ref p), some (.str (wd (y.words.take (j + 2)))), i4, i5, i6] ∧ H' = upd H2 c (.tup ((V.str (y.kind) :: ys).drop 2)))
          ⟨_, by rw [take_twoE]; rfl, rfl⟩ (fun j σ H' _ z => by obtain ⟨_, _, rfl⟩ := z; exact SqT.of upd_same) ?_ ?_⟩
        · rintro j z σ H4 hj ⟨i6, rfl, rfl⟩
          rw [List.getElem?_drop, Nat.add_comm] at hj
          obtain ⟨t, gt, vt⟩ := paired_get pv hj
          have tl := wl.1 t (List.mem_of_getElem? gt)
          have wj := wdt_len fy (j + 2)
          refine ⟨_, rfl, _, _, rfl, rfl, le_line (by rw [sp1]; omega), _, rfl, ?_⟩
          dsimp only [tNil]
          refine vw_go vt ⟨_, _, rfl, rfl, le_line (by rw [slen0, sp1]; omega), some z, ?_, rfl⟩
          rw [wd_app (by cases y <;> simp [It.words]), ← take_more gt]
          rfl
        · rintro σ H4 ⟨i6, rfl, rfl⟩
          have hD3 := s3 _ _ hD2
          rw [List.length_drop, pl, Nat.sub_add_cancel (by rw [← pl]; exact xl), List.take_length]
          refine ⟨_, rfl, .inl ⟨rfl, _, SqL.of hD3⟩, _, rfl, D, _, _, rfl, rfl, hD3, small1000 (by rw [List.length_map]; omega), ?_⟩
          refine ⟨D, _, _, _, _, _, rfl, same_set (s2.trans s3) hD, hD, ?_⟩
          rw [upd_same, tk]
          rw [lines_flat hb, List.map_append]
          rfl
      | true =>
        cases y with
        | rep n' amt b =>
          refine ite2 (fun _ => ?_) (fun z => (z (decide_eq_true rfl)).elim)
          obtain ⟨d2, bk⟩ := bok b (by simp [It.blocks])
          simp only [It.At] at ay
          obtain ⟨p', qb, xb, ep, hp', hrow', hb'⟩ := ay
          cases ep
          have fy2 := fy
          simp only [It.fine] at fy2
          have w2 := wdt_len fy 2
          have w2 : (wd ["repeat", n']).length ≤ 12000 := w2
          have kk := kS_len fy2.2.1
          simp only [It.lines, List.length_cons, List.length_append, List.length_nil] at ll
          cases n with
          | zero => exfalso; omega
          | succ n =>
          refine ⟨_, rfl, _, rfl, _, _, rfl, rfl, le_line (by show (wd ["repeat", n']).length + _ ≤ _; rw [sp1]; omega), _, rfl, p, _, 2, _, rfl, rfl, SqT.of (sG2 _ _ hp'), atI_nat (j := 2) rfl, ?_⟩
          dsimp only [tNil]
          refine vw_go (vw_k fy2.2.1) ⟨_, _, rfl, rfl, le_line (by rw [slen0, sp1]; show (wd ["repeat", n']).length + _ + _ ≤ _; omega), (by show 1 ≤ sizeLine; decide), fun t ht => ?_⟩
          have ew : wd [It.kind (.rep n' amt b), It.name (.rep n' amt b)] ++ " " ++ kS amt = wd ["repeat", n', kS amt] := wd_app (by simp)
          rw [ew]
          have s3 := same_new ht (.lst [.str (wd ["repeat", n', kS amt])])
          refine ⟨D, t, _, _, rfl, rfl, s3 _ _ hD2, upd_same, le_line (by simp only [List.length_map, List.length_singleton]; omega), fun p4 hp4 => ?_⟩
          have s4 := same_new hp4 (.lst ((x.take i).lines.map V.str ++ [.str (wd ["repeat", n', kS amt])]))
          have s24 := s2.trans (s3.trans s4)
          refine ⟨_, rfl, p, _, 3, _, rfl, rfl, SqT.of ((sG.trans s24) _ _ hp'), atI_nat (j := 3) rfl, G, qb, b, xb, d + 1, rfl, by omega, bk, sG.trans s24, hrow', hb', fy2.2.2, by omega, fun r H5 s5 h50 h5 => ?_⟩
          refine ⟨p4, r, _, _, rfl, rfl, s5 _ _ upd_same, h5, le_line (by simp only [List.length_map, List.length_append, List.length_singleton]; omega), fun p6 hp6 => ?_⟩
          have s6 := same_new hp6 (.lst ((x.take i).lines.map V.str ++ [.str (wd ["repeat", n', kS amt])] ++ b.lines.map V.str))
          refine ⟨(by show 1 ≤ sizeLine; decide), fun t7 ht7 => ?_⟩
          have s7 := same_new ht7 (.lst [.str "end"])
          refine ⟨p6, t7, _, _, rfl, rfl, s7 _ _ upd_same, upd_same, le_line (by simp only [List.length_map, List.length_append, List.length_singleton]; omega), fun p8 hp8 => ?_⟩
          have s27 := s24.trans (s5.trans (s6.trans s7))
          refine ⟨p8, _, _, _, _, _, rfl, s27.trans (same_new hp8 _), s27.free hp8, ?_⟩
          rw [upd_same, tk]
          simp only [It.lines, List.map_append, List.map_cons, List.map_nil, List.append_assoc, List.cons_append, List.nil_append]
        | eit n' bs =>
          refine ite2 (fun z => absurd (of_decide_eq_true z) (kne (by simp only [It.kind]; decide +kernel))) (fun _ => ?_)
          refine ⟨_, rfl, p, _, 0, _, rfl, rfl, hT, atI_nat (j := 0) rfl, rfl, _, rfl, ite2 (fun _ => ?_) (fun z => (z (decide_eq_true rfl)).elim)⟩
          have hbl : It.blocky (.eit n' bs) = true := rfl
          simp only [It.At] at ay
          obtain ⟨p', qb, xb, ep, hp', hrow', hb'⟩ := ay
          cases ep
          have el2 := hb'.len
          rw [lines_mid hbl, List.length_cons, List.length_append, List.length_singleton] at ll
          refine ⟨_, rfl, .inl ⟨rfl, _, SqL.of hD2⟩, _, rfl, D, _, _, rfl, rfl, hD2, small1000 (by rw [List.length_map]; omega), ?_⟩
          have S3 : Same H (upd H2 D (.lst ((x.take i).lines.map V.str ++ [.str (wd [It.kind (.eit n' bs), It.name (.eit n' bs)])]))) := same_set s2 hD
          refine ⟨_, rfl, p, _, 2, _, rfl, rfl, SqT.of ((sG.trans S3) _ _ hp'), atI_nat (j := 2) rfl, qb, rfl, ?_⟩
          refine row_go2 (H0 := H) (hrow'.same sG) S3 (fun J wk => ?_)
          refine for_it wk (fun j σ H' => ∃ D i4, σ = [some (.ref a), some (.ref D), some (.ref p), some (.str (wd [It.kind (.eit n' bs), It.name (.eit n' bs)])), i4, i5, i6] ∧ Same H H' ∧ H D = none ∧ H' D = some (.lst (((x.take i).lines ++ (wd (It.words (.eit n' bs)) :: It.mid (.eit n' bs) j)).map V.str)))
            ⟨D, _, rfl, S3, hD, by rw [upd_same]; simp [It.mid]; rfl⟩ (fun _ _ _ _ h => by obtain ⟨_, _, _, z, _⟩ := h; exact z) ?_ ?_
          · rintro j z σ H5' H5 hj ⟨D, i4, rfl, s5, hD, hD5⟩ ⟨e3, hz⟩
            subst e3
            obtain ⟨c, b, q9, zs, gb, rfl, hrw, hb2⟩ := AtE_item hb' hz
            have gl : (It.blocks (.eit n' bs))[j]? = some b := listB_get gb
            have gf : (It.firsts (.eit n' bs))[j]? = some [("choice" : Str)] := by
              have gl : bs.list[j]? = some b := gl
              simp only [It.firsts, List.getElem?_map, gl, Option.map_some]
            obtain ⟨d2, bk⟩ := bok b (List.mem_of_getElem? gl)
            have ml := mid_le hbl gf gl
            have mm := mid_more gf gl
            simp only [lines_mid hbl, List.length_cons, List.length_append, List.length_nil] at ml
            cases n with
            | zero => exfalso; omega
            | succ n =>
            refine ⟨_, rfl, (by show 1 ≤ sizeLine; decide), fun t ht => ?_⟩
            have s6 := same_new ht (.lst [.str "choice"])
            refine ⟨D, t, _, _, rfl, rfl, s6 _ _ hD5, upd_same, le_line (by simp only [List.length_map, List.length_append, List.length_cons, List.length_nil]; omega), fun p7 hp7 => ?_⟩
            have s57 := s5.trans (s6.trans (same_new hp7 (.lst (((x.take i).lines ++ (wd (It.words (.eit n' bs)) :: It.mid (.eit n' bs) j)).map V.str ++ [.str "choice"]))))
            refine ⟨_, rfl, G, q9, b, zs, d + 1, rfl, by omega, bk, sG.trans s57, hrw, hb2, fine_blocks fy (List.mem_of_getElem? gl), by omega, fun r H8 s8 h80 h8 => ?_⟩
            refine ⟨p7, r, _, _, rfl, rfl, s8 _ _ upd_same, h8, le_line (by simp only [List.length_map, List.length_append, List.length_cons, List.length_nil]; omega), fun p9 hp9 => ?_⟩
            have s58 := s57.trans s8
            refine ⟨p9, _, rfl, s58.trans (same_new hp9 _), s58.free hp9, ?_⟩
            rw [upd_same, mm]
            simp only [List.map_append, List.map_cons, List.map_nil, List.append_assoc, List.cons_append, List.nil_append]
          · rintro σ H5 ⟨D, i4, rfl, s5, hD, hD5⟩
            refine ⟨_, rfl, .inl ⟨rfl, _, SqL.of hD5⟩, D, _, _, rfl, rfl, hD5, small1000 ?_, ?_⟩
            · simp only [List.length_map, List.length_append, List.length_cons]
              rw [show xb.length = (It.blocks (.eit n' bs)).length by rw [el2]; exact (listB_len bs).symm]
              omega
            · refine ⟨D, _, _, _, _, _, rfl, same_set s5 hD, hD, ?_⟩
              rw [upd_same, tk, lines_mid hbl, show xb.length = (It.blocks (.eit n' bs)).length by rw [el2]; exact (listB_len bs).symm]
              simp only [List.map_append, List.map_cons, List.append_assoc, List.cons_append, List.map_nil]
        | swi n' tag bs =>
          refine ite2 (fun z => absurd (of_decide_eq_true z) (kne (by simp only [It.kind]; decide +kernel))) (fun _ => ?_)
          refine ⟨_, rfl, p, _, 0, _, rfl, rfl, hT, atI_nat (j := 0) rfl, rfl, _, rfl, ite2 (fun z => absurd (of_decide_eq_true z) (kne (by simp only [It.kind]; decide +kernel))) (fun _ => ?_)⟩
          refine ⟨_, rfl, p, _, 0, _, rfl, rfl, hT, atI_nat (j := 0) rfl, rfl, _, rfl, ite2 (fun _ => ?_) (fun z => (z (decide_eq_true rfl)).elim)⟩
          have hbl : It.blocky (.swi n' tag bs) = true := rfl
          simp only [It.At] at ay
          obtain ⟨p', qb, xb, ep, hp', hrow', hb'⟩ := ay
          cases ep
          have fy2 := fy
          simp only [It.fine] at fy2
          have el2 := hb'.len
          have w2 : (wd ["switch", n']).length ≤ 12000 := wdt_len fy 2
          rw [lines_mid hbl, List.length_cons, List.length_append, List.length_singleton] at ll
          have ew : wd [It.kind (.swi n' tag bs), It.name (.swi n' tag bs)] ++ " " ++ tag = wd (It.words (.swi n' tag bs)) := wd_app (by simp)
          refine ⟨_, rfl, .inl ⟨rfl, _, SqL.of hD2⟩, _, rfl, _, _, rfl, rfl, le_line (by show (wd ["switch", n']).length + _ ≤ _; rw [sp1]; omega), _, rfl, p, _, 2, _, rfl, rfl, SqT.of (sG2 _ _ hp'), atI_nat (j := 2) rfl, _, _, rfl, rfl, le_line (by rw [slen0, sp1]; show (wd ["switch", n']).length + _ + _ ≤ _; omega), D, _, _, rfl, rfl, hD2, small1000 (by rw [List.length_map]; omega), ?_⟩
          rw [ew]
          have S3 : Same H (upd H2 D (.lst ((x.take i).lines.map V.str ++ [.str (wd (It.words (.swi n' tag bs)))]))) := same_set s2 hD
          refine ⟨_, rfl, p, _, 3, _, rfl, rfl, SqT.of ((sG.trans S3) _ _ hp'), atI_nat (j := 3) rfl, qb, rfl, ?_⟩
          refine row_go2 (H0 := H) (hrow'.same sG) S3 (fun J wk => ?_)
          refine for_it wk (fun j σ H' => ∃ D i5, σ = [some (.ref a), some (.ref D), some (.ref p), some (.str (wd [It.kind (.swi n' tag bs), It.name (.swi n' tag bs)])), i4, i5, i6] ∧ Same H H' ∧ H D = none ∧ H' D = some (.lst (((x.take i).lines ++ (wd (It.words (.swi n' tag bs)) :: It.mid (.swi n' tag bs) j)).map V.str)))
            ⟨D, _, rfl, S3, hD, by rw [upd_same]; simp [It.mid]⟩ (fun _ _ _ _ h => by obtain ⟨_, _, _, z, _⟩ := h; exact z) ?_ ?_
          · rintro j z σ H5' H5 hj ⟨D, i5, rfl, s5, hD, hD5⟩ ⟨e3, hz⟩
            subst e3
            obtain ⟨c, b, pc, q9, zs, gb, rfl, hpc, hrw, hb2⟩ := AtS_item hb' hz
            have gl : (It.blocks (.swi n' tag bs))[j]? = some b := listB_get gb
            have gv := vals_get gb
            have gf : (It.firsts (.swi n' tag bs))[j]? = some [("case " : Str) ++ iS c] := by
              simp only [It.firsts, List.getElem?_map, gv, Option.map_some]
            have sc := fy2.2.2.1 c (List.mem_of_getElem? gv)
            have scl := iS_len sc
            have f5 := fixed_len.2.2
            obtain ⟨d2, bk⟩ := bok b (List.mem_of_getElem? gl)
            have ml := mid_le hbl gf gl
            have mm := mid_more gf gl
            simp only [lines_mid hbl, List.length_cons, List.length_append, List.length_nil] at ml
            cases n with
            | zero => exfalso; omega
            | succ n =>
            refine ⟨_, rfl, _, rfl, pc, _, 0, _, rfl, rfl, SqT.of ((sG.trans s5) _ _ hpc), atI_nat (j := 0) rfl, ?_⟩
            dsimp only [tNil]
            refine vw_go (.inl ⟨_, rfl, sc, rfl⟩) ⟨_, _, rfl, rfl, le_line (by omega), (by show 1 ≤ sizeLine; decide), fun t ht => ?_⟩
            have s6 := same_new ht (.lst [.str (("case " : Str) ++ iS c)])
            refine ⟨D, t, _, _, rfl, rfl, s6 _ _ hD5, upd_same, le_line (by simp only [List.length_map, List.length_append, List.length_cons, List.length_nil]; omega), fun p7 hp7 => ?_⟩
            have s57 := s5.trans (s6.trans (same_new hp7 (.lst (((x.take i).lines ++ (wd (It.words (.swi n' tag bs)) :: It.mid (.swi n' tag bs) j)).map V.str ++ [.str (("case " : Str) ++ iS c)]))))
            refine ⟨_, rfl, pc, _, 1, _, rfl, rfl, SqT.of ((sG.trans s57) _ _ hpc), atI_nat (j := 1) rfl, G, q9, b, zs, d + 1, rfl, by omega, bk, sG.trans s57, hrw, hb2, fine_blocks fy (List.mem_of_getElem? gl), by omega, fun r H8 s8 h80 h8 => ?_⟩
            refine ⟨p7, r, _, _, rfl, rfl, s8 _ _ upd_same, h8, le_line (by simp only [List.length_map, List.length_append, List.length_cons, List.length_nil]; omega), fun p9 hp9 => ?_⟩
            have s58 := s57.trans s8
            refine ⟨p9, _, rfl, s58.trans (same_new hp9 _), s58.free hp9, ?_⟩
            rw [upd_same, mm]
            simp only [List.map_append, List.map_cons, List.map_nil, List.append_assoc, List.cons_append, List.nil_append]
          · rintro σ H5 ⟨D, i5, rfl, s5, hD, hD5⟩
            refine ⟨_, rfl, .inl ⟨rfl, _, SqL.of hD5⟩, D, _, _, rfl, rfl, hD5, small1000 ?_, ?_⟩
            · simp only [List.length_map, List.length_append, List.length_cons]
              rw [show xb.length = (It.blocks (.swi n' tag bs)).length by rw [el2]; exact (listB_len bs).symm]
              omega
            · refine ⟨D, _, _, _, _, _, rfl, same_set s5 hD, hD, ?_⟩
              rw [upd_same, tk, lines_mid hbl, show xb.length = (It.blocks (.swi n' tag bs)).length by rw [el2]; exact (listB_len bs).symm]
              simp only [List.map_append, List.map_cons, List.append_assoc, List.cons_append, List.map_nil]
        | _ => cases hb
    · rintro σ H2 ⟨D, i2, i3, i4, i5, i6, rfl, s2, hD, hD2⟩
      rw [el, take_all] at hD2
      exact ⟨_, rfl, q D H2 s2 hD hD2⟩
end
end Bs

set_option Elab.async false
set_option linter.all false
set_option maxRecDepth 100000
set_option maxHeartbeats 8000000
namespace Bs
open PySem L2
abbrev sLFroz : Stmt := top 69
/-! ### the law's own frozen items -/
def spLFroz (n : Nat) : Sp := fun vs H Q _ => ∃ (G : Hp) (a : Addr) (x : Its) (xs : List V) (d : Int), vs = [.ref a] ∧ d + n = 3 ∧ x.ok d = true ∧ x.len ≤ 12 ∧ Same G H ∧ RowAt false G a xs ∧ x.At false G xs ∧
  ∀ r ys H', Same H H' → H' r = some (.tup ys) → x.At true H' ys → Q (.ref r) H'
theorem okB_len {x : Blks} {i : Nat} {c : Int} {b : Its} {d : Int} (h : x.ok d = true) (g : x.get i = some (c, b)) : b.len ≤ 12 ∧ b.ok d = true := by
  cases e : (decide (b.len ≤ 12) && b.ok d) with
  | false => rw [getB_ok g e] at h; cases h
  | true => rw [Bool.and_eq_true] at e; exact ⟨of_decide_eq_true e.1, e.2⟩
theorem flat_at {H : Hp} {y : It} {v : V} (hb : y.blocky = false) (h : y.At false H v) : y.At true H v := by
  cases y <;> first | (cases hb; done) | (simp only [It.At] at h ⊢; exact h)
section
variable {P : Program} {w : World} {K : PySem.W.Frag} {mg : Str → Option Value} {base : Heap} {f : Addr} {fd : FuncData}
abbrev nLF : List Str := ["items", "found", "item", "block", "case"]
theorem scLFroz : FnScope nLF ["items"] (defScope sLFroz) := ⟨rfl, rfl, rfl, by decide +kernel, rfl, by decide +kernel, by decide +kernel⟩
theorem ok_lfroz {n k : Nat} (F : Fun K "_law_frozen" "_law_frozen" sLFroz f fd) (gS : Cal P w K mg base CX0 k "_law_frozen" ["items"] (spSub spLFroz n)) (mt : mg "tuple" = none) : FnOk P w K mg base CX0 (k + 1) f fd ["items"] (spLFroz n) := by
  refine F.ok scLFroz (fun vs H Q E h => ?_) (fun cdv A outer s H vs Q E hr h => ?_)
  · obtain ⟨G, a, x, xs, d, rfl, _⟩ := h
    rfl
  · obtain ⟨G, a, x, xs, d, rfl, hd, ok, h12, sG, hrow, hat, q⟩ := h
    refine ⟨_, pss_cons (ps_set (i := 1) scLFroz.nd rfl (.inl rfl) (pe_lst pa_nil))
      (pss_cons (ps_for PassesOwn.never rfl (pi_row (pv 0)) (pg_name (i := 2) scLFroz.nd rfl (.inl rfl))
        (pss_one (ps_if (pt_cmpR op_eq (pe_ix ix_tup (pv 2) pe_int (fun _ _ => rfl)) pe_str (nomark _))
          (pss_one (ps_expr (pe_bm PySem.F.plainAttrs_list PySem.F.slot_list_append PySem.F.type_list_append mt_append (pv 1) (pa_cons (pe_tup (pa_cons (pe_ix ix_tup (pv 2) pe_int (fun _ _ => rfl)) (pa_cons (pe_ix ix_tup (pv 2) pe_int (fun _ _ => rfl)) (pa_cons (pe_ix ix_tup (pv 2) pe_int (fun _ _ => rfl)) (pa_cons (pe_cal gS hr pass0 (pa_cons (pe_ix ix_tup (pv 2) pe_int (fun _ _ => rfl)) pa_nil)) pa_nil))))) pa_nil))))
          (pss_one (ps_if (pt_cmpR op_eq (pe_ix ix_tup (pv 2) pe_int (fun _ _ => rfl)) pe_str (nomark _))
            (pss_one (ps_expr (pe_bm PySem.F.plainAttrs_list PySem.F.slot_list_append PySem.F.type_list_append mt_append (pv 1) (pa_cons (pe_tup (pa_cons (pe_ix ix_tup (pv 2) pe_int (fun _ _ => rfl)) (pa_cons (pe_ix ix_tup (pv 2) pe_int (fun _ _ => rfl)) (pa_cons (pe_tupleOf (by rfl) mt (pe_lc (own := [("block", 3)]) (g := gName 3) (tt := tYes) rfl scLFroz.nd (pi_row (pe_ix ix_tup (pv 2) pe_int (fun _ _ => rfl)))
                (blkOk_by (own := [("block", 3)]) (N := nLF) (sc := defScope sLFroz) (by decide +kernel)) (fun _ _ _ _ _ => pg_name (i := 3) scLFroz.nd rfl (Or.inl rfl)) (fun _ _ _ _ _ => pts_nil) (fun _ _ _ _ _ => pe_cal gS hr pass0 (pa_cons (pv 3) pa_nil)))) pa_nil)))) pa_nil))))
            (pss_one (ps_if (pt_cmpR op_eq (pe_ix ix_tup (pv 2) pe_int (fun _ _ => rfl)) pe_str (nomark _))
              (pss_one (ps_expr (pe_bm PySem.F.plainAttrs_list PySem.F.slot_list_append PySem.F.type_list_append mt_append (pv 1) (pa_cons (pe_tup (pa_cons (pe_ix ix_tup (pv 2) pe_int (fun _ _ => rfl)) (pa_cons (pe_ix ix_tup (pv 2) pe_int (fun _ _ => rfl)) (pa_cons (pe_ix ix_tup (pv 2) pe_int (fun _ _ => rfl)) (pa_cons (pe_tupleOf (by rfl) mt (pe_lc (own := [("case", 4)]) (g := gName 4) (tt := tYes) rfl scLFroz.nd (pi_row (pe_ix ix_tup (pv 2) pe_int (fun _ _ => rfl)))
                  (blkOk_by (own := [("case", 4)]) (N := nLF) (sc := defScope sLFroz) (by decide +kernel)) (fun _ _ _ _ _ => pg_name (i := 4) scLFroz.nd rfl (Or.inl rfl)) (fun _ _ _ _ _ => pts_nil) (fun _ _ _ _ _ => pe_tup (pa_cons (pe_ix (r := rIxT K) ix_tup (pv 4) pe_int (fun _ _ => rfl)) (pa_cons (pe_cal gS hr pass0 (pa_cons (pe_ix (r := rIxT K) ix_tup (pv 4) pe_int (fun _ _ => rfl)) pa_nil)) pa_nil))))) pa_nil))))) pa_nil))))
              (pss_one (ps_expr (pe_bm PySem.F.plainAttrs_list PySem.F.slot_list_append PySem.F.type_list_append mt_append (pv 1) (pa_cons (pv 2) pa_nil)))))))))))
      (pss_one (ps_ret (pe_tupleOf (by rfl) mt (pv 1))))), ?_⟩
    refine ⟨(by show 0 ≤ sizeLine; decide), fun D hD => ?_⟩
    have s0 := same_new hD (.lst [])
    have el := hat.len
    refine ⟨_, rfl, a, rfl, ?_⟩
    refine row_go2 (H0 := H) (hrow.same sG) s0 (fun J wk => ?_)
    refine for_it wk (fun i σ H' => ∃ i2 i3 i4, σ = [some (.ref a), some (.ref D), i2, i3, i4] ∧ Same H H' ∧ ∃ acc, H' D = some (.lst acc) ∧ acc.length = i ∧ (x.take i).At true H' acc)
      ⟨none, none, none, rfl, s0, [], upd_same, rfl, by simp [Its.take, Its.At]⟩ (fun _ _ _ _ h => by obtain ⟨_, _, _, _, z, _⟩ := h; exact z) ?_ ?_
    · rintro i v σ H2' H2 hi ⟨i2, i3, i4, rfl, s2, acc, hacc, hlen, hat2⟩ ⟨e3, hv⟩
      subst e3
      obtain ⟨y, gy, ay⟩ := At_item hat hv
      have oky := get_okd ok gy
      obtain ⟨b8, bok⟩ := blocks_ok oky
      obtain ⟨p, rest, rfl, hp, hlenp⟩ := At_head ay
      have sG2 := sG.trans s2
      have hT : SqT K H2 p _ := SqT.of (sG2 _ _ hp)
      have mk : ∀ v' H4, Same H2 H4 → y.At true H4 v' → ∃ j2 j3 j4, ([some (.ref a), some (.ref D), some (.ref p), i3, i4] : L2.St) = [some (.ref a), some (.ref D), j2, j3, j4] ∧ Same H (upd H4 D (.lst (acc ++ [v']))) ∧ ∃ ac, (upd H4 D (.lst (acc ++ [v']))) D = some (.lst ac) ∧ ac.length = i + 1 ∧ (x.take (i + 1)).At true (upd H4 D (.lst (acc ++ [v']))) ac := fun v' H4 s4 a4 =>
        ⟨_, _, _, rfl, same_set (s2.trans s4) hD, _, upd_same, by simp [hlen], (take_at s4 hat2 gy a4).kp (.wr (s4 _ _ hacc))⟩
      have sl : acc.length < sizeLine := small1000 (by omega)
      refine ⟨_, rfl, p, _, 0, _, rfl, rfl, hT, atI_nat (j := 0) rfl, rfl, _, rfl, ?_⟩
      cases hb : y.blocky with
      | false =>
        obtain ⟨f1, f2, f3⟩ := kind_flat hb
        refine ite2 (fun z => absurd (of_decide_eq_true z) (kne f1)) (fun _ => ?_)
        refine ⟨_, rfl, p, _, 0, _, rfl, rfl, hT, atI_nat (j := 0) rfl, rfl, _, rfl, ite2 (fun z => absurd (of_decide_eq_true z) (kne f2)) (fun _ => ?_)⟩
        refine ⟨_, rfl, p, _, 0, _, rfl, rfl, hT, atI_nat (j := 0) rfl, rfl, _, rfl, ite2 (fun z => absurd (of_decide_eq_true z) (kne f3)) (fun _ => ?_)⟩
        refine ⟨_, rfl, .inl ⟨rfl, _, SqL.of hacc⟩, _, rfl, D, acc, _, rfl, rfl, hacc, sl, ?_⟩
        exact mk _ H2 (Same.refl _) ((flat_at hb ay).same sG2)
      | true =>
        cases y with
        | rep n' amt b =>
          refine ite2 (fun _ => ?_) (fun z => (z (decide_eq_true rfl)).elim)
          obtain ⟨d2, bk⟩ := bok b (by simp [It.blocks])
          rw [It.ok, Bool.and_eq_true, Bool.and_eq_true, Bool.and_eq_true] at oky
          have b12 := of_decide_eq_true oky.2.2.1
          simp only [It.At] at ay
          obtain ⟨p', qb, xb, ep, hp', hrow', hb'⟩ := ay
          cases ep
          have hT' : SqT K H2 p _ := SqT.of (sG2 _ _ hp')
          cases n with
          | zero => exfalso; omega
          | succ n =>
          refine ⟨_, rfl, .inl ⟨rfl, _, SqL.of hacc⟩, _, rfl, p, _, 0, _, rfl, rfl, hT', atI_nat (j := 0) rfl, _, rfl, p, _, 1, _, rfl, rfl, hT', atI_nat (j := 1) rfl, _, rfl, p, _, 2, _, rfl, rfl, hT', atI_nat (j := 2) rfl, _, rfl, p, _, 3, _, rfl, rfl, hT', atI_nat (j := 3) rfl, ?_⟩
          refine ⟨G, qb, b, xb, d + 1, rfl, by omega, bk, b12, sG2, hrow', hb', fun r ys H4 s4 h4 a4 => ?_⟩
          refine ⟨(by show 4 ≤ sizeLine; decide), fun t ht => ?_⟩
          have s5 := same_new ht (.tup [.str "repeat", .str n', kV amt, .ref r])
          refine ⟨D, acc, _, rfl, rfl, (s4.trans s5) _ _ hacc, sl, mk _ _ (s4.trans s5) ?_⟩
          simp only [It.At]
          exact ⟨t, r, ys, rfl, upd_same, .inl (s5 _ _ h4), a4.same s5⟩
        | eit n' bs =>
          refine ite2 (fun z => absurd (of_decide_eq_true z) (kne (by simp only [It.kind]; decide +kernel))) (fun _ => ?_)
          refine ⟨_, rfl, p, _, 0, _, rfl, rfl, hT, atI_nat (j := 0) rfl, rfl, _, rfl, ite2 (fun _ => ?_) (fun z => (z (decide_eq_true rfl)).elim)⟩
          rw [It.ok, Bool.and_eq_true, Bool.and_eq_true, Bool.and_eq_true] at oky
          have okb := oky.2.2.2
          simp only [It.At] at ay
          obtain ⟨p', qb, xb, ep, hp', hrow', hb'⟩ := ay
          cases ep
          have el2 := hb'.len
          have b8 : bs.list.length ≤ 8 := b8
          rw [listB_len] at b8
          have hT' : SqT K H2 p _ := SqT.of (sG2 _ _ hp')
          refine ⟨_, rfl, .inl ⟨rfl, _, SqL.of hacc⟩, _, rfl, p, _, 0, _, rfl, rfl, hT', atI_nat (j := 0) rfl, _, rfl, p, _, 1, _, rfl, rfl, hT', atI_nat (j := 1) rfl, _, rfl, p, _, 2, _, rfl, rfl, hT', atI_nat (j := 2) rfl, qb, rfl, ?_⟩
          refine row_go (hrow'.same sG2) (fun J wk => ?_)
          intro D2 hD2
          refine lc_it wk (fun j H' => Same H2 H' ∧ ∃ ac, H' D2 = some (.lst ac) ∧ ac.length = j ∧ (bs.take j).AtE true H' ac)
            ⟨same_new hD2 _, [], upd_same, rfl, by simp [Blks.take, Blks.AtE]⟩ (fun _ _ _ h => h.1) ?_ ?_
          · rintro j z H3' H3 hj ⟨s3, ac, hac, hl3, hat3⟩ ⟨e3, hz⟩
            subst e3
            obtain ⟨c, b, q9, zs, gb, rfl, hrw, hb2⟩ := AtE_item hb' hz
            obtain ⟨b12, bk⟩ := okB_len okb gb
            have d2 : d ≤ 2 := (bok b (List.mem_of_getElem? (listB_get gb))).1
            cases n with
            | zero => exfalso; omega
            | succ n =>
            refine ⟨rfl, yes_go ?_⟩
            refine ⟨_, rfl, G, q9, b, zs, d + 1, rfl, by omega, bk, b12, sG2.trans s3, hrw, hb2, fun r ys H4 s4 h4 a4 => ?_⟩
            refine ⟨ac, s4 _ _ hac, small1000 (by omega), same_set (s3.trans s4) hD2, ac ++ [.ref r], upd_same, by simp [hl3], ?_⟩
            exact (takeE_at s4 hat3 gb (.inl h4) a4).kp (.wr (s4 _ _ hac))
          · rintro H3 ⟨s3, ac, hac, hl3, hat3⟩
            rw [el2, takeB_all] at hat3
            refine .inl ⟨D2, ac, rfl, SqL.of hac, fun p4 hp4 => ?_⟩
            have s4 := same_new hp4 (.tup ac)
            refine ⟨(by show 3 ≤ sizeLine; decide), fun t ht => ?_⟩
            have s5 := same_new ht (.tup [.str "either", .str n', .ref p4])
            have s25 := s3.trans (s4.trans s5)
            refine ⟨D, acc, _, rfl, rfl, s25 _ _ hacc, sl, mk _ _ s25 ?_⟩
            simp only [It.At]
            exact ⟨t, p4, ac, rfl, upd_same, .inl (s5 _ _ upd_same), (hat3.same s4).same s5⟩
        | swi n' tag bs =>
          refine ite2 (fun z => absurd (of_decide_eq_true z) (kne (by simp only [It.kind]; decide +kernel))) (fun _ => ?_)
          refine ⟨_, rfl, p, _, 0, _, rfl, rfl, hT, atI_nat (j := 0) rfl, rfl, _, rfl, ite2 (fun z => absurd (of_decide_eq_true z) (kne (by simp only [It.kind]; decide +kernel))) (fun _ => ?_)⟩
          refine ⟨_, rfl, p, _, 0, _, rfl, rfl, hT, atI_nat (j := 0) rfl, rfl, _, rfl, ite2 (fun _ => ?_) (fun z => (z (decide_eq_true rfl)).elim)⟩
          rw [It.ok, Bool.and_eq_true, Bool.and_eq_true, Bool.and_eq_true] at oky
          have okb := oky.2.2.2
          simp only [It.At] at ay
          obtain ⟨p', qb, xb, ep, hp', hrow', hb'⟩ := ay
          cases ep
          have el2 := hb'.len
          have b8 : bs.list.length ≤ 8 := b8
          rw [listB_len] at b8
          have hT' : SqT K H2 p _ := SqT.of (sG2 _ _ hp')
          refine ⟨_, rfl, .inl ⟨rfl, _, SqL.of hacc⟩, _, rfl, p, _, 0, _, rfl, rfl, hT', atI_nat (j := 0) rfl, _, rfl, p, _, 1, _, rfl, rfl, hT', atI_nat (j := 1) rfl, _, rfl, p, _, 2, _, rfl, rfl, hT', atI_nat (j := 2) rfl, _, rfl, p, _, 3, _, rfl, rfl, hT', atI_nat (j := 3) rfl, qb, rfl, ?_⟩
          refine row_go (hrow'.same sG2) (fun J wk => ?_)
          intro D2 hD2
          refine lc_it wk (fun j H' => Same H2 H' ∧ ∃ ac, H' D2 = some (.lst ac) ∧ ac.length = j ∧ (bs.take j).AtS true H' ac)
            ⟨same_new hD2 _, [], upd_same, rfl, by simp [Blks.take, Blks.AtS]⟩ (fun _ _ _ h => h.1) ?_ ?_
          · rintro j z H3' H3 hj ⟨s3, ac, hac, hl3, hat3⟩ ⟨e3, hz⟩
            subst e3
            obtain ⟨c, b, pc, q9, zs, gb, rfl, hpc, hrw, hb2⟩ := AtS_item hb' hz
            obtain ⟨b12, bk⟩ := okB_len okb gb
            have d2 : d ≤ 2 := (bok b (List.mem_of_getElem? (listB_get gb))).1
            have hTc : SqT K H3 pc _ := SqT.of ((sG2.trans s3) _ _ hpc)
            cases n with
            | zero => exfalso; omega
            | succ n =>
            refine ⟨rfl, yes_go ?_⟩
            refine ⟨_, rfl, pc, _, 0, _, rfl, rfl, hTc, atI_nat (j := 0) rfl, _, rfl, pc, _, 1, _, rfl, rfl, hTc, atI_nat (j := 1) rfl, ?_⟩
            refine ⟨G, q9, b, zs, d + 1, rfl, by omega, bk, b12, sG2.trans s3, hrw, hb2, fun r ys H4 s4 h4 a4 => ?_⟩
            refine ⟨(by show 2 ≤ sizeLine; decide), fun t ht => ?_⟩
            have s5 := same_new ht (.tup [.int c, .ref r])
            have hac5 := (s4.trans s5) _ _ hac
            refine ⟨ac, hac5, small1000 (by omega), same_set (s3.trans (s4.trans s5)) hD2, ac ++ [.ref t], upd_same, by simp [hl3], ?_⟩
            exact (takeS_at (s4.trans s5) hat3 gb upd_same (.inl (s5 _ _ h4)) (a4.same s5)).kp (.wr hac5)
          · rintro H3 ⟨s3, ac, hac, hl3, hat3⟩
            rw [el2, takeB_all] at hat3
            refine .inl ⟨D2, ac, rfl, SqL.of hac, fun p4 hp4 => ?_⟩
            have s4 := same_new hp4 (.tup ac)
            refine ⟨(by show 4 ≤ sizeLine; decide), fun t ht => ?_⟩
            have s5 := same_new ht (.tup [.str "switch", .str n', .str tag, .ref p4])
            have s25 := s3.trans (s4.trans s5)
            refine ⟨D, acc, _, rfl, rfl, s25 _ _ hacc, sl, mk _ _ s25 ?_⟩
            simp only [It.At]
            exact ⟨t, p4, ac, rfl, upd_same, .inl (s5 _ _ upd_same), (hat3.same s4).same s5⟩
        | _ => cases hb
    · rintro σ H2 ⟨i2, i3, i4, rfl, s2, acc, hacc, hlen, hat2⟩
      rw [el, take_all] at hat2
      refine ⟨_, rfl, .inl ⟨D, acc, rfl, SqL.of hacc, fun p hp => ?_⟩⟩
      have s3 := same_new hp (.tup acc)
      exact q p acc _ (s2.trans s3) upd_same (hat2.same s3)
end
end Bs

set_option Elab.async false
set_option linter.all false
set_option maxRecDepth 100000
set_option maxHeartbeats 4000000
namespace Bs
open PySem L2
/-! ### items as data -/
def kP : Key → PyData
  | .inl i => .int i
  | .inr z => .str z
mutual
def It.data : It → PyData
  | .num n s o lo hi => .tuple [.str "number", .str n, .int s, .str o, .int lo, .int hi]
  | .byt n a => .tuple [.str "bytes", .str n, kP a]
  | .txt n st m => .tuple [.str "text", .str n, .int st, .int m]
  | .chk n m => .tuple [.str "check", .str n, .int m]
  | .pad n m b => .tuple [.str "pad", .str n, .int m, .int b]
  | .rep n a b => .tuple [.str "repeat", .str n, kP a, .tuple b.data]
  | .eit n bs => .tuple [.str "either", .str n, .tuple bs.dataE]
  | .swi n t bs => .tuple [.str "switch", .str n, .str t, .tuple bs.dataS]
def Its.data : Its → List PyData
  | .nil => []
  | .cons x r => x.data :: r.data
def Blks.dataE : Blks → List PyData
  | .nil => []
  | .cons _ b r => .tuple b.data :: r.dataE
def Blks.dataS : Blks → List PyData
  | .nil => []
  | .cons v b r => .tuple [.int v, .tuple b.data] :: r.dataS
end
theorem rowT {H : Hp} {q : Addr} {xs : List V} (h : RowAt true H q xs) : H q = some (.tup xs) := h.elim id fun z => by cases z.1
theorem dp_k {K : PySem.W.Frag} {H : Hp} (a : Key) : Dp K H (kV a) (kP a) := by cases a <;> constructor
mutual
theorem It.dp {K : PySem.W.Frag} {H : Hp} : ∀ {x : It} {v : V}, x.At true H v → Dp K H v x.data
  | .num .., _, h => by simp only [It.At] at h; obtain ⟨p, rfl, h⟩ := h; simp only [It.data]; exact .tup (SqT.of h) (.cons (.str _) (.cons (.str _) (.cons (.int _) (.cons (.str _) (.cons (.int _) (.cons (.int _) .nil))))))
  | .byt .., _, h => by simp only [It.At] at h; obtain ⟨p, rfl, h⟩ := h; simp only [It.data]; exact .tup (SqT.of h) (.cons (.str _) (.cons (.str _) (.cons (dp_k _) .nil)))
  | .txt .., _, h => by simp only [It.At] at h; obtain ⟨p, rfl, h⟩ := h; simp only [It.data]; exact .tup (SqT.of h) (.cons (.str _) (.cons (.str _) (.cons (.int _) (.cons (.int _) .nil))))
  | .chk .., _, h => by simp only [It.At] at h; obtain ⟨p, rfl, h⟩ := h; simp only [It.data]; exact .tup (SqT.of h) (.cons (.str _) (.cons (.str _) (.cons (.int _) .nil)))
  | .pad .., _, h => by simp only [It.At] at h; obtain ⟨p, rfl, h⟩ := h; simp only [It.data]; exact .tup (SqT.of h) (.cons (.str _) (.cons (.str _) (.cons (.int _) (.cons (.int _) .nil))))
  | .rep .., _, h => by simp only [It.At] at h; obtain ⟨p, q, xs, rfl, h, r, b⟩ := h; simp only [It.data]; exact .tup (SqT.of h) (.cons (.str _) (.cons (.str _) (.cons (dp_k _) (.cons (.tup (SqT.of (rowT r)) (Its.dp b)) .nil))))
  | .eit .., _, h => by simp only [It.At] at h; obtain ⟨p, q, xs, rfl, h, r, b⟩ := h; simp only [It.data]; exact .tup (SqT.of h) (.cons (.str _) (.cons (.str _) (.cons (.tup (SqT.of (rowT r)) (Blks.dpE b)) .nil)))
  | .swi .., _, h => by simp only [It.At] at h; obtain ⟨p, q, xs, rfl, h, r, b⟩ := h; simp only [It.data]; exact .tup (SqT.of h) (.cons (.str _) (.cons (.str _) (.cons (.str _) (.cons (.tup (SqT.of (rowT r)) (Blks.dpS b)) .nil))))
theorem Its.dp {K : PySem.W.Frag} {H : Hp} : ∀ {x : Its} {l : List V}, x.At true H l → DpAll K H l x.data
  | .nil, _, h => by simp only [Its.At] at h; subst h; simp only [Its.data]; exact .nil
  | .cons .., _, h => by simp only [Its.At] at h; obtain ⟨v, l', rfl, h, r⟩ := h; simp only [Its.data]; exact .cons (It.dp h) (Its.dp r)
theorem Blks.dpE {K : PySem.W.Frag} {H : Hp} : ∀ {x : Blks} {l : List V}, x.AtE true H l → DpAll K H l x.dataE
  | .nil, _, h => by simp only [Blks.AtE] at h; subst h; simp only [Blks.dataE]; exact .nil
  | .cons .., _, h => by simp only [Blks.AtE] at h; obtain ⟨q, xs, l', rfl, r, h, t⟩ := h; simp only [Blks.dataE]; exact .cons (.tup (SqT.of (rowT r)) (Its.dp h)) (Blks.dpE t)
theorem Blks.dpS {K : PySem.W.Frag} {H : Hp} : ∀ {x : Blks} {l : List V}, x.AtS true H l → DpAll K H l x.dataS
  | .nil, _, h => by simp only [Blks.AtS] at h; subst h; simp only [Blks.dataS]; exact .nil
  | .cons .., _, h => by simp only [Blks.AtS] at h; obtain ⟨p, q, xs, l', rfl, hp, r, h, t⟩ := h; simp only [Blks.dataS]; exact .cons (.tup (SqT.of hp) (.cons (.int _) (.cons (.tup (SqT.of (rowT r)) (Its.dp h)) .nil))) (Blks.dpS t)
end
/-! ### it is shaped -/
theorem sign_uni {c : Nat} (h : isSign c = true) : c < 1114112 := by
  unfold isSign isLetter isDigit at h
  rw [Bool.or_eq_true] at h
  have a : ∀ c ∈ letters.cps.toList, c < 1114112 := by decide +kernel
  have b : ∀ c ∈ digits.cps.toList, c < 1114112 := by decide +kernel
  exact h.elim (fun h => a c (of_decide_eq_true h)) fun h => b c (of_decide_eq_true h)
theorem name_lay {z : Str} (h : isName z = true) : PyData.strOk z = true := by
  unfold isName at h
  unfold PyData.strOk
  rw [← Array.all_toList]
  revert h
  generalize z.cps.toList = l
  intro h
  cases l with
  | nil => rfl
  | cons c r =>
    unfold nameOk at h
    rw [Bool.and_eq_true, Bool.and_eq_true] at h
    rw [List.all_eq_true]
    intro x hx
    exact decide_eq_true (sign_uni (List.all_eq_true.mp h.2.2 x hx))
theorem ok_isName {x : It} {d : Int} (h : x.ok d = true) : isName x.name = true := by
  cases e : isName x.name with
  | true => rfl
  | false => rw [ok_name e] at h; cases h
def EnvC (f : Env) : Prop := ∀ z p, f z = some p → PyData.strOk z = true
theorem envC_seen {f : Env} (hf : EnvC f) {y : It} (h : isName y.name = true) : EnvC (y.seen f) := by
  cases y with
  | num n s o lo hi =>
    intro z p e
    have e : (if z = n then some (lo, hi) else f z) = some p := e
    by_cases c : z = n
    · rw [c]; exact name_lay h
    · rw [if_neg c] at e; exact hf z p e
  | _ => exact hf
theorem amount_lay {f : Env} (hf : EnvC f) {most : Int} {a : Key} {l : Int × Int} (e : amount f most a = some l) : (kP a).canLay0 = true := by
  cases a with
  | inl i => rfl
  | inr z =>
    simp only [amount] at e
    cases h : f z with
    | none => rw [h] at e; cases e
    | some p => simp only [kP, PyData.canLay0]; exact hf z p h
theorem kw_lay : PyData.strOk "number" = true ∧ PyData.strOk "bytes" = true ∧ PyData.strOk "text" = true ∧ PyData.strOk "check" = true ∧ PyData.strOk "pad" = true ∧ PyData.strOk "repeat" = true ∧ PyData.strOk "either" = true ∧ PyData.strOk "switch" = true ∧ PyData.strOk "big" = true ∧ PyData.strOk "little" = true := by decide +kernel
mutual
theorem It.lay : ∀ (x : It) (f : Env) (l : Int × Int) (d : Int), EnvC f → x.ok d = true → x.lens f = some l → x.data.canLay0 = true
  | .num n s o lo hi, f, l, d, hf, ok, e => by
    have nm : PyData.strOk n = true := name_lay (ok_isName ok)
    simp only [It.lens] at e
    by_cases c : numOk s o lo hi = true
    · unfold numOk at c
      rw [Bool.and_eq_true, Bool.and_eq_true] at c
      have c2 := of_decide_eq_true c.2.1
      have os : PyData.strOk o = true := by rcases c2 with rfl | rfl <;> decide +kernel
      simp only [It.data, PyData.canLay0, PyData.canLayAll0, nm, os, kw_lay.1, Bool.and_true]
    · rw [if_neg c] at e; cases e
  | .byt n a, f, l, d, hf, ok, e => by
    have nm : PyData.strOk n = true := name_lay (ok_isName ok)
    simp only [It.lens] at e
    simp only [It.data, PyData.canLay0, PyData.canLayAll0, nm, amount_lay hf e, kw_lay.2.1, Bool.and_true]
  | .txt n st m, f, l, d, hf, ok, e => by
    have nm : PyData.strOk n = true := name_lay (ok_isName ok)
    simp only [It.data, PyData.canLay0, PyData.canLayAll0, nm, kw_lay.2.2.1, Bool.and_true]
  | .chk n m, f, l, d, hf, ok, e => by
    have nm : PyData.strOk n = true := name_lay (ok_isName ok)
    simp only [It.data, PyData.canLay0, PyData.canLayAll0, nm, kw_lay.2.2.2.1, Bool.and_true]
  | .pad n m b, f, l, d, hf, ok, e => by
    have nm : PyData.strOk n = true := name_lay (ok_isName ok)
    simp only [It.data, PyData.canLay0, PyData.canLayAll0, nm, kw_lay.2.2.2.2.1, Bool.and_true]
  | .rep n a b, f, l, d, hf, ok, e => by
    have nm : PyData.strOk n = true := name_lay (ok_isName ok)
    simp only [It.lens] at e
    rw [It.ok, Bool.and_eq_true, Bool.and_eq_true, Bool.and_eq_true] at ok
    cases ha : amount f 16 a with
    | none => rw [ha] at e; cases e
    | some q =>
      cases hb : b.lens f with
      | none => rw [ha, hb] at e; cases e
      | some p => simp only [It.data, PyData.canLay0, PyData.canLayAll0, nm, amount_lay hf ha, Its.lay b f p _ hf ok.2.2.2 hb, kw_lay.2.2.2.2.2.1, Bool.and_true]
  | .eit n bs, f, l, d, hf, ok, e => by
    have nm : PyData.strOk n = true := name_lay (ok_isName ok)
    simp only [It.lens] at e
    rw [It.ok, Bool.and_eq_true, Bool.and_eq_true, Bool.and_eq_true] at ok
    cases hb : bs.lens f with
    | none => rw [hb] at e; cases e
    | some p => simp only [It.data, PyData.canLay0, PyData.canLayAll0, nm, Blks.layE bs f p _ hf ok.2.2.2 hb, kw_lay.2.2.2.2.2.2.1, Bool.and_true]
  | .swi n tag bs, f, l, d, hf, ok, e => by
    have nm : PyData.strOk n = true := name_lay (ok_isName ok)
    simp only [It.lens] at e
    rw [It.ok, Bool.and_eq_true, Bool.and_eq_true, Bool.and_eq_true] at ok
    by_cases c : (f tag).isSome = true ∧ (∀ v ∈ bs.vals, 0 ≤ v ∧ v ≤ 65535) ∧ bs.vals.Nodup
    · rw [if_pos c] at e
      obtain ⟨q, hq⟩ := Option.isSome_iff_exists.mp c.1
      have ht := hf tag q hq
      cases hb : bs.lens f with
      | none => rw [hb] at e; cases e
      | some p => simp only [It.data, PyData.canLay0, PyData.canLayAll0, nm, ht, Blks.layS bs f p _ hf ok.2.2.2 hb, kw_lay.2.2.2.2.2.2.2.1, Bool.and_true]
    · rw [if_neg c] at e; cases e
theorem Its.lay : ∀ (x : Its) (f : Env) (l : Int × Int) (d : Int), EnvC f → x.ok d = true → x.lens f = some l → PyData.canLayAll0 x.data = true
  | .nil, f, l, d, hf, ok, e => by simp only [Its.data, PyData.canLayAll0]
  | .cons x r, f, l, d, hf, ok, e => by
    rw [lens_cons] at e
    rw [Its.ok, Bool.and_eq_true] at ok
    cases hx : x.lens f with
    | none => rw [hx] at e; cases e
    | some a =>
      rw [hx] at e
      simp only at e
      cases hr : r.lens (x.seen f) with
      | none => rw [hr] at e; cases e
      | some b => simp only [Its.data, PyData.canLayAll0, It.lay x f a d hf ok.1 hx, Its.lay r _ b d (envC_seen hf (ok_isName ok.1)) ok.2 hr, Bool.and_true]
theorem Blks.layE : ∀ (x : Blks) (f : Env) (l : List (Int × Int)) (d : Int), EnvC f → x.ok d = true → x.lens f = some l → PyData.canLayAll0 x.dataE = true
  | .nil, f, l, d, hf, ok, e => by simp only [Blks.dataE, PyData.canLayAll0]
  | .cons v b r, f, l, d, hf, ok, e => by
    rw [lensB_cons] at e
    rw [Blks.ok, Bool.and_eq_true, Bool.and_eq_true] at ok
    cases hx : b.lens f with
    | none => rw [hx] at e; cases e
    | some a =>
      rw [hx] at e
      simp only at e
      cases hr : r.lens f with
      | none => rw [hr] at e; cases e
      | some c => simp only [Blks.dataE, PyData.canLay0, PyData.canLayAll0, Its.lay b f a d hf ok.1.2 hx, Blks.layE r f c d hf ok.2 hr, Bool.and_true]
theorem Blks.layS : ∀ (x : Blks) (f : Env) (l : List (Int × Int)) (d : Int), EnvC f → x.ok d = true → x.lens f = some l → PyData.canLayAll0 x.dataS = true
  | .nil, f, l, d, hf, ok, e => by simp only [Blks.dataS, PyData.canLayAll0]
  | .cons v b r, f, l, d, hf, ok, e => by
    rw [lensB_cons] at e
    rw [Blks.ok, Bool.and_eq_true, Bool.and_eq_true] at ok
    cases hx : b.lens f with
    | none => rw [hx] at e; cases e
    | some a =>
      rw [hx] at e
      simp only at e
      cases hr : r.lens f with
      | none => rw [hr] at e; cases e
      | some c => simp only [Blks.dataS, PyData.canLay0, PyData.canLayAll0, Its.lay b f a d hf ok.1.2 hx, Blks.layS r f c d hf ok.2 hr, Bool.and_true]
end
theorem dep_k (a : Key) : (kP a).depth = 0 := by cases a <;> simp only [kP, PyData.depth]
theorem ok_d {x : It} {d : Int} (h : x.ok d = true) : d ≤ 3 := by
  cases x with
  | rep => rw [It.ok, Bool.and_eq_true, Bool.and_eq_true] at h; have := of_decide_eq_true h.2.1; omega
  | eit => rw [It.ok, Bool.and_eq_true, Bool.and_eq_true] at h; have := of_decide_eq_true h.2.1; omega
  | swi => rw [It.ok, Bool.and_eq_true, Bool.and_eq_true] at h; have := of_decide_eq_true h.2.1; omega
  | _ => simp only [It.ok, Bool.and_eq_true] at h; exact of_decide_eq_true h.2
mutual
theorem It.dep : ∀ (x : It) (d : Int), x.ok d = true → (x.data.depth : Int) ≤ 13 - 4 * d
  | .num .., d, h => by have := ok_d h; simp only [It.data, PyData.depth, PyData.depthAll]; omega
  | .byt n a, d, h => by have := ok_d h; simp only [It.data, PyData.depth, PyData.depthAll, dep_k]; omega
  | .txt .., d, h => by have := ok_d h; simp only [It.data, PyData.depth, PyData.depthAll]; omega
  | .chk .., d, h => by have := ok_d h; simp only [It.data, PyData.depth, PyData.depthAll]; omega
  | .pad .., d, h => by have := ok_d h; simp only [It.data, PyData.depth, PyData.depthAll]; omega
  | .rep n a b, d, h => by
    rw [It.ok, Bool.and_eq_true, Bool.and_eq_true, Bool.and_eq_true] at h
    have d2 := of_decide_eq_true h.2.1
    have := Its.dep b (d + 1) (by omega) h.2.2.2
    simp only [It.data, PyData.depth, PyData.depthAll, dep_k]
    omega
  | .eit n bs, d, h => by
    rw [It.ok, Bool.and_eq_true, Bool.and_eq_true, Bool.and_eq_true] at h
    have d2 := of_decide_eq_true h.2.1
    have := Blks.depE bs (d + 1) (by omega) h.2.2.2
    simp only [It.data, PyData.depth, PyData.depthAll]
    omega
  | .swi n t bs, d, h => by
    rw [It.ok, Bool.and_eq_true, Bool.and_eq_true, Bool.and_eq_true] at h
    have d2 := of_decide_eq_true h.2.1
    have := Blks.depS bs (d + 1) (by omega) h.2.2.2
    simp only [It.data, PyData.depth, PyData.depthAll]
    omega
theorem Its.dep : ∀ (x : Its) (d : Int), d ≤ 3 → x.ok d = true → (PyData.depthAll x.data : Int) ≤ 13 - 4 * d
  | .nil, d, h3, h => by simp only [Its.data, PyData.depthAll]; omega
  | .cons x r, d, h3, h => by
    rw [Its.ok, Bool.and_eq_true] at h
    have a := It.dep x d h.1
    have b := Its.dep r d h3 h.2
    simp only [Its.data, PyData.depthAll]
    omega
theorem Blks.depE : ∀ (x : Blks) (d : Int), d ≤ 3 → x.ok d = true → (PyData.depthAll x.dataE : Int) ≤ 14 - 4 * d
  | .nil, d, h3, h => by simp only [Blks.dataE, PyData.depthAll]; omega
  | .cons v b r, d, h3, h => by
    rw [Blks.ok, Bool.and_eq_true, Bool.and_eq_true] at h
    have a := Its.dep b d h3 h.1.2
    have c := Blks.depE r d h3 h.2
    simp only [Blks.dataE, PyData.depth, PyData.depthAll]
    omega
theorem Blks.depS : ∀ (x : Blks) (d : Int), d ≤ 3 → x.ok d = true → (PyData.depthAll x.dataS : Int) ≤ 15 - 4 * d
  | .nil, d, h3, h => by simp only [Blks.dataS, PyData.depthAll]; omega
  | .cons v b r, d, h3, h => by
    rw [Blks.ok, Bool.and_eq_true, Bool.and_eq_true] at h
    have a := Its.dep b d h3 h.1.2
    have c := Blks.depS r d h3 h.2
    simp only [Blks.dataS, PyData.depth, PyData.depthAll]
    omega
end
theorem shaped_data {x : Its} {l : Int × Int} (ok : x.ok 0 = true) (e : x.lens (fun _ => none) = some l) : SeqAt.shaped (.tuple x.data) = true := by
  have a := Its.lay x _ l 0 (fun z p h => by cases h) ok e
  have b := Its.dep x 0 (by decide) ok
  unfold SeqAt.shaped
  simp only [PyData.canLay0, PyData.depth, a, Bool.true_and]
  exact decide_eq_true (by omega)
theorem eqv_data {x : Its} {l : Int × Int} (ok : x.ok 0 = true) (e : x.lens (fun _ => none) = some l) : PyData.eqv (.tuple x.data) (.tuple x.data) = true := by
  have h := shaped_data ok e
  unfold SeqAt.shaped at h
  rw [Bool.and_eq_true] at h
  exact SeqAt.eqv_refl _ h.1
/-! ### the first items -/
theorem take_At {fz : Bool} {H : Hp} : ∀ {x : Its} {l : List V} (i : Nat), x.At fz H l → (x.take i).At fz H (l.take i)
  | x, l, 0, _ => by simp [Its.take, Its.At]
  | .nil, l, i + 1, h => by simp only [Its.At] at h; subst h; simp [Its.take, Its.At]
  | .cons x r, l, i + 1, h => by
    simp only [Its.At] at h
    obtain ⟨v, l', rfl, h1, h2⟩ := h
    show (Its.cons x (r.take i)).At fz H (v :: l'.take i)
    simp only [Its.At]
    exact ⟨v, _, rfl, h1, take_At i h2⟩
theorem one_shape : ∀ {x : Its}, x.shape = true → 1 ≤ x.len → x.tame → x.fine → (x.take 1).shape = true ∧ (x.take 1).tame ∧ (x.take 1).fine ∧ (x.take 1).flat.length ≤ x.flat.length
  | .nil, _, h, _, _ => by simp [Its.len] at h
  | .cons y r, h, _, t, f => by
    show (Its.cons y (r.take 0)).shape = true ∧ (Its.cons y (r.take 0)).tame ∧ (Its.cons y (r.take 0)).fine ∧ (Its.cons y (r.take 0)).flat.length ≤ _
    have e : r.take 0 = .nil := by cases r <;> rfl
    rw [e]
    unfold Its.shape at h ⊢
    simp only [Bool.and_eq_true, decide_eq_true_eq] at h
    obtain ⟨⟨h12, ok⟩, h1, h30, nd, ck, ln⟩ := h
    rw [Its.ok, Bool.and_eq_true] at ok
    simp only [Its.tame] at t
    simp only [Its.fine] at f
    simp only [Its.walk, Its.names, List.map_append, List.filter_append, List.length_append] at h30 nd ck
    have lx : (y.lens fun _ => none).isSome = true := by
      rw [lens_cons] at ln
      cases hx : y.lens fun _ => none with
      | none => rw [hx] at ln; cases ln
      | some a => rfl
    obtain ⟨a, ea⟩ := Option.isSome_iff_exists.mp lx
    refine ⟨?_, by simp only [Its.tame]; exact ⟨t.1, trivial⟩, by simp only [Its.fine]; exact ⟨f.1, trivial⟩, by simp only [Its.flat, List.length_append, List.length_nil]; omega⟩
    simp only [Bool.and_eq_true, decide_eq_true_eq]
    refine ⟨⟨by simp [Its.len], by rw [Its.ok, Bool.and_eq_true]; exact ⟨ok.1, by rw [Its.ok]⟩⟩, by simp [Its.len], ?_, ?_, ?_, ?_⟩
    · simp only [Its.walk, List.length_append, List.length_nil]; omega
    · simp only [Its.walk, Its.names, List.map_append, List.map_nil, List.append_nil]
      exact (List.nodup_append.mp nd).1
    · simp only [Its.walk, List.filter_append, List.length_append, List.filter_nil, List.length_nil]; omega
    · rw [lens_cons, ea]
      simp only [Its.lens]
      rfl
end Bs

set_option Elab.async false
set_option linter.all false
set_option maxRecDepth 100000
set_option maxHeartbeats 4000000
namespace Bs
open PySem L2
/-! ### words that are integers -/
def isIntWord (z : Str) : Bool := decide (1 ≤ z.length ∧ z.length ≤ 9) && (z.cps.toList.all isDigit && (decide (z = "0") || !decide (z.cps.toList.head? = some 48)))
def intOf (z : Str) : Int := ((NumText.digitsVal z.cps.toList : Nat) : Int)
def prt1 (z : Str) : V := if isIntWord z = true then .int (intOf z) else .str z
theorem digit_iff (c : Nat) : isDigit c = true ↔ 48 ≤ c ∧ c ≤ 57 := by
  have e : digits.cps.toList = [48, 49, 50, 51, 52, 53, 54, 55, 56, 57] := by decide +kernel
  unfold isDigit
  rw [decide_eq_true_iff, e]
  simp
  omega
theorem int_text {z : Str} (h : isIntWord z = true) : intText? z = some (intOf z) ∧ z.length ≤ 9 := by
  unfold isIntWord at h
  rw [Bool.and_eq_true, Bool.and_eq_true] at h
  have h1 := of_decide_eq_true h.1
  have l : z.length = z.cps.toList.length := by simp [Str.length]
  refine ⟨PySem.intText_digits (fun c hc => (digit_iff c).mp (List.all_eq_true.mp h.2.1 c hc)) (fun e => by rw [e] at l; simp at l; omega) (by omega), h1.2⟩
theorem name_noint {z : Str} (h : isName z = true) : isIntWord z = false := by
  cases e : isIntWord z with
  | false => rfl
  | true =>
    exfalso
    unfold isIntWord at e
    rw [Bool.and_eq_true, Bool.and_eq_true] at e
    have ha := e.2.1
    unfold isName at h
    cases q : z.cps.toList with
    | nil => rw [q] at h; cases h
    | cons c r =>
      rw [q] at h ha
      rw [nameOk, Bool.and_eq_true, Bool.and_eq_true] at h
      rw [List.all_cons, Bool.and_eq_true] at ha
      have := (digit_iff c).mp ha.1
      have hl : isLetter c = true := h.2.1
      unfold isLetter at hl
      have k : ∀ c ∈ letters.cps.toList, 97 ≤ c := by decide +kernel
      have := k c (of_decide_eq_true hl)
      omega
/-! ### small ints, written and read -/
theorem digit_cp (d : Nat) (h : d < 10) : (Nat.digitChar d).toNat = 48 + d := by
  have : ∀ d : Fin 10, (Nat.digitChar d.val).toNat = 48 + d.val := by decide +kernel
  exact this ⟨d, h⟩
def dg (n : Nat) : List Nat := (Nat.toDigits 10 n).map Char.toNat
theorem dg_if (n : Nat) : dg n = if n < 10 then [48 + n] else dg (n / 10) ++ [48 + n % 10] := by
  unfold dg
  rw [Nat.toDigits_eq_if (by decide)]
  split
  · next h => rw [List.map_singleton, digit_cp n h]
  · rw [List.map_append, List.map_singleton, digit_cp _ (Nat.mod_lt _ (by decide))]
theorem iS_tl (n : Nat) : (iS (n : Int)).cps.toList = dg n := by
  show (Str.ofString (String.ofList (Nat.toDigits 10 n))).cps.toList = _
  rw [show (Str.ofString (String.ofList (Nat.toDigits 10 n))).cps.toList = TL.tl (Str.ofString (String.ofList (Nat.toDigits 10 n))) from rfl, TL.tl_ofString]
  simp [dg]
theorem dg_spec : ∀ n : Nat, NumText.digitsVal (dg n) = n ∧ (∀ c ∈ dg n, isDigit c = true) ∧ (n ≠ 0 → (dg n).head? ≠ some 48) ∧ dg n ≠ [] := by
  intro n
  induction n using Nat.strongRecOn with
  | ind n ih =>
    rw [dg_if]
    split
    · next h =>
      refine ⟨by simp [NumText.digitsVal], fun c hc => ?_, fun z => by simp; omega, by simp⟩
      rw [List.mem_singleton] at hc
      rw [digit_iff]
      omega
    · next h =>
      obtain ⟨i1, i2, i3, i4⟩ := ih (n / 10) (Nat.div_lt_self (by omega) (by decide))
      refine ⟨?_, fun c hc => ?_, fun _ => ?_, by simp⟩
      · rw [NumText.digitsVal_snoc, i1]; omega
      · rcases List.mem_append.mp hc with hc | hc
        · exact i2 c hc
        · rw [List.mem_singleton] at hc
          rw [digit_iff]
          have := Nat.mod_lt n (show 0 < 10 by decide)
          omega
      · have := i3 (by omega)
        cases e : dg (n / 10) with
        | nil => exact absurd e i4
        | cons a r => rw [e] at this; simpa using this
theorem dg_len : ∀ (k n : Nat), n < 10 ^ (k + 1) → (dg n).length ≤ k + 1
  | 0, n, h => by rw [dg_if, if_pos (by simpa using h)]; simp
  | k + 1, n, h => by
    rw [dg_if]
    split
    · simp
    · rw [List.length_append, List.length_singleton]
      have := dg_len k (n / 10) (by rw [Nat.pow_succ] at h; exact Nat.div_lt_of_lt_mul (by omega))
      omega
theorem zero_tl : (("0" : Str).cps.toList) = [48] := by decide +kernel
theorem iS_word {i : Int} (h0 : 0 ≤ i) (h1 : i < 100000) : isIntWord (iS i) = true ∧ intOf (iS i) = i := by
  obtain ⟨n, rfl⟩ := Int.eq_ofNat_of_zero_le h0
  obtain ⟨a, b, c, d⟩ := dg_spec n
  have l := dg_len 4 n (by omega)
  have e := iS_tl n
  have len : (iS (n : Int)).length = (dg n).length := by rw [show (iS (n : Int)).length = (iS (n : Int)).cps.toList.length by simp [Str.length], e]
  refine ⟨?_, by unfold intOf; rw [e, a]⟩
  have l1 : 1 ≤ (dg n).length := List.length_pos_iff.mpr d
  unfold isIntWord
  rw [len, e, decide_eq_true (by omega : 1 ≤ (dg n).length ∧ (dg n).length ≤ 9), List.all_eq_true.mpr b]
  by_cases z : n = 0
  · subst z
    rw [decide_eq_true (show iS ((0 : Nat) : Int) = "0" by decide +kernel)]
    rfl
  · rw [decide_eq_false (c z)]
    simp
end Bs

set_option Elab.async false
set_option linter.all false
set_option maxRecDepth 100000
set_option maxHeartbeats 4000000
namespace Bs
open PySem L2
abbrev sIntWord : Stmt := top 51
abbrev sFits : Stmt := top 52
abbrev sPartsOf : Stmt := top 53
def spIntWord : Sp := fun vs H Q _ => ∃ z : Str, vs = [.str z] ∧ z.length ≤ sizeLine ∧ ∀ H', Same H H' → Q (.bl (isIntWord z)) H'
section
variable {P : Program} {w : World} {K : PySem.W.Frag} {mg : Str → Option Value} {base : Heap} {f C : Addr} {fd : FuncData}
theorem scIntWord : FnScope ["word", "one"] ["word"] (defScope sIntWord) := ⟨rfl, rfl, rfl, by decide +kernel, rfl, by decide +kernel, by decide +kernel⟩
theorem ok_intword (F : Fun K "is_integer_word" "is_integer_word" sIntWord f fd) (ml : mg "len" = none) (ma : mg "all" = none) (gD : GStr mg "DIGITS" digits) (gN : GInt mg "LONGEST_INTEGER" 9) :
    FnOk P w K mg base CX0 1 f fd ["word"] spIntWord := by
  refine F.ok scIntWord (fun vs H Q E h => ?_) (fun cdv A outer s H vs Q E hr h => ?_)
  · obtain ⟨z, rfl, _⟩ := h
    rfl
  · obtain ⟨z, rfl, hz, q⟩ := h
    refine ⟨_, pss_cons (ps_if (PW.pt (pw_or (pt_not (pt_chain op_le op_le pe_int (pe_callB call_len_str (by rfl) ml boot_len (pa_cons (pv 0) pa_nil)) (pe_gint gN rfl)))
        (pw_or1 (pt_not (pt_val (pe_callB (cr_all rfl) (by rfl) ma (by decide +kernel) (pa_cons (pe_lc (own := [("one", 1)]) (g := gName 1) (tt := tYes) rfl scIntWord.nd (pi_str (pv 0)) (blkOk_by (own := [("one", 1)]) (N := ["word", "one"]) (sc := defScope sIntWord) (by decide +kernel))
          (fun _ _ _ _ _ => pg_name (i := 1) scIntWord.nd rfl (Or.inl rfl)) (fun _ _ _ _ _ => pts_nil)
          (fun _ _ _ _ _ => pe_cmpR op_in_sign (pv 1) (pe_gstr gD rfl) rfl)) pa_nil))))))) (pss_one (ps_ret pe_bl)) pss_nil)
      (pss_one (ps_ret (pe_or (pe_cmpR op_eq (pv 0) pe_str (nomark _)) (pe_one (pe_cmpR op_ne (pe_item_str (pv 0) pe_int (fun _ _ => rfl)) pe_str (nomark _)))))), ?_⟩
    have hl : z.length = z.cps.toList.length := by simp [Str.length]
    refine ⟨_, rfl, z, rfl, hz, _, _, rfl, rfl, _, rfl, ?_⟩
    have bad : ¬ (1 ≤ (z.length : Int) ∧ (z.length : Int) ≤ 9) → isIntWord z = false := fun h => by
      unfold isIntWord
      rw [decide_eq_false (by omega)]
      rfl
    have out : ∀ H', Same H H' → isIntWord z = false → Q (.bl false) H' := fun H' s e => by have z := q H' s; rw [e] at z; exact z
    refine ite2 (fun c => ?_) (fun c => ?_)
    · have c : 1 ≤ (z.length : Int) := of_decide_eq_true c
      refine ⟨_, _, rfl, rfl, _, rfl, ?_⟩
      refine ite2 (fun d => ?_) (fun d => ?_)
      · have d : ¬ (z.length : Int) ≤ 9 := by simpa using d
        exact out H (Same.refl H) (bad fun h => d h.2)
      · have d : (z.length : Int) ≤ 9 := by simpa using d
        obtain ⟨a, r, hzr⟩ : ∃ a r, z.cps.toList = a :: r := by
          cases e : z.cps.toList with
          | nil => rw [hl, e] at c; simp at c
          | cons a r => exact ⟨a, r, rfl⟩
        have h0 : z.cps[0]? = some a := by rw [← Array.getElem?_toList, hzr]; rfl
        have hN : isIntWord z = ((a :: r).all isDigit && (decide (z = "0") || !decide (a = 48))) := by
          unfold isIntWord
          rw [hzr, decide_eq_true (by omega)]
          simp
        refine ⟨_, rfl, z, rfl, fun D hD => lc_it (walk_str (z := z)) (fun i H' => Same H H' ∧ H' D = some (.lst ((((a :: r).take i).map isDigit).map V.bl))) ⟨same_new hD _, upd_same⟩ (fun _ _ _ _ => trivial) ?_ ?_⟩
        · rintro i x H1 H2 hi ⟨sm, hD1⟩ ⟨rfl, ch, hch, rfl⟩
          have hch' : (a :: r)[i]? = some ch := by rw [← hzr, Array.getElem?_toList]; exact hch
          have step : (a :: r).take (i + 1) = (a :: r).take i ++ [ch] := by rw [List.take_add_one, hch']; rfl
          have l9 : (a :: r).length ≤ 9 := by rw [← hzr, ← hl]; omega
          have size : ((((a :: r).take i).map isDigit).map V.bl).length < sizeLine := small1000 (by rw [List.length_map, List.length_map, List.length_take]; omega)
          refine ⟨rfl, yes_go ?_⟩
          refine ⟨_, rfl, ch, digits, rfl, rfl, _, hD1, size, same_set sm hD, ?_⟩
          rw [upd_same, step, List.map_append, List.map_append]
          rfl
        · rintro H1 ⟨sm, hD1⟩
          have hn : z.cps.size = (a :: r).length := by rw [← hzr]; simp
          rw [hn, List.take_length] at hD1
          refine ⟨D, _, rfl, SqL.of hD1, ?_⟩
          refine ⟨_, rfl, ?_⟩
          generalize hb : List.all (List.map isDigit (a :: r)) id = b0
          have hb' : b0 = (a :: r).all isDigit := by rw [← hb, List.all_map]; rfl
          clear hb
          cases b0 with
          | false => exact iteT (out H1 sm (by rw [hN, ← hb']; rfl))
          | true =>
            refine iteF ?_
            refine ⟨_, rfl, rfl, ?_⟩
            have fin : ∀ b, b = (decide (z = "0") || !decide (a = 48)) → Q (.bl b) H1 := fun b e => by
              have k := q H1 sm
              rw [hN, ← hb', ← e] at k
              exact k
            refine ⟨_, rfl, ite2 (fun e => ?_) (fun e => ?_)⟩
            · have e : z = "0" := V.str.inj (of_decide_eq_true e)
              exact fin true (by rw [decide_eq_true e]; rfl)
            · have e : ¬ z = "0" := fun k => e (decide_eq_true (by rw [k]))
              refine ⟨_, rfl, z, 0, a, rfl, rfl, by decide, by decide, by omega, h0, rfl, fin _ ?_⟩
              rw [decide_eq_false e, Bool.false_or]
              by_cases a48 : a = 48
              · subst a48
                rw [decide_eq_true (show V.str (⟨#[48]⟩ : Str) = V.str "0" by decide +kernel)]
                rfl
              · rw [decide_eq_false a48, decide_eq_false (fun k => a48 (by
                  have k2 := V.str.inj k
                  have k3 : (⟨#[a]⟩ : Str).cps.toList = ("0" : Str).cps.toList := by rw [k2]
                  rw [zero_tl] at k3
                  simpa using k3))]
    · have c : ¬ 1 ≤ (z.length : Int) := by simpa using c
      exact ⟨false, rfl, iteT (out H (Same.refl H) (bad fun h => c h.1))⟩
end
end Bs

set_option Elab.async false
set_option linter.all false
set_option maxRecDepth 100000
set_option maxHeartbeats 8000000
namespace Bs
open PySem L2
def fitsB (z fm : Str) : Bool := if fm = "integer" then isIntWord z else if fm = "name" then isName z else if fm = "amount" then (isIntWord z || isName z) else (decide (z = "big") || decide (z = "little"))
def spFits : Sp := fun vs H Q _ => ∃ z fm : Str, vs = [.str z, .str fm] ∧ z.length ≤ sizeLine ∧ ∀ H', Same H H' → Q (.bl (fitsB z fm)) H'
def formOf (z : Str) : Option (List Str) :=
  if z = "number" then some ["name", "integer", "order", "integer", "integer"] else if z = "bytes" then some ["name", "amount"] else if z = "text" then some ["name", "integer", "integer"] else if z = "repeat" then some ["name", "amount"]
  else if z = "either" then some ["name"] else if z = "switch" then some ["name", "name"] else if z = "check" then some ["name", "integer"] else if z = "pad" then some ["name", "integer", "integer"] else if z = "choice" then some [] else if z = "case" then some ["integer"] else if z = "end" then some [] else none
/-- FORMS -/
def Forms (K : PySem.W.Frag) (w : World) (mg : Str → Option Value) : Prop := ∃ d es n, mg "FORMS" = some (.ref d) ∧ KDict K w d es n ∧ ∀ z fs, formOf z = some fs → ∃ a, PySem.W.nsIn K d z = some (some (.ref a)) ∧ ∀ H, SqT K H a (fs.map V.str)
/-- the words fit -/
def Fit (ws : List Str) : Prop := ∃ w0 wr fs, ws = w0 :: wr ∧ formOf w0 = some fs ∧ wr.length = fs.length ∧ ∀ (i : Nat) (z fm : Str), wr[i]? = some z → fs[i]? = some fm → fitsB z fm = true
def spPartsOf : Sp := fun vs H Q _ => ∃ (p : Addr) (ws : List Str), vs = [.ref p] ∧ H p = some (.lst (ws.map V.str)) ∧ Fit ws ∧ (∀ z ∈ ws, z.length ≤ 1000) ∧ ∀ t H', Same H H' → H t = none → H' t = some (.tup (ws.map prt1)) → Q (.ref t) H'
section
variable {P : Program} {w : World} {K : PySem.W.Frag} {mg : Str → Option Value} {base : Heap} {f C : Addr} {fd : FuncData}
theorem scFits : FnScope ["word", "form"] ["word", "form"] (defScope sFits) := ⟨rfl, rfl, rfl, by decide +kernel, rfl, by decide +kernel, by decide +kernel⟩
theorem ok_fits (F : Fun K "fits" "fits" sFits f fd) (gI : Cal P w K mg base CX0 1 "is_integer_word" ["word"] spIntWord) (gN : Cal P w K mg base CX0 1 "is_name" ["text"] spIsName) : FnOk P w K mg base CX0 2 f fd ["word", "form"] spFits := by
  refine F.ok scFits (fun vs H Q E h => ?_) (fun cdv A outer s H vs Q E hr h => ?_)
  · obtain ⟨z, fm, rfl, _⟩ := h
    rfl
  · obtain ⟨z, fm, rfl, hz, q⟩ := h
    refine ⟨_, pss_cons (ps_if (pt_cmpR op_eq (pv 1) pe_str (nomark _)) (pss_one (ps_ret (pe_cal gI hr pass0 (pa_cons (pv 0) pa_nil)))) pss_nil)
      (pss_cons (ps_if (pt_cmpR op_eq (pv 1) pe_str (nomark _)) (pss_one (ps_ret (pe_cal gN hr pass0 (pa_cons (pv 0) pa_nil)))) pss_nil)
      (pss_cons (ps_if (pt_cmpR op_eq (pv 1) pe_str (nomark _)) (pss_one (ps_ret (pe_or (pe_cal gI hr pass0 (pa_cons (pv 0) pa_nil)) (pe_one (pe_cal gN hr pass0 (pa_cons (pv 0) pa_nil)))))) pss_nil)
      (pss_one (ps_ret (pe_cmpR op_in_seq (pv 0) (pe_tup (pa_cons pe_str (pa_cons pe_str pa_nil))) (by rfl)))))), ?_⟩
    have sne : ∀ {a b : Str}, decide (V.str a = V.str b) = true → a = b := fun h => V.str.inj (of_decide_eq_true h)
    have snn : ∀ {a b : Str}, ¬ decide (V.str a = V.str b) = true → ¬ a = b := fun h k => h (decide_eq_true (by rw [k]))
    refine ⟨_, rfl, rfl, _, rfl, ite2 (fun e => ?_) (fun e1 => ?_)⟩
    · refine ⟨_, rfl, z, rfl, hz, fun H' s => ?_⟩
      have k := q H' s
      unfold fitsB at k
      rw [if_pos (sne e)] at k
      exact k
    have e1 := snn e1
    refine ⟨_, rfl, rfl, _, rfl, ite2 (fun e => ?_) (fun e2 => ?_)⟩
    · refine ⟨_, rfl, z, rfl, hz, fun H' s => ?_⟩
      have k := q H' s
      unfold fitsB at k
      rw [if_neg e1, if_pos (sne e)] at k
      exact k
    have e2 := snn e2
    refine ⟨_, rfl, rfl, _, rfl, ite2 (fun e => ?_) (fun e3 => ?_)⟩
    · refine ⟨_, rfl, z, rfl, hz, fun H' s => ⟨_, rfl, ?_⟩⟩
      have k := fun H' s => q H' s
      unfold fitsB at k
      rw [if_neg e1, if_neg e2, if_pos (sne e)] at k
      refine ite2 (fun c => ?_) (fun c => ?_)
      · have z := k H' s
        rw [c] at z
        exact z
      · have c : isIntWord z = false := by simpa using c
        refine ⟨_, rfl, z, rfl, hz, fun H2 s2 => ?_⟩
        have z := k H2 (s.trans s2)
        rw [c] at z
        exact z
    have e3 := snn e3
    refine ⟨_, rfl, (by show 2 ≤ sizeLine; decide), fun t ht => ?_⟩
    have s1 := same_new ht (.tup [.str "big", .str "little"])
    refine ⟨t, _, rfl, .inr (SqT.of upd_same), rfl, rfl, ?_⟩
    have k := q _ s1
    unfold fitsB at k
    rw [if_neg e1, if_neg e2, if_neg e3] at k
    have ein : inV (.str z) [.str "big", .str "little"] = (decide (z = "big") || decide (z = "little")) := by
      simp only [inV, List.any_cons, List.any_nil, eqV, Bool.or_false]
      have sw : ∀ y : Str, (y == z) = decide (z = y) := fun y => by
        by_cases c : z = y
        · rw [decide_eq_true c, c]; exact beq_self_eq_true _
        · rw [decide_eq_false c]; exact beq_eq_false_iff_ne.mpr fun k => c k.symm
      rw [sw, sw]
    rw [← ein] at k
    exact k
theorem form_len {z : Str} {fs : List Str} (h : formOf z = some fs) : fs.length ≤ 5 := by
  unfold formOf at h
  repeat' split at h
  all_goals first | (cases h; done) | (cases h; decide)
abbrev nPO : List Str := ["words", "forms", "word", "form"]
theorem scPartsOf : FnScope nPO ["words"] (defScope sPartsOf) := ⟨rfl, rfl, rfl, by decide +kernel, rfl, by decide +kernel, by decide +kernel⟩
theorem ok_partsof (F : Fun K "parts_of" "parts_of" sPartsOf f fd) (T : Forms K w mg) (gI : Cal P w K mg base CX0 1 "is_integer_word" ["word"] spIntWord) (gF : Cal P w K mg base CX0 2 "fits" ["word", "form"] spFits) (ml : mg "len" = none) (mz : mg "zip" = none) (mt : mg "tuple" = none) (mint : mg "int" = none) : FnOk P w K mg base CX0 3 f fd ["words"] spPartsOf := by
  refine F.ok scPartsOf (fun vs H Q E h => ?_) (fun cdv A outer s H vs Q E hr h => ?_)
  · obtain ⟨p, ws, rfl, _⟩ := h
    rfl
  · obtain ⟨p, ws, rfl, hp, ⟨w0, wr, fs, rfl, hfo, hlen, hfit⟩, hz, q⟩ := h
    obtain ⟨d, es, n, gD, D, hD⟩ := T
    obtain ⟨ad, nsA, hA⟩ := hD w0 fs hfo
    have hr1 : Room 1 _ := hr.mono (by omega)
    have hr2 : Room 2 _ := hr.mono (by omega)
    refine ⟨_, pss_cons (ps_if (pt_cmpR (op_notIn_kd D) (pe_ix ix_list (pv 0) pe_int (fun _ _ => rfl)) (pe_glob (v := .ref d) (by rfl) gD rfl) (by rfl)) (pss_one (ps_ret pe_non)) pss_nil)
      (pss_cons (ps_set (i := 1) scPartsOf.nd rfl (.inl rfl) (pe_ix ix_kdict (pe_glob (v := .ref d) (by rfl) gD rfl) (pe_ix ix_list (pv 0) pe_int (fun _ _ => rfl)) (fun _ _ => rfl)))
      (pss_cons (ps_if (pt_cmpR op_ne (pe_callB call_len (by rfl) ml boot_len (pa_cons (pv 0) pa_nil)) (pe_op op_add (pe_callB call_len (by rfl) ml boot_len (pa_cons (pv 1) pa_nil)) pe_int) (nomark _)) (pss_one (ps_ret pe_non)) pss_nil)
      (pss_cons (ps_for PassesOwn.never rfl (pi_zipM (by rfl) mz (pa_cons (pe_slice sl_list (pv 0) (po_some pe_int) po_none) (pa_cons (pv 1) pa_nil))) (pg_tup rfl (pgs_cons (pg_name (i := 2) scPartsOf.nd rfl (Or.inl rfl)) (pgs_cons (pg_name (i := 3) scPartsOf.nd rfl (Or.inl rfl)) pgs_nil)))
        (pss_one (ps_if (pt_not (pt_val (pe_cal gF hr2 pass0 (pa_cons (pv 2) (pa_cons (pv 3) pa_nil))))) (pss_one (ps_ret pe_non)) pss_nil)))
      (pss_one (ps_ret (pe_tupleOf (by rfl) mt (pe_lc (own := [("word", 2)]) (g := gName 2) (tt := tYes) rfl scPartsOf.nd (pi_list (pv 0))
          (blkOk_by (own := [("word", 2)]) (N := nPO) (sc := defScope sPartsOf) (by decide +kernel)) (fun _ _ _ _ _ => pg_name (i := 2) scPartsOf.nd rfl (Or.inl rfl)) (fun _ _ _ _ _ => pts_nil)
          (fun _ _ _ _ _ => pe_ifExp (pt_val (pe_cal gI hr1 pass0 (pa_cons (pv 2) pa_nil))) (pe_callTy call_int_str (by rfl) mint (by decide +kernel) (pa_cons (pv 2) pa_nil)) (pv 2))))))))), ?_⟩
    have hL : SqL K H p _ := SqL.of hp
    have lw : ((w0 :: wr).map V.str).length = wr.length + 1 := by simp
    have lf := form_len hfo
    refine ⟨_, rfl, p, _, 0, _, rfl, rfl, hL, atI_nat (j := 0) rfl, w0, _, rfl, rfl, nsA, _, rfl, iteF ?_⟩
    refine ⟨_, rfl, p, _, 0, _, rfl, rfl, hL, atI_nat (j := 0) rfl, d, w0, .ref ad, rfl, rfl, ⟨es, n, _, D.at_, D.lit, nsA, rfl⟩, ?_⟩
    refine ⟨_, rfl, _, _, rfl, .inl ⟨_, hL, rfl⟩, _, rfl, _, _, rfl, .inr ⟨_, hA H, rfl⟩, _, _, rfl, rfl, rfl, _, rfl, ?_⟩
    rw [decide_eq_true (show V.int (((w0 :: wr).map V.str).length : Int) = V.int (((fs.map V.str).length : Int) + 1) by rw [lw, List.length_map, hlen]; rfl)]
    refine iteF ?_
    have c1 : cutV ((w0 :: wr).map V.str) (some 1) none = wr.map V.str := by
      unfold cutV
      rw [HT.sIx_none, show (1 : Int) = ((1 : Nat) : Int) from rfl, HT.sIx_nat]
      simp
      exact List.take_of_length_le (by simp)
    refine ⟨_, rfl, 1, rfl, p, _, rfl, hL, fun p1 hp1 => ?_⟩
    rw [c1]
    have s1 := same_new hp1 (.lst (wr.map V.str))
    have h1 : (upd H p1 (.lst (wr.map V.str))) p1 = some (.lst (wr.map V.str)) := upd_same
    generalize upd H p1 (.lst (wr.map V.str)) = H1 at s1 h1 ⊢
    refine ⟨_, rfl, p1, ad, wr.map V.str, fs.map V.str, rfl, SqL.of h1, hA H1, for_it (walk_zipM (xs := wr.map V.str) (ys := fs.map V.str) (by simp [hlen])) (fun i σ H' => ∃ i2 i3, σ = [some (.ref p), some (.ref ad), i2, i3] ∧ Same H1 H') ⟨none, none, rfl, Same.refl _⟩ (fun i σ H' _ z => by obtain ⟨_, _, _, z⟩ := z; exact ⟨SqL.of (z _ _ h1), hA H'⟩) ?_ ?_⟩
    · rintro i v σ H2 H3 hi ⟨i2, i3, rfl, s2⟩ ⟨T, vx, vy, rfl, hT0, rfl, ex, ey⟩
      have s3 := same_new hT0 (.tup [vx, vy])
      rw [List.getElem?_map] at ex ey
      obtain ⟨z, ez, rfl⟩ := Option.map_eq_some_iff.mp ex
      obtain ⟨fm, ef, rfl⟩ := Option.map_eq_some_iff.mp ey
      refine ⟨T, _, rfl, SqT.of upd_same, rfl, _, _, rfl, _, _, rfl, rfl, ?_⟩
      have zl := hz z (List.mem_cons_of_mem _ (List.mem_of_getElem? ez))
      refine ⟨_, rfl, _, rfl, z, fm, rfl, le_line (by omega), fun H4 s4 => ?_⟩
      rw [hfit i z fm ez ef]
      exact ⟨_, rfl, iteF ⟨_, _, rfl, s2.trans (s3.trans s4)⟩⟩
    · rintro σ H2 ⟨i2, i3, rfl, s2⟩
      have hp2 := s2 _ _ (s1 _ _ hp)
      refine ⟨_, rfl, p, rfl, ⟨_, SqL.of hp2⟩, fun D2 hD2 => lc_list (K := K) (a := p) (xs := (w0 :: wr).map V.str) (fun i H' => Same H2 H' ∧ H' D2 = some (.lst (((w0 :: wr).take i).map prt1))) ⟨same_new hD2 _, upd_same⟩ (fun i H' _ z => SqL.of (z.1 _ _ hp2)) ?_ ?_⟩
      · rintro i x H3 hx ⟨s3, hD3⟩
        rw [List.getElem?_map] at hx
        obtain ⟨z, ez, rfl⟩ := Option.map_eq_some_iff.mp hx
        have zl := hz z (List.mem_of_getElem? ez)
        have step : (w0 :: wr).take (i + 1) = (w0 :: wr).take i ++ [z] := by rw [List.take_add_one, ez]; rfl
        have size : (((w0 :: wr).take i).map prt1).length < sizeLine := small1000 (by rw [List.length_map, List.length_take, List.length_cons]; omega)
        have fin : ∀ H4, Same H3 H4 → Same H2 (upd H4 D2 (.lst (((w0 :: wr).take i).map prt1 ++ [prt1 z]))) ∧ (upd H4 D2 (.lst (((w0 :: wr).take i).map prt1 ++ [prt1 z]))) D2 = some (.lst (((w0 :: wr).take (i + 1)).map prt1)) := fun H4 s4 => ⟨same_set (s3.trans s4) hD2, by rw [upd_same, step, List.map_append]; rfl⟩
        refine ⟨rfl, yes_go ?_⟩
        refine ⟨_, rfl, z, rfl, le_line (by omega), fun H4 s4 => ⟨_, rfl, ?_⟩⟩
        have fin := fin H4 s4
        have hD4 := s4 _ _ hD3
        unfold prt1 at fin
        cases c : isIntWord z with
        | true =>
          obtain ⟨e1, e2⟩ := int_text c
          refine iteT ⟨_, rfl, z, _, rfl, e1, by omega, _, hD4, size, ?_⟩
          rw [if_pos c] at fin
          exact fin
        | false =>
          refine iteF ⟨_, rfl, _, hD4, size, ?_⟩
          rw [if_neg (by rw [c]; decide)] at fin
          exact fin
      · rintro H3 ⟨s3, hD3⟩
        rw [List.length_map, List.take_length] at hD3
        refine .inl ⟨D2, _, rfl, SqL.of hD3, fun t ht => q t _ (s1.trans (s2.trans (s3.trans (same_new ht _)))) ((s1.trans (s2.trans s3)).free ht) upd_same⟩
end
end Bs

set_option Elab.async false
set_option linter.all false
set_option maxRecDepth 100000
set_option maxHeartbeats 4000000
namespace Bs
open PySem L2
/-! ### lines as words -/
mutual
def It.lw : It → List (List Str)
  | .rep n a b => ["repeat", n, kS a] :: (b.lw ++ [[("end" : Str)]])
  | .eit n bs => ["either", n] :: (bs.lwE ++ [[("end" : Str)]])
  | .swi n t bs => ["switch", n, t] :: (bs.lwS ++ [[("end" : Str)]])
  | x => [x.words]
def Its.lw : Its → List (List Str)
  | .nil => []
  | .cons x r => x.lw ++ r.lw
def Blks.lwE : Blks → List (List Str)
  | .nil => []
  | .cons _ b r => [("choice" : Str)] :: (b.lw ++ r.lwE)
def Blks.lwS : Blks → List (List Str)
  | .nil => []
  | .cons v b r => ["case", iS v] :: (b.lw ++ r.lwS)
end
theorem wd_case (v : Int) : wd ["case", iS v] = ("case " : Str) ++ iS v := by
  rw [wd_two, show (("case" : Str) ++ " ") = "case " from by decide +kernel]
mutual
theorem It.lw_lines : ∀ x : It, x.lines = x.lw.map wd
  | .rep n a b => by simp only [It.lines, It.lw, List.map_cons, List.map_append, Its.lw_lines b]; rfl
  | .eit n bs => by simp only [It.lines, It.lw, List.map_cons, List.map_append, Blks.lw_linesE bs]; rfl
  | .swi n t bs => by simp only [It.lines, It.lw, List.map_cons, List.map_append, Blks.lw_linesS bs]; rfl
  | .num .. => rfl
  | .byt .. => rfl
  | .txt .. => rfl
  | .chk .. => rfl
  | .pad .. => rfl
theorem Its.lw_lines : ∀ x : Its, x.lines = x.lw.map wd
  | .nil => rfl
  | .cons x r => by simp only [Its.lines, Its.lw, List.map_append, It.lw_lines x, Its.lw_lines r]
theorem Blks.lw_linesE : ∀ x : Blks, x.linesE = x.lwE.map wd
  | .nil => rfl
  | .cons _ b r => by simp only [Blks.linesE, Blks.lwE, List.map_cons, List.map_append, Its.lw_lines b, Blks.lw_linesE r]; rfl
theorem Blks.lw_linesS : ∀ x : Blks, x.linesS = x.lwS.map wd
  | .nil => rfl
  | .cons v b r => by simp only [Blks.linesS, Blks.lwS, List.map_cons, List.map_append, Its.lw_lines b, Blks.lw_linesS r, wd_case]
end
/-! ### the machine that takes lines -/
inductive Fr where
  | rep (n : Str) (a : Key) (b : Its)
  | eit (n : Str) (bs : Blks)
  | swi (n : Str) (t : Str) (bs : Blks)
def Fr.words : Fr → List Str
  | .rep n a _ => ["repeat", n, kS a] | .eit n _ => ["either", n] | .swi n t _ => ["switch", n, t]
def Fr.whole : Fr → It
  | .rep n a b => .rep n a b | .eit n bs => .eit n bs | .swi n t bs => .swi n t bs
def Blks.addLast : Blks → It → Blks
  | .nil, _ => .nil
  | .cons v b .nil, y => .cons v (b.snoc y) .nil
  | .cons v b (.cons c d r), y => .cons v b (Blks.addLast (.cons c d r) y)
def Fr.add : Fr → It → Fr
  | .rep n a b, y => .rep n a (b.snoc y) | .eit n bs, y => .eit n (bs.addLast y) | .swi n t bs, y => .swi n t (bs.addLast y)
def Fr.has : Fr → Prop
  | .rep .. => True | .eit _ bs => bs ≠ .nil | .swi _ _ bs => bs ≠ .nil
/-- what is open, the innermost first, and the outermost list -/
structure Ms where
  fr : List Fr
  out : Its
def Ms.add : Ms → It → Ms
  | ⟨[], out⟩, y => ⟨[], out.snoc y⟩
  | ⟨f :: r, out⟩, y => ⟨f.add y :: r, out⟩
def Ms.has : Ms → Prop
  | ⟨[], _⟩ => True
  | ⟨f :: _, _⟩ => f.has
/-- ints and names of an item's first line are such that it is read again -/
def kW : Key → Prop
  | .inl i => 0 ≤ i ∧ i < 100000
  | .inr z => isName z = true
def It.hd : It → Prop
  | .num n s o lo hi => isName n = true ∧ (0 ≤ s ∧ s < 100000) ∧ (o = "big" ∨ o = "little") ∧ (0 ≤ lo ∧ lo < 100000) ∧ (0 ≤ hi ∧ hi < 100000)
  | .byt n a => isName n = true ∧ kW a
  | .txt n s m => isName n = true ∧ (0 ≤ s ∧ s < 100000) ∧ (0 ≤ m ∧ m < 100000)
  | .chk n m => isName n = true ∧ (0 ≤ m ∧ m < 100000)
  | .pad n m b => isName n = true ∧ (0 ≤ m ∧ m < 100000) ∧ (0 ≤ b ∧ b < 100000)
  | .rep n a _ => isName n = true ∧ kW a
  | .eit n _ => isName n = true
  | .swi n t _ => isName n = true ∧ isName t = true
inductive Step : Ms → List Str → Ms → Prop where
  | flat (st : Ms) (y : It) : y.blocky = false → y.hd → st.has → Step st y.words (st.add y)
  | opnR (st : Ms) (n : Str) (a : Key) : isName n = true → kW a → st.has → st.fr.length < 3 → Step st ["repeat", n, kS a] ⟨.rep n a .nil :: st.fr, st.out⟩
  | opnE (st : Ms) (n : Str) : isName n = true → st.has → st.fr.length < 3 → Step st ["either", n] ⟨.eit n .nil :: st.fr, st.out⟩
  | opnS (st : Ms) (n t : Str) : isName n = true → isName t = true → st.has → st.fr.length < 3 → Step st ["switch", n, t] ⟨.swi n t .nil :: st.fr, st.out⟩
  | choice (n : Str) (bs : Blks) (r : List Fr) (out : Its) (v : Int) : Step ⟨.eit n bs :: r, out⟩ ["choice"] ⟨.eit n (bs.snoc v .nil) :: r, out⟩
  | case (n t : Str) (bs : Blks) (r : List Fr) (out : Its) (v : Int) : 0 ≤ v → v < 100000 → Step ⟨.swi n t bs :: r, out⟩ ["case", iS v] ⟨.swi n t (bs.snoc v .nil) :: r, out⟩
  | close (f : Fr) (r : List Fr) (out : Its) : Ms.has ⟨r, out⟩ → Step ⟨f :: r, out⟩ ["end"] (Ms.add ⟨r, out⟩ f.whole)
inductive Runs : Ms → List (List Str) → Ms → Prop where
  | nil (st : Ms) : Runs st [] st
  | cons {st st1 st2 : Ms} {ws : List Str} {r : List (List Str)} : Step st ws st1 → Runs st1 r st2 → Runs st (ws :: r) st2
theorem Runs.app {st st1 st2 : Ms} {l r : List (List Str)} (h : Runs st l st1) (g : Runs st1 r st2) : Runs st (l ++ r) st2 := by
  induction h with
  | nil => exact g
  | cons s _ ih => exact .cons s (ih g)
theorem Runs.one {st st1 : Ms} {ws : List Str} (h : Step st ws st1) : Runs st [ws] st1 := .cons h (.nil _)
/-! ### a shape's lines are taken -/
def Its.app : Its → Its → Its
  | .nil, y => y
  | .cons x r, y => .cons x (r.app y)
theorem app_snoc : ∀ (x : Its) (y : It) (r : Its), (x.snoc y).app r = x.app (.cons y r)
  | .nil, _, _ => rfl
  | .cons x s, y, r => by simp only [Its.snoc, Its.app, app_snoc s y r]
theorem app_nil : ∀ (x : Its), x.app .nil = x
  | .nil => rfl
  | .cons x r => by simp [Its.app, app_nil r]
def Blks.app : Blks → Blks → Blks
  | .nil, y => y
  | .cons v b r, y => .cons v b (r.app y)
theorem appB_snoc : ∀ (x : Blks) (v : Int) (b : Its) (r : Blks), (x.snoc v b).app r = x.app (.cons v b r)
  | .nil, _, _, _ => rfl
  | .cons w c s, v, b, r => by simp only [Blks.snoc, Blks.app, appB_snoc s v b r]
theorem appB_nil : ∀ (x : Blks), x.app .nil = x
  | .nil => rfl
  | .cons v b r => by simp [Blks.app, appB_nil r]
theorem addLast_snoc : ∀ (bs : Blks) (v : Int) (b : Its) (y : It), (bs.snoc v b).addLast y = bs.snoc v (b.snoc y)
  | .nil, v, b, y => rfl
  | .cons w c .nil, v, b, y => rfl
  | .cons w c (.cons w2 c2 r), v, b, y => by
    have := addLast_snoc (.cons w2 c2 r) v b y
    simp only [Blks.snoc, Blks.addLast] at this ⊢
    rw [this]
theorem snocB_ne (bs : Blks) (v : Int) (b : Its) : bs.snoc v b ≠ .nil := by cases bs <;> simp [Blks.snoc]
/-- all of a list's items -/
def Ms.adds : Ms → Its → Ms
  | st, .nil => st
  | st, .cons y r => (st.add y).adds r
theorem adds_out : ∀ (x : Its) (out : Its), Ms.adds ⟨[], out⟩ x = ⟨[], out.app x⟩
  | .nil, out => by simp [Ms.adds, app_nil]
  | .cons y r, out => by rw [Ms.adds, Ms.add, adds_out r, app_snoc]
theorem adds_rep : ∀ (x b : Its) (n : Str) (a : Key) (r : List Fr) (out : Its), Ms.adds ⟨.rep n a b :: r, out⟩ x = ⟨.rep n a (b.app x) :: r, out⟩
  | .nil, b, n, a, r, out => by simp [Ms.adds, app_nil]
  | .cons y s, b, n, a, r, out => by rw [Ms.adds, Ms.add, Fr.add, adds_rep s, app_snoc]
theorem adds_eit : ∀ (x b : Its) (n : Str) (bs : Blks) (v : Int) (r : List Fr) (out : Its), Ms.adds ⟨.eit n (bs.snoc v b) :: r, out⟩ x = ⟨.eit n (bs.snoc v (b.app x)) :: r, out⟩
  | .nil, b, n, bs, v, r, out => by simp [Ms.adds, app_nil]
  | .cons y s, b, n, bs, v, r, out => by rw [Ms.adds, Ms.add, Fr.add, addLast_snoc, adds_eit s, app_snoc]
theorem adds_swi : ∀ (x b : Its) (n t : Str) (bs : Blks) (v : Int) (r : List Fr) (out : Its), Ms.adds ⟨.swi n t (bs.snoc v b) :: r, out⟩ x = ⟨.swi n t (bs.snoc v (b.app x)) :: r, out⟩
  | .nil, b, n, t, bs, v, r, out => by simp [Ms.adds, app_nil]
  | .cons y s, b, n, t, bs, v, r, out => by rw [Ms.adds, Ms.add, Fr.add, addLast_snoc, adds_swi s, app_snoc]
theorem addLast_ne {bs : Blks} {y : It} (h : bs ≠ .nil) : bs.addLast y ≠ .nil := by
  cases bs with
  | nil => exact absurd rfl h
  | cons v b r => cases r <;> simp [Blks.addLast]
theorem has_add {st : Ms} {y : It} (h : st.has) : (st.add y).has := by
  obtain ⟨fr, out⟩ := st
  cases fr with
  | nil => trivial
  | cons f r =>
    cases f with
    | rep => trivial
    | eit n bs => exact addLast_ne h
    | swi n t bs => exact addLast_ne h
theorem fr_add (st : Ms) (y : It) : (st.add y).fr.length = st.fr.length := by
  obtain ⟨fr, out⟩ := st
  cases fr <;> rfl
/-! all first lines are such -/
mutual
def It.hds : It → Prop
  | .rep n a b => (isName n = true ∧ kW a) ∧ b.hds
  | .eit n bs => isName n = true ∧ bs.hds
  | .swi n t bs => (isName n = true ∧ isName t = true) ∧ (∀ v ∈ bs.vals, 0 ≤ v ∧ v < 100000) ∧ bs.hds
  | x => x.hd
def Its.hds : Its → Prop
  | .nil => True
  | .cons x r => x.hds ∧ r.hds
def Blks.hds : Blks → Prop
  | .nil => True
  | .cons _ b r => b.hds ∧ r.hds
end
mutual
theorem It.runs : ∀ (x : It) (d : Int) (st : Ms), x.hds → x.ok d = true → d + 3 ≥ 0 → (st.fr.length : Int) = d → st.has → Runs st x.lw (st.add x)
  | .rep n a b, d, st, hh, ok, h0, hd, hs => by
    simp only [It.hds] at hh
    rw [It.ok, Bool.and_eq_true, Bool.and_eq_true, Bool.and_eq_true] at ok
    have d2 := of_decide_eq_true ok.2.1
    simp only [It.lw]
    refine .cons (.opnR st n a hh.1.1 hh.1.2 hs (by omega)) ?_
    refine Runs.app (Its.runs b (d + 1) ⟨.rep n a .nil :: st.fr, st.out⟩ hh.2 ok.2.2.2 (by simp; omega) trivial) ?_
    rw [adds_rep, show Its.app .nil b = b from rfl]
    exact .one (.close (.rep n a b) st.fr st.out hs)
  | .eit n bs, d, st, hh, ok, h0, hd, hs => by
    simp only [It.hds] at hh
    rw [It.ok, Bool.and_eq_true, Bool.and_eq_true, Bool.and_eq_true] at ok
    have d2 := of_decide_eq_true ok.2.1
    simp only [It.lw]
    refine .cons (.opnE st n hh.1 hs (by omega)) ?_
    refine Runs.app (Blks.runsE bs .nil (d + 1) n st.fr st.out hh.2 ok.2.2.2 (by simp; omega)) ?_
    rw [show Blks.app .nil bs = bs from rfl]
    exact .one (.close (.eit n bs) st.fr st.out hs)
  | .swi n t bs, d, st, hh, ok, h0, hd, hs => by
    simp only [It.hds] at hh
    rw [It.ok, Bool.and_eq_true, Bool.and_eq_true, Bool.and_eq_true] at ok
    have d2 := of_decide_eq_true ok.2.1
    simp only [It.lw]
    refine .cons (.opnS st n t hh.1.1 hh.1.2 hs (by omega)) ?_
    refine Runs.app (Blks.runsS bs .nil (d + 1) n t st.fr st.out hh.2.1 hh.2.2 ok.2.2.2 (by simp; omega)) ?_
    rw [show Blks.app .nil bs = bs from rfl]
    exact .one (.close (.swi n t bs) st.fr st.out hs)
  | .num n s o lo hi, d, st, hh, ok, h0, hd, hs => .one (.flat st _ rfl hh hs)
  | .byt n a, d, st, hh, ok, h0, hd, hs => .one (.flat st _ rfl hh hs)
  | .txt n s m, d, st, hh, ok, h0, hd, hs => .one (.flat st _ rfl hh hs)
  | .chk n m, d, st, hh, ok, h0, hd, hs => .one (.flat st _ rfl hh hs)
  | .pad n m b, d, st, hh, ok, h0, hd, hs => .one (.flat st _ rfl hh hs)
theorem Its.runs : ∀ (x : Its) (d : Int) (st : Ms), x.hds → x.ok d = true → (st.fr.length : Int) = d → st.has → Runs st x.lw (st.adds x)
  | .nil, d, st, hh, ok, hd, hs => .nil st
  | .cons y r, d, st, hh, ok, hd, hs => by
    simp only [Its.hds] at hh
    rw [Its.ok, Bool.and_eq_true] at ok
    simp only [Its.lw]
    exact Runs.app (It.runs y d st hh.1 ok.1 (by omega) hd hs) (Its.runs r d (st.add y) hh.2 ok.2 (by rw [fr_add]; exact hd) (has_add hs))
theorem Blks.runsE : ∀ (x bs : Blks) (d : Int) (n : Str) (r : List Fr) (out : Its), x.hds → x.ok d = true → (r.length : Int) + 1 = d → Runs ⟨.eit n bs :: r, out⟩ x.lwE ⟨.eit n (bs.app x) :: r, out⟩
  | .nil, bs, d, n, r, out, hh, ok, hd => by rw [appB_nil]; exact .nil _
  | .cons v b s, bs, d, n, r, out, hh, ok, hd => by
    simp only [Blks.hds] at hh
    rw [Blks.ok, Bool.and_eq_true, Bool.and_eq_true] at ok
    simp only [Blks.lwE]
    refine .cons (.choice n bs r out v) ?_
    refine Runs.app (Its.runs b d ⟨.eit n (bs.snoc v .nil) :: r, out⟩ hh.1 ok.1.2 (by simp; omega) (show _ ≠ _ from snocB_ne bs v .nil)) ?_
    rw [adds_eit, show Its.app .nil b = b from rfl, ← appB_snoc]
    exact Blks.runsE s _ d n r out hh.2 ok.2 hd
theorem Blks.runsS : ∀ (x bs : Blks) (d : Int) (n t : Str) (r : List Fr) (out : Its), (∀ v ∈ x.vals, 0 ≤ v ∧ v < 100000) → x.hds → x.ok d = true → (r.length : Int) + 1 = d → Runs ⟨.swi n t bs :: r, out⟩ x.lwS ⟨.swi n t (bs.app x) :: r, out⟩
  | .nil, bs, d, n, t, r, out, hv, hh, ok, hd => by rw [appB_nil]; exact .nil _
  | .cons v b s, bs, d, n, t, r, out, hv, hh, ok, hd => by
    simp only [Blks.hds] at hh
    rw [Blks.ok, Bool.and_eq_true, Bool.and_eq_true] at ok
    simp only [Blks.vals] at hv
    simp only [Blks.lwS]
    have v0 := hv v (List.mem_cons_self ..)
    refine .cons (.case n t bs r out v v0.1 v0.2) ?_
    refine Runs.app (Its.runs b d ⟨.swi n t (bs.snoc v .nil) :: r, out⟩ hh.1 ok.1.2 (by simp; omega) (show _ ≠ _ from snocB_ne bs v .nil)) ?_
    rw [adds_swi, show Its.app .nil b = b from rfl, ← appB_snoc]
    exact Blks.runsS s _ d n t r out (fun u hu => hv u (List.mem_cons_of_mem _ hu)) hh.2 ok.2 hd
end
/-- the states in their order -/
theorem Runs.states {st st' : Ms} {ls : List (List Str)} (h : Runs st ls st') : ∃ f : Nat → Ms, f 0 = st ∧ f ls.length = st' ∧ ∀ (i : Nat) (ws : List Str), ls[i]? = some ws → Step (f i) ws (f (i + 1)) := by
  induction h with
  | nil st => exact ⟨fun _ => st, rfl, rfl, fun i ws e => by simp at e⟩
  | @cons st st1 st2 ws r s _ ih =>
    obtain ⟨f, f0, f1, fs⟩ := ih
    refine ⟨fun i => match i with | 0 => st | i + 1 => f i, rfl, f1, fun i u e => ?_⟩
    cases i with
    | zero => simp at e; subst e; show Step st ws (f 0); rw [f0]; exact s
    | succ i => exact fs i u (by simpa using e)
end Bs

set_option Elab.async false
set_option linter.all false
set_option maxRecDepth 100000
set_option maxHeartbeats 4000000
namespace Bs
open PySem L2
/-! ### what is owned, and what stands for good -/
structure Own (S H : Hp) (L : List (Addr × HO)) : Prop where
  s : Same S H
  nd : (L.map (·.1)).Nodup
  h : ∀ p ∈ L, H p.1 = some p.2 ∧ S p.1 = none
theorem Own.at' {S H : Hp} {L : List (Addr × HO)} {a : Addr} {o : HO} (w : Own S H L) (h : (a, o) ∈ L) : H a = some o := (w.h _ h).1
theorem Own.perm {S H : Hp} {L M : List (Addr × HO)} (w : Own S H L) (p : L.Perm M) : Own S H M :=
  ⟨w.s, (p.map _).nodup w.nd, fun q hq => w.h q (p.mem_iff.mpr hq)⟩
theorem Own.same {S H H' : Hp} {L : List (Addr × HO)} (w : Own S H L) (s : Same H H') : Own S H' L := ⟨w.s.trans s, w.nd, fun p hp => ⟨s _ _ (w.h p hp).1, (w.h p hp).2⟩⟩
/-- a list of one's own is written -/
theorem Own.set {S H : Hp} {L : List (Addr × HO)} {a : Addr} {o o' : HO} (w : Own S H ((a, o) :: L)) : Own S (upd H a o') ((a, o') :: L) := by
  have ha := w.h _ (List.mem_cons_self ..)
  have nd := w.nd
  simp only [List.map_cons, List.nodup_cons] at nd
  refine ⟨fun b u e => ?_, by simpa using w.nd, fun p hp => ?_⟩
  · rw [upd_ne (fun z => by rw [z, ha.2] at e; cases e)]
    exact w.s _ _ e
  · rcases List.mem_cons.mp hp with rfl | hp
    · exact ⟨upd_same, ha.2⟩
    · have h2 := w.h p (List.mem_cons_of_mem _ hp)
      exact ⟨by rw [upd_ne (fun z => nd.1 (by rw [← z]; exact List.mem_map.mpr ⟨p, hp, rfl⟩))]; exact h2.1, h2.2⟩
/-- a new thing of one's own -/
theorem Own.new {S H : Hp} {L : List (Addr × HO)} {a : Addr} {o : HO} (w : Own S H L) (n : H a = none) : Own S (upd H a o) ((a, o) :: L) := by
  have hS : S a = none := w.s.free n
  refine ⟨same_set w.s hS, ?_, fun p hp => ?_⟩
  · simp only [List.map_cons, List.nodup_cons]
    refine ⟨fun z => ?_, w.nd⟩
    obtain ⟨p, hp, e⟩ := List.mem_map.mp z
    have := (w.h p hp).1
    rw [e, n] at this
    cases this
  · rcases List.mem_cons.mp hp with rfl | hp
    · exact ⟨upd_same, hS⟩
    · have h2 := w.h p hp
      exact ⟨by rw [upd_ne (fun z => by rw [z, n] at h2; cases h2.1)]; exact h2.1, h2.2⟩
/-- a new thing that stands for good -/
theorem Own.stand {S H : Hp} {L : List (Addr × HO)} {a : Addr} {o : HO} (w : Own S H L) (n : H a = none) : Own (upd S a o) (upd H a o) L := by
  refine ⟨fun b u e => ?_, w.nd, fun p hp => ?_⟩
  · by_cases c : b = a
    · rw [c, upd_same] at e ⊢; exact e
    · rw [upd_ne c] at e ⊢; exact w.s _ _ e
  · have h2 := w.h p hp
    have ne : p.1 ≠ a := fun z => by rw [z, n] at h2; cases h2.1
    exact ⟨by rw [upd_ne ne]; exact h2.1, by rw [upd_ne ne]; exact h2.2⟩
/-- what was one's own is left alone from now on -/
theorem Own.give {S H : Hp} {L : List (Addr × HO)} {a : Addr} {o : HO} (w : Own S H ((a, o) :: L)) : Own (upd S a o) H L ∧ Same S (upd S a o) := by
  have ha := w.h _ (List.mem_cons_self ..)
  have nd := w.nd
  simp only [List.map_cons, List.nodup_cons] at nd
  refine ⟨⟨fun b u e => ?_, nd.2, fun p hp => ?_⟩, same_new ha.2 o⟩
  · by_cases c : b = a
    · rw [c, upd_same] at e; rw [c, ← e]; exact ha.1
    · rw [upd_ne c] at e; exact w.s _ _ e
  · have h2 := w.h p (List.mem_cons_of_mem _ hp)
    exact ⟨h2.1, by rw [upd_ne (fun z => nd.1 (by rw [← z]; exact List.mem_map.mpr ⟨p, hp, rfl⟩))]; exact h2.2⟩
theorem Own.drop {S H : Hp} {L : List (Addr × HO)} {p : Addr × HO} (w : Own S H (p :: L)) : Own S H L := ⟨w.s, by have := w.nd; simp only [List.map_cons, List.nodup_cons] at this; exact this.2, fun q hq => w.h q (List.mem_cons_of_mem _ hq)⟩
/-- many at once -/
theorem Own.gives {H : Hp} {L : List (Addr × HO)} : ∀ {G : List (Addr × HO)} {S : Hp}, Own S H (G ++ L) → ∃ S', Own S' H L ∧ Same S S' ∧ ∀ p ∈ G, S' p.1 = some p.2
  | [], S, w => ⟨S, w, Same.refl _, fun p hp => by cases hp⟩
  | (a, o) :: G, S, w => by
    obtain ⟨w2, s2⟩ := Own.give w
    obtain ⟨S', w3, s3, h3⟩ := Own.gives w2
    refine ⟨S', w3, s2.trans s3, fun p hp => ?_⟩
    rcases List.mem_cons.mp hp with rfl | hp
    · exact s3 _ _ upd_same
    · exact h3 p hp
/-! ### an opened item in the heap -/
structure Pc where
  f : Addr
  dx : Addr
  hd : Addr
  bl : Addr
  cs : Addr
  qs : List (Addr × List V)
  cv : List V
  fs : List (Str × V)
def Pc.own (CO : Addr) (p : Pc) : List (Addr × HO) := (p.f, .ins CO p.dx p.fs) :: (p.bl, .lst (p.qs.map fun q => V.ref q.1)) :: (p.cs, .lst p.cv) :: p.qs.map fun q => (q.1, .lst q.2)
structure Pc.Fs (p : Pc) : Prop where
  h : p.fs.lookup ("head" : Str) = some (.ref p.hd)
  b : p.fs.lookup ("blocks" : Str) = some (.ref p.bl)
  c : p.fs.lookup ("cases" : Str) = some (.ref p.cs)
  w : p.fs.lookup ("whole" : Str) = none
def BlkQ (S : Hp) : Blks → List (Addr × List V) → Prop
  | .nil, l => l = []
  | .cons _ b r, l => ∃ q l', l = q :: l' ∧ b.At false S q.2 ∧ BlkQ S r l'
def FrAt (S : Hp) : Fr → Pc → Prop
  | .rep n a b, p => p.Fs ∧ S p.hd = some (.tup [.str "repeat", .str n, kV a]) ∧ ∃ q, p.qs = [q] ∧ b.At false S q.2
  | .eit n bs, p => p.Fs ∧ S p.hd = some (.tup [.str "either", .str n]) ∧ BlkQ S bs p.qs ∧ p.cv = []
  | .swi n t bs, p => p.Fs ∧ S p.hd = some (.tup [.str "switch", .str n, .str t]) ∧ BlkQ S bs p.qs ∧ p.cv = bs.vals.map V.int
theorem BlkQ.same {S S' : Hp} (s : Same S S') : ∀ {bs : Blks} {l : List (Addr × List V)}, BlkQ S bs l → BlkQ S' bs l
  | .nil, _, h => h
  | .cons _ b r, _, h => by obtain ⟨q, l', e, a, t⟩ := h; exact ⟨q, l', e, a.same s, BlkQ.same s t⟩
theorem FrAt.same {S S' : Hp} (s : Same S S') {fr : Fr} {p : Pc} (h : FrAt S fr p) : FrAt S' fr p := by
  cases fr with
  | rep n a b => obtain ⟨f, h1, q, e, h2⟩ := h; exact ⟨f, s _ _ h1, q, e, h2.same s⟩
  | eit n bs => obtain ⟨f, h1, h2, h3⟩ := h; exact ⟨f, s _ _ h1, h2.same s, h3⟩
  | swi n t bs => obtain ⟨f, h1, h2, h3⟩ := h; exact ⟨f, s _ _ h1, h2.same s, h3⟩
theorem BlkQ.atE {S S' : Hp} (s : Same S S') : ∀ {bs : Blks} {l : List (Addr × List V)}, BlkQ S bs l → (∀ q ∈ l, S' q.1 = some (.lst q.2)) → bs.AtE false S' (l.map fun q => V.ref q.1)
  | .nil, _, h, _ => by cases h; simp [Blks.AtE]
  | .cons v b r, _, h, g => by
    obtain ⟨q, l', rfl, a, t⟩ := h
    simp only [Blks.AtE, List.map_cons]
    exact ⟨q.1, q.2, _, rfl, .inr ⟨rfl, g q (List.mem_cons_self ..)⟩, a.same s, BlkQ.atE s t fun q hq => g q (List.mem_cons_of_mem _ hq)⟩
theorem BlkQ.len {S : Hp} : ∀ {bs : Blks} {l : List (Addr × List V)}, BlkQ S bs l → l.length = bs.len
  | .nil, _, h => by cases h; rfl
  | .cons v b r, _, h => by obtain ⟨q, l', rfl, a, t⟩ := h; simp [Blks.len, BlkQ.len t]
theorem BlkQ.snoc {S : Hp} {v : Int} {a : Addr} : ∀ {bs : Blks} {l : List (Addr × List V)}, BlkQ S bs l → BlkQ S (bs.snoc v .nil) (l ++ [(a, [])])
  | .nil, _, h => by cases h; exact ⟨(a, []), [], rfl, by simp [Its.At], rfl⟩
  | .cons w b r, _, h => by obtain ⟨q, l', rfl, at', t⟩ := h; exact ⟨q, _, rfl, at', BlkQ.snoc t⟩
/-- the last block gets an item -/
theorem BlkQ.last {S : Hp} {y : It} {v : V} (hy : y.At false S v) : ∀ {bs : Blks} {l : List (Addr × List V)}, BlkQ S bs l → bs ≠ .nil → ∃ l0 q, l = l0 ++ [q] ∧ BlkQ S (bs.addLast y) (l0 ++ [(q.1, q.2 ++ [v])])
  | .nil, _, _, n => absurd rfl n
  | .cons w b .nil, _, h, _ => by
    obtain ⟨q, l', rfl, at', t⟩ := h
    cases t
    exact ⟨[], q, rfl, (q.1, q.2 ++ [v]), [], rfl, snoc_at at' hy, rfl⟩
  | .cons w b (.cons c d r), _, h, _ => by
    obtain ⟨q, l', rfl, at', t⟩ := h
    obtain ⟨l0, q2, e, t2⟩ := BlkQ.last hy t (by simp)
    exact ⟨q :: l0, q2, by rw [e]; rfl, q, _, rfl, at', t2⟩
theorem vals_addLast : ∀ (bs : Blks) (y : It), (bs.addLast y).vals = bs.vals
  | .nil, _ => rfl
  | .cons w b .nil, _ => rfl
  | .cons w b (.cons c d r), y => by simp only [Blks.addLast, Blks.vals, vals_addLast (.cons c d r) y]
end Bs

set_option Elab.async false
set_option linter.all false
set_option maxRecDepth 100000
set_option maxHeartbeats 4000000
/-! tuple(zip(a list, a list)): the zip's tuples are held -/
namespace Bs
open PySem PySem.Spec PyProof.Rows L2
theorem fpOk_upd {X : Cx} {pins : List (Addr × Obj)} {H : Hp} {b T : Addr} {o : HO} (h : FpOk X pins H b) (n : b ≠ T) : FpOk X pins (upd H T o) b := ⟨by rw [upd_ne n]; exact h.1, h.2⟩
/-- the pairs as they stand -/
def ZipAt (H0 H : Hp) (xs ys vs : List V) : Prop := ∀ (j : Nat) (v : V), vs[j]? = some v → ∃ p x y, v = V.ref p ∧ xs[j]? = some x ∧ ys[j]? = some y ∧ H0 p = none ∧ H p = some (.tup [x, y])
theorem ZipAt.same {H0 H H' : Hp} {xs ys vs : List V} (s : Same H H') (h : ZipAt H0 H xs ys vs) : ZipAt H0 H' xs ys vs := fun j v e => by
  obtain ⟨p, x, y, e1, e2, e3, e0, e4⟩ := h j v e
  exact ⟨p, x, y, e1, e2, e3, e0, s _ _ e4⟩
theorem ZipAt.snoc {H0 H : Hp} {xs ys vs : List V} {p : Addr} {x y : V} (h : ZipAt H0 H xs ys vs) (e1 : xs[vs.length]? = some x) (e2 : ys[vs.length]? = some y) (e0 : H0 p = none) (e3 : H p = some (.tup [x, y])) : ZipAt H0 H xs ys (vs ++ [.ref p]) := fun j v e => by
  by_cases c : j < vs.length
  · rw [List.getElem?_append_left c] at e; exact h j v e
  · have : j = vs.length := by
      have := (List.getElem?_eq_some_iff.mp e).1
      simp at this
      omega
    subst this
    simp at e
    subst e
    exact ⟨p, x, y, rfl, e1, e2, e0, e3⟩
theorem vals_snoc {vs : List V} {us : List Value} {v : V} {u : Value} (h : Vals vs us) (r : RelV v u) : Vals (vs ++ [v]) (us ++ [u]) := by
  induction h with
  | nil => exact .cons r .nil
  | cons a _ ih => exact .cons a ih
theorem sqL_same {K : PySem.W.Frag} {H H' : Hp} (s : Same H H') {a : Addr} {xs : List V} (h : SqL K H a xs) : SqL K H' a xs := h.elim (fun h => .inl (h.elim (fun h => .inl (s _ _ h)) fun ⟨o, h⟩ => .inr ⟨o, s _ _ h⟩)) .inr
theorem zl_held {X : Cx} {pins : List (Addr × Obj)} {σ : L2.St} {z TI TO i1 i2 a b S T : Addr} {res : Value} {A : Around} {R : Result → Shared → Prop} {H0 : Hp} (hh : A.in1.handled = none) (D : ZipApart z TI TO i1 i2 a b)
    (nS : S ≠ z ∧ S ≠ TI ∧ S ≠ i1 ∧ S ≠ i2 ∧ S ≠ T) (nT : T ≠ z ∧ T ≠ i1 ∧ T ≠ i2) {xs ys : List V} (hl : xs.length = ys.length) (h100 : xs.length ≤ 1000) :
    ∀ (k i : Nat) (s : Shared) (H : Hp) (acc : Array Value) (c : Nat) (f : Bool) (vs : List V), xs.length - i = k → i ≤ xs.length → L2.Inv X pins σ H s → Same H0 H → (∀ q ∈ [z, i1, i2, S], FpOk X pins H q) → IsZipHeld s.heap z TI TO T f → (∃ oT, s.heap.get? T = some oT) → IsPair s.heap TI (.ref i1) (.ref i2) →
      s.heap.IsListIter i1 a i → s.heap.IsListIter i2 b i → s.heap.get? S = some { cls := Value.type "list", data := Data.seq acc c } → SqL X.K H a xs → SqL X.K H b ys → Vals vs acc.toList → vs.length = i → ZipAt H0 H xs ys vs →
      (∀ (H' : Hp) (s' : Shared) (acc' : Array Value) (c' : Nat) (vs' : List V), L2.Inv X pins σ H' s' → Same H H' → s'.heap.get? S = some { cls := Value.type "list", data := Data.seq acc' c' } → Vals vs' acc'.toList → vs'.length = xs.length → ZipAt H0 H' xs ys vs' → R (.ok (.ret res)) s') →
      codeAny (model X.prog X.w) A (Code.builtin "list.extend.loop" { pos := [.ref S, .ref z, res] }) R s := by
  intro k
  induction k with
  | zero =>
    intro i s H acc c f vs hk hi I sH fr hz hT hTI g1 g2 hS q1 q2 hv hvl hp fin
    obtain ⟨oT, hT⟩ := hT
    obtain ⟨its, rl, p1, _⟩ := I.list q1
    obtain ⟨jts, rt, p2, _⟩ := I.list q2
    refine codeAny_builtin F.entry_extend_loop ?_
    rw [Around.under_plainId F.plain_extend_loop]
    show wpAny _ _ (pyNext (.ref z) >>= _) _ _ _
    refine wpAny_bind ?_
    have n1 : its.length = xs.length := rl.length.symm
    refine wpAny_pyNext_zip_end_held hh D hz hT hTI g1 g2 p1.isList p2.isList (.inl (by simp; omega)) fun h' old => ?_
    refine wpAny_pure ?_
    refine fin H _ acc c vs (I.turnedL (t' := s.toks) (ch := [z, i1, i2]) (fun q o hq e => ?_) (fun q hq => fr q ?_)) (Same.refl _) (old S _ nS.1 nS.2.2.1 nS.2.2.2.1 hS) hv (by omega) hp
    · simp only [List.mem_cons, List.not_mem_nil, or_false, not_or] at hq
      exact old q o hq.1 hq.2.1 hq.2.2 e
    · simp only [List.mem_cons, List.not_mem_nil, or_false] at hq ⊢
      rcases hq with h | h | h <;> simp [h]
  | succ k ih =>
    intro i s H acc c f vs hk hi I sH fr hz hT hTI g1 g2 hS q1 q2 hv hvl hp fin
    obtain ⟨oT, hT⟩ := hT
    obtain ⟨its, rl, p1, _⟩ := I.list q1
    obtain ⟨jts, rt, p2, _⟩ := I.list q2
    have lt : i < xs.length := by omega
    have e1 : xs[i]? = some (xs[i]) := List.getElem?_eq_getElem lt
    have e2 : ys[i]? = some (ys[i]'(by omega)) := List.getElem?_eq_getElem (by omega)
    generalize xs[i] = x at e1
    generalize ys[i]'(by omega) = y at e2
    obtain ⟨v1, a1, r1⟩ := rl.get e1
    obtain ⟨v2, a2, r2⟩ := rt.get e2
    have as : acc.size = i := by have := hv.length; simpa [hvl] using this.symm
    refine codeAny_builtin F.entry_extend_loop ?_
    rw [Around.under_plainId F.plain_extend_loop]
    show wpAny _ _ (pyNext (.ref z) >>= _) _ _ _
    refine wpAny_bind ?_
    refine wpAny_pyNext_zip_item_held D hz hT hTI g1 g2 p1.isList p2.isList (x := v1) (y := v2) (by simpa using a1) (by simpa using a2) fun h' hz' g1' g2' hpr hsz old => ?_
    show wpAny _ _ (updateSeq S (fun w => w.push (.ref s.heap.objs.size)) >>= _) _ _ _
    refine wpAny_bind ?_
    have hS' := old S _ nS.1 nS.2.2.1 nS.2.2.2.1 hS
    have aS : acc.size ≤ sizeLine := le_line (by omega)
    refine wpAny_updateSeq (xs := acc) (n := c) hS' rfl ?_ aS (by rw [Array.size_push]; have : acc.size ≤ sizeLine := aS; omega)
    refine wpAny_pure ⟨plainId_quiet F.plain_extend_loop _, ?_⟩
    have neS : ∀ q, q ≠ S → (h'.update S (Obj.mapSeq fun w => w.push (.ref s.heap.objs.size))).get? q = h'.get? q := fun q n => Heap.get?_update_ne _ _ _ _ n
    have hSn : (h'.update S (Obj.mapSeq fun w => w.push (.ref s.heap.objs.size))).get? S = some { cls := Value.type "list", data := Data.seq (acc.push (.ref s.heap.objs.size)) (c + 1) } := by
      rw [Heap.get?_update_self _ hS' rfl]
      simp [Obj.mapSeq]
    have ltS : S < s.heap.objs.size := Heap.lt_size hS
    have nTS : s.heap.objs.size ≠ S := Nat.ne_of_gt ltS
    have J := I.turnedNew (h' := h'.update S (Obj.mapSeq fun w => w.push (.ref s.heap.objs.size))) (t' := s.toks) (ch := [z, i1, i2, S]) (T := s.heap.objs.size) (ob := .tup [x, y]) (fun q o hq e => by
      simp only [List.mem_cons, List.not_mem_nil, or_false, not_or] at hq
      rw [neS q hq.2.2.2]
      exact old q o hq.1 hq.2.1 hq.2.2.1 e) fr (Nat.le_refl _) ⟨(by show 2 ≤ sizeLine; decide), [v1, v2], .cons r1 (.cons r2 .nil), ⟨_, by rw [neS _ nTS]; exact hpr, rfl, 0, rfl⟩⟩
    have hn : H s.heap.objs.size = none := I.hok.fresh (Nat.le_refl _)
    have sm := same_new hn (.tup [x, y])
    refine ih (i + 1) _ (upd H s.heap.objs.size (.tup [x, y])) (acc.push (.ref s.heap.objs.size)) (c + 1) true (vs ++ [.ref s.heap.objs.size]) (by omega) lt J (sH.trans sm) (fun q hq => fpOk_upd (fr q hq) ?_) ?_ ⟨oT, ?_⟩ ?_ ?_ ?_ hSn (sqL_same sm q1) (sqL_same sm q2) ?_ (by simp [hvl]) ((hp.same sm).snoc (by rw [hvl]; exact e1) (by rw [hvl]; exact e2) (sH.free hn) upd_same) (fun H' s' acc' c' vs' I' S' => fin H' s' acc' c' vs' I' (sm.trans S'))
    · -- the fixed ones are not the new one
      have lq : ∀ q ∈ [z, i1, i2, S], q < s.heap.objs.size := fun q hq => by
        obtain ⟨o1, g1, _⟩ := g1
        obtain ⟨o2, g2, _⟩ := g2
        simp only [List.mem_cons, List.not_mem_nil, or_false] at hq
        rcases hq with rfl | rfl | rfl | rfl
        · exact Heap.lt_size hz
        · exact Heap.lt_size g1
        · exact Heap.lt_size g2
        · exact ltS
      exact Nat.ne_of_lt (lq q hq)
    · show (h'.update S _).get? z = _
      rw [neS z nS.1.symm]; exact hz'
    · show (h'.update S _).get? T = _
      rw [neS T nS.2.2.2.2.symm]; exact old T _ nT.1 nT.2.1 nT.2.2 hT
    · show (h'.update S _).get? TI = _
      rw [neS TI nS.2.1.symm]; exact old TI _ D.TIz D.TIi1 D.TIi2 hTI
    · exact g1'.at fun o e => by rw [← e]; exact neS i1 nS.2.2.1.symm
    · exact g2'.at fun o e => by rw [← e]; exact neS i2 nS.2.2.2.1.symm
    · rw [Array.toList_push]; exact vals_snoc hv rfl
theorem zl_all {X : Cx} {pins : List (Addr × Obj)} {σ : L2.St} {z TI TO i1 i2 a b S : Addr} {res : Value} {A : Around} {R : Result → Shared → Prop} (hh : A.in1.handled = none) (D : ZipApart z TI TO i1 i2 a b)
    (nS : S ≠ z ∧ S ≠ TI ∧ S ≠ TO ∧ S ≠ i1 ∧ S ≠ i2) {xs ys : List V} (hl : xs.length = ys.length) (h100 : xs.length ≤ 1000) {s : Shared} {H : Hp} {c : Nat} {u0 u1 : Value} (I : L2.Inv X pins σ H s) (fr : ∀ q ∈ [z, TO, i1, i2, S], FpOk X pins H q) (hz : IsZip s.heap z TI TO .none) (hTI : IsPair s.heap TI (.ref i1) (.ref i2)) (hTO : IsPair s.heap TO u0 u1)
    (g1 : s.heap.IsListIter i1 a 0) (g2 : s.heap.IsListIter i2 b 0) (hS : s.heap.get? S = some { cls := Value.type "list", data := Data.seq #[] c }) (q1 : SqL X.K H a xs) (q2 : SqL X.K H b ys)
    (fin : ∀ (H' : Hp) (s' : Shared) (acc' : Array Value) (c' : Nat) (vs' : List V), L2.Inv X pins σ H' s' → Same H H' → s'.heap.get? S = some { cls := Value.type "list", data := Data.seq acc' c' } → Vals vs' acc'.toList → vs'.length = xs.length → ZipAt H H' xs ys vs' → R (.ok (.ret res)) s') :
    codeAny (model X.prog X.w) A (Code.builtin "list.extend.loop" { pos := [.ref S, .ref z, res] }) R s := by
  obtain ⟨its, rl, p1, _⟩ := I.list q1
  obtain ⟨jts, rt, p2, _⟩ := I.list q2
  refine codeAny_builtin F.entry_extend_loop ?_
  rw [Around.under_plainId F.plain_extend_loop]
  show wpAny _ _ (pyNext (.ref z) >>= _) _ _ _
  refine wpAny_bind ?_
  have n1 : its.length = xs.length := rl.length.symm
  by_cases lt : 0 < xs.length
  · have e1 : xs[0]? = some (xs[0]) := List.getElem?_eq_getElem lt
    have e2 : ys[0]? = some (ys[0]'(by omega)) := List.getElem?_eq_getElem (by omega)
    generalize xs[0] = x at e1
    generalize ys[0]'(by omega) = y at e2
    obtain ⟨v1, a1, r1⟩ := rl.get e1
    obtain ⟨v2, a2, r2⟩ := rt.get e2
    refine wpAny_pyNext_zip_item D hz hTI hTO g1 g2 p1.isList p2.isList (x := v1) (y := v2) (by simpa using a1) (by simpa using a2) fun h' hz' hTO' g1' g2' hpr hsz old => ?_
    show wpAny _ _ (updateSeq S (fun w => w.push (.ref s.heap.objs.size)) >>= _) _ _ _
    refine wpAny_bind ?_
    have hS' := old S _ nS.1 nS.2.2.1 nS.2.2.2.1 nS.2.2.2.2 hS
    refine wpAny_updateSeq (xs := #[]) (n := c) hS' rfl ?_ (le_line (by simp)) (by simp)
    refine wpAny_pure ⟨plainId_quiet F.plain_extend_loop _, ?_⟩
    have neS : ∀ q, q ≠ S → (h'.update S (Obj.mapSeq fun w => w.push (.ref s.heap.objs.size))).get? q = h'.get? q := fun q n => Heap.get?_update_ne _ _ _ _ n
    have hSn : (h'.update S (Obj.mapSeq fun w => w.push (.ref s.heap.objs.size))).get? S = some { cls := Value.type "list", data := Data.seq (#[].push (.ref s.heap.objs.size)) (c + 1) } := by
      rw [Heap.get?_update_self _ hS' rfl]
      simp [Obj.mapSeq]
    have ltS : S < s.heap.objs.size := Heap.lt_size hS
    have nTS : s.heap.objs.size ≠ S := Nat.ne_of_gt ltS
    have J := I.turnedNew (h' := h'.update S (Obj.mapSeq fun w => w.push (.ref s.heap.objs.size))) (t' := s.toks) (ch := [z, TO, i1, i2, S]) (T := s.heap.objs.size) (ob := .tup [x, y]) (fun q o hq e => by
      simp only [List.mem_cons, List.not_mem_nil, or_false, not_or] at hq
      rw [neS q hq.2.2.2.2]
      exact old q o hq.1 hq.2.1 hq.2.2.1 hq.2.2.2.1 e) fr (Nat.le_refl _) ⟨(by show 2 ≤ sizeLine; decide), [v1, v2], .cons r1 (.cons r2 .nil), ⟨_, by rw [neS _ nTS]; exact hpr, rfl, 0, rfl⟩⟩
    have hn : H s.heap.objs.size = none := I.hok.fresh (Nat.le_refl _)
    have sm := same_new hn (.tup [x, y])
    have lq : ∀ q ∈ [z, TO, i1, i2, S], q < s.heap.objs.size := fun q hq => by
      obtain ⟨o1, g1, _⟩ := g1
      obtain ⟨o2, g2, _⟩ := g2
      simp only [List.mem_cons, List.not_mem_nil, or_false] at hq
      rcases hq with rfl | rfl | rfl | rfl | rfl
      · exact Heap.lt_size hz
      · exact Heap.lt_size hTO
      · exact Heap.lt_size g1
      · exact Heap.lt_size g2
      · exact ltS
    refine zl_held (H0 := H) hh D (T := s.heap.objs.size) ⟨nS.1, nS.2.1, nS.2.2.2.1, nS.2.2.2.2, nTS.symm⟩ ⟨Nat.ne_of_gt (lq z (by simp)), Nat.ne_of_gt (lq i1 (by simp)), Nat.ne_of_gt (lq i2 (by simp))⟩ hl h100 (xs.length - 1) 1 _ (upd H s.heap.objs.size (.tup [x, y])) (#[].push (.ref s.heap.objs.size)) (c + 1) false [.ref s.heap.objs.size] rfl lt J sm (fun q hq => fpOk_upd (fr q ?_) ?_) ?_ ⟨_, (by show (h'.update S _).get? _ = _; rw [neS _ nTS]; exact hpr)⟩ ?_ ?_ ?_ hSn (sqL_same sm q1) (sqL_same sm q2) (.cons rfl .nil) rfl ?_ (fun H' s' acc' c' vs' I' S' => fin H' s' acc' c' vs' I' (sm.trans S'))
    · simp only [List.mem_cons, List.not_mem_nil, or_false] at hq ⊢
      rcases hq with h | h | h | h <;> simp [h]
    · refine Nat.ne_of_lt (lq q ?_)
      simp only [List.mem_cons, List.not_mem_nil, or_false] at hq ⊢
      rcases hq with h | h | h | h <;> simp [h]
    · show (h'.update S _).get? z = _
      rw [neS z nS.1.symm]; exact hz'
    · show (h'.update S _).get? TI = _
      rw [neS TI nS.2.1.symm]; exact old TI _ D.TIz D.TITO D.TIi1 D.TIi2 hTI
    · exact g1'.at fun o e => by rw [← e]; exact neS i1 nS.2.2.2.1.symm
    · exact g2'.at fun o e => by rw [← e]; exact neS i2 nS.2.2.2.2.symm
    · exact ZipAt.snoc (vs := []) (fun j v e => by simp at e) e1 e2 hn upd_same
  · have e0 : xs = [] := List.eq_nil_of_length_eq_zero (by omega)
    refine wpAny_pyNext_zip_end hh D hz hTI hTO g1 g2 p1.isList p2.isList (.inl (by rw [show its = [] from List.eq_nil_of_length_eq_zero (by omega)]; rfl)) fun h' old => ?_
    refine wpAny_pure ?_
    refine fin H _ #[] c [] (I.turnedL (t' := s.toks) (ch := [z, TO, i1, i2]) (fun q o hq e => ?_) (fun q hq => fr q ?_)) (Same.refl _) (old S _ nS.1 nS.2.2.1 nS.2.2.2.1 nS.2.2.2.2 hS) .nil (by rw [e0]) (fun j v e => by simp at e)
    · simp only [List.mem_cons, List.not_mem_nil, or_false, not_or] at hq
      exact old q o hq.1 hq.2.1 hq.2.2.1 hq.2.2.2 e
    · simp only [List.mem_cons, List.not_mem_nil, or_false] at hq ⊢
      rcases hq with h | h | h | h <;> simp [h]
end Bs

set_option Elab.async false
set_option linter.all false
set_option maxRecDepth 100000
set_option maxHeartbeats 4000000
namespace Bs
open PySem PySem.Spec PyProof.Rows L2
theorem nolen_zip : typeLookup (Value.type "zip") (Str.ofString "__len__") = pure none := by
  rw [typeLookup_type, builtinLookup_eq_fast]; rfl
theorem nohint_zip : typeLookup (Value.type "zip") (Str.ofString "__length_hint__") = pure none := by
  rw [typeLookup_type, builtinLookup_eq_fast]; rfl
theorem collect_zip {X : Cx} {pins : List (Addr × Obj)} {σ : L2.St} {z TI TO i1 i2 a b : Addr} {A : Around} {E : Value → Shared → Prop} {Q : List Value → Shared → Prop} (hh : A.in1.handled = none) (D : ZipApart z TI TO i1 i2 a b)
    {xs ys : List V} (hl : xs.length = ys.length) (h100 : xs.length ≤ 1000) {s : Shared} {H : Hp} {u0 u1 : Value} (I : L2.Inv X pins σ H s) (fr : ∀ q ∈ [z, TO, i1, i2], FpOk X pins H q) (hz : IsZip s.heap z TI TO .none) (hTI : IsPair s.heap TI (.ref i1) (.ref i2)) (hTO : IsPair s.heap TO u0 u1)
    (g1 : s.heap.IsListIter i1 a 0) (g2 : s.heap.IsListIter i2 b 0) (q1 : SqL X.K H a xs) (q2 : SqL X.K H b ys)
    (fin : ∀ (H' : Hp) (s' : Shared) (us : List Value) (vs' : List V), L2.Inv X pins σ H' s' → Same H H' → Vals vs' us → vs'.length = xs.length → ZipAt H H' xs ys vs' → Q us s') :
    wpAny (model X.prog X.w) A (collect (.ref z)) Q E s := by
  have ltz : z < s.heap.objs.size := Heap.lt_size hz
  have ltI : TI < s.heap.objs.size := Heap.lt_size hTI
  have ltO : TO < s.heap.objs.size := Heap.lt_size hTO
  have lt1 : i1 < s.heap.objs.size := by obtain ⟨o, g, _⟩ := g1; exact Heap.lt_size g
  have lt2 : i2 < s.heap.objs.size := by obtain ⟨o, g, _⟩ := g2; exact Heap.lt_size g
  have hn : H s.heap.objs.size = none := I.hok.fresh (Nat.le_refl _)
  unfold collect
  refine wpAny_bind ?_
  refine wpAny_runValue ?_
  refine codeAny_builtin F.entry_proto_collect ?_
  rw [Around.under_plainId F.plain_proto_collect]
  show wpAny _ _ (newObj (.type "list") (.seq #[]) >>= _) _ _ _
  refine wpAny_bind ?_
  refine wpAny_newObj_type ?_
  refine wpAny_pure ⟨plainId_quiet F.plain_list_iadd _, ?_⟩
  refine codeAny_builtin F.entry_list_iadd ?_
  rw [Around.under_plainId F.plain_list_iadd]
  have push : ∀ q o, s.heap.get? q = some o → (s.heap.push { cls := Value.type "list", data := Data.seq #[] }).get? q = some o := fun q o e => Heap.get?_push_of_some _ e
  have hS : (s.heap.push { cls := Value.type "list", data := Data.seq #[] }).get? s.heap.objs.size = some { cls := Value.type "list", data := Data.seq #[] } := Heap.get?_push_size s.heap rfl
  have hz1 := push _ _ hz
  have hT : Shared.TypeIs { s with heap := s.heap.push { cls := Value.type "list", data := Data.seq #[] } } (.ref z) "zip" := ⟨_, hz1, rfl⟩
  show wpAny _ _ (typeOf (.ref z) >>= _) _ _ _
  refine wpAny_bind ?_
  refine wpAny_typeOf hT ?_
  have ne : (s.heap.objs.size == z) = false := by simpa using Nat.ne_of_gt ltz
  have cnd : (Builtin.List.listSameRef (.ref s.heap.objs.size) (.ref z) || Value.type "zip" == Value.type "list" || Value.type "zip" == Value.type "tuple") = false := by
    show ((s.heap.objs.size == z) || Value.type "zip" == Value.type "list" || Value.type "zip" == Value.type "tuple") = false
    rw [ne]
    decide
  rw [cnd]
  refine wpAny_ite_false rfl ?_
  refine wpAny_bind ?_
  refine wpAny_pyIter_zip hz1 ?_
  refine wpAny_bind ?_
  refine wpAny_holding ?_
  show wpAny _ _ (specialOf (.ref z) _ >>= _) _ _ _
  refine wpAny_bind ?_
  refine wpAny_specialOf hT nolen_zip ?_
  show wpAny _ _ (specialOf (.ref z) _ >>= _) _ _ _
  refine wpAny_bind ?_
  refine wpAny_specialOf hT nohint_zip ?_
  refine wpAny_pure ?_
  show wpAny _ _ (rule _ >>= _) _ _ _
  refine wpAny_bind ?_
  refine wpAny_rule ?_
  refine wpAny_bind ?_
  show wpAny _ _ (updateSeq s.heap.objs.size (fun w => w.push .none) >>= fun _ => updateSeq s.heap.objs.size fun w => w.pop) _ _ _
  refine wpAny_bind ?_
  refine wpAny_updateSeq (xs := #[]) (n := 0) hS rfl ?_ (le_line (by simp)) (by simp)
  have hS2 : ((s.heap.push { cls := Value.type "list", data := Data.seq #[] }).update s.heap.objs.size (Obj.mapSeq fun w => w.push .none)).get? s.heap.objs.size = some { cls := Value.type "list", data := Data.seq #[Value.none] 1 } := by
    rw [Heap.get?_update_self _ hS rfl]
    rfl
  refine wpAny_updateSeq (xs := #[Value.none]) (n := 1) hS2 rfl ?_ (le_line (by simp)) (by simp)
  have hS3 : (((s.heap.push { cls := Value.type "list", data := Data.seq #[] }).update s.heap.objs.size (Obj.mapSeq fun w => w.push .none)).update s.heap.objs.size (Obj.mapSeq fun w => w.pop)).get? s.heap.objs.size = some { cls := Value.type "list", data := Data.seq #[] 2 } := by
    rw [Heap.get?_update_self _ hS2 rfl]
    rfl
  have old : ∀ q o, s.heap.get? q = some o → (((s.heap.push { cls := Value.type "list", data := Data.seq #[] }).update s.heap.objs.size (Obj.mapSeq fun w => w.push .none)).update s.heap.objs.size (Obj.mapSeq fun w => w.pop)).get? q = some o := fun q o e => by
    have n : q ≠ s.heap.objs.size := Nat.ne_of_lt (Heap.lt_size e)
    rw [Heap.get?_update_ne _ _ _ _ n, Heap.get?_update_ne _ _ _ _ n]
    exact push q o e
  refine wpAny_pure ⟨plainId_quiet F.plain_extend_loop _, ?_⟩
  generalize ((s.heap.push { cls := Value.type "list", data := Data.seq #[] }).update s.heap.objs.size (Obj.mapSeq fun w => w.push .none)).update s.heap.objs.size (Obj.mapSeq fun w => w.pop) = h3 at hS3 old ⊢
  have J : L2.Inv X pins σ H { s with heap := h3 } := I.kept (t' := s.toks) old
  refine zl_all hh D (S := s.heap.objs.size) ⟨Nat.ne_of_gt ltz, Nat.ne_of_gt ltI, Nat.ne_of_gt ltO, Nat.ne_of_gt lt1, Nat.ne_of_gt lt2⟩ hl h100 J (fun q hq => ?_) (old _ _ hz) (old _ _ hTI) (old _ _ hTO) (g1.at fun o e => old _ _ e) (g2.at fun o e => old _ _ e) hS3 q1 q2 fun H' s' acc' c' vs' I' S' hS' hv hvl hp => ?_
  · simp only [List.mem_cons, List.not_mem_nil, or_false] at hq
    rcases hq with h | h | h | h | h
    · exact fr q (by simp [h])
    · exact fr q (by simp [h])
    · exact fr q (by simp [h])
    · exact fr q (by simp [h])
    · rw [h]; exact I.fpOk (Nat.le_refl _) hn
  · show wpAny _ _ (load s.heap.objs.size >>= _) _ _ _
    refine wpAny_bind ?_
    refine wpAny_load hS' ?_
    refine wpAny_pure ?_
    exact fin H' s' acc'.toList vs' I' S' hv hvl hp
end Bs

set_option Elab.async false
set_option linter.all false
set_option maxRecDepth 100000
set_option maxHeartbeats 4000000
namespace Bs
open PySem PySem.Spec PyProof.Rows L2
theorem code_tuple_zip {X : Cx} {pins : List (Addr × Obj)} {σ : L2.St} {z TI TO i1 i2 a b : Addr} {A : Around} {E : Value → Shared → Prop} {Q : Value → Shared → Prop} (hh : A.handled = none) (D : ZipApart z TI TO i1 i2 a b)
    {xs ys : List V} (hl : xs.length = ys.length) (h100 : xs.length ≤ 1000) {s : Shared} {H : Hp} {u0 u1 : Value} (I : L2.Inv X pins σ H s) (fr : ∀ q ∈ [z, TO, i1, i2], FpOk X pins H q) (hz : IsZip s.heap z TI TO .none) (hTI : IsPair s.heap TI (.ref i1) (.ref i2)) (hTO : IsPair s.heap TO u0 u1)
    (g1 : s.heap.IsListIter i1 a 0) (g2 : s.heap.IsListIter i2 b 0) (q1 : SqL X.K H a xs) (q2 : SqL X.K H b ys)
    (fin : ∀ (H' : Hp) (s' : Shared) (us : List Value) (vs' : List V), L2.Inv X pins σ H' s' → Same H H' → Vals vs' us → vs'.length = xs.length → ZipAt H H' xs ys vs' →
      Q (.ref s'.heap.objs.size) { s' with heap := s'.heap.push { cls := Value.type "tuple", data := Data.seq us.toArray } }) :
    codeAny (model X.prog X.w) A (Code.call (.builtin "tuple.__new__") { pos := [.type "tuple", .ref z] }) (wants Q E) s := by
  refine codeAny_of_tree ?_
  refine wpAny_bind ?_
  refine wpAny_of_eq (F.newCall_tuple_1 (.ref z)) ?_
  refine wpAny_pure ⟨plainId_quiet F.plain_tuple_new _, codeAny_builtin F.entry_tuple_new ?_⟩
  rw [Around.under_plainId F.plain_tuple_new]
  have hT : Shared.TypeIs s (.ref z) "zip" := ⟨_, hz, rfl⟩
  refine wpAny_bind ?_
  change wpAny _ _ (pure true) _ _ _
  refine wpAny_pure ?_
  refine wpAny_ite_false rfl ?_
  refine wpAny_bind ?_
  refine wpAny_of_eq sub_tuple_self ?_
  refine wpAny_ite_false rfl ?_
  refine wpAny_ite_false rfl ?_
  refine wpAny_bind ?_
  refine wpAny_of_eq madeHere_tuple ?_
  refine wpAny_bind ?_
  refine wpAny_of_eq init_tuple_lookup ?_
  refine wpAny_ite_true rfl ?_
  refine wpAny_bind ?_
  unfold noKeywords
  refine wpAny_ite_true rfl ?_
  refine wpAny_pure ?_
  refine wpAny_bind ?_
  unfold checkCount
  refine wpAny_ite_false rfl ?_
  refine wpAny_ite_false rfl ?_
  refine wpAny_ite_false rfl ?_
  refine wpAny_pure ?_
  refine wpAny_ite_true rfl ?_
  refine wpAny_bind ?_
  unfold Builtin.Tuple.tupleIsExact
  refine wpAny_bind ?_
  refine wpAny_typeOf hT ?_
  refine wpAny_pure ?_
  refine wpAny_ite_false rfl ?_
  refine wpAny_bind ?_
  refine collect_zip (A := A.in1) (show A.in1.in1.handled = none from hh) D hl h100 I fr hz hTI hTO g1 g2 q1 q2 fun H' s' us vs' I' S' hv hvl hp => ?_
  refine wpAny_bind ?_
  refine wpAny_pure ?_
  refine wpAny_bind ?_
  have ul : us.toArray.size ≤ sizeLine := le_line (by have := hv.length; simp; omega)
  unfold Builtin.Tuple.tupleExact
  refine wpAny_newObj_type ?_ ul
  refine wpAny_pure ?_
  exact fin H' s' us vs' I' S' hv hvl hp
theorem call_tuple_zip {X : Cx} {pins : List (Addr × Obj)} {σ : L2.St} {z TI TO i1 i2 a b : Addr} {A : Around} {E : Value → Shared → Prop} {Q : Value → Shared → Prop} (hh : A.handled = none) (D : ZipApart z TI TO i1 i2 a b)
    {xs ys : List V} (hl : xs.length = ys.length) (h100 : xs.length ≤ 1000) {s : Shared} {H : Hp} {u0 u1 : Value} (I : L2.Inv X pins σ H s) (fr : ∀ q ∈ [z, TO, i1, i2], FpOk X pins H q) (hz : IsZip s.heap z TI TO .none) (hTI : IsPair s.heap TI (.ref i1) (.ref i2)) (hTO : IsPair s.heap TO u0 u1)
    (g1 : s.heap.IsListIter i1 a 0) (g2 : s.heap.IsListIter i2 b 0) (q1 : SqL X.K H a xs) (q2 : SqL X.K H b ys)
    (fin : ∀ (H' : Hp) (s' : Shared) (us : List Value) (vs' : List V), L2.Inv X pins σ H' s' → Same H H' → Vals vs' us → vs'.length = xs.length → ZipAt H H' xs ys vs' →
      Q (.ref s'.heap.objs.size) { s' with heap := s'.heap.push { cls := Value.type "tuple", data := Data.seq us.toArray } }) :
    wpAny (model X.prog X.w) A (call (.type "tuple") [.ref z]) Q E s :=
  callType_codes F.called_tuple (F.typeCall_tuple_1 (.ref z)) F.entry_object_init
    (code_tuple_zip (A := A.in1) (Q := fun v s' => s'.TypeIs v "tuple" ∧ Q v s') hh D hl h100 I fr hz hTI hTO g1 g2 q1 q2 fun H' s' us vs' I' S' hv hvl hp => ⟨⟨_, Heap.get?_push_size s'.heap rfl, rfl⟩, fin H' s' us vs' I' S' hv hvl hp⟩)
    fun obj s₁ h₁ => ⟨h₁.1, F.args_object_init_2 obj (.ref z), object_init_meets F.called_tuple.init.lookup F.called_tuple.made (by decide) X.prog X.w A.in1 (wants (fun r s₂ => r = .none ∧ Q obj s₂) E) s₁ ⟨h₁.1, rfl, h₁.2⟩⟩
def tTupZip (K : PySem.W.Frag) (ta : TA) : TE := fun σ H Q => ta σ H fun vs H1 => ∃ a b xs ys, vs = [V.ref a, V.ref b] ∧ SqL K H1 a xs ∧ SqL K H1 b ys ∧ xs.length = ys.length ∧ xs.length ≤ 1000 ∧ ∀ q H2 ps, Same H1 H2 → H1 q = none → H2 q = some (.tup ps) → ps.length = xs.length → ZipAt H1 H2 xs ys ps → Q (.ref q) H2
/-- tuple(zip(xs, ys)), two lists of one length -/
theorem pe_tupZip {X : Cx} {e f : Expr} {ta : TA} {p p2 pos pos2 : Pos} (hc : X.calm = true) (hg : Gl X "tuple") (hm : X.mg "tuple" = none) (hg2 : Gl X "zip") (hm2 : X.mg "zip" = none) (ha : PA X [e, f] ta)
    (h1 : starEach [e, f] X.env = (false, eval e X.env) :: starEach [f] X.env := by rfl) (h2 : (backTo pos2 (starEach [f] X.env)).any (·.1) = false := by rfl)
    (hs : starEach [.Call (.Name "zip" p2) [e, f] [] pos2] X.env = (false, eval (.Call (.Name "zip" p2) [e, f] [] pos2) X.env) :: starEach [] X.env := by rfl) :
    PE X (.Call (.Name "tuple" p) [.Call (.Name "zip" p2) [e, f] [] pos2] [] pos) (tTupZip X.K ta) := by
  constructor
  intro pins s σ H Q I h
  refine Call_ ?_
  refine ld_blt I hg hm boot_tuple ?_
  refine PyProof.Rows.callWith_type1 (args_cons (Call_ (ld_blt I hg2 hm2 PyProof.Rows.boot_zip (PyProof.Rows.callWith_type1 (thn (ha.run pos2 pins s σ H _ I h) ?_) h1 h2))) hs) hs rfl
  rintro us s1 ⟨vs, G, J, rel, a, b, xs, ys, rfl, q1, q2, hl, h100, q⟩
  cases rel with
  | cons ra rr =>
    cases rr with
    | cons rb rr =>
      cases rr
      cases ra
      cases rb
      obtain ⟨its, rl, p1, _⟩ := J.list q1
      obtain ⟨jts, rt, p2', _⟩ := J.list q2
      refine zip_begins2 (begins_list a its.toArray) (begins_list b jts.toArray) p1.isList p2'.isList fun h' hz hI hO g1 g2 hsz hk => args_nil ?_
      have J2 : L2.Inv X pins σ G { s1 with heap := h' } := J.kept (t' := s1.toks) hk
      refine call_tuple_zip (J.ok.hd hc) (PySem.W.ktu_apart s1.heap.objs.size a b p1.lt p2'.lt) hl h100 J2 (fun c hc => ?_) hz hI hO ⟨_, g1, rfl, rfl⟩ ⟨_, g2, rfl, rfl⟩ q1 q2 fun H' s' us vs' I' S' hv hvl hp => ?_
      · have le : s1.heap.objs.size ≤ c := by
          simp only [List.mem_cons, List.not_mem_nil, or_false] at hc
          rcases hc with rfl | rfl | rfl | rfl
          · exact Nat.le_add_right _ _
          · exact Nat.le_add_right _ _
          · exact Nat.le_refl _
          · exact Nat.le_add_right _ _
        exact J.fpOk le (J.hok.fresh le)
      · have hn : H' s'.heap.objs.size = none := I'.hok.fresh (Nat.le_refl _)
        have hlen : us.toArray.size ≤ sizeLine := le_line (by have := hv.length; simp; omega)
        refine ⟨V.ref s'.heap.objs.size, upd H' s'.heap.objs.size (.tup vs'), I'.laid (t' := s'.toks) (fun c o e => Heap.get?_push_of_some _ e) (Nat.le_refl _) ⟨le_line (by omega), us, hv, IsTup.new _ _⟩, rfl, ?_⟩
        exact q _ _ vs' (S'.trans (same_new hn _)) (S'.free hn) upd_same hvl (hp.same (same_new hn _))
end Bs

set_option Elab.async false
set_option linter.all false
set_option maxRecDepth 100000
set_option maxHeartbeats 4000000
/-! list(zip(a list, a list)): the new list stands in the heap from the start -/
namespace Bs
open PySem PySem.Spec PyProof.Rows L2
theorem ZipAt.kp {H0 H H' : Hp} {xs ys vs : List V} (k : ∀ b us, H b = some (.tup us) → H' b = some (.tup us)) (h : ZipAt H0 H xs ys vs) : ZipAt H0 H' xs ys vs := fun j v e => by
  obtain ⟨p, x, y, e1, e2, e3, e0, e4⟩ := h j v e
  exact ⟨p, x, y, e1, e2, e3, e0, k _ _ e4⟩
theorem zt_held {X : Cx} {pins : List (Addr × Obj)} {σ : L2.St} {z TI TO i1 i2 a b S T : Addr} {res : Value} {A : Around} {R : Result → Shared → Prop} {H0 : Hp} (hh : A.in1.handled = none) (D : ZipApart z TI TO i1 i2 a b)
    (nS : S ≠ z ∧ S ≠ TI ∧ S ≠ i1 ∧ S ≠ i2 ∧ S ≠ T) (nT : T ≠ z ∧ T ≠ i1 ∧ T ≠ i2) {xs ys : List V} (hl : xs.length = ys.length) (h100 : xs.length ≤ 1000) (q1 : SqL X.K H0 a xs) (q2 : SqL X.K H0 b ys) (h0S : H0 S = none) :
    ∀ (k i : Nat) (s : Shared) (H : Hp) (acc : Array Value) (c : Nat) (f : Bool) (vs : List V), xs.length - i = k → i ≤ xs.length → L2.Inv X pins σ H s → Same H0 H → H S = some (.lst vs) → (∀ q ∈ [z, i1, i2], FpOk X pins H q) → IsZipHeld s.heap z TI TO T f → (∃ oT, s.heap.get? T = some oT) → IsPair s.heap TI (.ref i1) (.ref i2) →
      s.heap.IsListIter i1 a i → s.heap.IsListIter i2 b i → s.heap.get? S = some { cls := Value.type "list", data := Data.seq acc c } → Vals vs acc.toList → vs.length = i → ZipAt H0 H xs ys vs →
      (∀ (H' : Hp) (s' : Shared) (vs' : List V), L2.Inv X pins σ H' s' → Same H0 H' → H' S = some (.lst vs') → vs'.length = xs.length → ZipAt H0 H' xs ys vs' → R (.ok (.ret res)) s') →
      codeAny (model X.prog X.w) A (Code.builtin "list.extend.loop" { pos := [.ref S, .ref z, res] }) R s := by
  intro k
  induction k with
  | zero =>
    intro i s H acc c f vs hk hi I sH hHS fr hz hT hTI g1 g2 hS hv hvl hp fin
    obtain ⟨oT, hT⟩ := hT
    obtain ⟨its, rl, p1, _⟩ := I.list (sqL_same sH q1)
    obtain ⟨jts, rt, p2, _⟩ := I.list (sqL_same sH q2)
    refine codeAny_builtin F.entry_extend_loop ?_
    rw [Around.under_plainId F.plain_extend_loop]
    show wpAny _ _ (pyNext (.ref z) >>= _) _ _ _
    refine wpAny_bind ?_
    have n1 : its.length = xs.length := rl.length.symm
    refine wpAny_pyNext_zip_end_held hh D hz hT hTI g1 g2 p1.isList p2.isList (.inl (by simp; omega)) fun h' old => ?_
    refine wpAny_pure ?_
    refine fin H _ vs (I.turnedL (t' := s.toks) (ch := [z, i1, i2]) (fun q o hq e => ?_) fr) sH hHS (by omega) hp
    simp only [List.mem_cons, List.not_mem_nil, or_false, not_or] at hq
    exact old q o hq.1 hq.2.1 hq.2.2 e
  | succ k ih =>
    intro i s H acc c f vs hk hi I sH hHS fr hz hT hTI g1 g2 hS hv hvl hp fin
    obtain ⟨oT, hT⟩ := hT
    obtain ⟨its, rl, p1, _⟩ := I.list (sqL_same sH q1)
    obtain ⟨jts, rt, p2, _⟩ := I.list (sqL_same sH q2)
    have lt : i < xs.length := by omega
    have e1 : xs[i]? = some (xs[i]) := List.getElem?_eq_getElem lt
    have e2 : ys[i]? = some (ys[i]'(by omega)) := List.getElem?_eq_getElem (by omega)
    generalize xs[i] = x at e1
    generalize ys[i]'(by omega) = y at e2
    obtain ⟨v1, a1, r1⟩ := rl.get e1
    obtain ⟨v2, a2, r2⟩ := rt.get e2
    have as : acc.size = i := by have := hv.length; simpa [hvl] using this.symm
    refine codeAny_builtin F.entry_extend_loop ?_
    rw [Around.under_plainId F.plain_extend_loop]
    show wpAny _ _ (pyNext (.ref z) >>= _) _ _ _
    refine wpAny_bind ?_
    refine wpAny_pyNext_zip_item_held D hz hT hTI g1 g2 p1.isList p2.isList (x := v1) (y := v2) (by simpa using a1) (by simpa using a2) fun h' hz' g1' g2' hpr hsz old => ?_
    show wpAny _ _ (updateSeq S (fun w => w.push (.ref s.heap.objs.size)) >>= _) _ _ _
    refine wpAny_bind ?_
    have hS' := old S _ nS.1 nS.2.2.1 nS.2.2.2.1 hS
    have aS : acc.size ≤ sizeLine := le_line (by omega)
    refine wpAny_updateSeq (xs := acc) (n := c) hS' rfl ?_ aS (by rw [Array.size_push]; have : acc.size ≤ sizeLine := aS; omega)
    refine wpAny_pure ⟨plainId_quiet F.plain_extend_loop _, ?_⟩
    have neS : ∀ q, q ≠ S → (h'.update S (Obj.mapSeq fun w => w.push (.ref s.heap.objs.size))).get? q = h'.get? q := fun q n => Heap.get?_update_ne _ _ _ _ n
    have hSn : (h'.update S (Obj.mapSeq fun w => w.push (.ref s.heap.objs.size))).get? S = some { cls := Value.type "list", data := Data.seq (acc.push (.ref s.heap.objs.size)) (c + 1) } := by
      rw [Heap.get?_update_self _ hS' rfl]
      simp [Obj.mapSeq]
    have ltS : S < s.heap.objs.size := Heap.lt_size hS
    have J1 := I.turnedNew (h' := h') (t' := s.toks) (ch := [z, i1, i2]) (T := s.heap.objs.size) (ob := .tup [x, y]) (fun q o hq e => by
      simp only [List.mem_cons, List.not_mem_nil, or_false, not_or] at hq
      exact old q o hq.1 hq.2.1 hq.2.2 e) fr (Nat.le_refl _) ⟨(by show 2 ≤ sizeLine; decide), [v1, v2], .cons r1 (.cons r2 .nil), ⟨_, hpr, rfl, 0, rfl⟩⟩
    have hn : H s.heap.objs.size = none := I.hok.fresh (Nat.le_refl _)
    have sm := same_new hn (.tup [x, y])
    have rT : L2.RelV (V.ref s.heap.objs.size) (Value.ref s.heap.objs.size) := rfl
    have J : L2.Inv X pins σ (upd (upd H s.heap.objs.size (.tup [x, y])) S (.lst (vs ++ [.ref s.heap.objs.size]))) { heap := h'.update S (Obj.mapSeq fun w => w.push (.ref s.heap.objs.size)), gens := s.gens, drawn := s.drawn, toks := s.toks, os := s.os } :=
      J1.lset (t' := s.toks) (f := fun w => w.push (.ref s.heap.objs.size)) (its := acc.toList) (its' := acc.toList ++ [.ref s.heap.objs.size]) (n := c) (sm _ _ hHS) (by simpa using hS') (by apply Array.toList_inj.mp; simp) (vals_snoc hv rT) (le_line (by simp; omega))
    have lq : ∀ q ∈ [z, i1, i2], q < s.heap.objs.size ∧ q ≠ S := fun q hq => by
      obtain ⟨o1, g1, _⟩ := g1
      obtain ⟨o2, g2, _⟩ := g2
      simp only [List.mem_cons, List.not_mem_nil, or_false] at hq
      rcases hq with rfl | rfl | rfl
      · exact ⟨Heap.lt_size hz, nS.1.symm⟩
      · exact ⟨Heap.lt_size g1, nS.2.2.1.symm⟩
      · exact ⟨Heap.lt_size g2, nS.2.2.2.1.symm⟩
    have kp : ∀ b us, H b = some (.tup us) → (upd (upd H s.heap.objs.size (.tup [x, y])) S (.lst (vs ++ [.ref s.heap.objs.size]))) b = some (.tup us) := fun b us e => by
      rw [upd_ne (ne_of e hHS (by intro z; cases z))]; exact sm _ _ e
    refine ih (i + 1) _ _ (acc.push (.ref s.heap.objs.size)) (c + 1) true (vs ++ [.ref s.heap.objs.size]) (by omega) lt J (same_set (sH.trans sm) h0S) upd_same (fun q hq => fpOk_upd (fpOk_upd (fr q hq) (Nat.ne_of_lt (lq q hq).1)) (lq q hq).2) ?_ ⟨oT, ?_⟩ ?_ ?_ ?_ hSn ?_ (by simp [hvl]) ((hp.kp kp).snoc (by rw [hvl]; exact e1) (by rw [hvl]; exact e2) (sH.free hn) (by rw [upd_ne (Nat.ne_of_gt ltS), upd_same])) fin
    · show (h'.update S _).get? z = _
      rw [neS z nS.1.symm]; exact hz'
    · show (h'.update S _).get? T = _
      rw [neS T nS.2.2.2.2.symm]; exact old T _ nT.1 nT.2.1 nT.2.2 hT
    · show (h'.update S _).get? TI = _
      rw [neS TI nS.2.1.symm]; exact old TI _ D.TIz D.TIi1 D.TIi2 hTI
    · exact g1'.at fun o e => by rw [← e]; exact neS i1 nS.2.2.1.symm
    · exact g2'.at fun o e => by rw [← e]; exact neS i2 nS.2.2.2.1.symm
    · rw [Array.toList_push]; exact vals_snoc hv rfl
theorem zt_all {X : Cx} {pins : List (Addr × Obj)} {σ : L2.St} {z TI TO i1 i2 a b S : Addr} {res : Value} {A : Around} {R : Result → Shared → Prop} {H0 : Hp} (hh : A.in1.handled = none) (D : ZipApart z TI TO i1 i2 a b)
    (nS : S ≠ z ∧ S ≠ TI ∧ S ≠ TO ∧ S ≠ i1 ∧ S ≠ i2) {xs ys : List V} (hl : xs.length = ys.length) (h100 : xs.length ≤ 1000) (q1 : SqL X.K H0 a xs) (q2 : SqL X.K H0 b ys) (h0S : H0 S = none) {s : Shared} {H : Hp} {c : Nat} {u0 u1 : Value} (I : L2.Inv X pins σ H s) (sH : Same H0 H) (hHS : H S = some (.lst [])) (fr : ∀ q ∈ [z, TO, i1, i2], FpOk X pins H q)
    (hz : IsZip s.heap z TI TO .none) (hTI : IsPair s.heap TI (.ref i1) (.ref i2)) (hTO : IsPair s.heap TO u0 u1) (g1 : s.heap.IsListIter i1 a 0) (g2 : s.heap.IsListIter i2 b 0) (hS : s.heap.get? S = some { cls := Value.type "list", data := Data.seq #[] c })
    (fin : ∀ (H' : Hp) (s' : Shared) (vs' : List V), L2.Inv X pins σ H' s' → Same H0 H' → H' S = some (.lst vs') → vs'.length = xs.length → ZipAt H0 H' xs ys vs' → R (.ok (.ret res)) s') :
    codeAny (model X.prog X.w) A (Code.builtin "list.extend.loop" { pos := [.ref S, .ref z, res] }) R s := by
  obtain ⟨its, rl, p1, _⟩ := I.list (sqL_same sH q1)
  obtain ⟨jts, rt, p2, _⟩ := I.list (sqL_same sH q2)
  refine codeAny_builtin F.entry_extend_loop ?_
  rw [Around.under_plainId F.plain_extend_loop]
  show wpAny _ _ (pyNext (.ref z) >>= _) _ _ _
  refine wpAny_bind ?_
  have n1 : its.length = xs.length := rl.length.symm
  by_cases lt : 0 < xs.length
  · have e1 : xs[0]? = some (xs[0]) := List.getElem?_eq_getElem lt
    have e2 : ys[0]? = some (ys[0]'(by omega)) := List.getElem?_eq_getElem (by omega)
    generalize xs[0] = x at e1
    generalize ys[0]'(by omega) = y at e2
    obtain ⟨v1, a1, r1⟩ := rl.get e1
    obtain ⟨v2, a2, r2⟩ := rt.get e2
    refine wpAny_pyNext_zip_item D hz hTI hTO g1 g2 p1.isList p2.isList (x := v1) (y := v2) (by simpa using a1) (by simpa using a2) fun h' hz' hTO' g1' g2' hpr hsz old => ?_
    show wpAny _ _ (updateSeq S (fun w => w.push (.ref s.heap.objs.size)) >>= _) _ _ _
    refine wpAny_bind ?_
    have hS' := old S _ nS.1 nS.2.2.1 nS.2.2.2.1 nS.2.2.2.2 hS
    refine wpAny_updateSeq (xs := #[]) (n := c) hS' rfl ?_ (le_line (by simp)) (by simp)
    refine wpAny_pure ⟨plainId_quiet F.plain_extend_loop _, ?_⟩
    have neS : ∀ q, q ≠ S → (h'.update S (Obj.mapSeq fun w => w.push (.ref s.heap.objs.size))).get? q = h'.get? q := fun q n => Heap.get?_update_ne _ _ _ _ n
    have hSn : (h'.update S (Obj.mapSeq fun w => w.push (.ref s.heap.objs.size))).get? S = some { cls := Value.type "list", data := Data.seq (#[].push (.ref s.heap.objs.size)) (c + 1) } := by
      rw [Heap.get?_update_self _ hS' rfl]
      simp [Obj.mapSeq]
    have ltS : S < s.heap.objs.size := Heap.lt_size hS
    have nTS : s.heap.objs.size ≠ S := Nat.ne_of_gt ltS
    have J1 := I.turnedNew (h' := h') (t' := s.toks) (ch := [z, TO, i1, i2]) (T := s.heap.objs.size) (ob := .tup [x, y]) (fun q o hq e => by
      simp only [List.mem_cons, List.not_mem_nil, or_false, not_or] at hq
      exact old q o hq.1 hq.2.1 hq.2.2.1 hq.2.2.2 e) fr (Nat.le_refl _) ⟨(by show 2 ≤ sizeLine; decide), [v1, v2], .cons r1 (.cons r2 .nil), ⟨_, hpr, rfl, 0, rfl⟩⟩
    have hn : H s.heap.objs.size = none := I.hok.fresh (Nat.le_refl _)
    have sm := same_new hn (.tup [x, y])
    have rT : L2.RelV (V.ref s.heap.objs.size) (Value.ref s.heap.objs.size) := rfl
    have J : L2.Inv X pins σ (upd (upd H s.heap.objs.size (.tup [x, y])) S (.lst [.ref s.heap.objs.size])) { heap := h'.update S (Obj.mapSeq fun w => w.push (.ref s.heap.objs.size)), gens := s.gens, drawn := s.drawn, toks := s.toks, os := s.os } :=
      J1.lset (t' := s.toks) (f := fun w => w.push (.ref s.heap.objs.size)) (its := []) (its' := [.ref s.heap.objs.size]) (n := c) (sm _ _ hHS) (by simpa using hS') rfl (.cons rT .nil) (le_line (by simp))
    have lq : ∀ q ∈ [z, TO, i1, i2], q < s.heap.objs.size ∧ q ≠ S := fun q hq => by
      obtain ⟨o1, g1, _⟩ := g1
      obtain ⟨o2, g2, _⟩ := g2
      simp only [List.mem_cons, List.not_mem_nil, or_false] at hq
      rcases hq with rfl | rfl | rfl | rfl
      · exact ⟨Heap.lt_size hz, nS.1.symm⟩
      · exact ⟨Heap.lt_size hTO, nS.2.2.1.symm⟩
      · exact ⟨Heap.lt_size g1, nS.2.2.2.1.symm⟩
      · exact ⟨Heap.lt_size g2, nS.2.2.2.2.symm⟩
    have sub : ∀ q ∈ [z, i1, i2], q ∈ [z, TO, i1, i2] := fun q hq => by
      simp only [List.mem_cons, List.not_mem_nil, or_false] at hq ⊢
      rcases hq with h | h | h <;> simp [h]
    refine zt_held (H0 := H0) hh D (T := s.heap.objs.size) ⟨nS.1, nS.2.1, nS.2.2.2.1, nS.2.2.2.2, nTS.symm⟩ ⟨Nat.ne_of_gt (lq z (by simp)).1, Nat.ne_of_gt (lq i1 (by simp)).1, Nat.ne_of_gt (lq i2 (by simp)).1⟩ hl h100 q1 q2 h0S (xs.length - 1) 1 _ _ (#[].push (.ref s.heap.objs.size)) (c + 1) false [.ref s.heap.objs.size] rfl lt J (same_set (sH.trans sm) h0S) upd_same (fun q hq => fpOk_upd (fpOk_upd (fr q (sub q hq)) (Nat.ne_of_lt (lq q (sub q hq)).1)) (lq q (sub q hq)).2) ?_ ⟨_, (by show (h'.update S _).get? _ = _; rw [neS _ nTS]; exact hpr)⟩ ?_ ?_ ?_ hSn (.cons rT .nil) rfl ?_ fin
    · show (h'.update S _).get? z = _
      rw [neS z nS.1.symm]; exact hz'
    · show (h'.update S _).get? TI = _
      rw [neS TI nS.2.1.symm]; exact old TI _ D.TIz D.TITO D.TIi1 D.TIi2 hTI
    · exact g1'.at fun o e => by rw [← e]; exact neS i1 nS.2.2.2.1.symm
    · exact g2'.at fun o e => by rw [← e]; exact neS i2 nS.2.2.2.2.symm
    · exact ZipAt.snoc (vs := []) (fun j v e => by simp at e) e1 e2 (sH.free hn) (by rw [upd_ne nTS, upd_same])
  · have e0 : xs = [] := List.eq_nil_of_length_eq_zero (by omega)
    refine wpAny_pyNext_zip_end hh D hz hTI hTO g1 g2 p1.isList p2.isList (.inl (by rw [show its = [] from List.eq_nil_of_length_eq_zero (by omega)]; rfl)) fun h' old => ?_
    refine wpAny_pure ?_
    refine fin H _ [] (I.turnedL (t' := s.toks) (ch := [z, TO, i1, i2]) (fun q o hq e => ?_) fr) sH hHS (by rw [e0]) (fun j v e => by simp at e)
    simp only [List.mem_cons, List.not_mem_nil, or_false, not_or] at hq
    exact old q o hq.1 hq.2.1 hq.2.2.1 hq.2.2.2 e
end Bs

set_option Elab.async false
set_option linter.all false
set_option maxRecDepth 100000
set_option maxHeartbeats 4000000
namespace Bs
open PySem PySem.Spec PyProof.Rows L2
/-- xs.extend(t), t a tuple -/
theorem extend_tup (l b : Addr) (items : Array Value) (n : Nat) (items2 : Array Value) (hz : items.size + items2.size ≤ sizeLine) : Meets (Builtin.«list.extend» { pos := [.ref l, .ref b] }) fun x R s =>
    s.heap.get? l = some { cls := Value.type "list", data := Data.seq items n } ∧ IsTup s.heap b items2 ∧
      R (.ok (.ret .none)) { s with heap := s.heap.update l (Obj.mapSeq fun x => x ++ items2) } := by
  rintro prog w A R s ⟨hl, ⟨o, hb, hc, m, hd⟩, q⟩
  have hT : s.TypeIs (.ref b) "tuple" := ⟨o, hb, hc⟩
  show wpAny _ _ (Builtin.List.listExtendWith (.ref l) (.ref b) .none) _ _ _
  unfold Builtin.List.listExtendWith
  refine wpAny_bind ?_
  refine wpAny_typeOf hT ?_
  refine wpAny_ite_true (by simp) ?_
  refine wpAny_bind ?_
  refine wpAny_listItems hb hd ?_
  refine wpAny_bind ?_
  refine wpAny_listItems hl rfl ?_
  refine wpAny_ite_false (by rw [notLongL hz, Bool.and_false]; rfl) ?_
  show wpAny _ _ (updateSeq l (fun x => x ++ items2) >>= _) _ _ _
  refine wpAny_bind ?_
  refine wpAny_updateSeq (xs := items) (n := n) hl rfl ?_ (by omega) (by simp only [Array.size_append]; omega)
  exact wpAny_pure q
def rExtendT (K : PySem.W.Frag) : V → List V → Hp → VK → Prop := fun x vs H Q => ∃ l b xs zs, x = V.ref l ∧ vs = [V.ref b] ∧ H l = some (.lst xs) ∧ SqT K H b zs ∧ xs.length + zs.length ≤ sizeLine ∧ Q .non (upd H l (.lst (xs ++ zs)))
theorem mt_extendT {X : Cx} : MtM X "list.extend" (rExtendT X.K) := by
  rintro pins s σ H x vs v us Q I rx rv ⟨l, b, xs, zs, rfl, rfl, hH, hB, hz, q⟩
  cases rx
  obtain ⟨u, rfl, ru⟩ := Vals.one rv
  cases ru
  obtain ⟨z, its, n, r, hl, e⟩ := I.lstM hH
  obtain ⟨its2, r2, p2, z2⟩ := I.tuple hB
  have l2 := r2.length
  exact call_meets F.slot_list_extend ⟨_, e, rfl⟩ F.entry_list_extend (F.args_list_extend_2 (.ref l) (.ref b)) (extend_tup l b its.toArray n its2.toArray (by simp only [List.size_toArray]; omega)) ⟨e, p2, V.non, upd H l (.lst (xs ++ zs)), I.lset hH e (by simp) (r.append r2) (by rw [List.length_append]; exact hz), rfl, q⟩
end Bs

set_option Elab.async false
set_option linter.all false
set_option maxRecDepth 100000
set_option maxHeartbeats 4000000
namespace Bs
open PySem PySem.Spec PyProof.Rows L2
theorem init_zip {X : Cx} {pins : List (Addr × Obj)} {σ : L2.St} {z TI TO i1 i2 a b : Addr} {A : Around} {R : Result → Shared → Prop} {Ef : Value → Shared → Prop} (hh : A.in1.handled = none) (D : ZipApart z TI TO i1 i2 a b)
    {xs ys : List V} (hl : xs.length = ys.length) (h100 : xs.length ≤ 1000) {s : Shared} {H : Hp} {u0 u1 : Value} (I : L2.Inv X pins σ H s) (fr : ∀ q ∈ [z, TO, i1, i2], FpOk X pins H q) (hz : IsZip s.heap z TI TO .none) (hTI : IsPair s.heap TI (.ref i1) (.ref i2)) (hTO : IsPair s.heap TO u0 u1)
    (g1 : s.heap.IsListIter i1 a 0) (g2 : s.heap.IsListIter i2 b 0) (q1 : SqL X.K H a xs) (q2 : SqL X.K H b ys)
    (fin : ∀ (H' : Hp) (s' : Shared) (vs' : List V), L2.Inv X pins σ H' s' → Same H H' → H' s.heap.objs.size = some (.lst vs') → vs'.length = xs.length → ZipAt H H' xs ys vs' → R (.ok (.ret .none)) s') :
    wpAny (model X.prog X.w) A.in1 (Builtin.«list.__init__» { pos := [.ref s.heap.objs.size, .ref z] }) (fun fin s' => match fin with
      | .done f => R (.ok f) s'
      | .again c' => c'.quiet = true ∧ codeAny (model X.prog X.w) A c' R s') Ef { s with heap := s.heap.push { cls := Value.type "list", data := Data.seq #[] } } := by
  have ltz : z < s.heap.objs.size := Heap.lt_size hz
  have ltI : TI < s.heap.objs.size := Heap.lt_size hTI
  have ltO : TO < s.heap.objs.size := Heap.lt_size hTO
  have lt1 : i1 < s.heap.objs.size := by obtain ⟨o, g, _⟩ := g1; exact Heap.lt_size g
  have lt2 : i2 < s.heap.objs.size := by obtain ⟨o, g, _⟩ := g2; exact Heap.lt_size g
  have hn : H s.heap.objs.size = none := I.hok.fresh (Nat.le_refl _)
  have push : ∀ q o, s.heap.get? q = some o → (s.heap.push { cls := Value.type "list", data := Data.seq #[] }).get? q = some o := fun q o e => Heap.get?_push_of_some _ e
  have hS : (s.heap.push { cls := Value.type "list", data := Data.seq #[] }).get? s.heap.objs.size = some { cls := Value.type "list", data := Data.seq #[] } := Heap.get?_push_size s.heap rfl
  show wpAny _ _ (Builtin.List.listItems (.ref s.heap.objs.size) >>= _) _ _ _
  refine wpAny_bind ?_
  refine wpAny_listItems hS rfl ?_
  refine wpAny_bind ?_
  show wpAny _ _ (updateSeq s.heap.objs.size fun _ => #[]) _ _ _
  refine wpAny_updateSeq (xs := #[]) (n := 0) hS rfl ?_ (le_line (by simp)) (by simp)
  have hS1 : ((s.heap.push { cls := Value.type "list", data := Data.seq #[] }).update s.heap.objs.size (Obj.mapSeq fun _ => #[])).get? s.heap.objs.size = some { cls := Value.type "list", data := Data.seq #[] 0 } := by
    rw [Heap.get?_update_self _ hS rfl]
    rfl
  have old1 : ∀ q o, s.heap.get? q = some o → ((s.heap.push { cls := Value.type "list", data := Data.seq #[] }).update s.heap.objs.size (Obj.mapSeq fun _ => #[])).get? q = some o := fun q o e => by
    rw [Heap.get?_update_ne _ _ _ _ (Nat.ne_of_lt (Heap.lt_size e))]
    exact push q o e
  refine wpAny_bind ?_
  refine wpAny_letGo ?_
  generalize (s.heap.push { cls := Value.type "list", data := Data.seq #[] }).update s.heap.objs.size (Obj.mapSeq fun _ => #[]) = h1 at hS1 old1 ⊢
  have hz1 := old1 _ _ hz
  have hT : Shared.TypeIs { s with heap := h1 } (.ref z) "zip" := ⟨_, hz1, rfl⟩
  show wpAny _ _ (typeOf (.ref z) >>= _) _ _ _
  refine wpAny_bind ?_
  refine wpAny_typeOf hT ?_
  have ne : (s.heap.objs.size == z) = false := by simpa using Nat.ne_of_gt ltz
  have cnd : (Builtin.List.listSameRef (.ref s.heap.objs.size) (.ref z) || Value.type "zip" == Value.type "list" || Value.type "zip" == Value.type "tuple") = false := by
    show ((s.heap.objs.size == z) || Value.type "zip" == Value.type "list" || Value.type "zip" == Value.type "tuple") = false
    rw [ne]
    decide
  rw [cnd]
  refine wpAny_ite_false rfl ?_
  refine wpAny_bind ?_
  refine wpAny_pyIter_zip hz1 ?_
  refine wpAny_bind ?_
  refine wpAny_holding ?_
  show wpAny _ _ (specialOf (.ref z) _ >>= _) _ _ _
  refine wpAny_bind ?_
  refine wpAny_specialOf hT nolen_zip ?_
  show wpAny _ _ (specialOf (.ref z) _ >>= _) _ _ _
  refine wpAny_bind ?_
  refine wpAny_specialOf hT nohint_zip ?_
  refine wpAny_pure ?_
  show wpAny _ _ (rule _ >>= _) _ _ _
  refine wpAny_bind ?_
  refine wpAny_rule ?_
  refine wpAny_bind ?_
  show wpAny _ _ (updateSeq s.heap.objs.size (fun w => w.push .none) >>= fun _ => updateSeq s.heap.objs.size fun w => w.pop) _ _ _
  refine wpAny_bind ?_
  refine wpAny_updateSeq (xs := #[]) (n := 0) hS1 rfl ?_ (le_line (by simp)) (by simp)
  have hS2 : (h1.update s.heap.objs.size (Obj.mapSeq fun w => w.push .none)).get? s.heap.objs.size = some { cls := Value.type "list", data := Data.seq #[Value.none] 1 } := by
    rw [Heap.get?_update_self _ hS1 rfl]
    rfl
  refine wpAny_updateSeq (xs := #[Value.none]) (n := 1) hS2 rfl ?_ (le_line (by simp)) (by simp)
  have hS3 : ((h1.update s.heap.objs.size (Obj.mapSeq fun w => w.push .none)).update s.heap.objs.size (Obj.mapSeq fun w => w.pop)).get? s.heap.objs.size = some { cls := Value.type "list", data := Data.seq #[] 2 } := by
    rw [Heap.get?_update_self _ hS2 rfl]
    rfl
  have old : ∀ q o, s.heap.get? q = some o → ((h1.update s.heap.objs.size (Obj.mapSeq fun w => w.push .none)).update s.heap.objs.size (Obj.mapSeq fun w => w.pop)).get? q = some o := fun q o e => by
    have n : q ≠ s.heap.objs.size := Nat.ne_of_lt (Heap.lt_size e)
    rw [Heap.get?_update_ne _ _ _ _ n, Heap.get?_update_ne _ _ _ _ n]
    exact old1 q o e
  refine wpAny_pure ⟨plainId_quiet F.plain_extend_loop _, ?_⟩
  generalize (h1.update s.heap.objs.size (Obj.mapSeq fun w => w.push .none)).update s.heap.objs.size (Obj.mapSeq fun w => w.pop) = h3 at hS3 old ⊢
  have J : L2.Inv X pins σ (upd H s.heap.objs.size (.lst [])) { s with heap := h3 } := I.laid (t' := s.toks) old (Nat.le_refl _) ⟨le_line (by simp), [], 2, .nil, hS3⟩
  refine zt_all (H0 := H) hh D (S := s.heap.objs.size) ⟨Nat.ne_of_gt ltz, Nat.ne_of_gt ltI, Nat.ne_of_gt ltO, Nat.ne_of_gt lt1, Nat.ne_of_gt lt2⟩ hl h100 q1 q2 hn J (same_new hn _) upd_same (fun q hq => fpOk_upd (fr q hq) ?_) (old _ _ hz) (old _ _ hTI) (old _ _ hTO) (g1.at fun o e => old _ _ e) (g2.at fun o e => old _ _ e) hS3 fin
  simp only [List.mem_cons, List.not_mem_nil, or_false] at hq
  rcases hq with h | h | h | h <;> rw [h]
  · exact Nat.ne_of_lt ltz
  · exact Nat.ne_of_lt ltO
  · exact Nat.ne_of_lt lt1
  · exact Nat.ne_of_lt lt2
theorem call_list_zip {X : Cx} {pins : List (Addr × Obj)} {σ : L2.St} {z TI TO i1 i2 a b : Addr} {A : Around} {E : Value → Shared → Prop} {Q : Value → Shared → Prop} (hh : A.handled = none) (D : ZipApart z TI TO i1 i2 a b)
    {xs ys : List V} (hl : xs.length = ys.length) (h100 : xs.length ≤ 1000) {s : Shared} {H : Hp} {u0 u1 : Value} (I : L2.Inv X pins σ H s) (fr : ∀ q ∈ [z, TO, i1, i2], FpOk X pins H q) (hz : IsZip s.heap z TI TO .none) (hTI : IsPair s.heap TI (.ref i1) (.ref i2)) (hTO : IsPair s.heap TO u0 u1)
    (g1 : s.heap.IsListIter i1 a 0) (g2 : s.heap.IsListIter i2 b 0) (q1 : SqL X.K H a xs) (q2 : SqL X.K H b ys)
    (fin : ∀ (H' : Hp) (s' : Shared) (vs' : List V), L2.Inv X pins σ H' s' → Same H H' → H' s.heap.objs.size = some (.lst vs') → vs'.length = xs.length → ZipAt H H' xs ys vs' → Q (.ref s.heap.objs.size) s') :
    wpAny (model X.prog X.w) A (call (.type "list") [.ref z]) Q E s :=
  callType_codes F.called_list (F.typeCall_list_1 (.ref z)) F.entry_list_init
    (code_list_new (.ref z) (Q₁ := fun v s' => v = .ref s.heap.objs.size ∧ s' = { s with heap := s.heap.push { cls := Value.type "list", data := Data.seq #[] } }) ⟨rfl, rfl⟩)
    fun obj s₁ h₁ => by
      obtain ⟨rfl, rfl⟩ := h₁
      exact ⟨⟨_, Heap.get?_push_size s.heap rfl, rfl⟩, F.args_list_init_2 _ (.ref z), init_zip (A := A.in1) (show A.in1.in1.handled = none from hh) D hl h100 I fr hz hTI hTO g1 g2 q1 q2 fun H' s' vs' I' S' hS' hvl hp => ⟨rfl, fin H' s' vs' I' S' hS' hvl hp⟩⟩
def tListZip (K : PySem.W.Frag) (ta : TA) : TE := fun σ H Q => ta σ H fun vs H1 => ∃ a b xs ys, vs = [V.ref a, V.ref b] ∧ SqL K H1 a xs ∧ SqL K H1 b ys ∧ xs.length = ys.length ∧ xs.length ≤ 1000 ∧ ∀ q H2 ps, Same H1 H2 → H1 q = none → H2 q = some (.lst ps) → ps.length = xs.length → ZipAt H1 H2 xs ys ps → Q (.ref q) H2
/-- list(zip(xs, ys)), two lists of one length -/
theorem pe_listZip {X : Cx} {e f : Expr} {ta : TA} {p p2 pos pos2 : Pos} (hc : X.calm = true) (hg : Gl X "list") (hm : X.mg "list" = none) (hg2 : Gl X "zip") (hm2 : X.mg "zip" = none) (ha : PA X [e, f] ta)
    (h1 : starEach [e, f] X.env = (false, eval e X.env) :: starEach [f] X.env := by rfl) (h2 : (backTo pos2 (starEach [f] X.env)).any (·.1) = false := by rfl)
    (hs : starEach [.Call (.Name "zip" p2) [e, f] [] pos2] X.env = (false, eval (.Call (.Name "zip" p2) [e, f] [] pos2) X.env) :: starEach [] X.env := by rfl) :
    PE X (.Call (.Name "list" p) [.Call (.Name "zip" p2) [e, f] [] pos2] [] pos) (tListZip X.K ta) := by
  constructor
  intro pins s σ H Q I h
  refine Call_ ?_
  refine ld_blt I hg hm boot_list ?_
  refine PyProof.Rows.callWith_type1 (args_cons (Call_ (ld_blt I hg2 hm2 PyProof.Rows.boot_zip (PyProof.Rows.callWith_type1 (thn (ha.run pos2 pins s σ H _ I h) ?_) h1 h2))) hs) hs rfl
  rintro us s1 ⟨vs, G, J, rel, a, b, xs, ys, rfl, q1, q2, hl, h100, q⟩
  cases rel with
  | cons ra rr =>
    cases rr with
    | cons rb rr =>
      cases rr
      cases ra
      cases rb
      obtain ⟨its, rl, p1, _⟩ := J.list q1
      obtain ⟨jts, rt, p2', _⟩ := J.list q2
      refine zip_begins2 (begins_list a its.toArray) (begins_list b jts.toArray) p1.isList p2'.isList fun h' hz hI hO g1 g2 hsz hk => args_nil ?_
      have J2 : L2.Inv X pins σ G { s1 with heap := h' } := J.kept (t' := s1.toks) hk
      refine call_list_zip (J.ok.hd hc) (PySem.W.ktu_apart s1.heap.objs.size a b p1.lt p2'.lt) hl h100 J2 (fun c hc => ?_) hz hI hO ⟨_, g1, rfl, rfl⟩ ⟨_, g2, rfl, rfl⟩ q1 q2 fun H' s' vs' I' S' hS' hvl hp => ?_
      · have le : s1.heap.objs.size ≤ c := by
          simp only [List.mem_cons, List.not_mem_nil, or_false] at hc
          rcases hc with rfl | rfl | rfl | rfl
          · exact Nat.le_add_right _ _
          · exact Nat.le_add_right _ _
          · exact Nat.le_refl _
          · exact Nat.le_add_right _ _
        exact J.fpOk le (J.hok.fresh le)
      · exact ⟨V.ref _, H', I', rfl, q _ _ vs' S' (J2.hok.fresh (Nat.le_refl _)) hS' hvl hp⟩
end Bs

set_option Elab.async false
set_option linter.all false
set_option maxRecDepth 100000
set_option maxHeartbeats 8000000
namespace Bs
open PySem L2
abbrev sOpInit : Stmt := inClass (top 54) 0
abbrev sWhole : Stmt := inClass (top 54) 1
/-- all that is new stands for good -/
theorem Own.more {S H H' : Hp} {L : List (Addr × HO)} (w : Own S H L) (s : Same H H') : ∃ S', Own S' H' L ∧ Same S S' ∧ ∀ b o, H b = none → H' b = some o → S' b = some o := by
  refine ⟨fun b => match S b with | some o => some o | none => neu H H' b, ⟨fun b o e => ?_, w.nd, fun p hp => ?_⟩, fun b o e => ?_, fun b o n e => ?_⟩
  · cases c : S b with
    | some u => simp only [c] at e; rw [← e]; exact s _ _ (w.s _ _ c)
    | none => simp only [c] at e; exact neu_le _ _ e
  · have h2 := w.h p hp
    refine ⟨s _ _ h2.1, ?_⟩
    simp only [h2.2]
    cases c : neu H H' p.1 with
    | none => rfl
    | some u => have := (neu_in c).1; rw [h2.1] at this; cases this
  · simp only [e]
  · simp only [w.s.free n]; rw [neu_at n]; exact e
theorem BlkQ.atS {S S' : Hp} (s : Same S S') : ∀ {bs : Blks} {l : List (Addr × List V)} {ps : List V}, BlkQ S bs l → (∀ q ∈ l, S' q.1 = some (.lst q.2)) → ps.length = bs.len → (∀ (j : Nat) (v : V), ps[j]? = some v → ∃ T x y, v = V.ref T ∧ (bs.vals.map V.int)[j]? = some x ∧ (l.map fun q => V.ref q.1)[j]? = some y ∧ S' T = some (.tup [x, y])) → bs.AtS false S' ps
  | .nil, _, ps, h, _, e, _ => by simp only [Blks.AtS]; exact List.eq_nil_of_length_eq_zero e
  | .cons v b r, _, ps, h, g, e, z => by
    obtain ⟨q, l', rfl, a, t⟩ := h
    cases ps with
    | nil => simp [Blks.len] at e
    | cons v0 ps =>
      obtain ⟨T, x, y, rfl, ex, ey, hT⟩ := z 0 v0 rfl
      simp only [Blks.vals, List.map_cons, List.getElem?_cons_zero, Option.some.injEq] at ex ey
      subst ex ey
      simp only [Blks.AtS]
      refine ⟨T, q.1, q.2, ps, rfl, hT, .inr ⟨rfl, g q (List.mem_cons_self ..)⟩, a.same s, BlkQ.atS s t (fun q hq => g q (List.mem_cons_of_mem _ hq)) (by simpa [Blks.len] using e) fun j w e => ?_⟩
      obtain ⟨T, x, y, h1, h2, h3, h4⟩ := z (j + 1) w (by simpa using e)
      exact ⟨T, x, y, h1, by simpa [Blks.vals] using h2, by simpa using h3, h4⟩
structure OpC (K : PySem.W.Frag) (C : Addr) : Prop where
  cl : Cls K C
  n1 : NoAttr K C "head"
  n2 : NoAttr K C "blocks"
  n3 : NoAttr K C "cases"
def spOpInit (CO : Addr) : Sp := fun vs H Q _ => ∃ (o h dx : Addr) (S : Hp) (L : List (Addr × HO)) (k : Str) (rest : List V), vs = [.ref o, .ref h] ∧ Own S H ((o, .ins CO dx []) :: L) ∧ S h = some (.tup (.str k :: rest)) ∧
  ∀ (p : Pc) H', p.f = o → p.dx = dx → p.hd = h → Own S H' (p.own CO ++ L) → p.Fs → (k = "repeat" → ∃ q, p.qs = [(q, [])]) → (k ≠ "repeat" → p.qs = []) → p.cv = [] → Q .non H'
def spWhole (CO : Addr) : Sp := fun vs H Q _ => ∃ (p : Pc) (fr : Fr) (S : Hp) (L : List (Addr × HO)), vs = [.ref p.f] ∧ Own S H (p.own CO ++ L) ∧ FrAt S fr p ∧ p.qs.length ≤ 1000 ∧
  ∀ (t : Addr) S' H', Own S' H' L → Same S S' → fr.whole.At false S' (.ref t) → Q (.ref t) H'
section
variable {P : Program} {w : World} {K : PySem.W.Frag} {mg : Str → Option Value} {base : Heap} {f CO : Addr} {fd : FuncData}
theorem scOpInit : FnScope ["self", "head"] ["self", "head"] (defScope sOpInit) := ⟨rfl, rfl, rfl, by decide +kernel, rfl, by decide +kernel, by decide +kernel⟩
theorem ok_opinit (F : Fun K "__init__" "Opened.__init__" sOpInit f fd) (T : OpC K CO) : FnOk P w K mg base CX0 1 f fd ["self", "head"] (spOpInit CO) := by
  refine F.ok scOpInit (fun vs H Q E h => ?_) (fun cdv A outer s H vs Q E hr h => ?_)
  · obtain ⟨o, h, dx, S, L, k, rest, rfl, _⟩ := h
    rfl
  · obtain ⟨o, h, dx, S, L, k, rest, rfl, w, hk, q⟩ := h
    refine ⟨_, (pss_cons (ps_fld (pv 0) (pv 1) rfl)
      (pss_cons (ps_fld (pv 0) (pe_ifExp (pt_cmpR op_eq (pe_ix ix_tup (pv 1) pe_int (fun _ _ => rfl)) pe_str (nomark _)) (pe_lst (pa_cons (pe_lst pa_nil) pa_nil)) (pe_lst pa_nil)) rfl)
      (pss_one (ps_fld (pv 0) (pe_lst pa_nil) rfl)))), ?_⟩
    refine ⟨_, rfl, _, rfl, o, CO, dx, _, rfl, w.at' (.head _), T.cl, T.n1, (by decide), ?_⟩
    have w1 := w.set (o' := .ins CO dx (putF "head" (.ref h) []))
    generalize upd H o (.ins CO dx (putF "head" (.ref h) [])) = H1 at w1 ⊢
    refine ⟨_, rfl, h, _, 0, _, rfl, rfl, SqT.of (w1.s _ _ hk), atI_nat (j := 0) rfl, rfl, _, rfl, ?_⟩
    have fin : ∀ (bl : Addr) (qs : List (Addr × List V)) (H2 : Hp), Own S H2 ((o, .ins CO dx (putF "head" (.ref h) [])) :: (bl, .lst (qs.map fun q => V.ref q.1)) :: ((qs.map fun q => (q.1, HO.lst q.2)) ++ L)) → (k = "repeat" → ∃ q, qs = [(q, [])]) → (k ≠ "repeat" → qs = []) →
        ∃ a C dx' fs, V.ref o = V.ref a ∧ H2 a = some (.ins C dx' fs) ∧ Cls K C ∧ NoAttr K C "blocks" ∧ fs.length < 1000 ∧ (sFld K (tVar 0) (tLst tNil) "cases") { nx := fun x H' => Q V.non H', rt := Q } [some (.ref o), some (.ref h)] (upd H2 a (.ins C dx' (putF "blocks" (.ref bl) fs))) := fun bl qs H2 w2 h1 h2 => by
      refine ⟨o, CO, dx, _, rfl, w2.at' (.head _), T.cl, T.n2, Nat.lt_of_le_of_lt (putF_len _ _ _) (by decide), ?_⟩
      have w3 := w2.set (o' := .ins CO dx (putF "blocks" (.ref bl) (putF "head" (.ref h) [])))
      generalize upd H2 o (.ins CO dx (putF "blocks" (.ref bl) (putF "head" (.ref h) []))) = H3 at w3 ⊢
      refine ⟨(by show 0 ≤ sizeLine; decide), fun cs hcs => ?_⟩
      have w4 := (w3.new (o := .lst []) hcs).perm (.swap ..)
      refine ⟨_, rfl, o, CO, dx, _, rfl, w4.at' (.head _), T.cl, T.n3, Nat.lt_of_le_of_lt (Nat.le_trans (putF_len _ _ _) (Nat.succ_le_succ (putF_len _ _ _))) (by decide), ?_⟩
      have w5 := w4.set (o' := .ins CO dx (putF "cases" (.ref cs) (putF "blocks" (.ref bl) (putF "head" (.ref h) []))))
      have n1 : ¬ ("head" : Str) = "cases" := by decide +kernel
      have n2 : ¬ ("head" : Str) = "blocks" := by decide +kernel
      have n3 : ¬ ("blocks" : Str) = "cases" := by decide +kernel
      refine q ⟨o, dx, h, bl, cs, qs, [], putF "cases" (.ref cs) (putF "blocks" (.ref bl) (putF "head" (.ref h) []))⟩ _ rfl rfl rfl (w5.perm ?_) ⟨?_, ?_, ?_, ?_⟩ h1 h2 rfl
      · show List.Perm _ (_ :: _ :: _ :: _)
        exact .cons _ (.swap ..)
      · show (putF _ _ (putF _ _ (putF _ _ _))).lookup _ = _
        rw [lookup_putF, if_neg n1, lookup_putF, if_neg n2, lookup_putF, if_pos rfl]
      · show (putF _ _ (putF _ _ (putF _ _ _))).lookup _ = _
        rw [lookup_putF, if_neg n3, lookup_putF, if_pos rfl]
      · show (putF _ _ (putF _ _ (putF _ _ _))).lookup _ = _
        rw [lookup_putF, if_pos rfl]
      · show (putF _ _ (putF _ _ (putF _ _ _))).lookup _ = _
        rw [lookup_putF, if_neg (by decide +kernel), lookup_putF, if_neg (by decide +kernel), lookup_putF, if_neg (by decide +kernel)]
        rfl
    by_cases c : k = "repeat"
    · rw [decide_eq_true (show V.str k = V.str "repeat" by rw [c])]
      refine iteT ⟨(by show 0 ≤ sizeLine; decide), fun q1 hq1 => ⟨(by show 1 ≤ sizeLine; decide), fun bl hbl => ⟨_, rfl, ?_⟩⟩⟩
      have w2 := w1.new (o := .lst []) hq1
      have w3 := w2.new (o := .lst [.ref q1]) hbl
      exact fin bl [(q1, [])] _ (w3.perm (.trans (.cons _ (.swap ..)) (.swap ..))) (fun _ => ⟨q1, rfl⟩) (fun z => absurd c z)
    · rw [decide_eq_false (fun z => c (V.str.inj z))]
      refine iteF ⟨(by show 0 ≤ sizeLine; decide), fun bl hbl => ⟨_, rfl, ?_⟩⟩
      exact fin bl [] _ ((w1.new (o := .lst []) hbl).perm (.swap ..)) (fun z => absurd z c) (fun _ => rfl)
theorem scWhole : FnScope ["self"] ["self"] (defScope sWhole) := ⟨rfl, rfl, rfl, by decide +kernel, rfl, by decide +kernel, by decide +kernel⟩
theorem ok_whole (F : Fun K "whole" "Opened.whole" sWhole f fd) (T : OpC K CO) (mlist : mg "list" = none) (mz : mg "zip" = none) : FnOk P w K mg base CX0 1 f fd ["self"] (spWhole CO) := by
  refine F.ok scWhole (fun vs H Q E h => ?_) (fun cdv A outer s H vs Q E hr h => ?_)
  · obtain ⟨p, fr, S, L, rfl, _⟩ := h
    rfl
  · obtain ⟨p, fr, S, L, rfl, w, hf, hq, q⟩ := h
    refine ⟨_, (pss_cons (ps_if (pt_cmpR op_eq (pe_ix ix_tup (pe_fld (pv 0) rfl) pe_int (fun _ _ => rfl)) pe_str (nomark _)) (pss_one (ps_ret (pe_op op_catT (pe_fld (pv 0) rfl) (pe_tup (pa_cons (pe_ix ix_list (pe_fld (pv 0) rfl) pe_int (fun _ _ => rfl)) pa_nil))))) pss_nil)
      (pss_cons (ps_if (pt_cmpR op_eq (pe_ix ix_tup (pe_fld (pv 0) rfl) pe_int (fun _ _ => rfl)) pe_str (nomark _)) (pss_one (ps_ret (pe_op op_catT (pe_fld (pv 0) rfl) (pe_tup (pa_cons (pe_fld (pv 0) rfl) pa_nil))))) pss_nil)
      (pss_one (ps_ret (pe_op op_catT (pe_fld (pv 0) rfl) (pe_tup (pa_cons (pe_listZip rfl (by rfl) mlist (by rfl) mz (pa_cons (pe_fld (pv 0) rfl) (pa_cons (pe_fld (pv 0) rfl) pa_nil))) pa_nil))))))), ?_⟩
    have fs : p.Fs := by cases fr <;> exact hf.1
    have ef := w.at' (.head _)
    have eb := w.at' (.tail _ (.head _))
    have ec := w.at' (.tail _ (.tail _ (.head _)))
    cases fr with
    | rep n a b =>
      obtain ⟨_, hh, ⟨qa, xs⟩, eq, hb⟩ := hf
      have hT := SqT.of (K := K) (w.s _ _ hh)
      refine ⟨_, rfl, p.f, CO, p.dx, p.fs, _, rfl, ef, T.cl, T.n1, fs.h, p.hd, _, 0, _, rfl, rfl, hT, atI_nat (j := 0) rfl, rfl, _, rfl, iteT ?_⟩
      refine ⟨_, rfl, p.f, CO, p.dx, p.fs, _, rfl, ef, T.cl, T.n1, fs.h, _, rfl, p.f, CO, p.dx, p.fs, _, rfl, ef, T.cl, T.n2, fs.b, p.bl, _, 0, .ref qa, rfl, rfl, SqL.of eb, by rw [eq]; exact atI_nat (j := 0) rfl, (by show 1 ≤ sizeLine; decide), fun t1 h1 => ?_⟩
      have s1 := same_new h1 (.tup [.ref qa])
      refine ⟨p.hd, t1, _, _, rfl, rfl, SqT.of (s1 _ _ (w.s _ _ hh)), SqT.of upd_same, by simp, by show 4 ≤ sizeLine; decide, (fun z => by cases z), fun _ t3 h3 => ?_⟩
      have s3 := s1.trans (same_new h3 (.tup ([.str "repeat", .str n, kV a] ++ [.ref qa])))
      have w2 : Own S H ((qa, .lst xs) :: L) := by
        have := w.drop.drop.drop
        rw [eq] at this
        exact this
      obtain ⟨w3, g3⟩ := w2.give
      obtain ⟨S', w4, g4, m4⟩ := w3.more s3
      refine q t3 S' _ w4 (g3.trans g4) ?_
      simp only [Fr.whole, It.At]
      exact ⟨t3, qa, xs, rfl, m4 _ _ (s1.free h3) upd_same, .inr ⟨rfl, g4 _ _ upd_same⟩, hb.same (g3.trans g4)⟩
    | eit n bs =>
      obtain ⟨_, hh, hb, _⟩ := hf
      have hT := SqT.of (K := K) (w.s _ _ hh)
      refine ⟨_, rfl, p.f, CO, p.dx, p.fs, _, rfl, ef, T.cl, T.n1, fs.h, p.hd, _, 0, _, rfl, rfl, hT, atI_nat (j := 0) rfl, rfl, _, rfl, iteF ?_⟩
      refine ⟨_, rfl, p.f, CO, p.dx, p.fs, _, rfl, ef, T.cl, T.n1, fs.h, p.hd, _, 0, _, rfl, rfl, hT, atI_nat (j := 0) rfl, rfl, _, rfl, iteT ?_⟩
      refine ⟨_, rfl, p.f, CO, p.dx, p.fs, _, rfl, ef, T.cl, T.n1, fs.h, _, rfl, p.f, CO, p.dx, p.fs, _, rfl, ef, T.cl, T.n2, fs.b, (by show 1 ≤ sizeLine; decide), fun t1 h1 => ?_⟩
      have s1 := same_new h1 (.tup [.ref p.bl])
      refine ⟨p.hd, t1, _, _, rfl, rfl, SqT.of (s1 _ _ (w.s _ _ hh)), SqT.of upd_same, by simp, by show 3 ≤ sizeLine; decide, (fun z => by cases z), fun _ t3 h3 => ?_⟩
      have s3 := s1.trans (same_new h3 (.tup ([.str "either", .str n] ++ [.ref p.bl])))
      have w2 : Own S H (((p.bl, .lst (p.qs.map fun q => V.ref q.1)) :: p.qs.map fun q => (q.1, HO.lst q.2)) ++ L) := (w.drop.perm (.swap ..)).drop
      obtain ⟨S1, w3, g3, m3⟩ := w2.gives
      obtain ⟨S', w4, g4, m4⟩ := w3.more s3
      refine q t3 S' _ w4 (g3.trans g4) ?_
      simp only [Fr.whole, It.At]
      refine ⟨t3, p.bl, _, rfl, m4 _ _ (s1.free h3) upd_same, .inr ⟨rfl, g4 _ _ (m3 _ (.head _))⟩, BlkQ.atE (g3.trans g4) hb fun q hq => g4 _ _ (m3 (q.1, .lst q.2) (.tail _ (List.mem_map.mpr ⟨q, hq, rfl⟩)))⟩
    | swi n tg bs =>
      obtain ⟨_, hh, hb, hv⟩ := hf
      have hT := SqT.of (K := K) (w.s _ _ hh)
      refine ⟨_, rfl, p.f, CO, p.dx, p.fs, _, rfl, ef, T.cl, T.n1, fs.h, p.hd, _, 0, _, rfl, rfl, hT, atI_nat (j := 0) rfl, rfl, _, rfl, iteF ?_⟩
      refine ⟨_, rfl, p.f, CO, p.dx, p.fs, _, rfl, ef, T.cl, T.n1, fs.h, p.hd, _, 0, _, rfl, rfl, hT, atI_nat (j := 0) rfl, rfl, _, rfl, iteF ?_⟩
      have bl := hb.len
      have vl : bs.vals.length = bs.len := by
        have : ∀ b : Blks, b.vals.length = b.len := fun b => by
          let rec go : ∀ b : Blks, b.vals.length = b.len
            | .nil => rfl
            | .cons _ _ r => by simp [Blks.vals, Blks.len, go r]
          exact go b
        exact this bs
      refine ⟨_, rfl, p.f, CO, p.dx, p.fs, _, rfl, ef, T.cl, T.n1, fs.h, _, rfl, p.f, CO, p.dx, p.fs, _, rfl, ef, T.cl, T.n3, fs.c, _, rfl, p.f, CO, p.dx, p.fs, _, rfl, ef, T.cl, T.n2, fs.b, ?_⟩
      refine ⟨p.cs, p.bl, _, _, rfl, SqL.of ec, SqL.of eb, by rw [hv]; simp; omega, by rw [hv]; simp; omega, fun q2 H2 ps s2 nq hq2 pl za => ⟨(by show 1 ≤ sizeLine; decide), fun t1 h1 => ?_⟩⟩
      have s1 := s2.trans (same_new h1 (.tup [.ref q2]))
      refine ⟨p.hd, t1, _, _, rfl, rfl, SqT.of (s1 _ _ (w.s _ _ hh)), SqT.of upd_same, by simp, by show 4 ≤ sizeLine; decide, (fun z => by cases z), fun _ t3 h3 => ?_⟩
      have s3 := s1.trans (same_new h3 (.tup ([.str "switch", .str n, .str tg] ++ [.ref q2])))
      have s23 : Same H2 (upd (upd H2 t1 (.tup [.ref q2])) t3 (.tup ([.str "switch", .str n, .str tg] ++ [.ref q2]))) := (same_new h1 (.tup [.ref q2])).trans (same_new h3 (.tup ([.str "switch", .str n, .str tg] ++ [.ref q2])))
      have w2 : Own S H ((p.qs.map fun q => (q.1, HO.lst q.2)) ++ L) := w.drop.drop.drop
      obtain ⟨S1, w3, g3, m3⟩ := w2.gives
      obtain ⟨S', w4, g4, m4⟩ := w3.more s3
      refine q t3 S' _ w4 (g3.trans g4) ?_
      simp only [Fr.whole, It.At]
      refine ⟨t3, q2, ps, rfl, m4 _ _ (s1.free h3) upd_same, .inr ⟨rfl, m4 _ _ nq (s23 _ _ hq2)⟩, BlkQ.atS (g3.trans g4) hb (fun q hq => g4 _ _ (m3 (q.1, .lst q.2) (List.mem_map.mpr ⟨q, hq, rfl⟩))) (by rw [pl, hv, List.length_map, vl]) fun j v e => ?_⟩
      obtain ⟨T, x, y, e1, e2, e3, e0, e4⟩ := za j v e
      rw [hv] at e2
      exact ⟨T, x, y, e1, e2, e3, m4 _ _ e0 (s23 _ _ e4)⟩
end
end Bs

set_option Elab.async false
set_option linter.all false
set_option maxRecDepth 100000
set_option maxHeartbeats 4000000
namespace Bs
open PySem L2
/-! ### the builder in the heap -/
theorem Own.setMid {S H : Hp} {X Y : List (Addr × HO)} {a : Addr} {o o' : HO} (w : Own S H (X ++ (a, o) :: Y)) : Own S (upd H a o') (X ++ (a, o') :: Y) :=
  (w.perm List.perm_middle).set.perm List.perm_middle.symm
structure Bp where
  dx : Addr
  o : Addr
  s : Addr
  bf : List (Str × V)
  xs : List V
  ps : List Pc
def Bp.own (CB CO bd : Addr) (b : Bp) : List (Addr × HO) := (bd, .ins CB b.dx b.bf) :: (b.o, .lst b.xs) :: (b.s, .lst (b.ps.reverse.map fun p => V.ref p.f)) :: b.ps.flatMap (Pc.own CO)
structure BuAt (CB CO : Addr) (S H : Hp) (bd : Addr) (b : Bp) (st : Ms) : Prop where
  own : Own S H (b.own CB CO bd)
  out : st.out.At false S b.xs
  fr : Paired (fun f p => FrAt S f p) st.fr b.ps
  f1 : b.bf.lookup ("outermost" : Str) = some (.ref b.o)
  f2 : b.bf.lookup ("opened" : Str) = some (.ref b.s)
  f3 : b.bf.lookup ("take" : Str) = none
  f4 : b.bf.lookup ("_close" : Str) = none
  f5 : b.bf.lookup ("_begin_block" : Str) = none
/-- how long its lists are -/
def Blks.sz (m : Nat) : Blks → Prop
  | .nil => True
  | .cons _ b r => b.len ≤ m ∧ r.sz m
def Fr.sz (m : Nat) : Fr → Prop
  | .rep _ _ b => b.len ≤ m | .eit _ bs => bs.len ≤ m ∧ bs.sz m | .swi _ _ bs => bs.len ≤ m ∧ bs.sz m
def Ms.sz (m : Nat) (st : Ms) : Prop := st.out.len ≤ m ∧ ∀ f ∈ st.fr, f.sz m
theorem Blks.sz_mono {m n : Nat} (h : m ≤ n) : ∀ {bs : Blks}, bs.sz m → bs.sz n
  | .nil, _ => trivial
  | .cons _ b r, z => ⟨Nat.le_trans z.1 h, Blks.sz_mono h z.2⟩
theorem sz_last {m : Nat} {y : It} : ∀ {bs : Blks}, bs.sz m → (bs.addLast y).sz (m + 1)
  | .nil, _ => trivial
  | .cons w b .nil, z => ⟨by rw [snoc_len]; have := z.1; omega, trivial⟩
  | .cons w b (.cons c d r), z => ⟨Nat.le_succ_of_le z.1, sz_last z.2⟩
theorem len_last {y : It} : ∀ (bs : Blks), (bs.addLast y).len = bs.len
  | .nil => rfl
  | .cons w b .nil => rfl
  | .cons w b (.cons c d r) => by simp only [Blks.addLast, Blks.len, len_last (.cons c d r)]
theorem sz_snoc {m : Nat} {v : Int} : ∀ {bs : Blks}, bs.sz m → (bs.snoc v .nil).sz (m + 1)
  | .nil, _ => ⟨by simp [Its.len], trivial⟩
  | .cons w b r, z => ⟨Nat.le_succ_of_le z.1, sz_snoc z.2⟩
theorem Fr.sz_mono {m n : Nat} (h : m ≤ n) {f : Fr} (z : f.sz m) : f.sz n := by
  cases f with
  | rep => exact Nat.le_trans z h
  | eit => exact ⟨Nat.le_trans z.1 h, Blks.sz_mono h z.2⟩
  | swi => exact ⟨Nat.le_trans z.1 h, Blks.sz_mono h z.2⟩
theorem sz_add {m : Nat} {st : Ms} {y : It} (h : st.sz m) : (st.add y).sz (m + 1) := by
  obtain ⟨fr, out⟩ := st
  cases fr with
  | nil => exact ⟨by show (out.snoc y).len ≤ m + 1; rw [snoc_len]; have := h.1; show out.len + 1 ≤ m + 1; exact Nat.succ_le_succ this, fun f hf => by cases hf⟩
  | cons f r =>
    refine ⟨Nat.le_succ_of_le h.1, fun g hg => ?_⟩
    rcases List.mem_cons.mp hg with rfl | hg
    · have z := h.2 f (List.mem_cons_self ..)
      cases f with
      | rep n a b => show (b.snoc y).len ≤ m + 1; rw [snoc_len]; exact Nat.succ_le_succ z
      | eit n bs => exact ⟨by rw [len_last]; exact Nat.le_succ_of_le z.1, sz_last z.2⟩
      | swi n t bs => exact ⟨by rw [len_last]; exact Nat.le_succ_of_le z.1, sz_last z.2⟩
    · exact Fr.sz_mono (Nat.le_succ m) (h.2 g (List.mem_cons_of_mem _ hg))
theorem sz_step {st st' : Ms} {ws : List Str} {m : Nat} (s : Step st ws st') (h : st.sz m) : st'.sz (m + 1) := by
  have up : ∀ f ∈ st.fr, f.sz (m + 1) := fun f hf => Fr.sz_mono (Nat.le_succ m) (h.2 f hf)
  have ou := Nat.le_succ_of_le h.1
  cases s with
  | flat _ y => exact sz_add h
  | opnR n a => exact ⟨ou, fun f hf => (List.mem_cons.mp hf).elim (fun e => by rw [e]; simp [Fr.sz, Its.len]) (up f)⟩
  | opnE n => exact ⟨ou, fun f hf => (List.mem_cons.mp hf).elim (fun e => by rw [e]; simp [Fr.sz, Blks.len, Blks.sz]) (up f)⟩
  | opnS n t => exact ⟨ou, fun f hf => (List.mem_cons.mp hf).elim (fun e => by rw [e]; simp [Fr.sz, Blks.len, Blks.sz]) (up f)⟩
  | choice n bs r out v =>
    have z := h.2 _ (List.mem_cons_self ..)
    exact ⟨ou, fun f hf => (List.mem_cons.mp hf).elim (fun e => by rw [e]; exact ⟨by rw [snocB_len]; exact Nat.succ_le_succ z.1, sz_snoc z.2⟩) fun hf => up f (List.mem_cons_of_mem _ hf)⟩
  | case n t bs r out v =>
    have z := h.2 _ (List.mem_cons_self ..)
    exact ⟨ou, fun f hf => (List.mem_cons.mp hf).elim (fun e => by rw [e]; exact ⟨by rw [snocB_len]; exact Nat.succ_le_succ z.1, sz_snoc z.2⟩) fun hf => up f (List.mem_cons_of_mem _ hf)⟩
  | close f r out hs => exact sz_add ⟨h.1, fun g hg => h.2 g (List.mem_cons_of_mem _ hg)⟩
/-! ### the list that is written on -/
theorem BlkQ.cur {S : Hp} {m : Nat} : ∀ {bs : Blks} {l : List (Addr × List V)}, BlkQ S bs l → bs ≠ .nil → bs.sz m → ∃ l0 q, l = l0 ++ [q] ∧ q.2.length ≤ m ∧ ∀ (y : It) (v : V), y.At false S v → BlkQ S (bs.addLast y) (l0 ++ [(q.1, q.2 ++ [v])])
  | .nil, _, _, n, _ => absurd rfl n
  | .cons w b .nil, _, h, _, z => by
    obtain ⟨q, l', rfl, a, t⟩ := h
    cases t
    exact ⟨[], q, rfl, by rw [a.len]; exact z.1, fun y v hy => ⟨_, [], rfl, snoc_at a hy, rfl⟩⟩
  | .cons w b (.cons c d r), _, h, _, z => by
    obtain ⟨q, l', rfl, a, t⟩ := h
    obtain ⟨l0, q2, e, lm, k⟩ := BlkQ.cur t (by simp) z.2
    exact ⟨q :: l0, q2, by rw [e]; rfl, lm, fun y v hy => ⟨q, _, rfl, a, k y v hy⟩⟩
theorem FrAt.last {S : Hp} {f : Fr} {p : Pc} {m : Nat} (h : FrAt S f p) (hs : f.has) (z : f.sz m) : ∃ l0 q, p.qs = l0 ++ [q] ∧ q.2.length ≤ m ∧ ∀ (y : It) (v : V), y.At false S v → FrAt S (f.add y) { p with qs := l0 ++ [(q.1, q.2 ++ [v])] } := by
  cases f with
  | rep n a b =>
    obtain ⟨fs, hh, q, e, hb⟩ := h
    exact ⟨[], q, e, by rw [hb.len]; exact z, fun y v hy => ⟨⟨fs.1, fs.2, fs.3, fs.4⟩, hh, _, rfl, snoc_at hb hy⟩⟩
  | eit n bs =>
    obtain ⟨fs, hh, hb, hv⟩ := h
    obtain ⟨l0, q, e, lm, k⟩ := hb.cur hs z.2
    exact ⟨l0, q, e, lm, fun y v hy => ⟨⟨fs.1, fs.2, fs.3, fs.4⟩, hh, k y v hy, hv⟩⟩
  | swi n t bs =>
    obtain ⟨fs, hh, hb, hv⟩ := h
    obtain ⟨l0, q, e, lm, k⟩ := hb.cur hs z.2
    exact ⟨l0, q, e, lm, fun y v hy => ⟨⟨fs.1, fs.2, fs.3, fs.4⟩, hh, k y v hy, by rw [vals_addLast]; exact hv⟩⟩
/-- the outermost list is written on -/
theorem BuAt.addOut {CB CO bd : Addr} {S H : Hp} {b : Bp} {out : Its} {y : It} {v : V} (h : BuAt CB CO S H bd b ⟨[], out⟩) (hy : y.At false S v) : BuAt CB CO S (upd H b.o (.lst (b.xs ++ [v]))) bd { b with xs := b.xs ++ [v] } ⟨[], out.snoc y⟩ :=
  ⟨Own.setMid (X := [_]) h.own, snoc_at h.out hy, h.fr, h.f1, h.f2, h.f3, h.f4, h.f5⟩
/-- the innermost open list is written on -/
theorem BuAt.addIn {CB CO bd : Addr} {S H : Hp} {b : Bp} {f : Fr} {r : List Fr} {out : Its} {m : Nat} (h : BuAt CB CO S H bd b ⟨f :: r, out⟩) (hs : f.has) (z : f.sz m) : ∃ p pr l0 q, b.ps = p :: pr ∧ FrAt S f p ∧ p.qs = l0 ++ [q] ∧ q.2.length ≤ m ∧ H q.1 = some (.lst q.2) ∧
    ∀ (y : It) (v : V) H2, Same H H2 → y.At false S v → ∃ b', BuAt CB CO S (upd H2 q.1 (.lst (q.2 ++ [v]))) bd b' ⟨f.add y :: r, out⟩ := by
  obtain ⟨w, ho, hf, f1, f2, f3, f4, f5⟩ := h
  obtain ⟨dx, o, s, bf, xs, ps⟩ := b
  dsimp only at hf f1 f2 f3 f4 f5 ho
  cases hf with
  | @cons _ p _ pr hp ht =>
    obtain ⟨l0, q, e, lm, k⟩ := hp.last hs z
    have e1 : Bp.own CB CO bd ⟨dx, o, s, bf, xs, p :: pr⟩ = ((bd, .ins CB dx bf) :: (o, .lst xs) :: (s, .lst ((p :: pr).reverse.map fun p => V.ref p.f)) :: (p.f, .ins CO p.dx p.fs) :: (p.bl, .lst (p.qs.map fun q => V.ref q.1)) :: (p.cs, .lst p.cv) :: (l0.map fun q => (q.1, HO.lst q.2))) ++ (q.1, .lst q.2) :: pr.flatMap (Pc.own CO) := by
      simp [Bp.own, Pc.own, e]
    rw [e1] at w
    refine ⟨p, pr, l0, q, rfl, hp, e, lm, w.at' (by simp), fun y v H2 s2 hy => ⟨⟨dx, o, s, bf, xs, { p with qs := l0 ++ [(q.1, q.2 ++ [v])] } :: pr⟩, ?_, ho, .cons (k y v hy) ht, f1, f2, f3, f4, f5⟩⟩
    have w2 := (w.same s2).setMid (o' := .lst (q.2 ++ [v]))
    have e2 : Bp.own CB CO bd ⟨dx, o, s, bf, xs, { p with qs := l0 ++ [(q.1, q.2 ++ [v])] } :: pr⟩ = ((bd, .ins CB dx bf) :: (o, .lst xs) :: (s, .lst ((p :: pr).reverse.map fun p => V.ref p.f)) :: (p.f, .ins CO p.dx p.fs) :: (p.bl, .lst (p.qs.map fun q => V.ref q.1)) :: (p.cs, .lst p.cv) :: (l0.map fun q => (q.1, HO.lst q.2))) ++ (q.1, .lst (q.2 ++ [v])) :: pr.flatMap (Pc.own CO) := by
      simp [Bp.own, Pc.own, e]
    rw [e2]
    exact w2
end Bs

set_option Elab.async false
set_option linter.all false
set_option maxRecDepth 100000
set_option maxHeartbeats 8000000
namespace Bs
open PySem L2
abbrev sBuInit : Stmt := inClass (top 55) 0
abbrev sTake : Stmt := inClass (top 55) 1
abbrev sClose : Stmt := inClass (top 55) 2
abbrev sBegB : Stmt := inClass (top 55) 3
structure BuC (K : PySem.W.Frag) (C : Addr) : Prop where
  cl : Cls K C
  n1 : NoAttr K C "outermost"
  n2 : NoAttr K C "opened"
theorem paired_imp {α β : Type} {R Q : α → β → Prop} (h : ∀ a b, R a b → Q a b) : ∀ {l : List α} {r : List β}, Paired R l r → Paired Q l r
  | _, _, .nil => .nil
  | _, _, .cons a t => .cons (h _ _ a) (paired_imp h t)
/-- the blocks of what is open, or the outermost list alone -/
def tBlk (K : PySem.W.Frag) : TE := tIf (fun σ H Q => tFld K (tVar 0) "opened" σ H fun x H' => ∃ k, TruV K x H' k ∧ Q k H') (tFld K (tOp (rIxL K) (tFld K (tVar 0) "opened") (tUn (rU fun i => V.int (-i)) (tC (.int 1)))) "blocks") (tLst (tCons (tFld K (tVar 0) "outermost") tNil))
theorem rev_refs (p : Pc) (pr : List Pc) : ((p :: pr).reverse.map fun p => V.ref p.f) = (pr.reverse.map fun p => V.ref p.f) ++ [V.ref p.f] := by simp
theorem blk_go {K : PySem.W.Frag} {CB CO bd : Addr} {S H : Hp} {b : Bp} {st : Ms} {m : Nat} {σ : L2.St} {R : V → Hp → Prop} (TB : BuC K CB) (TO : OpC K CO) (h0 : σ[0]? = some (some (.ref bd))) (h : BuAt CB CO S H bd b st) (z : st.sz m)
    (h1 : ∀ (B q : Addr) (l0 : List V) (xs : List V) (H' : Hp), st.has → Same H H' → H' B = some (.lst (l0 ++ [.ref q])) → H' q = some (.lst xs) → xs.length ≤ m → (∀ (y : It) (v : V) H2, Same H H2 → y.At false S v → ∃ b', BuAt CB CO S (upd H2 q (.lst (xs ++ [v]))) bd b' (st.add y)) → R (.ref B) H')
    (h2 : ∀ (B : Addr), ¬ st.has → H B = some (.lst []) → R (.ref B) H) : tBlk K σ H R := by
  have hb := h.own.at' (.head _)
  have hs := h.own.at' (.tail _ (.tail _ (.head _)))
  have ho := h.own.at' (.tail _ (.head _))
  obtain ⟨fr, out⟩ := st
  cases fr with
  | nil =>
    have hps : b.ps = [] := by cases e : b.ps with
      | nil => rfl
      | cons p pr => have := h.fr; rw [e] at this; cases this
    rw [hps] at hs
    refine ⟨_, h0, bd, CB, b.dx, b.bf, _, rfl, hb, TB.cl, TB.n2, h.f2, false, .inl ⟨_, SqL.of hs, rfl⟩, iteF ?_⟩
    refine ⟨_, h0, bd, CB, b.dx, b.bf, _, rfl, hb, TB.cl, TB.n1, h.f1, (by show 1 ≤ sizeLine; decide), fun B hB => ?_⟩
    have s1 := same_new hB (.lst [.ref b.o])
    refine h1 B b.o [] b.xs _ trivial s1 upd_same (s1 _ _ ho) (by rw [h.out.len]; exact z.1) fun y v H2 s2 hy => ?_
    exact ⟨_, BuAt.addOut ⟨h.own.same s2, h.out, h.fr, h.f1, h.f2, h.f3, h.f4, h.f5⟩ hy⟩
  | cons f r =>
    by_cases hh : f.has
    · obtain ⟨p, pr, l0, q, ep, hp, eq, lm, hq, k⟩ := h.addIn hh (z.2 f (List.mem_cons_self ..))
      rw [ep, rev_refs] at hs
      have fp : p.Fs := by cases f <;> exact hp.1
      have hmem : ∀ a o, (a, o) ∈ p.own CO → H a = some o := fun a o hm => h.own.at' (by
        unfold Bp.own
        rw [ep, List.flatMap_cons]
        exact .tail _ (.tail _ (.tail _ (List.mem_append_left _ hm))))
      have hpf := hmem _ _ (.head _)
      have hpb := hmem _ _ (.tail _ (.head _))
      rw [eq, List.map_append] at hpb
      refine ⟨_, h0, bd, CB, b.dx, b.bf, _, rfl, hb, TB.cl, TB.n2, h.f2, true, .inl ⟨_, SqL.of hs, by simp⟩, iteT ?_⟩
      refine ⟨_, h0, bd, CB, b.dx, b.bf, _, rfl, hb, TB.cl, TB.n2, h.f2, _, rfl, b.s, _, -1, .ref p.f, rfl, rfl, SqL.of hs, atI_last _ _, p.f, CO, p.dx, p.fs, _, rfl, hpf, TO.cl, TO.n2, fp.b, ?_⟩
      exact h1 p.bl q.1 _ q.2 H hh (Same.refl H) hpb hq lm fun y v H2 s2 hy => k y v H2 s2 hy
    · obtain ⟨dx, o, s, bf, xs, ps⟩ := b
      obtain ⟨w, hout, hf, f1, f2, f3, f4, f5⟩ := h
      dsimp only at hf f1 f2 hs hb
      cases hf with
      | @cons _ p _ pr hp ht =>
        rw [rev_refs] at hs
        have fp : p.Fs := by cases f <;> exact hp.1
        have e0 : p.qs = [] := by
          cases f with
          | rep n a b => exact absurd trivial hh
          | eit n bs =>
            have : bs = .nil := Classical.byContradiction fun k => hh k
            subst this
            exact hp.2.2.1
          | swi n t bs =>
            have : bs = .nil := Classical.byContradiction fun k => hh k
            subst this
            exact hp.2.2.1
        have hmem : ∀ a o, (a, o) ∈ p.own CO → H a = some o := fun a o hm => w.at' (by
          unfold Bp.own
          rw [List.flatMap_cons]
          exact .tail _ (.tail _ (.tail _ (List.mem_append_left _ hm))))
        have hpf := hmem _ _ (.head _)
        have hpb := hmem _ _ (.tail _ (.head _))
        rw [e0] at hpb
        refine ⟨_, h0, bd, CB, dx, bf, _, rfl, hb, TB.cl, TB.n2, f2, true, .inl ⟨_, SqL.of hs, by simp⟩, iteT ?_⟩
        refine ⟨_, h0, bd, CB, dx, bf, _, rfl, hb, TB.cl, TB.n2, f2, _, rfl, s, _, -1, .ref p.f, rfl, rfl, SqL.of hs, atI_last _ _, p.f, CO, p.dx, p.fs, _, rfl, hpf, TO.cl, TO.n2, fp.b, ?_⟩
        exact h2 p.bl (fun k => hh k) hpb
section
variable {P : Program} {w : World} {K : PySem.W.Frag} {mg : Str → Option Value} {base : Heap} {f CB CO fW : Addr} {fd fdW : FuncData}
def spClose (CB CO : Addr) : Sp := fun vs H Q _ => ∃ (bd : Addr) (S : Hp) (b : Bp) (f : Fr) (r : List Fr) (out : Its) (m : Nat), vs = [.ref bd] ∧ BuAt CB CO S H bd b ⟨f :: r, out⟩ ∧ Ms.has ⟨r, out⟩ ∧ Ms.sz m ⟨f :: r, out⟩ ∧ m ≤ 900 ∧
  ∀ S' H' b', Same S S' → BuAt CB CO S' H' bd b' (Ms.add ⟨r, out⟩ f.whole) → Q (.bl true) H'
theorem scClose : FnScope ["self", "item", "blocks"] ["self"] (defScope sClose) := ⟨rfl, rfl, rfl, by decide +kernel, rfl, by decide +kernel, by decide +kernel⟩
theorem ok_close (F : Fun K "_close" "Builder._close" sClose f fd) (TB : BuC K CB) (TO : OpC K CO) (mW : Meth K CO "whole" fW) (GW : FnOk P w K mg base CX0 1 fW fdW ["self"] (spWhole CO)) (bW : Binds K fdW ["self"] []) : FnOk P w K mg base CX0 2 f fd ["self"] (spClose CB CO) := by
  refine F.ok scClose (fun vs H Q E h => ?_) (fun cdv A outer s H vs Q E hr h => ?_)
  · obtain ⟨bd, S, b, f, r, out, m, rfl, _⟩ := h
    rfl
  · obtain ⟨bd, S, b, f, r, out, m, rfl, w, hs, z, hm, q⟩ := h
    refine ⟨_, (pss_cons (ps_if (pt_not (pt_truth (pe_fld (pv 0) rfl) (fun _ => rfl))) (pss_one (ps_ret pe_bl)) pss_nil)
      (pss_cons (ps_set (i := 1) scClose.nd rfl (.inl rfl) (pe_meth0 (pe_bm0 PySem.F.plainAttrs_list PySem.F.slot_list_pop PySem.F.type_list_pop mt_pop (pe_fld (pv 0) rfl)) TO.cl mW GW hr bW .nil pass0))
      (pss_cons (ps_set (i := 2) scClose.nd rfl (.inl rfl) (show PE _ _ (tBlk K) from pe_ifExp (pt_truth (pe_fld (pv 0) rfl) (fun _ => rfl)) (pe_fld (pe_ix ix_list (pe_fld (pv 0) rfl) (pe_un un_neg pe_int) (fun _ _ => rfl)) rfl) (pe_lst (pa_cons (pe_fld (pv 0) rfl) pa_nil))))
      (pss_cons (ps_expr (pe_bm PySem.F.plainAttrs_list PySem.F.slot_list_append PySem.F.type_list_append mt_append (pe_ix ix_list (pv 2) (pe_un un_neg pe_int) (fun _ _ => rfl)) (pa_cons (pv 1) pa_nil)))
      (pss_one (ps_ret pe_bl)))))), ?_⟩
    obtain ⟨dx, o, s, bf, xs, ps⟩ := b
    obtain ⟨w, hout, hf, f1, f2, f3, f4, f5⟩ := w
    dsimp only at hf f1 f2 hout
    have hb := w.at' (.head _)
    have hl := w.at' (.tail _ (.tail _ (.head _)))
    cases hf with
    | @cons _ p _ pr hp ht =>
      dsimp only at hb hl
      rw [rev_refs] at hl
      refine ⟨_, rfl, bd, CB, dx, bf, _, rfl, hb, TB.cl, TB.n2, f2, true, .inl ⟨_, SqL.of hl, by simp⟩, iteF ?_⟩
      refine ⟨_, rfl, bd, CB, dx, bf, _, rfl, hb, TB.cl, TB.n2, f2, .inl ⟨rfl, _, SqL.of hl⟩, s, _, .ref p.f, rfl, rfl, hl, by simp, ?_⟩
      rw [List.dropLast_concat]
      have w1 := (w.perm (.trans (.cons _ (.swap ..)) (.swap ..))).set (o' := .lst (pr.reverse.map fun p => V.ref p.f))
      generalize upd H s (.lst (pr.reverse.map fun p => V.ref p.f)) = H1 at w1 ⊢
      have e1 : ((s, HO.lst (pr.reverse.map fun p => V.ref p.f)) :: (bd, HO.ins CB dx bf) :: (o, .lst xs) :: (p :: pr).flatMap (Pc.own CO)) = [(s, HO.lst (pr.reverse.map fun p => V.ref p.f)), (bd, HO.ins CB dx bf), (o, .lst xs)] ++ (p.own CO ++ pr.flatMap (Pc.own CO)) := rfl
      have w2 : Own S H1 (p.own CO ++ ([(s, HO.lst (pr.reverse.map fun p => V.ref p.f)), (bd, HO.ins CB dx bf), (o, .lst xs)] ++ pr.flatMap (Pc.own CO))) := by
        have w1' : Own S H1 ((s, HO.lst (pr.reverse.map fun p => V.ref p.f)) :: (bd, HO.ins CB dx bf) :: (o, .lst xs) :: (p :: pr).flatMap (Pc.own CO)) := w1
        rw [e1] at w1'
        exact w1'.perm (List.perm_append_comm_assoc _ _ _)
      have fp : p.Fs := by cases f <;> exact hp.1
      have pq : p.qs.length ≤ 1000 := by
        have zf := z.2 f (List.mem_cons_self ..)
        cases f with
        | rep n a b => obtain ⟨_, _, q, e, _⟩ := hp; rw [e]; show 1 ≤ 1000; decide
        | eit n bs => rw [hp.2.2.1.len]; have := zf.1; omega
        | swi n t bs => rw [hp.2.2.1.len]; have := zf.1; omega
      refine ⟨p.f, p.dx, p.fs, rfl, w2.at' (.head _), fp.w, p, f, S, _, rfl, w2, hp, pq, fun t S' H2 w3 s3 ha => ?_⟩
      have w4 : BuAt CB CO S' H2 bd ⟨dx, o, s, bf, xs, pr⟩ ⟨r, out⟩ := ⟨w3.perm (.trans (.swap ..) (.cons _ (.swap ..))), hout.same s3, paired_imp (fun _ _ h => FrAt.same s3 h) ht, f1, f2, f3, f4, f5⟩
      have z4 : Ms.sz m ⟨r, out⟩ := ⟨z.1, fun g hg => z.2 g (List.mem_cons_of_mem _ hg)⟩
      refine blk_go TB TO rfl w4 z4 (fun B q0 l0 xs0 H3 _ s4 hB hq lx k => ?_) (fun B nh => absurd hs nh)
      refine ⟨_, rfl, _, rfl, B, _, -1, .ref q0, rfl, rfl, SqL.of hB, atI_last _ _, .inl ⟨rfl, _, SqL.of hq⟩, _, rfl, q0, xs0, _, rfl, rfl, hq, small1000 (by omega), ?_⟩
      obtain ⟨b', hb'⟩ := k f.whole (.ref t) H3 s4 ha
      exact q S' _ b' s3 hb'
end
end Bs

set_option Elab.async false
set_option linter.all false
set_option maxRecDepth 100000
set_option maxHeartbeats 8000000
namespace Bs
open PySem L2
/-- BEGINNERS -/
def Begs (K : PySem.W.Frag) (w : World) (mg : Str → Option Value) : Prop := ∃ d es n, mg "BEGINNERS" = some (.ref d) ∧ KDict K w d es n ∧ (∃ t, PySem.W.nsIn K d "choice" = some (some (.str "either" t))) ∧ (∃ t, PySem.W.nsIn K d "case" = some (some (.str "switch" t))) ∧ ∀ x : It, PySem.W.nsIn K d x.kind = some none
inductive Beg : Ms → List V → Ms → Prop where
  | choice (n : Str) (bs : Blks) (r : List Fr) (out : Its) (v : Int) : Beg ⟨.eit n bs :: r, out⟩ [.str "choice"] ⟨.eit n (bs.snoc v .nil) :: r, out⟩
  | case (n t : Str) (bs : Blks) (r : List Fr) (out : Its) (v : Int) : Beg ⟨.swi n t bs :: r, out⟩ [.str "case", .int v] ⟨.swi n t (bs.snoc v .nil) :: r, out⟩
def spBegB (CB CO : Addr) : Sp := fun vs H Q _ => ∃ (bd pt : Addr) (S : Hp) (b : Bp) (st st' : Ms) (ws : List V) (m : Nat), vs = [.ref bd, .ref pt] ∧ BuAt CB CO S H bd b st ∧ S pt = some (.tup ws) ∧ Beg st ws st' ∧ st.sz m ∧ m ≤ 900 ∧
  ∀ S' H' b', Same S S' → BuAt CB CO S' H' bd b' st' → Q (.bl true) H'
theorem cut_one' (a : V) (r : List V) : cutV (a :: r) (some 1) none = r := by
  unfold cutV
  rw [HT.sIx_none, show (1 : Int) = ((1 : Nat) : Int) from rfl, HT.sIx_nat]
  simp
theorem ne_one (a : V) (r : List V) : ¬ (HT.sIx (a :: r).length 0 (some 1) = 0 ∧ HT.sIx (a :: r).length (a :: r).length none = (a :: r).length) := by
  rw [show (1 : Int) = ((1 : Nat) : Int) from rfl, HT.sIx_nat]
  simp only [List.length_cons]
  omega
section
variable {P : Program} {w : World} {K : PySem.W.Frag} {mg : Str → Option Value} {base : Heap} {f CB CO fW : Addr} {fd fdW : FuncData}
theorem scBegB : FnScope ["self", "parts"] ["self", "parts"] (defScope sBegB) := ⟨rfl, rfl, rfl, by decide +kernel, rfl, by decide +kernel, by decide +kernel⟩
theorem ok_begb (F : Fun K "_begin_block" "Builder._begin_block" sBegB f fd) (TB : BuC K CB) (TO : OpC K CO) (T : Begs K w mg) : FnOk P w K mg base CX0 1 f fd ["self", "parts"] (spBegB CB CO) := by
  refine F.ok scBegB (fun vs H Q E h => ?_) (fun cdv A outer s H vs Q E hr h => ?_)
  · obtain ⟨bd, pt, S, b, st, st', ws, m, rfl, _⟩ := h
    rfl
  · obtain ⟨bd, pt, S, b, st, st', ws, m, rfl, ba, hpt, bg, z, hm, q⟩ := h
    obtain ⟨d, es, n, gD, D, ⟨tE, nE⟩, ⟨tS, nS⟩, _⟩ := T
    refine ⟨_, (pss_cons (ps_if (PW.pt (pw_or (pt_not (pt_truth (pe_fld (pv 0) rfl) (fun _ => rfl))) (pw_or1 (pt_cmpR op_ne (pe_ix ix_tup (pe_fld (pe_ix ix_list (pe_fld (pv 0) rfl) (pe_un un_neg pe_int) (fun _ _ => rfl)) rfl) pe_int (fun _ _ => rfl)) (pe_ix ix_kdict (pe_glob (v := .ref d) (by rfl) gD rfl) (pe_ix ix_tup (pv 1) pe_int (fun _ _ => rfl)) (fun _ _ => rfl)) (nomark _))))) (pss_one (ps_ret pe_bl)) pss_nil)
      (pss_cons (ps_expr (pe_bm PySem.F.plainAttrs_list PySem.F.slot_list_append PySem.F.type_list_append mt_append (pe_fld (pe_ix ix_list (pe_fld (pv 0) rfl) (pe_un un_neg pe_int) (fun _ _ => rfl)) rfl) (pa_cons (pe_lst pa_nil) pa_nil)))
      (pss_cons (ps_expr (pe_bm PySem.F.plainAttrs_list PySem.F.slot_list_extend PySem.F.type_list_extend mt_extendT (pe_fld (pe_ix ix_list (pe_fld (pv 0) rfl) (pe_un un_neg pe_int) (fun _ _ => rfl)) rfl) (pa_cons (pe_slice sl_tup (pv 1) (po_some pe_int) po_none) pa_nil)))
      (pss_one (ps_ret pe_bl))))), ?_⟩
    obtain ⟨dx, o, s, bf, xs, ps⟩ := b
    obtain ⟨w, hout, hf, f1, f2, f3, f4, f5⟩ := ba
    dsimp only at hf f1 f2 hout
    have uni : ∃ (r : List Fr) (out : Its) (k key : Str) (u : Value) (tail rest : List V) (fr' : Fr) (p : Pc) (pr : List Pc), st.out = out ∧ st' = ⟨fr' :: r, out⟩ ∧ ws = .str key :: tail ∧ (∃ tt, u = .str k tt) ∧ PySem.W.nsIn K d key = some (some u) ∧ ps = p :: pr ∧ p.Fs ∧ S p.hd = some (.tup (.str k :: rest)) ∧ p.qs.length ≤ 900 ∧ p.cv.length ≤ 900 ∧ tail.length ≤ 1 ∧
        (∀ a, FrAt S fr' { p with qs := p.qs ++ [(a, [])], cv := p.cv ++ tail }) ∧ Paired (fun f p => FrAt S f p) r pr := by
      cases bg with
      | choice n bs r out v =>
        cases hf with
        | @cons _ p _ pr hp ht =>
          obtain ⟨fp, hh, hb, hv⟩ := hp
          have z1 := z.2 _ (List.mem_cons_self ..)
          refine ⟨r, out, "either", "choice", _, [], [.str n], .eit n (bs.snoc v .nil), p, pr, rfl, rfl, rfl, ⟨_, rfl⟩, nE, rfl, fp, hh, by rw [hb.len]; exact Nat.le_trans z1.1 hm, by rw [hv]; exact Nat.zero_le _, Nat.zero_le _, fun a => ⟨⟨fp.1, fp.2, fp.3, fp.4⟩, hh, hb.snoc, ?_⟩, ht⟩
          show p.cv ++ [] = []
          rw [hv]; rfl
      | case n t bs r out v =>
        cases hf with
        | @cons _ p _ pr hp ht =>
          obtain ⟨fp, hh, hb, hv⟩ := hp
          have z1 := z.2 _ (List.mem_cons_self ..)
          refine ⟨r, out, "switch", "case", _, [.int v], [.str n, .str t], .swi n t (bs.snoc v .nil), p, pr, rfl, rfl, rfl, ⟨_, rfl⟩, nS, rfl, fp, hh, by rw [hb.len]; exact Nat.le_trans z1.1 hm, ?_, Nat.le_refl 1, fun a => ⟨⟨fp.1, fp.2, fp.3, fp.4⟩, hh, hb.snoc, ?_⟩, ht⟩
          · rw [hv, List.length_map, vals_len]; exact Nat.le_trans z1.1 hm
          · show p.cv ++ [V.int v] = _
            rw [hv, snocB_vals, List.map_append]; rfl
    obtain ⟨r, out, k, key, u, tail, rest, fr', p, pr, e1, rfl, rfl, ⟨tt, rfl⟩, hk, rfl, fp, hhd, hq, hc, htl, hf', hpr⟩ := uni
    have hb := w.at' (.head _)
    have hl := w.at' (.tail _ (.tail _ (.head _)))
    dsimp only at hb hl
    rw [rev_refs] at hl
    have hmem : ∀ a o, (a, o) ∈ p.own CO → H a = some o := fun a o hm => w.at' (by
      unfold Bp.own
      rw [List.flatMap_cons]
      exact .tail _ (.tail _ (.tail _ (List.mem_append_left _ hm))))
    have hpf := hmem _ _ (.head _)
    have hpb := hmem _ _ (.tail _ (.head _))
    refine ⟨_, rfl, bd, CB, dx, bf, _, rfl, hb, TB.cl, TB.n2, f2, true, .inl ⟨_, SqL.of hl, by simp⟩, iteF ?_⟩
    refine ⟨_, rfl, bd, CB, dx, bf, _, rfl, hb, TB.cl, TB.n2, f2, _, rfl, s, _, -1, .ref p.f, rfl, rfl, SqL.of hl, atI_last _ _, p.f, CO, p.dx, p.fs, _, rfl, hpf, TO.cl, TO.n1, fp.h, p.hd, _, 0, _, rfl, rfl, SqT.of (w.s _ _ hhd), atI_nat (j := 0) rfl, ?_⟩
    refine ⟨_, rfl, pt, _, 0, _, rfl, rfl, SqT.of (w.s _ _ hpt), atI_nat (j := 0) rfl, d, key, .str k, rfl, rfl, ⟨es, n, _, D.at_, D.lit, hk, tt, rfl⟩, rfl, _, rfl, ?_⟩
    rw [decide_eq_true (show V.str k = V.str k from rfl)]
    refine iteF ?_
    -- the new block
    refine ⟨_, rfl, bd, CB, dx, bf, _, rfl, hb, TB.cl, TB.n2, f2, _, rfl, s, _, -1, .ref p.f, rfl, rfl, SqL.of hl, atI_last _ _, p.f, CO, p.dx, p.fs, _, rfl, hpf, TO.cl, TO.n2, fp.b, .inl ⟨rfl, _, SqL.of hpb⟩, (by show 0 ≤ sizeLine; decide), fun a ha => ?_⟩
    have w1 := w.new (o := .lst []) ha
    have sa := same_new ha (.lst [])
    refine ⟨p.bl, _, .ref a, rfl, rfl, sa _ _ hpb, small1000 (by rw [List.length_map]; omega), ?_⟩
    have w2 : Own S (upd (upd H a (.lst [])) p.bl (.lst ((p.qs.map fun q => V.ref q.1) ++ [.ref a]))) ([(a, .lst []), (bd, .ins CB dx bf), (o, .lst xs), (s, .lst ((p :: pr).reverse.map fun p => V.ref p.f)), (p.f, .ins CO p.dx p.fs)] ++ (p.bl, .lst ((p.qs.map fun q => V.ref q.1) ++ [.ref a])) :: (p.cs, .lst p.cv) :: ((p.qs.map fun q => (q.1, HO.lst q.2)) ++ pr.flatMap (Pc.own CO))) :=
      Own.setMid (X := [(a, .lst []), (bd, .ins CB dx bf), (o, .lst xs), (s, .lst ((p :: pr).reverse.map fun p => V.ref p.f)), (p.f, .ins CO p.dx p.fs)]) (Y := (p.cs, .lst p.cv) :: ((p.qs.map fun q => (q.1, HO.lst q.2)) ++ pr.flatMap (Pc.own CO))) w1
    generalize upd (upd H a (.lst [])) p.bl (.lst ((p.qs.map fun q => V.ref q.1) ++ [.ref a])) = H2 at w2 ⊢
    have hb2 := w2.at' (.tail _ (.head _))
    have hl2 := w2.at' (.tail _ (.tail _ (.tail _ (.head _))))
    have hf2 := w2.at' (.tail _ (.tail _ (.tail _ (.tail _ (.head _)))))
    have hc2 := w2.at' (.tail _ (.tail _ (.tail _ (.tail _ (.tail _ (.tail _ (.head _)))))))
    rw [rev_refs] at hl2
    refine ⟨_, rfl, bd, CB, dx, bf, _, rfl, hb2, TB.cl, TB.n2, f2, _, rfl, s, _, -1, .ref p.f, rfl, rfl, SqL.of hl2, atI_last _ _, p.f, CO, p.dx, p.fs, _, rfl, hf2, TO.cl, TO.n3, fp.c, .inl ⟨rfl, _, SqL.of hc2⟩, _, rfl, 1, rfl, pt, _, rfl, SqT.of (w2.s _ _ hpt), ne_one _ _, fun t1 h1 => ?_⟩
    have s1 := same_new h1 (.tup (cutV (V.str key :: tail) (some 1) none))
    have ht1 := upd_same (H := H2) (a := t1) (o := HO.tup (cutV (V.str key :: tail) (some 1) none))
    rw [cut_one'] at s1 ht1 ⊢
    refine ⟨p.cs, t1, p.cv, tail, rfl, rfl, s1 _ _ hc2, SqT.of ht1, le_line (by omega), ?_⟩
    have w3 := Own.setMid (X := [(a, .lst []), (bd, .ins CB dx bf), (o, .lst xs), (s, .lst ((p :: pr).reverse.map fun p => V.ref p.f)), (p.f, .ins CO p.dx p.fs), (p.bl, .lst ((p.qs.map fun q => V.ref q.1) ++ [.ref a]))]) (Y := (p.qs.map fun q => (q.1, HO.lst q.2)) ++ pr.flatMap (Pc.own CO)) (o' := .lst (p.cv ++ tail)) (w2.same s1)
    refine q S _ ⟨dx, o, s, bf, xs, { p with qs := p.qs ++ [(a, [])], cv := p.cv ++ tail } :: pr⟩ (Same.refl _) ⟨?_, e1 ▸ hout, .cons (hf' a) hpr, f1, f2, f3, f4, f5⟩
    have e5 : Bp.own CB CO bd ⟨dx, o, s, bf, xs, { p with qs := p.qs ++ [(a, [])], cv := p.cv ++ tail } :: pr⟩ = ([(bd, .ins CB dx bf), (o, .lst xs), (s, .lst ((p :: pr).reverse.map fun p => V.ref p.f)), (p.f, .ins CO p.dx p.fs), (p.bl, .lst ((p.qs.map fun q => V.ref q.1) ++ [.ref a])), (p.cs, .lst (p.cv ++ tail))] ++ p.qs.map fun q => (q.1, HO.lst q.2)) ++ (a, .lst []) :: pr.flatMap (Pc.own CO) := by
      simp [Bp.own, Pc.own]
    rw [e5]
    exact (w3.perm (by simp)).perm List.perm_middle.symm
end
end Bs

set_option Elab.async false
set_option linter.all false
set_option maxRecDepth 100000
set_option maxHeartbeats 8000000
namespace Bs
open PySem L2
theorem passE0 {X : Cx} {P : Program} {w : World} : Passes (L2.CX P w) X E0 := fun _ _ _ _ _ _ _ h => by
  obtain ⟨_, _, _, _, _, _, _, _, _, _, _, _, h⟩ := h
  exact h.elim
def spBuInit (CB CO : Addr) : Sp := fun vs H Q _ => ∃ (o dx : Addr) (S : Hp), vs = [.ref o] ∧ Own S H [(o, .ins CB dx [])] ∧ ∀ b H', BuAt CB CO S H' o b ⟨[], .nil⟩ → Q .non H'
def spTake (CB CO : Addr) : Sp := fun vs H Q _ => ∃ (bd pt : Addr) (S : Hp) (b : Bp) (st st' : Ms) (ws : List Str) (m : Nat), vs = [.ref bd, .ref pt] ∧ BuAt CB CO S H bd b st ∧ S pt = some (.tup (ws.map prt1)) ∧ Step st ws st' ∧ st.sz m ∧ m ≤ 900 ∧
  ∀ S' H' b', Same S S' → BuAt CB CO S' H' bd b' st' → Q (.bl true) H'
theorem prt_str {z : Str} (h : isIntWord z = false) : prt1 z = .str z := by unfold prt1; rw [h]; rfl
theorem prt_name {z : Str} (h : isName z = true) : prt1 z = .str z := prt_str (name_noint h)
theorem prt_int {i : Int} (h : 0 ≤ i ∧ i < 100000) : prt1 (iS i) = .int i := by
  obtain ⟨a, b⟩ := iS_word h.1 h.2
  unfold prt1
  rw [a, b]; rfl
theorem prt_k {a : Key} (h : kW a) : prt1 (kS a) = kV a := by
  cases a with
  | inl i => exact prt_int h
  | inr z => exact prt_name h
theorem prt_kw : prt1 "number" = .str "number" ∧ prt1 "bytes" = .str "bytes" ∧ prt1 "text" = .str "text" ∧ prt1 "repeat" = .str "repeat" ∧ prt1 "either" = .str "either" ∧ prt1 "switch" = .str "switch" ∧ prt1 "check" = .str "check" ∧ prt1 "pad" = .str "pad" ∧ prt1 "end" = .str "end" ∧ prt1 "choice" = .str "choice" ∧ prt1 "case" = .str "case" ∧ prt1 "big" = .str "big" ∧ prt1 "little" = .str "little" :=
  ⟨prt_str (by decide +kernel), prt_str (by decide +kernel), prt_str (by decide +kernel), prt_str (by decide +kernel), prt_str (by decide +kernel), prt_str (by decide +kernel), prt_str (by decide +kernel), prt_str (by decide +kernel), prt_str (by decide +kernel), prt_str (by decide +kernel), prt_str (by decide +kernel), prt_str (by decide +kernel), prt_str (by decide +kernel)⟩
/-- a flat item's words, read -/
theorem flat_words {fz : Bool} {H : Hp} {p : Addr} {y : It} (hb : y.blocky = false) (hd : y.hd) (h : H p = some (.tup (y.words.map prt1))) : y.At fz H (.ref p) ∧ ∃ rest, y.words.map prt1 = .str y.kind :: rest := by
  obtain ⟨k1, k2, k3, k4, k5, k6, k7, k8, k9, k10, k11, k12, k13⟩ := prt_kw
  cases y with
  | num n s o lo hi =>
    obtain ⟨hn, hs, ho, hlo, hhi⟩ := hd
    have ho : prt1 o = .str o := by rcases ho with rfl | rfl <;> assumption
    simp only [It.words, List.map_cons, List.map_nil, k1, prt_name hn, prt_int hs, ho, prt_int hlo, prt_int hhi] at h ⊢
    exact ⟨by simp only [It.At]; exact ⟨p, rfl, h⟩, _, rfl⟩
  | byt n a =>
    obtain ⟨hn, ha⟩ := hd
    simp only [It.words, List.map_cons, List.map_nil, k2, prt_name hn, prt_k ha] at h ⊢
    exact ⟨by simp only [It.At]; exact ⟨p, rfl, h⟩, _, rfl⟩
  | txt n s m =>
    obtain ⟨hn, hs, hm⟩ := hd
    simp only [It.words, List.map_cons, List.map_nil, k3, prt_name hn, prt_int hs, prt_int hm] at h ⊢
    exact ⟨by simp only [It.At]; exact ⟨p, rfl, h⟩, _, rfl⟩
  | chk n m =>
    obtain ⟨hn, hm⟩ := hd
    simp only [It.words, List.map_cons, List.map_nil, k7, prt_name hn, prt_int hm] at h ⊢
    exact ⟨by simp only [It.At]; exact ⟨p, rfl, h⟩, _, rfl⟩
  | pad n m b =>
    obtain ⟨hn, hm, hb2⟩ := hd
    simp only [It.words, List.map_cons, List.map_nil, k8, prt_name hn, prt_int hm, prt_int hb2] at h ⊢
    exact ⟨by simp only [It.At]; exact ⟨p, rfl, h⟩, _, rfl⟩
  | _ => cases hb
section
variable {P : Program} {w : World} {K : PySem.W.Frag} {mg : Str → Option Value} {base : Heap} {f CB CO fC fG fO : Addr} {fd fdC fdG fdO : FuncData}
theorem scBuInit : FnScope ["self"] ["self"] (defScope sBuInit) := ⟨rfl, rfl, rfl, by decide +kernel, rfl, by decide +kernel, by decide +kernel⟩
theorem ok_buinit (F : Fun K "__init__" "Builder.__init__" sBuInit f fd) (TB : BuC K CB) : FnOk P w K mg base CX0 1 f fd ["self"] (spBuInit CB CO) := by
  refine F.ok scBuInit (fun vs H Q E h => ?_) (fun cdv A outer s H vs Q E hr h => ?_)
  · obtain ⟨o, dx, S, rfl, _⟩ := h
    rfl
  · obtain ⟨o, dx, S, rfl, w, q⟩ := h
    refine ⟨_, (pss_cons (ps_fld (pv 0) (pe_lst pa_nil) rfl)
      (pss_one (ps_fld (pv 0) (pe_lst pa_nil) rfl))), ?_⟩
    refine ⟨(by show 0 ≤ sizeLine; decide), fun l1 h1 => ?_⟩
    have w1 := (w.new (o := .lst []) h1).perm (.swap ..)
    refine ⟨_, rfl, o, CB, dx, _, rfl, w1.at' (.head _), TB.cl, TB.n1, (by decide), ?_⟩
    have w2 := w1.set (o' := .ins CB dx (putF "outermost" (.ref l1) []))
    generalize upd (upd H l1 (.lst [])) o (.ins CB dx (putF "outermost" (.ref l1) [])) = H2 at w2 ⊢
    refine ⟨(by show 0 ≤ sizeLine; decide), fun l2 h2 => ?_⟩
    have w3 := (w2.new (o := .lst []) h2).perm (.swap ..)
    refine ⟨_, rfl, o, CB, dx, _, rfl, w3.at' (.head _), TB.cl, TB.n2, Nat.lt_of_le_of_lt (putF_len _ _ _) (by decide), ?_⟩
    have w4 := w3.set (o' := .ins CB dx (putF "opened" (.ref l2) (putF "outermost" (.ref l1) [])))
    refine q ⟨dx, l1, l2, putF "opened" (.ref l2) (putF "outermost" (.ref l1) []), [], []⟩ _ ⟨w4.perm (.cons _ (.swap ..)), by simp only [Its.At], .nil, ?_, ?_, ?_, ?_, ?_⟩
    · show (putF _ _ (putF _ _ _)).lookup _ = _
      rw [lookup_putF, if_neg (by decide +kernel), lookup_putF, if_pos rfl]
    · show (putF _ _ (putF _ _ _)).lookup _ = _
      rw [lookup_putF, if_pos rfl]
    all_goals
      show (putF _ _ (putF _ _ _)).lookup _ = _
      rw [lookup_putF, if_neg (by decide +kernel), lookup_putF, if_neg (by decide +kernel)]
      rfl
theorem scTake : FnScope ["self", "parts", "blocks"] ["self", "parts"] (defScope sTake) := ⟨rfl, rfl, rfl, by decide +kernel, rfl, by decide +kernel, by decide +kernel⟩
theorem ok_take (F : Fun K "take" "Builder.take" sTake f fd) (TB : BuC K CB) (TO : OpC K CO) (T : Begs K w mg) (O : Opens K mg) (gM : GInt mg "MOST_OPEN" 3) (ml : mg "len" = none) (mC : Meth K CB "_close" fC) (GC : FnOk P w K mg base CX0 2 fC fdC ["self"] (spClose CB CO)) (bC : Binds K fdC ["self"] [])
    (mG : Meth K CB "_begin_block" fG) (GG : FnOk P w K mg base CX0 1 fG fdG ["self", "parts"] (spBegB CB CO)) (bG : Binds K fdG ["self", "parts"] []) (MO : Mk K CO fO) (GO : FnOk P w K mg base CX0 1 fO fdO ["self", "head"] (spOpInit CO)) (bO : Binds K fdO ["self", "head"] []) (gOp : mg "Opened" = some (.ref CO)) :
    FnOk P w K mg base CX0 3 f fd ["self", "parts"] (spTake CB CO) := by
  refine F.ok scTake (fun vs H Q E h => ?_) (fun cdv A outer s H vs Q E hr h => ?_)
  · obtain ⟨bd, pt, S, b, st, st', ws, m, rfl, _⟩ := h
    rfl
  · obtain ⟨bd, pt, S, b, st, st', ws, m, rfl, ba, hpt, hst, z, hm, q⟩ := h
    obtain ⟨d, es, n, gD, D, ⟨tE, nE⟩, ⟨tS, nS⟩, nK⟩ := T
    obtain ⟨aO, gO, hO⟩ := O
    have hr1 : Room 1 _ := hr.mono (by omega)
    refine ⟨_, (pss_cons (ps_if (pt_cmpR op_eq (pe_ix ix_tup (pv 1) pe_int (fun _ _ => rfl)) pe_str (nomark _)) (pss_one (ps_ret (pe_meth0 (pv 0) TB.cl mC GC hr bC .nil pass0))) pss_nil)
      (pss_cons (ps_if (pt_cmpR (op_in_kd D) (pe_ix ix_tup (pv 1) pe_int (fun _ _ => rfl)) (pe_glob (v := .ref d) (by rfl) gD rfl) (by rfl)) (pss_one (ps_ret (pe_meth (pv 0) TB.cl mG GG hr1 bG .nil pass0 (pa_cons (pv 1) pa_nil)))) pss_nil)
      (pss_cons (ps_set (i := 2) scTake.nd rfl (.inl rfl) (show PE _ _ (tBlk K) from pe_ifExp (pt_truth (pe_fld (pv 0) rfl) (fun _ => rfl)) (pe_fld (pe_ix ix_list (pe_fld (pv 0) rfl) (pe_un un_neg pe_int) (fun _ _ => rfl)) rfl) (pe_lst (pa_cons (pe_fld (pv 0) rfl) pa_nil))))
      (pss_cons (ps_if (pt_not (pt_truth (pv 2) (fun _ => rfl))) (pss_one (ps_ret pe_bl)) pss_nil)
      (pss_cons (ps_if (pt_cmpR op_notIn_seq (pe_ix ix_tup (pv 1) pe_int (fun _ _ => rfl)) (pe_glob (v := .ref aO) (by rfl) gO rfl) (by rfl)) (pss_cons (ps_expr (pe_bm PySem.F.plainAttrs_list PySem.F.slot_list_append PySem.F.type_list_append mt_append (pe_ix ix_list (pv 2) (pe_un un_neg pe_int) (fun _ _ => rfl)) (pa_cons (pv 1) pa_nil)))
      (pss_one (ps_ret pe_bl))) pss_nil)
      (pss_cons (ps_if (pt_cmpR op_eq (pe_callB call_len (by rfl) ml boot_len (pa_cons (pe_fld (pv 0) rfl) pa_nil)) (pe_gint gM rfl) (nomark _)) (pss_one (ps_ret pe_bl)) pss_nil)
      (pss_cons (ps_expr (pe_bm PySem.F.plainAttrs_list PySem.F.slot_list_append PySem.F.type_list_append mt_append (pe_fld (pv 0) rfl) (pa_cons (pe_make MO GO hr (by rfl) gOp bO .nil pass0 (pa_cons (pv 1) pa_nil)) pa_nil)))
      (pss_one (ps_ret pe_bl))))))))), ?_⟩
    have hb := ba.own.at' (.head _)
    have hT := SqT.of (K := K) (ba.own.s _ _ hpt)
    have kne2 : ∀ {a b : Str}, a ≠ b → ¬ decide (V.str a = V.str b) = true := fun h k => h (V.str.inj (of_decide_eq_true k))
    obtain ⟨k1, k2, k3, k4, k5, k6, k7, k8, k9, k10, k11, k12, k13⟩ := prt_kw
    cases hst with
    | close f r out hs =>
      simp only [List.map_cons, List.map_nil, k9] at hpt hT
      refine ⟨_, rfl, pt, _, 0, _, rfl, rfl, hT, atI_nat (j := 0) rfl, rfl, _, rfl, iteT ?_⟩
      exact ⟨_, rfl, bd, b.dx, b.bf, rfl, hb, ba.f4, bd, S, b, f, r, out, m, rfl, ba, hs, z, hm, q⟩
    | choice n0 bs r out v =>
      simp only [List.map_cons, List.map_nil, k10] at hpt hT
      refine ⟨_, rfl, pt, _, 0, _, rfl, rfl, hT, atI_nat (j := 0) rfl, rfl, _, rfl, ite2 (fun e => absurd e (kne2 (by decide +kernel))) (fun _ => ?_)⟩
      refine ⟨_, rfl, pt, _, 0, _, rfl, rfl, hT, atI_nat (j := 0) rfl, "choice", _, rfl, rfl, nE, _, rfl, iteT ?_⟩
      exact ⟨_, rfl, bd, b.dx, b.bf, rfl, hb, ba.f5, _, rfl, bd, pt, S, b, _, _, _, m, rfl, ba, hpt, .choice n0 bs r out v, z, hm, q⟩
    | case n0 t bs r out v v0 v1 =>
      simp only [List.map_cons, List.map_nil, k11, prt_int ⟨v0, v1⟩] at hpt hT
      refine ⟨_, rfl, pt, _, 0, _, rfl, rfl, hT, atI_nat (j := 0) rfl, rfl, _, rfl, ite2 (fun e => absurd e (kne2 (by decide +kernel))) (fun _ => ?_)⟩
      refine ⟨_, rfl, pt, _, 0, _, rfl, rfl, hT, atI_nat (j := 0) rfl, "case", _, rfl, rfl, nS, _, rfl, iteT ?_⟩
      exact ⟨_, rfl, bd, b.dx, b.bf, rfl, hb, ba.f5, _, rfl, bd, pt, S, b, _, _, _, m, rfl, ba, hpt, .case n0 t bs r out v, z, hm, q⟩
    | flat _ y hbk hd hs =>
      obtain ⟨hy, rest, er⟩ := flat_words (fz := false) hbk hd hpt
      rw [er] at hT
      refine ⟨_, rfl, pt, _, 0, _, rfl, rfl, hT, atI_nat (j := 0) rfl, rfl, _, rfl, ite2 (fun e => absurd e (kne2 (by cases y <;> simp only [It.kind] <;> decide +kernel))) (fun _ => ?_)⟩
      refine ⟨_, rfl, pt, _, 0, _, rfl, rfl, hT, atI_nat (j := 0) rfl, y.kind, _, rfl, rfl, nK y, _, rfl, iteF ?_⟩
      refine blk_go TB TO rfl ba z (fun B q0 l0 xs0 H' _ s' hB hq lx k => ?_) (fun B nh => absurd hs nh)
      refine ⟨_, rfl, true, .inl ⟨_, SqL.of hB, by simp⟩, iteF ?_⟩
      have hT' := SqT.of (K := K) (s' _ _ (ba.own.s _ _ hpt))
      rw [er] at hT'
      refine ⟨_, rfl, pt, _, 0, _, rfl, rfl, hT', atI_nat (j := 0) rfl, aO, _, rfl, .inr (hO _), rfl, rfl, _, rfl, ?_⟩
      rw [blocky_in, hbk]
      refine iteT ?_
      refine ⟨_, rfl, _, rfl, B, _, -1, .ref q0, rfl, rfl, SqL.of hB, atI_last _ _, .inl ⟨rfl, _, SqL.of hq⟩, _, rfl, q0, xs0, _, rfl, rfl, hq, small1000 (by omega), ?_⟩
      obtain ⟨b', hb'⟩ := k y (.ref pt) H' s' hy
      exact q S _ b' (Same.refl _) hb'
    | opnR _ n0 a hn ha hs hf3 =>
      simp only [List.map_cons, List.map_nil, k4, prt_name hn, prt_k ha] at hpt hT
      have hnK : PySem.W.nsIn K d "repeat" = some none := nK (.rep n0 a .nil)
      refine ⟨_, rfl, pt, _, 0, _, rfl, rfl, hT, atI_nat (j := 0) rfl, rfl, _, rfl, ite2 (fun e => absurd e (kne2 (by decide +kernel))) (fun _ => ?_)⟩
      refine ⟨_, rfl, pt, _, 0, _, rfl, rfl, hT, atI_nat (j := 0) rfl, "repeat", _, rfl, rfl, hnK, _, rfl, iteF ?_⟩
      refine blk_go TB TO rfl ba z (fun B q0 l0 xs0 H' _ s' hB hq lx k => ?_) (fun B nh => absurd hs nh)
      refine ⟨_, rfl, true, .inl ⟨_, SqL.of hB, by simp⟩, iteF ?_⟩
      have hT' := SqT.of (K := K) (s' _ _ (ba.own.s _ _ hpt))
      refine ⟨_, rfl, pt, _, 0, _, rfl, rfl, hT', atI_nat (j := 0) rfl, aO, _, rfl, .inr (hO _), rfl, rfl, _, rfl, ?_⟩
      rw [show inV (V.str "repeat") [.str "repeat", .str "either", .str "switch"] = true from by decide +kernel]
      refine iteF ?_
      obtain ⟨dx, o, s, bf, xs, ps⟩ := b
      obtain ⟨w, hout, hf, f1, f2, f3, f4, f5⟩ := ba
      dsimp only at hf f1 f2 hout
      have w' := w.same s'
      have hb' := w'.at' (.head _)
      have hl' := w'.at' (.tail _ (.tail _ (.head _)))
      have pl : ps.length = st.fr.length := (Paired.length hf).symm
      dsimp only at hb' hl'
      refine ⟨_, rfl, bd, CB, dx, bf, _, rfl, hb', TB.cl, TB.n2, f2, _, _, rfl, .inl ⟨_, SqL.of hl', rfl⟩, rfl, _, rfl, ?_⟩
      rw [decide_eq_false (fun e => by have e := V.int.inj e; simp at e; omega)]
      refine iteF ?_
      refine ⟨_, rfl, bd, CB, dx, bf, _, rfl, hb', TB.cl, TB.n2, f2, .inl ⟨rfl, _, SqL.of hl'⟩, _, rfl, fun o1 dx1 no ndx nex => ?_⟩
      have w1 := (w'.same (same_new ndx (.own o1))).new (a := o1) (o := .ins CO dx1 []) (by rw [upd_ne (Ne.symm nex)]; exact no)
      refine ⟨o1, pt, dx1, S, _, "repeat", _, rfl, w1, hpt, fun p H2 pf pdx phd w2 fp q1 q2 q3 => ⟨rfl, ?_⟩⟩
      have hs2 := w2.at' (a := s) (o := .lst (ps.reverse.map fun p => V.ref p.f)) (List.mem_append_right _ (.tail _ (.tail _ (.head _))))
      refine ⟨s, _, .ref o1, rfl, rfl, hs2, small1000 (by simp; omega), ?_⟩
      have w3 := Own.setMid (X := p.own CO ++ [(bd, .ins CB dx bf), (o, .lst xs)]) (Y := ps.flatMap (Pc.own CO)) (o' := .lst ((ps.reverse.map fun p => V.ref p.f) ++ [.ref o1])) (by simpa [Bp.own] using w2)
      refine q S _ ⟨dx, o, s, bf, xs, p :: ps⟩ (Same.refl _) ⟨?_, hout, .cons ?_ hf, f1, f2, f3, f4, f5⟩
      · have e5 : Bp.own CB CO bd ⟨dx, o, s, bf, xs, p :: ps⟩ = [(bd, .ins CB dx bf), (o, .lst xs), (s, .lst ((ps.reverse.map fun p => V.ref p.f) ++ [.ref p.f]))] ++ (p.own CO ++ ps.flatMap (Pc.own CO)) := by
          simp [Bp.own]
        rw [e5, pf]
        refine Own.perm ?_ (List.perm_append_comm_assoc _ _ _)
        simpa using w3
      · obtain ⟨q9, e9⟩ := q1 rfl
        exact ⟨fp, by rw [phd]; exact hpt, _, e9, by simp only [Its.At]⟩
    | opnE _ n0 hn hs hf3 =>
      simp only [List.map_cons, List.map_nil, k5, prt_name hn] at hpt hT
      have hnK : PySem.W.nsIn K d "either" = some none := nK (.eit n0 .nil)
      refine ⟨_, rfl, pt, _, 0, _, rfl, rfl, hT, atI_nat (j := 0) rfl, rfl, _, rfl, ite2 (fun e => absurd e (kne2 (by decide +kernel))) (fun _ => ?_)⟩
      refine ⟨_, rfl, pt, _, 0, _, rfl, rfl, hT, atI_nat (j := 0) rfl, "either", _, rfl, rfl, hnK, _, rfl, iteF ?_⟩
      refine blk_go TB TO rfl ba z (fun B q0 l0 xs0 H' _ s' hB hq lx k => ?_) (fun B nh => absurd hs nh)
      refine ⟨_, rfl, true, .inl ⟨_, SqL.of hB, by simp⟩, iteF ?_⟩
      have hT' := SqT.of (K := K) (s' _ _ (ba.own.s _ _ hpt))
      refine ⟨_, rfl, pt, _, 0, _, rfl, rfl, hT', atI_nat (j := 0) rfl, aO, _, rfl, .inr (hO _), rfl, rfl, _, rfl, ?_⟩
      rw [show inV (V.str "either") [.str "repeat", .str "either", .str "switch"] = true from by decide +kernel]
      refine iteF ?_
      obtain ⟨dx, o, s, bf, xs, ps⟩ := b
      obtain ⟨w, hout, hf, f1, f2, f3, f4, f5⟩ := ba
      dsimp only at hf f1 f2 hout
      have w' := w.same s'
      have hb' := w'.at' (.head _)
      have hl' := w'.at' (.tail _ (.tail _ (.head _)))
      have pl : ps.length = st.fr.length := (Paired.length hf).symm
      dsimp only at hb' hl'
      refine ⟨_, rfl, bd, CB, dx, bf, _, rfl, hb', TB.cl, TB.n2, f2, _, _, rfl, .inl ⟨_, SqL.of hl', rfl⟩, rfl, _, rfl, ?_⟩
      rw [decide_eq_false (fun e => by have e := V.int.inj e; simp at e; omega)]
      refine iteF ?_
      refine ⟨_, rfl, bd, CB, dx, bf, _, rfl, hb', TB.cl, TB.n2, f2, .inl ⟨rfl, _, SqL.of hl'⟩, _, rfl, fun o1 dx1 no ndx nex => ?_⟩
      have w1 := (w'.same (same_new ndx (.own o1))).new (a := o1) (o := .ins CO dx1 []) (by rw [upd_ne (Ne.symm nex)]; exact no)
      refine ⟨o1, pt, dx1, S, _, "either", _, rfl, w1, hpt, fun p H2 pf pdx phd w2 fp q1 q2 q3 => ⟨rfl, ?_⟩⟩
      have hs2 := w2.at' (a := s) (o := .lst (ps.reverse.map fun p => V.ref p.f)) (List.mem_append_right _ (.tail _ (.tail _ (.head _))))
      refine ⟨s, _, .ref o1, rfl, rfl, hs2, small1000 (by simp; omega), ?_⟩
      have w3 := Own.setMid (X := p.own CO ++ [(bd, .ins CB dx bf), (o, .lst xs)]) (Y := ps.flatMap (Pc.own CO)) (o' := .lst ((ps.reverse.map fun p => V.ref p.f) ++ [.ref o1])) (by simpa [Bp.own] using w2)
      refine q S _ ⟨dx, o, s, bf, xs, p :: ps⟩ (Same.refl _) ⟨?_, hout, .cons ?_ hf, f1, f2, f3, f4, f5⟩
      · have e5 : Bp.own CB CO bd ⟨dx, o, s, bf, xs, p :: ps⟩ = [(bd, .ins CB dx bf), (o, .lst xs), (s, .lst ((ps.reverse.map fun p => V.ref p.f) ++ [.ref p.f]))] ++ (p.own CO ++ ps.flatMap (Pc.own CO)) := by
          simp [Bp.own]
        rw [e5, pf]
        refine Own.perm ?_ (List.perm_append_comm_assoc _ _ _)
        simpa using w3
      · have e9 := q2 (by decide +kernel)
        exact ⟨fp, by rw [phd]; exact hpt, by rw [e9]; rfl, q3⟩
    | opnS _ n0 t hn ht hs hf3 =>
      simp only [List.map_cons, List.map_nil, k6, prt_name hn, prt_name ht] at hpt hT
      have hnK : PySem.W.nsIn K d "switch" = some none := nK (.swi n0 t .nil)
      refine ⟨_, rfl, pt, _, 0, _, rfl, rfl, hT, atI_nat (j := 0) rfl, rfl, _, rfl, ite2 (fun e => absurd e (kne2 (by decide +kernel))) (fun _ => ?_)⟩
      refine ⟨_, rfl, pt, _, 0, _, rfl, rfl, hT, atI_nat (j := 0) rfl, "switch", _, rfl, rfl, hnK, _, rfl, iteF ?_⟩
      refine blk_go TB TO rfl ba z (fun B q0 l0 xs0 H' _ s' hB hq lx k => ?_) (fun B nh => absurd hs nh)
      refine ⟨_, rfl, true, .inl ⟨_, SqL.of hB, by simp⟩, iteF ?_⟩
      have hT' := SqT.of (K := K) (s' _ _ (ba.own.s _ _ hpt))
      refine ⟨_, rfl, pt, _, 0, _, rfl, rfl, hT', atI_nat (j := 0) rfl, aO, _, rfl, .inr (hO _), rfl, rfl, _, rfl, ?_⟩
      rw [show inV (V.str "switch") [.str "repeat", .str "either", .str "switch"] = true from by decide +kernel]
      refine iteF ?_
      obtain ⟨dx, o, s, bf, xs, ps⟩ := b
      obtain ⟨w, hout, hf, f1, f2, f3, f4, f5⟩ := ba
      dsimp only at hf f1 f2 hout
      have w' := w.same s'
      have hb' := w'.at' (.head _)
      have hl' := w'.at' (.tail _ (.tail _ (.head _)))
      have pl : ps.length = st.fr.length := (Paired.length hf).symm
      dsimp only at hb' hl'
      refine ⟨_, rfl, bd, CB, dx, bf, _, rfl, hb', TB.cl, TB.n2, f2, _, _, rfl, .inl ⟨_, SqL.of hl', rfl⟩, rfl, _, rfl, ?_⟩
      rw [decide_eq_false (fun e => by have e := V.int.inj e; simp at e; omega)]
      refine iteF ?_
      refine ⟨_, rfl, bd, CB, dx, bf, _, rfl, hb', TB.cl, TB.n2, f2, .inl ⟨rfl, _, SqL.of hl'⟩, _, rfl, fun o1 dx1 no ndx nex => ?_⟩
      have w1 := (w'.same (same_new ndx (.own o1))).new (a := o1) (o := .ins CO dx1 []) (by rw [upd_ne (Ne.symm nex)]; exact no)
      refine ⟨o1, pt, dx1, S, _, "switch", _, rfl, w1, hpt, fun p H2 pf pdx phd w2 fp q1 q2 q3 => ⟨rfl, ?_⟩⟩
      have hs2 := w2.at' (a := s) (o := .lst (ps.reverse.map fun p => V.ref p.f)) (List.mem_append_right _ (.tail _ (.tail _ (.head _))))
      refine ⟨s, _, .ref o1, rfl, rfl, hs2, small1000 (by simp; omega), ?_⟩
      have w3 := Own.setMid (X := p.own CO ++ [(bd, .ins CB dx bf), (o, .lst xs)]) (Y := ps.flatMap (Pc.own CO)) (o' := .lst ((ps.reverse.map fun p => V.ref p.f) ++ [.ref o1])) (by simpa [Bp.own] using w2)
      refine q S _ ⟨dx, o, s, bf, xs, p :: ps⟩ (Same.refl _) ⟨?_, hout, .cons ?_ hf, f1, f2, f3, f4, f5⟩
      · have e5 : Bp.own CB CO bd ⟨dx, o, s, bf, xs, p :: ps⟩ = [(bd, .ins CB dx bf), (o, .lst xs), (s, .lst ((ps.reverse.map fun p => V.ref p.f) ++ [.ref p.f]))] ++ (p.own CO ++ ps.flatMap (Pc.own CO)) := by
          simp [Bp.own]
        rw [e5, pf]
        refine Own.perm ?_ (List.perm_append_comm_assoc _ _ _)
        simpa using w3
      · have e9 := q2 (by decide +kernel)
        exact ⟨fp, by rw [phd]; exact hpt, by rw [e9]; rfl, by rw [q3]; rfl⟩
end
end Bs

set_option Elab.async false
set_option linter.all false
set_option maxRecDepth 100000
set_option maxHeartbeats 4000000
/-! super().__init__(e) at the head of an own exception's __init__; the class stands over ValueError -/
namespace Rj
open PySem PySem.Spec PyProof.Rows L2 NdefX

/-- what the written part says: the code object at c, the cell at cc that holds the class at D -/
structure SupC (P : Program) (K : PySem.W.Frag) (c cc D : Addr) : Prop where
  code : ∃ ccl cdd vs ccs file tf, K.lookup c = some ⟨ccl, cdd, .fields vs, ccs⟩ ∧ vs[2]? = some (.str file tf) ∧ ((P.main.file : Str) == file) = true
  cell : ∃ cl cld csl, K.lookup cc = some ⟨cl, cld, .cell (some (.ref D)), csl⟩
  mro : PySem.W.mroIn K D (.ref D) = some true
  any : PySem.W.nsIn K cStatics "thirdparty.any" = some none
  sup : PySem.W.ks_superIn K D D "__init__" = some (some (.builtin "ValueError.__init__"))
  sub : PySem.W.subIn K (.ref D) (.type "ValueError") = some true
  top : (P.main.scope.names.lookup ("super" : Str)).isSome = false

theorem boot_super : bootBuiltins "super" = some (.type "super") := by decide +kernel

section
variable {X : Cx} {body : List Stmt} {p0 p1 p2 p3 p4 : Pos} {e : Expr} {te : TE} {f c cc D a : Addr} {oc : Value} {od : Option Addr} {osl : Array (Option Value)} {fd : FuncData} {ar : Arg} {pins : List (Addr × Obj)} {σ : L2.St} {H : Hp} {s : Shared} {Q : Flow → Shared → Prop}

theorem super_init (I : Inv X pins σ H s) (T : OexC X.K D) (C : SupC X.prog X.K c cc D) (hfu : X.env.func = some f) (hco : X.env.code = .ref c)
    (lk : X.K.lookup f = some ⟨oc, od, .func fd, osl⟩) (hp : (fd.params.posonlyargs ++ fd.params.args).head? = some ar)
    (hks : X.env.kindOf "super" = some .globalImplicit) (hkc : X.env.kindOf "__class__" = some .free) (hcl : X.env.cells.lookup ("__class__" : Str) = some cc)
    (hka : X.env.scope.names.lookup ar.arg = some .local) (h0 : X.N[0]? = some ar.arg) (hs0 : σ[0]? = some (some (.ref a))) (hm : X.mg "super" = none)
    (ea : H a = some (exo a D none)) (ha : PE X e te) (q : te σ H fun v H1 => [v].length ≤ 1000 ∧ H1 a = some (exo a D none) ∧ ∀ s', Inv X pins σ H1 s' → Q .next s')
    {pl : Sem Bool} (hc : eval (.Call (.Attribute (.Call (.Name "super" p0) [] [] p1) "__init__" p2) [e] [] p3) X.env = (do
      let ov ← attributeBase (.Call (.Name "super" p0) [] [] p1) "__init__" X.env (eval (.Call (.Name "super" p0) [] [] p1) X.env)
      standAt p2.atName
      let (f, first) ← holding [ov] (getMethod ov "__init__" pl)
      callWith p3 f first (backTo p3 (starEach [e] X.env)) []))
    (hst : starEach [e] X.env = [(false, eval e X.env)]) (hsw : swapsWith (.Call (.Attribute (.Call (.Name "super" p0) [] [] p1) "__init__" p2) [e] [] p3) none p4.line X.env = pure false) :
    _root_.PySem.wpAt (model X.prog X.w) X.A (.func body X.env) (exec (.Expr (.Call (.Attribute (.Call (.Name "super" p0) [] [] p1) "__init__" p2) [e] [] p3) p4) X.env) Q X.xe s := by
  obtain ⟨ccl, cdd, vs, ccs, file, tf, hcode, hvs, hfile⟩ := C.code
  obtain ⟨cl, cld, csl, hcell⟩ := C.cell
  have K0 := I.kIn
  obtain ⟨hp0, g, d, t, os⟩ := s
  refine ks_wpAt_Expr_any (ks_wpAt_MethodCall (ks_wpAt_super_base hks hkc (by decide) hfu (K0 _ _ lk) rfl hp hco (K0 _ _ hcode) rfl hvs hfile C.top ?_) hc) I.quiet hsw
  obtain ⟨mb, b1, b2⟩ := I.mod.blt
  refine PySem.W.ks_loadName_global I.ok.kind hks (Calls.loadGlobal_builtin (by rw [I.ok.glob]; exact I.mod.glob.keeps I.bk) hm (by rw [I.ok.blt]; exact b1.keeps I.bk) ((b2 _ (by decide)).trans boot_super) ⟨rfl, ?_⟩)
  refine wpAny_loadName_free I.ok.kind hkc hcl ⟨_, K0 _ _ hcell, rfl⟩ ?_
  obtain ⟨m, hn, hl⟩ := I.loc
  obtain ⟨u, ru, lu⟩ := hl 0 ar.arg (.ref a) h0 hs0 (.inl hka)
  cases ru
  have hmx : m ar.arg = some (.ref a) := by
    rcases lu with ⟨_, h⟩ | ⟨h, _⟩
    · exact h
    · have hk : X.env.kindOf ar.arg = some .local := hka
      rw [hk] at h
      rcases h with h | h <;> cases h
  refine wpAny_loadName_local I.ok.kind hka hn hmx ?_
  obtain ⟨nm, qn, N, bs, bm, sn, sub, ab, col, dd, k0, k1, k2, k3, k5, hC, hbm⟩ := T.cls
  obtain ⟨cd, hcd⟩ : ∃ cd, PySem.W.clsIn X.K D = some cd := by
    have := C.sup
    unfold PySem.W.ks_superIn at this
    cases h : PySem.W.clsIn X.K D with
    | none => rw [h] at this; cases this
    | some cd => exact ⟨cd, rfl⟩
  have hsup : PySem.W.alongIn X.K "__init__" ((cd.mro.dropWhile (· != .ref D)).drop 1) = some (some (.builtin "ValueError.__init__")) := by
    have := C.sup
    unfold PySem.W.ks_superIn at this
    rw [hcd] at this
    exact this
  refine ks_wpAny_isType_cls (K0 _ _ hC) rfl ⟨rfl, ?_⟩
  obtain ⟨t1, ho⟩ := exo_at I.hok ea
  refine ks_wpAny_call_super (K0 _ _ hC) rfl ho rfl (fun c h => by cases h) (PySem.W.looks_mroIn K0 C.mro) (fun h' eo k => ?_)
  have I1 : Inv X pins σ H ⟨h', g, d, t, os⟩ := I.kept k
  have K1 := I1.kIn
  have ia : PySem.W.InstAt h' a ({ cls := .ref D, dict := none, data := .fields #[.ref t1, .none, .none, .none, .bool false, .none] } : Obj) D none := ⟨k _ _ ho, rfl, rfl, trivial⟩
  refine PySem.W.kxs_getMethod PySem.W.kxs_ValueError eo (PySem.W.looks_opaque K1 C.any) (l₀ := cd.mro) (fun A Q E s k q => wpAny_bind ((PySem.W.looks_clsIn K1 hcd) A _ E s k (wpAny_pure q))) rfl K1 hsup
    (ia.type.andThen (PySem.W.looks_subIn K1 C.sub)) (PySem.W.ks_ne K1 ia hcd) (by decide) ?_
  have kp : ∀ b o, h'.get? b = some o → (h'.push (PySem.W.kxs_mw "ValueError.__init__" a)).get? b = some o := fun b o e => Heap.get?_push_of_some _ e
  have I2 : Inv X pins σ H ⟨h'.push (PySem.W.kxs_mw "ValueError.__init__" a), g, d, t + 1, os⟩ := I1.kept (t' := t + 1) kp
  have hu : (h'.push (PySem.W.kxs_mw "ValueError.__init__" a)).get? h'.objs.size = some (PySem.W.kxs_mw "ValueError.__init__" a) := Heap.get?_push_at rfl rfl
  have I3 : Inv X ((h'.objs.size, PySem.W.kxs_mw "ValueError.__init__" a) :: pins) σ H ⟨h'.push (PySem.W.kxs_mw "ValueError.__init__" a), g, d, t + 1, os⟩ := I2.pins_of fun p hp => by
    rcases List.mem_cons.mp hp with rfl | hp
    · exact ⟨hu, I1.hok.fresh (Nat.le_refl _), fun z => absurd I1.lt (by show ¬ X.env.locals < h'.objs.size; rw [← z]; exact Nat.lt_irrefl _), I1.nofs (Nat.le_refl _), fun v z => by cases z⟩
    · exact I2.pin p (List.mem_append_right _ hp)
  have hb : backTo p3 (starEach [e] X.env) = backTo p3 [(false, eval e X.env)] := by rw [hst]
  have run := (pa_cons ha pa_nil (hs := by rw [hst]; rfl)).run p3 _ _ σ H (fun vs H1 => vs.length ≤ 1000 ∧ H1 a = some (exo a D none) ∧ ∀ s', Inv X pins σ H1 s' → Q .next s') I3 q
  have ab : ∀ x : Bool × Sem Value, backTo p3 [(false, x.2)] = [(false, x.2)] := fun _ => rfl
  refine PySem.W.kxs_callWith (i := "ValueError.__init__") (x := a) (first := []) (by rw [hb]; rfl) ?_
  rw [hb] at run ⊢
  refine Calls.evalArgs_plain (wpAny_mono run (fun us s1 hq => ?_) fun _ _ z => z)
  obtain ⟨vs, H1, I4, r1, hz, ea1, fin⟩ := hq
  refine ⟨(I4.pin (h'.objs.size, PySem.W.kxs_mw "ValueError.__init__" a) (List.mem_append_right _ (List.mem_cons_self ..))).1, ?_⟩
  show wpAny _ _ (call (.ref h'.objs.size) us) _ _ _
  have hu4 := (I4.pin (h'.objs.size, PySem.W.kxs_mw "ValueError.__init__" a) (List.mem_append_right _ (List.mem_cons_self ..))).1
  have hlen : us.length ≤ sizeLine := by
    rw [← Paired.length r1, sizeLine_eq]
    omega
  obtain ⟨t2, he4⟩ := exo_at I4.hok ea1
  have K4 := I4.kIn
  obtain ⟨hp4, g4, d4, t4, os4⟩ := s1
  refine wpAny_call (codeAny_of_tree ?_)
  show wpAny _ X.A.in1 (callAny (.ref h'.objs.size) ⟨us, []⟩) _ _ _
  simp only [callAny]
  refine wpAny_bind (wpAny_load hu4 ?_)
  simp only [PySem.W.kxs_mw, show (Value.type "method-wrapper" == Value.type "method" || Value.type "method-wrapper" == Value.type "builtin_function_or_method" || Value.type "method-wrapper" == Value.type "method-wrapper") = true by decide, if_true]
  refine PySem.W.KFB.if_so (by decide) ?_
  refine wpAny_bind (PySem.W.check_bound_init F.excBase_ValueError.toExcCallFacts (K4 _ _ hC) he4 rfl ?_)
  refine wpAny_bind (wpAny_pure (wpAny_pure ?_))
  refine ⟨plainId_quiet F.excBase_ValueError.init.plain _, codeAny_builtin F.excBase_ValueError.initEntry ?_⟩
  refine PySem.W.exc_init_tree (cls := .ref D) (t0 := t2) (dv := none) (c2 := .none) (c3 := .none) (b4 := .bool false) he4 hlen fun h5 k5 e5 _ => ?_
  have J := I4.write (t' := t4) (x := a) (e := a) (o := exo a D none) (by rw [ea1]; exact True.intro) (.inl rfl) k5 ⟨_, e5⟩ (exo_ok e5)
  have eu : upd H1 a (exo a D none) = H1 := by
    funext b
    by_cases hb : b = a
    · rw [hb, upd_same, ea1]
    · rw [upd_ne hb]
  rw [eu] at J
  exact fin _ (J.pins_of fun p hp => J.pin p (List.mem_append_right _ (List.mem_cons_of_mem _ hp)))
end

section
variable {CX : CXT} {P : Program} {w : World} {K : PySem.W.Frag} {mg : Str → Option Value} {base : Heap} {N ps : List Str} {F : NF} {f cc D : Addr} {k : Nat} {sp : Sp} {oc : Value} {od an : Option Addr} {osl : Array (Option Value)} {kV doc pm ctv : Value}
  {p0 p1 p2 p3 p4 : Pos} {e : Expr} {rest : List Stmt} {self : Str}
/-- a promise of such an __init__: self is the exception that is being made; the reading of e, then that of the rest -/
theorem fn_super (lk : K.lookup f = some ⟨oc, od, .func (PySem.W.fnX F.name F.qual F.params F.body F.scope F.cl .none kV doc pm an (.ref F.c) ctv), osl⟩) (hcd : PySem.W.codeIn K (.ref F.c) F.qual = true)
    (hcl : F.cl = [(("__class__" : Str), cc)]) (S : NScope N ps ["__class__"] F.scope) (C : SupC P K F.c cc D) (T : OexC K D) (hm : mg "super" = none)
    (hbd : F.body = .Expr (.Call (.Attribute (.Call (.Name "super" p0) [] [] p1) "__init__" p2) [e] [] p3) p4 :: rest)
    {ar : Arg} (hp : (F.params.posonlyargs ++ F.params.args).head? = some ar) (h0 : ps[0]? = some ar.arg)
    (hks : F.scope.names.lookup ("super" : Str) = some .globalImplicit)
    (hc : ∀ env : Env, env.scope = F.scope → ∃ pl : Sem Bool, eval (.Call (.Attribute (.Call (.Name "super" p0) [] [] p1) "__init__" p2) [e] [] p3) env = (do
      let ov ← attributeBase (.Call (.Name "super" p0) [] [] p1) "__init__" env (eval (.Call (.Name "super" p0) [] [] p1) env)
      standAt p2.atName
      let (f, first) ← holding [ov] (getMethod ov "__init__" pl)
      callWith p3 f first (backTo p3 (starEach [e] env)) []))
    (hst : ∀ env : Env, starEach [e] env = [(false, eval e env)])
    (hsw : ∀ env : Env, swapsWith (.Call (.Attribute (.Call (.Name "super" p0) [] [] p1) "__init__" p2) [e] [] p3) none p4.line env = pure false)
    (len : ∀ vs H Q E, sp vs H Q E → vs.length = ps.length)
    (hbody : ∀ (A : Around) (outer : List Env) (s : Shared) (H : Hp) (vs : List V) (Q : VK) (E : XK), Room k (A.deeper (envF F f s.heap.objs.size)) → sp vs H Q E →
      ∃ (te : TE) (t : TS) (a : Addr), PE (ncx CX P w K mg base N F f A outer s H E) e te ∧ PSs (ncx CX P w K mg base N F f A outer s H E) rest t ∧ vs[0]? = some (.ref a) ∧ H a = some (exo a D none) ∧
        ∀ R : VK, (∀ v H1, H1 a = some (exo a D none) → t { nx := fun _ H' => Q .non H', rt := Q } (startF N vs [none]) H1 → R v H1) → te (startF N vs [none]) H R) :
    FnOk P w K mg base CX (k + 1) f (PySem.W.fnX F.name F.qual F.params F.body F.scope F.cl .none kV doc pm an (.ref F.c) ctv) ps sp := by
  refine ⟨len, fun A outer s H args us vs Q E hr e0 hb r hsp => ?_⟩
  have hl := len _ _ _ _ hsp
  have KX : K.In s.heap := e0.mod.kin.keeps fun b o e => (e0.bs b o e).1
  have lim : s.heap.NoLimit := e0.mod.nolimit.keeps fun b o e => (e0.bs b o e).1
  refine codeAny_call_function hr.depth (KX _ _ lk) rfl S.co S.gen rfl (PySem.W.codeRec_of KX hcd) (hb _ _ _ _ ?_)
  refine wpAny_newFunctionEnv S.nocell (fun ⟨n, _⟩ hy => S.par n (List.of_mem_zip hy).1) (fun h₁ hns hsb => ⟨lim.fresh _ hsb, ?_⟩) S.kind
  show codeAny _ _ (.func F.body (envF F f s.heap.objs.size)) _ _
  refine ks_codeAny_funcAt ?_
  have kp : ∀ b o, s.heap.get? b = some o → h₁.get? b = some o := fun b o e => hsb.extBut b o (Nat.ne_of_lt (Heap.lt_size e)) (Heap.get?_push_of_some _ e)
  obtain ⟨te, t, a, he, ht, ha0, ha, hq⟩ := hbody A outer s H vs Q E (hr.deeper _) hsp
  obtain ⟨cl, cld, csl, hcell⟩ := C.cell
  have Ce : CellsAt F.cl ["__class__"] [none] s.heap H := by
    rw [hcl]
    have hcc : H cc = none := by
      have kb : K.In base := e0.mod.kin
      exact (e0.bs _ _ (kb _ _ hcell)).2
    have only : ∀ (y : Str) (c : Addr), List.lookup y [(("__class__" : Str), cc)] = some c → y = "__class__" ∧ c = cc := fun y c h => by
      have := PySem.mem_of_lookup h
      simp only [List.mem_singleton, Prod.mk.injEq] at this
      exact this
    refine ⟨rfl, fun y c h => ?_, fun x y c h1 h2 => (only x c h1).1.trans (only y c h2).1.symm, fun i y h => ?_⟩
    · obtain ⟨_, rfl⟩ := only y c h
      exact ⟨hcc, _, _, KX _ _ hcell, rfl⟩
    · cases i with
      | zero =>
        simp only [List.getElem?_cons_zero, Option.some.injEq] at h
        subst h
        exact ⟨cc, by simp [List.lookup], fun v z => by simp at z⟩
      | succ i => simp at h
  have I : Inv (ncx CX P w K mg base N F f A outer s H E) [] (startF N vs [none]) H { s with heap := h₁, toks := s.toks + (ps.zip us).length } := inv_startN S hr.hd e0 hl r Ce hns kp
  have fin : ∀ {σ' : L2.St} {H' : Hp} {v : V} {u : Value} {s'}, Inv (ncx CX P w K mg base N F f A outer s H E) [] σ' H' s' → L2.RelV v u → Q v H' → CE outer P w H s Q u s' :=
    fun {σ' H' v u s'} J rv q => ⟨v, H', J.os, J.bare, J.base, J.hok, rv, q⟩
  have hpre : N[0]? = some ar.arg := by
    have h1 : (ps ++ [("__class__" : Str)])[0]? = some ar.arg := by
      cases ps with
      | nil => simp at h0
      | cons x r => simpa using h0
    rw [← S.pre, List.getElem?_take_of_lt (by
      have : (ps ++ [("__class__" : Str)]).length ≠ 0 := by simp
      simp at this ⊢)] at h1
    exact h1
  have hs0 : (startF N vs [none])[0]? = some (some (V.ref a)) := by
    unfold startF
    cases vs with
    | nil => simp at ha0
    | cons x r => simp at ha0 ⊢; exact ha0
  obtain ⟨pl, hev⟩ := hc (envF F f s.heap.objs.size) rfl
  have kb : K.In base := e0.mod.kin
  have hce : (envF F f s.heap.objs.size).cells.lookup ("__class__" : Str) = some cc := by
    show F.cl.lookup ("__class__" : Str) = some cc
    rw [hcl]
    simp [List.lookup]
  have go := super_init (X := ncx CX P w K mg base N F f A outer s H E) (body := F.body) (Q := fun fl s' => match fl with
      | .next => wpAny (model P w) (A.deeper (envF F f s.heap.objs.size)) (execs rest (envF F f s.heap.objs.size)) (fun fl s' => CR CX outer P w H s Q E (.ok (.ret (match fl with | .ret v => v | _ => .none))) s') (ncx CX P w K mg base N F f A outer s H E).xe s'
      | fl => CR CX outer P w H s Q E (.ok (.ret (match fl with | .ret v => v | _ => .none))) s') I T C rfl rfl lk hp hks (S.frk _ (List.mem_cons_self ..)) hce (S.par _ (List.mem_of_getElem? h0)) hpre hs0 hm ha he ?_ hev (hst _) (hsw _)
  rotate_left
  · refine hq _ fun v H1 e1 ht1 => ⟨(by show 1 ≤ 1000; decide), e1, fun s' J => ?_⟩
    refine wpAny_mono (ht.run [] _ (startF N vs [none]) H1 _ J ht1) (fun fl s' hs => ?_) fun e s' hs => hs
    cases fl with
    | ret u =>
      obtain ⟨v, σ', H', J, rv, q⟩ := hs
      exact fin J rv q
    | next =>
      obtain ⟨σ', H', J, q⟩ := hs
      exact fin (v := V.non) (u := Value.none) J rfl q
    | brk =>
      obtain ⟨_, _, _, q⟩ := hs
      exact False.elim q
    | cont =>
      obtain ⟨_, _, _, q⟩ := hs
      exact False.elim q
  rw [show execs F.body (envF F f s.heap.objs.size) = execs (.Expr (.Call (.Attribute (.Call (.Name "super" p0) [] [] p1) "__init__" p2) [e] [] p3) p4 :: rest) (envF F f s.heap.objs.size) by rw [hbd]]
  refine ks_wpAt_execs_cons (ks_wpAt_mono go (fun fl s' h => ?_) fun e s' h => h)
  cases fl with
  | next => exact wpAt_of_wpAny h
  | _ => exact h
end
end Rj

set_option Elab.async false
set_option linter.all false
set_option maxRecDepth 100000
set_option maxHeartbeats 4000000
/-! facts of own exceptions with such an __init__, by one look at the written part -/
namespace Rj
open PySem PySem.Spec PyProof.Rows L2 NdefX
def ccOf (K : PySem.W.Frag) (f : Addr) : Addr := match K.lookup f with
  | some ⟨_, _, .func fd, _⟩ => (match fd.closure with
    | (_, c) :: _ => c
    | _ => 0)
  | _ => 0
def cdOf (K : PySem.W.Frag) (f : Addr) : Addr := match K.lookup f with
  | some ⟨_, _, .func fd, _⟩ => (match fd.code with
    | .ref c => c
    | _ => 0)
  | _ => 0
def codeB (file : Str) (K : PySem.W.Frag) (c : Addr) : Bool := match K.lookup c with
  | some ⟨_, _, .fields vs, _⟩ => (match vs[2]? with
    | some (Value.str z _) => decide (z = file)
    | _ => false)
  | _ => false
def cellB (K : PySem.W.Frag) (c D : Addr) : Bool := match K.lookup c with
  | some ⟨_, _, .cell (some (.ref E)), _⟩ => decide (E = D)
  | _ => false
def supB (file : Str) (K : PySem.W.Frag) (f D : Addr) : Bool := codeB file K (cdOf K f) && (cellB K (ccOf K f) D && (decide (PySem.W.mroIn K D (.ref D) = some true) && (He.eqO (PySem.W.nsIn K cStatics "thirdparty.any") (some none) &&
  (He.eqO (PySem.W.ks_superIn K D D "__init__") (some (some (.builtin "ValueError.__init__"))) && decide (PySem.W.subIn K (.ref D) (.type "ValueError") = some true)))))
theorem supB_ok {P : Program} {file : Str} {K : PySem.W.Frag} {f D : Addr} (hf : P.main.file = file) (ht : (P.main.scope.names.lookup ("super" : Str)).isSome = false) (h : supB file K f D = true) : SupC P K (cdOf K f) (ccOf K f) D := by
  unfold supB at h
  simp only [Bool.and_eq_true] at h
  obtain ⟨h1, h2, h3, h4, h5, h6⟩ := h
  refine ⟨?_, ?_, of_decide_eq_true h3, He.eqO_ok h4, He.eqO_ok h5, of_decide_eq_true h6, ht⟩
  · unfold codeB at h1
    split at h1
    · rename_i a b vs d e
      split at h1
      · rename_i z t e2
        exact ⟨_, _, _, _, z, t, e, e2, by rw [hf, of_decide_eq_true h1]; simp⟩
      · cases h1
    · cases h1
  · unfold cellB at h2
    split at h2
    · rename_i a b E d e
      rw [← of_decide_eq_true h2]
      exact ⟨_, _, _, e⟩
    · cases h2
def oexB (K : PySem.W.Frag) (C : Addr) : Bool := (match K.lookup C with
  | some ⟨.type "type", _, .cls cd, sl⟩ => (match cd.mro, sl.toList with
    | .ref C' :: bm, [_, _, _, _, some (.builtin n), _] => C' == C && n == "ValueError.__new__" && !cd.hasDel && cd.hasDict && PySem.HandSPX.refsVE bm
    | _, _ => false)
  | _ => false) && (He.eqO (PySem.W.findIn K (.ref C) "__setattr__") (some (some (.builtin "object.__setattr__"))) && (decide (PySem.W.subIn K (.ref C) (.type "BaseException") = some true) && (decide (PySem.W.typeIn K (.ref C) = some (.type "type")) && PySem.W.keepIn K (.ref C))))
theorem oexB_ok {K : PySem.W.Frag} {C : Addr} (h : oexB K C = true) : OexC K C := by
  unfold oexB at h
  rw [Bool.and_eq_true, Bool.and_eq_true, Bool.and_eq_true, Bool.and_eq_true] at h
  obtain ⟨q, h2, h3, h4, h5⟩ := h
  refine ⟨?_, He.eqO_ok h2, of_decide_eq_true h3, of_decide_eq_true h4, h5⟩
  split at q
  · rename_i dd cd sl ho
    split at q
    · rename_i C' bm k0 k1 k2 k3 n k5 hm hs
      simp only [Bool.and_eq_true, beq_iff_eq, Bool.not_eq_true'] at q
      obtain ⟨⟨⟨⟨rfl, rfl⟩, hdel⟩, hdc⟩, ht⟩ := q
      obtain ⟨nm, bs, mro, ns, qn, hd, sn, sub, ab, col, del⟩ := cd
      dsimp only at hm hdel hdc
      subst hm hdel hdc
      have hsl : sl = #[k0, k1, k2, k3, some (.builtin "ValueError.__new__"), k5] := by
        obtain ⟨l⟩ := sl
        simp only at hs
        rw [hs]
      subst hsl
      exact ⟨nm, qn, ns, bs, bm, sn, sub, ab, col, dd, k0, k1, k2, k3, k5, ho, ht⟩
    · cases q
  · cases q
/-- the def at f, as it was written -/
def defAt (K : PySem.W.Frag) (f : Addr) : He.FnV := match K.lookup f with
  | some ⟨_, _, .func fd, _⟩ => some (fd.name, fd.qualname, fd.params, fd.body, fd.scope, fd.globals, fd.closure, fd.defaults, fd.builtins)
  | _ => none
def codR (K : PySem.W.Frag) (f : Addr) : Bool := match K.lookup f with
  | some ⟨_, _, .func fd, _⟩ => decide (fd.code = .ref (cdOf K f))
  | _ => false
theorem defAt_ok {K : PySem.W.Frag} {f : Addr} {name q : Str} {params : Arguments} {body : List Stmt} {scope : Scope} (e : defAt K f = some (name, q, params, .stmts body, scope, mainGlobals, [(("__class__" : Str), ccOf K f)], .none, builtinsNs)) (hc : codR K f = true) :
    ∃ oc od osl kV doc pm an ctv, K.lookup f = some ⟨oc, od, .func (PySem.W.fnX name q params body scope [(("__class__" : Str), ccOf K f)] .none kV doc pm an (.ref (cdOf K f)) ctv), osl⟩ := by
  unfold defAt at e
  unfold codR at hc
  cases q2 : K.lookup f with
  | none => rw [q2] at e; cases e
  | some o =>
    obtain ⟨oc, od, dt, osl⟩ := o
    rw [q2] at e hc
    cases dt with
    | func fd =>
      obtain ⟨n1, n2, n3, n4, n5, n6, n7, n8, n9, n10, n11, n12, n13, n14, n15⟩ := fd
      have hcd : n13 = .ref (cdOf K f) := of_decide_eq_true hc
      have e2 : (some (n1, n2, n3, n4, n5, n6, n7, n8, n15) : He.FnV) = some (name, q, params, .stmts body, scope, mainGlobals, [(("__class__" : Str), ccOf K f)], .none, builtinsNs) := e
      simp only [Option.some.injEq, Prod.mk.injEq] at e2
      obtain ⟨g1, g2, g3, g4, g5, g6, g7, g8, g9⟩ := e2
      rw [g1, g2, g3, g4, g5, g6, g7, g8, g9, hcd]
      exact ⟨_, _, _, _, _, _, _, _, rfl⟩
    | _ => cases e
end Rj

set_option Elab.async false
set_option linter.all false
set_option maxRecDepth 100000
set_option maxHeartbeats 4000000
namespace Bs
open PySem L2
/-! ### words and lines that are read -/
def Good (z : Str) : Prop := (∀ c ∈ z.cps.toList, c ≠ 32 ∧ c ≠ 10) ∧ z.length ≤ 12
theorem good_sign {z : Str} (h : ∀ c ∈ z.cps.toList, isSign c = true) (l : z.length ≤ 12) : Good z := by
  refine ⟨fun c hc => ?_, l⟩
  have s := h c hc
  unfold isSign isLetter isDigit at s
  rw [Bool.or_eq_true, decide_eq_true_iff, decide_eq_true_iff] at s
  have a : ∀ c ∈ letters.cps.toList, c ≠ 32 ∧ c ≠ 10 := by decide +kernel
  have b : ∀ c ∈ digits.cps.toList, c ≠ 32 ∧ c ≠ 10 := by decide +kernel
  exact s.elim (a c) (b c)
theorem good_name {z : Str} (h : isName z = true) : Good z := by
  refine good_sign (fun c hc => ?_) (name_len h).2
  unfold isName at h
  cases e : z.cps.toList with
  | nil => rw [e] at hc; cases hc
  | cons a t =>
    rw [e] at h hc
    rw [nameOk, Bool.and_eq_true, Bool.and_eq_true, List.all_eq_true] at h
    exact h.2.2 c hc
theorem good_int {i : Int} (h : 0 ≤ i ∧ i < 100000) : Good (iS i) := by
  obtain ⟨a, b⟩ := iS_word h.1 h.2
  unfold isIntWord at a
  rw [Bool.and_eq_true, Bool.and_eq_true] at a
  have l := of_decide_eq_true a.1
  refine good_sign (fun c hc => ?_) (by omega)
  have := List.all_eq_true.mp a.2.1 c hc
  unfold isSign
  rw [this, Bool.or_true]
theorem good_k {a : Key} (h : kW a) : Good (kS a) := by
  cases a with
  | inl i => exact good_int h
  | inr z => exact good_name h
theorem good_kw : Good "number" ∧ Good "bytes" ∧ Good "text" ∧ Good "repeat" ∧ Good "either" ∧ Good "switch" ∧ Good "check" ∧ Good "pad" ∧ Good "end" ∧ Good "choice" ∧ Good "case" ∧ Good "big" ∧ Good "little" := by
  unfold Good
  decide +kernel
/-- paired words fit -/
theorem fit_mk {w0 : Str} {wr fs : List Str} (h : formOf w0 = some fs) (p : Paired (fun z fm => fitsB z fm = true) wr fs) : Fit (w0 :: wr) := by
  refine ⟨w0, wr, fs, rfl, h, Paired.length p, ?_⟩
  clear h
  induction p with
  | nil => intro i z fm e; simp at e
  | cons a _ ih =>
    intro i z fm e1 e2
    cases i with
    | zero => simp at e1 e2; subst e1 e2; exact a
    | succ i => exact ih i z fm (by simpa using e1) (by simpa using e2)
theorem fit_name {z : Str} (h : isName z = true) : fitsB z "name" = true := by unfold fitsB; rw [if_neg (by decide +kernel), if_pos rfl]; exact h
theorem fit_int {i : Int} (h : 0 ≤ i ∧ i < 100000) : fitsB (iS i) "integer" = true := by unfold fitsB; rw [if_pos rfl]; exact (iS_word h.1 h.2).1
theorem fit_k {a : Key} (h : kW a) : fitsB (kS a) "amount" = true := by
  unfold fitsB
  rw [if_neg (by decide +kernel), if_neg (by decide +kernel), if_pos rfl]
  cases a with
  | inl i => rw [show isIntWord (kS (.inl i)) = true from (iS_word h.1 h.2).1]; rfl
  | inr z => rw [show isName (kS (.inr z)) = true from h, Bool.or_true]
theorem step_words {st st' : Ms} {ws : List Str} (s : Step st ws st') : Fit ws ∧ (∀ z ∈ ws, Good z) ∧ ws ≠ [] := by
  obtain ⟨g1, g2, g3, g4, g5, g6, g7, g8, g9, g10, g11, g12, g13⟩ := good_kw
  have all : ∀ {z : Str} {l : List Str}, Good z → (∀ y ∈ l, Good y) → ∀ y ∈ z :: l, Good y := fun a b y hy => (List.mem_cons.mp hy).elim (fun e => e ▸ a) (b y)
  have nil : ∀ y ∈ ([] : List Str), Good y := fun y hy => by cases hy
  cases s with
  | flat _ y hb hd hs =>
    cases y with
    | num n s o lo hi =>
      obtain ⟨hn, hs2, ho, hlo, hhi⟩ := hd
      have go : Good o := by rcases ho with rfl | rfl <;> assumption
      have fo : fitsB o "order" = true := by rcases ho with rfl | rfl <;> decide +kernel
      exact ⟨fit_mk (fs := ["name", "integer", "order", "integer", "integer"]) (by decide +kernel) (.cons (fit_name hn) (.cons (fit_int hs2) (.cons fo (.cons (fit_int hlo) (.cons (fit_int hhi) .nil))))), all g1 (all (good_name hn) (all (good_int hs2) (all go (all (good_int hlo) (all (good_int hhi) nil))))), by simp [It.words]⟩
    | byt n a =>
      obtain ⟨hn, ha⟩ := hd
      exact ⟨fit_mk (fs := ["name", "amount"]) (by decide +kernel) (.cons (fit_name hn) (.cons (fit_k ha) .nil)), all g2 (all (good_name hn) (all (good_k ha) nil)), by simp [It.words]⟩
    | txt n s m =>
      obtain ⟨hn, h1, h2⟩ := hd
      exact ⟨fit_mk (fs := ["name", "integer", "integer"]) (by decide +kernel) (.cons (fit_name hn) (.cons (fit_int h1) (.cons (fit_int h2) .nil))), all g3 (all (good_name hn) (all (good_int h1) (all (good_int h2) nil))), by simp [It.words]⟩
    | chk n m =>
      obtain ⟨hn, h1⟩ := hd
      exact ⟨fit_mk (fs := ["name", "integer"]) (by decide +kernel) (.cons (fit_name hn) (.cons (fit_int h1) .nil)), all g7 (all (good_name hn) (all (good_int h1) nil)), by simp [It.words]⟩
    | pad n m b =>
      obtain ⟨hn, h1, h2⟩ := hd
      exact ⟨fit_mk (fs := ["name", "integer", "integer"]) (by decide +kernel) (.cons (fit_name hn) (.cons (fit_int h1) (.cons (fit_int h2) .nil))), all g8 (all (good_name hn) (all (good_int h1) (all (good_int h2) nil))), by simp [It.words]⟩
    | _ => cases hb
  | opnR _ n a hn ha hs h3 => exact ⟨fit_mk (fs := ["name", "amount"]) (by decide +kernel) (.cons (fit_name hn) (.cons (fit_k ha) .nil)), all g4 (all (good_name hn) (all (good_k ha) nil)), by simp⟩
  | opnE _ n hn hs h3 => exact ⟨fit_mk (fs := ["name"]) (by decide +kernel) (.cons (fit_name hn) .nil), all g5 (all (good_name hn) nil), by simp⟩
  | opnS _ n t hn ht hs h3 => exact ⟨fit_mk (fs := ["name", "name"]) (by decide +kernel) (.cons (fit_name hn) (.cons (fit_name ht) .nil)), all g6 (all (good_name hn) (all (good_name ht) nil)), by simp⟩
  | choice n bs r out v => exact ⟨fit_mk (fs := []) (by decide +kernel) .nil, all g10 nil, by simp⟩
  | case n t bs r out v h0 h1 => exact ⟨fit_mk (fs := ["integer"]) (by decide +kernel) (.cons (fit_int ⟨h0, h1⟩) .nil), all g11 (all (good_int ⟨h0, h1⟩) nil), by simp⟩
  | close f r out hs => exact ⟨fit_mk (fs := []) (by decide +kernel) .nil, all g9 nil, by simp⟩
theorem fit_len {ws : List Str} (h : Fit ws) : ws.length ≤ 6 := by
  obtain ⟨w0, wr, fs, rfl, hf, hl, _⟩ := h
  have := form_len hf
  simp only [List.length_cons]
  omega
theorem mem_joinL {S : List Nat} {c : Nat} : ∀ {ps : List (List Nat)}, c ∈ TL.joinL S ps → c ∈ S ∨ ∃ p ∈ ps, c ∈ p
  | [], h => by simp [TL.joinL] at h
  | [p], h => .inr ⟨p, List.mem_cons_self .., by simpa [TL.joinL] using h⟩
  | p :: q :: r, h => by
    simp only [TL.joinL, List.mem_append] at h
    rcases h with h | h | h
    · exact .inr ⟨p, List.mem_cons_self .., h⟩
    · exact .inl h
    · rcases mem_joinL h with h | ⟨u, hu, hc⟩
      · exact .inl h
      · exact .inr ⟨u, List.mem_cons_of_mem _ hu, hc⟩
theorem wd_tl (ws : List Str) : TL.tl (wd ws) = TL.joinL [32] (ws.map TL.tl) := by
  unfold wd
  rw [TL.join_eq, TL.tl_join, show TL.tl (" " : Str) = [32] from by decide +kernel]
/-- a line has no newline -/
theorem wd_nonl {ws : List Str} (h : ∀ z ∈ ws, Good z) : ¬ 10 ∈ TL.tl (wd ws) := fun q => by
  rw [wd_tl] at q
  rcases mem_joinL q with q | ⟨p, hp, hc⟩
  · simp at q
  · obtain ⟨z, hz, rfl⟩ := List.mem_map.mp hp
    exact ((h z hz).1 _ hc).2 rfl
theorem wd_split {ws : List Str} (h : ∀ z ∈ ws, Good z) (n : ws ≠ []) : Txt.split (wd ws) " " = ws :=
  TL.split_join (y := " ") (s := 32) (S := []) (by decide +kernel) (by decide +kernel) n fun p hp q => ((h p hp).1 _ q).1 rfl
theorem lines_split {ls : List Str} (h : ∀ z ∈ ls, ¬ 10 ∈ TL.tl z) (n : ls ≠ []) : Txt.split (Txt.join "\n" ls) "\n" = ls :=
  TL.split_join (y := "\n") (s := 10) (S := []) (by decide +kernel) (by decide +kernel) n h
end Bs

set_option Elab.async false
set_option linter.all false
set_option maxRecDepth 100000
set_option maxHeartbeats 8000000
namespace Bs
open PySem L2
abbrev sParse : Stmt := top 56
/-- InvalidNotation, as far as it is not made -/
structure NoteC (K : PySem.W.Frag) (mg : Str → Option Value) (CN fN : Addr) : Prop where
  T : OexC K CN
  g : mg "InvalidNotation" = some (.ref CN)
  i : PySem.W.findIn K (.ref CN) "__init__" = some (some (.ref fN))
  t : PySem.W.typeIn K (.ref fN) = some (.type "function")
def spParse (CS : Addr) : Sp := fun vs H Q _ => ∃ (x : Its), vs = [.str (Txt.join "\n" x.lines)] ∧ x.hds ∧ x.shape = true ∧ x.tame ∧ x.lw.length ≤ 800 ∧ (x.walk 0).length ≤ 1000 ∧ (Txt.join "\n" x.lines).length ≤ 16000000 ∧
  ∀ o dx fs H', Same H H' → H' o = some (.ins CS dx fs) → ShapeFs x H' fs → Q (.ref o) H'
theorem BuAt.up {CB CO bd : Addr} {S S' H H' : Hp} {b : Bp} {st : Ms} (h : BuAt CB CO S H bd b st) (w : Own S' H' (b.own CB CO bd)) (s : Same S S') : BuAt CB CO S' H' bd b st :=
  ⟨w, h.out.same s, paired_imp (fun _ _ k => FrAt.same s k) h.fr, h.f1, h.f2, h.f3, h.f4, h.f5⟩
theorem lw_ne {x : Its} (h : 1 ≤ x.len) : x.lw ≠ [] := by
  cases x with
  | nil => simp [Its.len] at h
  | cons y r => cases y <;> simp [Its.lw, It.lw]
section
variable {P : Program} {w : World} {K : PySem.W.Frag} {mg : Str → Option Value} {base : Heap} {f CB CO C CS CN fN fT fB fI : Addr} {fd fdN fdT fdB fdI : FuncData}
abbrev nParse : List Str := ["text", "builder", "lines", "at", "line", "parts"]
theorem scParse : FnScope nParse ["text"] (defScope sParse) := ⟨rfl, rfl, rfl, by decide +kernel, rfl, by decide +kernel, by decide +kernel⟩
theorem ok_parse {k : Nat} (hk : 3 ≤ k) (F : Fun K "parse_shape" "parse_shape" sParse f fd) (TB : BuC K CB) (T : ShapeC K CS) (U : NoteC K mg CN fN) (GU : FnOk P w K mg base CX0 1 fN fdN ["self", "line"] (fun _ _ _ _ => False)) (bU : Binds K fdN ["self", "line"] [])
    (MB : Mk K CB fB) (GB : FnOk P w K mg base CX0 k fB fdB ["self"] (spBuInit CB CO)) (bB : Binds K fdB ["self"] []) (gB : mg "Builder" = some (.ref CB)) (gP : Cal P w K mg base CX0 3 "parts_of" ["words"] spPartsOf) (mT : Meth K CB "take" fT) (GT : FnOk P w K mg base CX0 3 fT fdT ["self", "parts"] (spTake CB CO)) (bT : Binds K fdT ["self", "parts"] [])
    (M : Mk K CS fI) (GI : FnOk P w K mg base (L2.CX P w) k fI fdI ["self", "items"] (spInit C CS)) (bI : Binds K fdI ["self", "items"] []) (gS : mg "Shape" = some (.ref CS)) (me : mg "enumerate" = none) (ml : mg "len" = none) : FnOk P w K mg base (L2.CX P w) (k + 2) f fd ["text"] (spParse CS) := by
  refine F.okX scParse (fun vs H Q E h => ?_) (fun cdv A outer s H vs Q E hr h => ?_)
  · obtain ⟨x, rfl, _⟩ := h
    rfl
  · obtain ⟨x, rfl, hh, hsh, tm, l8, hw, tl, q⟩ := h
    have tk : Takes (cxOf (L2.CX P w) P w K mg base nParse "parse_shape" (defScope sParse) f cdv A outer s H E) (fun cls d _ H => E cls d H) := takes_of rfl rfl rfl rfl
    have hx := passes_call tk (E := E) fun _ _ _ _ h => h
    have hr3 : Room 3 _ := hr.mono (by omega)
    have hr2 : Room 2 _ := hr.mono (by omega)
    refine ⟨_, (pss_cons (ps_set (i := 1) scParse.nd rfl (.inl rfl) (pe_make0 MB GB hr (by rfl) gB bB .nil pass0))
      (pss_cons (ps_set (i := 2) scParse.nd rfl (.inl rfl) (pe_split (pv 0) pe_str))
      (pss_cons (ps_for (passes_of rfl) rfl (pi_enum (by rfl) me (pa_cons (pv 2) pa_nil)) (pg_tup rfl (pgs_cons (pg_name (i := 3) scParse.nd rfl (Or.inl rfl)) (pgs_cons (pg_name (i := 4) scParse.nd rfl (Or.inl rfl)) pgs_nil)))
        (pss_cons (ps_set (i := 5) scParse.nd rfl (.inl rfl) (pe_cal gP hr3 pass0 (pa_cons (pe_split (pv 4) pe_str) pa_nil)))
      (pss_one (ps_if (PW.pt (pw_or (pt_cmp (pc_isN (pv 5)) (by rfl)) (pw_or1 (pt_not (pt_val (pe_meth (pv 1) TB.cl mT GT hr3 bT .nil pass0 (pa_cons (pv 5) pa_nil))))))) (pss_one (ps_raise rfl tk (pmk_oex U.T U.i U.t GU hr2 bU .nil pass0 (by rfl) U.g (pa_cons (pe_op op_add (pv 3) pe_int) pa_nil)))) pss_nil))))
      (pss_cons (ps_if (pt_truth (pe_fld (pv 1) rfl) (fun _ => rfl)) (pss_one (ps_raise rfl tk (pmk_oex U.T U.i U.t GU hr2 bU .nil pass0 (by rfl) U.g (pa_cons (pe_op op_add (pe_callB call_len (by rfl) ml boot_len (pa_cons (pv 2) pa_nil)) pe_int) pa_nil)))) pss_nil)
      (pss_one (ps_ret (pe_make M GI hr (by rfl) gS bI .nil hx (pa_cons (pe_fld (pv 1) rfl) pa_nil)))))))), ?_⟩
    have w0 : Own H H [] := ⟨Same.refl _, List.nodup_nil, fun p hp => by cases hp⟩
    refine fun bd dxb no ndx nex => ⟨bd, dxb, H, rfl, (w0.same (same_new ndx (.own bd))).new (a := bd) (o := .ins CB dxb []) (by rw [upd_ne (Ne.symm nex)]; exact no), fun b0 H1 ba => ⟨rfl, ?_⟩⟩
    have okx : x.ok 0 = true := by
      have h := hsh
      unfold Its.shape at h
      rw [Bool.and_eq_true, Bool.and_eq_true] at h
      exact h.1.2
    have len1 : 1 ≤ x.len := by
      have h := hsh
      unfold Its.shape at h
      simp only [Bool.and_eq_true] at h
      exact of_decide_eq_true h.2.1
    obtain ⟨st, st0, st1, sts⟩ := Runs.states (Its.runs x 0 ⟨[], .nil⟩ hh okx rfl trivial)
    rw [adds_out, show Its.app .nil x = x from rfl] at st1
    have el := Its.lw_lines x
    have good : ∀ ws ∈ x.lw, ∀ z ∈ ws, Good z := fun ws hws => by
      obtain ⟨i, hi, e⟩ := List.mem_iff_getElem.mp hws
      exact (step_words (sts i ws (by rw [List.getElem?_eq_getElem hi, e]))).2.1
    have esp : Txt.split (Txt.join "
" x.lines) "
" = x.lines := lines_split (fun z hz => by
      rw [el] at hz
      obtain ⟨ws, hws, rfl⟩ := List.mem_map.mp hz
      exact wd_nonl (good ws hws)) (by rw [el]; intro k; exact lw_ne len1 (List.map_eq_nil_iff.mp k))
    have hsz : ∀ i, i ≤ x.lw.length → (st i).sz i := fun i => by
      induction i with
      | zero => intro _; rw [st0]; exact ⟨by simp [Its.len], fun f hf => by cases hf⟩
      | succ i ih =>
        intro hi
        exact sz_step (sts i _ (List.getElem?_eq_getElem (by omega))) (ih (by omega))
    refine ⟨_, rfl, ⟨_, rfl⟩, _, _, rfl, rfl, by decide +kernel, le_line (by omega), fun p hp => ?_⟩
    rw [esp]
    have w1 := ba.own.stand (o := .lst (x.lines.map V.str)) hp
    have sS : Same H (upd H p (.lst (x.lines.map V.str))) := same_new (ba.own.s.free hp) _
    have ba1 := ba.up w1 sS
    have hS1 : (upd H p (.lst (x.lines.map V.str))) p = some (.lst (x.lines.map V.str)) := upd_same
    generalize upd H p (.lst (x.lines.map V.str)) = S1 at sS ba1 hS1
    generalize upd H1 p (.lst (x.lines.map V.str)) = H2 at ba1 ⊢
    clear w1 ba
    have ll : (x.lines.map V.str).length = x.lw.length := by rw [List.length_map, el, List.length_map]
    refine ⟨_, rfl, p, _, rfl, SqL.of (ba1.own.s _ _ hS1), for_it (walk_enum (xs := x.lines.map V.str)) (fun i σ Hx => ∃ i3 i4 i5 Sx bx, σ = [some (.str (Txt.join "
" x.lines)), some (.ref bd), some (.ref p), i3, i4, i5] ∧ Same S1 Sx ∧ BuAt CB CO Sx Hx bd bx (st i))
      ⟨none, none, none, S1, b0, rfl, Same.refl _, by rw [st0]; exact ba1⟩ (fun i σ Hx _ z => by obtain ⟨_, _, _, _, _, _, z1, z2⟩ := z; exact SqL.of (z2.own.s _ _ (z1 _ _ hS1))) ?_ ?_⟩
    · rintro i v σ Hx Hy hi ⟨i3, i4, i5, Sx, bx, rfl, sx, bax⟩ ⟨Tn, ax, ay, rfl, hT0, rfl, ex, ey⟩
      have ey : (x.lines.map V.str)[i]? = some ay := ey
      rw [ll] at hi
      simp only [Option.some.injEq] at ex
      subst ex
      rw [List.getElem?_map, el, List.getElem?_map, List.getElem?_eq_getElem hi] at ey
      simp only [Option.map_some, Option.some.injEq] at ey
      subst ey
      have stp := sts i _ (List.getElem?_eq_getElem hi)
      generalize x.lw[i] = ws at stp
      obtain ⟨ft, gw, ne⟩ := step_words stp
      have s4 := same_new hT0 (.tup [.int (i : Int), .str (wd ws)])
      refine ⟨Tn, _, rfl, SqT.of upd_same, rfl, _, _, rfl, _, _, rfl, rfl, ?_⟩
      have wl : (wd ws).length ≤ 12000 := wd_len (fun z hz => by have := (gw z hz).2; omega) (fit_len ft)
      refine ⟨_, rfl, ⟨_, rfl⟩, _, _, rfl, rfl, by decide +kernel, le_line (by omega), fun p2 hp2 => ?_⟩
      rw [wd_split gw ne]
      have s5 := s4.trans (same_new hp2 (.lst (ws.map V.str)))
      refine ⟨p2, ws, rfl, upd_same, ft, fun z hz => by have := (gw z hz).2; omega, fun t H5 s6 nt ht => ?_⟩
      have s56 := s5.trans s6
      obtain ⟨S', w5, g5, m5⟩ := bax.own.more s56
      have ba5 := bax.up w5 g5
      have hpt := m5 _ _ (s5.free nt) ht
      refine ⟨_, rfl, _, rfl, ?_⟩
      rw [decide_eq_false (by intro k; cases k)]
      refine iteF ?_
      refine ⟨_, rfl, bd, bx.dx, bx.bf, rfl, ba5.own.at' (.head _), ba5.f3, _, rfl, bd, t, S', bx, _, _, ws, i, rfl, ba5, hpt, stp, hsz i (by omega), by omega, fun S2 H6 b6 s7 ba6 => ?_⟩
      exact ⟨_, rfl, iteF ⟨_, _, _, S2, b6, rfl, sx.trans (g5.trans s7), ba6⟩⟩
    · rintro σ Hx ⟨i3, i4, i5, Sx, bx, rfl, sx, bax⟩
      rw [ll, st1] at bax
      have hps : bx.ps = [] := by cases e : bx.ps with
        | nil => rfl
        | cons p pr => have := bax.fr; rw [e] at this; cases this
      have hb := bax.own.at' (.head _)
      have hl := bax.own.at' (.tail _ (.tail _ (.head _)))
      have ho := bax.own.at' (.tail _ (.head _))
      rw [hps] at hl
      refine ⟨_, rfl, bd, CB, bx.dx, bx.bf, _, rfl, hb, TB.cl, TB.n2, bax.f2, false, .inl ⟨_, SqL.of hl, rfl⟩, iteF ?_⟩
      refine ⟨_, rfl, bd, CB, bx.dx, bx.bf, _, rfl, hb, TB.cl, TB.n1, bax.f1, fun o dx no2 ndx2 nex2 => ?_⟩
      have s8 : Same Hx (upd (upd Hx dx (.own o)) o (.ins CS dx [])) := fun b u e => by
        rw [upd_ne (ne_of_none e no2), upd_ne (ne_of_none e ndx2)]
        exact e
      have z8 : ∀ H', Off o (upd (upd Hx dx (.own o)) o (.ins CS dx [])) H' → Same Hx H' := fun H' off b u e => off b u (ne_of_none e no2) (s8 b u e)
      exact ⟨o, bx.o, dx, x, bx.xs, rfl, upd_same, .inr ⟨rfl, s8 _ _ ho⟩, (bax.out.same bax.own.s).same s8, tm, hw, fun _ H' fs off ho sf => ⟨rfl, q o dx fs H' (sS.trans (sx.trans (bax.own.s.trans (z8 H' off)))) ho sf⟩, fun sh => by rw [hsh] at sh; cases sh⟩
end
end Bs

set_option Elab.async false
set_option linter.all false
set_option maxRecDepth 100000
set_option maxHeartbeats 8000000
namespace Bs
open PySem L2
/-! ### a shape's first lines are read again -/
def EnvI (f : Env) : Prop := ∀ z p, f z = some p → isName z = true
theorem envI_seen {f : Env} (hf : EnvI f) {y : It} (h : isName y.name = true) : EnvI (y.seen f) := by
  cases y with
  | num n s o lo hi =>
    intro z p e
    have e : (if z = n then some (lo, hi) else f z) = some p := e
    by_cases c : z = n
    · rw [c]; exact h
    · rw [if_neg c] at e; exact hf z p e
  | _ => exact hf
theorem amount_kw {f : Env} (hf : EnvI f) {most : Int} (hm : most ≤ 1000) {a : Key} {l : Int × Int} (e : amount f most a = some l) : kW a := by
  cases a with
  | inl i =>
    simp only [amount] at e
    by_cases c : 0 ≤ i ∧ i ≤ most
    · exact ⟨c.1, by omega⟩
    · rw [if_neg c] at e; cases e
  | inr z =>
    simp only [amount] at e
    cases h : f z with
    | none => rw [h] at e; cases e
    | some p => exact hf z p h
mutual
theorem It.hds_of : ∀ (x : It) (f : Env) (l : Int × Int) (d : Int), EnvI f → x.ok d = true → x.lens f = some l → x.hds
  | .num n s o lo hi, f, l, d, hf, ok, e => by
    have nm : isName n = true := ok_isName ok
    simp only [It.lens] at e
    by_cases c : numOk s o lo hi = true
    · unfold numOk at c
      rw [Bool.and_eq_true, Bool.and_eq_true, Bool.and_eq_true] at c
      have c1 := of_decide_eq_true c.1
      have c2 := of_decide_eq_true c.2.1
      have c3 := of_decide_eq_true c.2.2.1
      have c4 := of_decide_eq_true c.2.2.2
      have h65 : hi ≤ 65535 := by have := c3.2; split at this <;> omega
      exact ⟨nm, ⟨by omega, by omega⟩, c2, ⟨by omega, by omega⟩, ⟨by omega, by omega⟩⟩
    · rw [if_neg c] at e; cases e
  | .byt n a, f, l, d, hf, ok, e => by
    simp only [It.lens] at e
    exact ⟨ok_isName ok, amount_kw hf (by decide) e⟩
  | .txt n st m, f, l, d, hf, ok, e => by
    simp only [It.lens] at e
    by_cases c : (0 ≤ st ∧ st ≤ 255) ∧ 0 ≤ m ∧ m ≤ 64
    · exact ⟨ok_isName ok, ⟨by omega, by omega⟩, ⟨by omega, by omega⟩⟩
    · rw [if_neg c] at e; cases e
  | .chk n m, f, l, d, hf, ok, e => by
    simp only [It.lens] at e
    by_cases c : 1 ≤ m ∧ m ≤ 16
    · exact ⟨ok_isName ok, ⟨by omega, by omega⟩⟩
    · rw [if_neg c] at e; cases e
  | .pad n m b, f, l, d, hf, ok, e => by
    simp only [It.lens] at e
    by_cases c : (m = 1 ∨ m = 2 ∨ m = 4 ∨ m = 8 ∨ m = 16) ∧ 0 ≤ b ∧ b ≤ 255
    · exact ⟨ok_isName ok, ⟨by omega, by omega⟩, ⟨by omega, by omega⟩⟩
    · rw [if_neg c] at e; cases e
  | .rep n a b, f, l, d, hf, ok, e => by
    have nm : isName n = true := ok_isName ok
    simp only [It.lens] at e
    rw [It.ok, Bool.and_eq_true, Bool.and_eq_true, Bool.and_eq_true] at ok
    simp only [It.hds]
    cases ha : amount f 16 a with
    | none => rw [ha] at e; cases e
    | some q =>
      cases hb : b.lens f with
      | none => rw [ha, hb] at e; cases e
      | some p => exact ⟨⟨nm, amount_kw hf (by decide) ha⟩, Its.hds_of b f p _ hf ok.2.2.2 hb⟩
  | .eit n bs, f, l, d, hf, ok, e => by
    have nm : isName n = true := ok_isName ok
    simp only [It.lens] at e
    rw [It.ok, Bool.and_eq_true, Bool.and_eq_true, Bool.and_eq_true] at ok
    simp only [It.hds]
    cases hb : bs.lens f with
    | none => rw [hb] at e; cases e
    | some p => exact ⟨nm, Blks.hds_of bs f p _ hf ok.2.2.2 hb⟩
  | .swi n tag bs, f, l, d, hf, ok, e => by
    have nm : isName n = true := ok_isName ok
    simp only [It.lens] at e
    rw [It.ok, Bool.and_eq_true, Bool.and_eq_true, Bool.and_eq_true] at ok
    simp only [It.hds]
    by_cases c : (f tag).isSome = true ∧ (∀ v ∈ bs.vals, 0 ≤ v ∧ v ≤ 65535) ∧ bs.vals.Nodup
    · rw [if_pos c] at e
      obtain ⟨q, hq⟩ := Option.isSome_iff_exists.mp c.1
      cases hb : bs.lens f with
      | none => rw [hb] at e; cases e
      | some p => exact ⟨⟨nm, hf tag q hq⟩, fun v hv => ⟨(c.2.1 v hv).1, by have := (c.2.1 v hv).2; omega⟩, Blks.hds_of bs f p _ hf ok.2.2.2 hb⟩
    · rw [if_neg c] at e; cases e
theorem Its.hds_of : ∀ (x : Its) (f : Env) (l : Int × Int) (d : Int), EnvI f → x.ok d = true → x.lens f = some l → x.hds
  | .nil, f, l, d, hf, ok, e => trivial
  | .cons x r, f, l, d, hf, ok, e => by
    rw [lens_cons] at e
    rw [Its.ok, Bool.and_eq_true] at ok
    cases hx : x.lens f with
    | none => rw [hx] at e; cases e
    | some a =>
      rw [hx] at e
      simp only at e
      cases hr : r.lens (x.seen f) with
      | none => rw [hr] at e; cases e
      | some b => exact ⟨It.hds_of x f a d hf ok.1 hx, Its.hds_of r _ b d (envI_seen hf (ok_isName ok.1)) ok.2 hr⟩
theorem Blks.hds_of : ∀ (x : Blks) (f : Env) (l : List (Int × Int)) (d : Int), EnvI f → x.ok d = true → x.lens f = some l → x.hds
  | .nil, f, l, d, hf, ok, e => trivial
  | .cons v b r, f, l, d, hf, ok, e => by
    rw [lensB_cons] at e
    rw [Blks.ok, Bool.and_eq_true, Bool.and_eq_true] at ok
    cases hx : b.lens f with
    | none => rw [hx] at e; cases e
    | some a =>
      rw [hx] at e
      cases hr : r.lens f with
      | none => rw [hr] at e; cases e
      | some c => exact ⟨Its.hds_of b f a d hf ok.1.2 hx, Blks.hds_of r f c d hf ok.2 hr⟩
end
theorem joinL_len (S : List Nat) (m : Nat) : ∀ (ps : List (List Nat)), (∀ p ∈ ps, p.length ≤ m) → (TL.joinL S ps).length ≤ ps.length * (m + S.length)
  | [], _ => by simp [TL.joinL]
  | [p], h => by have := h p (List.mem_cons_self ..); simp [TL.joinL]; omega
  | p :: q :: r, h => by
    have a := h p (List.mem_cons_self ..)
    have b := joinL_len S m (q :: r) fun u hu => h u (List.mem_cons_of_mem _ hu)
    simp only [TL.joinL, List.length_append]
    rw [List.length_cons, Nat.succ_mul]
    omega
theorem text_len {ls : List Str} (h : ∀ z ∈ ls, z.length ≤ 12000) (n : ls.length ≤ 800) : (Txt.join "\n" ls).length ≤ 16000000 := by
  have e : (Txt.join "\n" ls).length = (TL.tl (Txt.join "\n" ls)).length := by simp [Str.length, TL.tl]
  have b := joinL_len [10] 12000 (ls.map TL.tl) fun p hp => by
    obtain ⟨z, hz, rfl⟩ := List.mem_map.mp hp
    have := h z hz
    have e : (TL.tl z).length = z.length := by simp [Str.length, TL.tl]
    omega
  rw [e, TL.join_eq, TL.tl_join, show TL.tl ("\n" : Str) = [10] from by decide +kernel]
  rw [List.length_map] at b
  refine Nat.le_trans b (Nat.le_trans (Nat.mul_le_mul_right _ n) (by decide))
/-- names as data -/
theorem names_dp {K : PySem.W.Frag} {H : Hp} : ∀ l : List Str, DpAll K H (l.map V.str) (l.map PyData.str)
  | [] => .nil
  | z :: r => .cons (.str z) (names_dp r)
theorem names_lay : ∀ l : List Str, (∀ z ∈ l, isName z = true) → PyData.canLayAll0 (l.map PyData.str) = true ∧ PyData.depthAll (l.map PyData.str) = 0
  | [], _ => ⟨rfl, rfl⟩
  | z :: r, h => by
    obtain ⟨a, b⟩ := names_lay r fun y hy => h y (List.mem_cons_of_mem _ hy)
    have nm := name_lay (h z (List.mem_cons_self ..))
    constructor
    · simp only [List.map_cons, PyData.canLayAll0, PyData.canLay0, nm, a, Bool.and_true]
    · simp only [List.map_cons, PyData.depthAll, PyData.depth, b]; rfl
theorem names_ne {K : PySem.W.Frag} {H : Hp} {p p' : Addr} {l : List Str} {Q : VK} (h : H p = some (.tup (l.map V.str))) (h' : H p' = some (.tup (l.map V.str))) (hl : ∀ z ∈ l, isName z = true) (q : Q (.bl false) H) : rNeD K (.ref p) (.ref p') H Q := by
  obtain ⟨a, b⟩ := names_lay l hl
  have sh : SeqAt.shaped (.tuple (l.map PyData.str)) = true := by
    unfold SeqAt.shaped
    simp only [PyData.canLay0, PyData.depth, a, b, Bool.true_and]
    exact decide_eq_true (by decide)
  refine ⟨.tuple (l.map PyData.str), .tuple (l.map PyData.str), .tup (SqT.of h) (names_dp l), .tup (SqT.of h') (names_dp l), sh, sh, ?_⟩
  have h := sh
  unfold SeqAt.shaped at h
  rw [Bool.and_eq_true] at h
  rw [SeqAt.eqv_refl _ h.1]
  exact q
theorem parts_ne {K : PySem.W.Frag} {H : Hp} {p p' : Addr} {ys zs : List V} {x : Its} {l : Int × Int} {Q : VK} (h : H p = some (.tup ys)) (a : x.At true H ys) (h' : H p' = some (.tup zs)) (a' : x.At true H zs) (ok : x.ok 0 = true) (el : x.lens (fun _ => none) = some l) (q : Q (.bl false) H) : rNeD K (.ref p) (.ref p') H Q := by
  refine ⟨.tuple x.data, .tuple x.data, .tup (SqT.of h) (Its.dp a), .tup (SqT.of h') (Its.dp a'), shaped_data ok el, shaped_data ok el, ?_⟩
  rw [eqv_data ok el]
  exact q
end Bs

set_option Elab.async false
set_option linter.all false
set_option maxRecDepth 100000
set_option maxHeartbeats 4000000
/-! isinstance(e, c), e a caught exception that has a dict of its own -/
namespace Rj
open PySem PySem.Spec PySem.Calls PyProof.Rows PySem.W L2
section
variable {prog : Program} {w : World} {A : Around} {E : Value → Shared → Prop} {s : Shared} {K : Frag} {x D : Addr} {ox : Obj} {od : Option Obj}
theorem findObj_dataD {C : Addr} {name : Str} {a g : Value} (hc : (clsIn K C).isSome = true) (ha : findIn K (.ref C) name = some (some a)) (hg : specialIn K a "__get__" = some (some g)) (ht : takesIn K a = some true) : findObj K C od name = some (.bind g a) := by
  obtain ⟨cd, hc⟩ := Option.isSome_iff_exists.mp hc
  unfold findObj
  rw [hc, Option.bind_some, ha, Option.bind_some]
  simp [hg, ht]
theorem kin_classD {Q : Option Value → Shared → Prop} (hga : findIn K (.ref D) "__getattribute__" = some (some (.builtin "BaseException.__getattribute__"))) (hgt : findIn K (.ref D) "__getattr__" = some none) (hsub : subIn K (.ref D) (.type "BaseException") = some true)
    (hdct : hasDictIn K D = true) (ha : findIn K (.ref D) "__class__" = some (some (.builtin "object.__class__")))
    (hn : specialIn K (.builtin "object.__class__") "__get__" = some (some (.builtin "getset_descriptor.__get__"))) (htk : takesIn K (.builtin "object.__class__") = some true) (hm : mroIn K D (.type "object") = some true)
    (X : K.In s.heap) (I : InstAt s.heap x ox D od) (h : Q (some (.ref D)) { s with toks := s.toks + 1 }) : wpAny (model prog w) A (getAttr? (.ref x) "__class__") Q E s := by
  have hf : findObj K D od "__class__" = some (.bind (.builtin "getset_descriptor.__get__") (.builtin "object.__class__")) := findObj_dataD (by obtain ⟨cd, hc, _⟩ := any_some hdct; rw [hc]; rfl) ha hn htk
  obtain ⟨hp, g, d, t, os⟩ := s
  have L0 := I.type (M := model prog w)
  have L1 := looks_findIn (M := model prog w) X hga
  have L2 := looks_findIn (M := model prog w) X hgt
  have L3 := looks_find (M := model prog w) X I hf
  have sub : Looks (model prog w) hp (isInstance (.ref x) (.type "BaseException")) true := L0.andThen (looks_subIn X hsub)
  have hx0 : (false && onTheHeap (Value.builtin "BaseException.__getattribute__")) = false := rfl
  have hx2 : (Value.builtin "BaseException.__getattribute__" == Value.builtin "object.__getattribute__") = false := by decide +kernel
  have hx1 : (onTheHeap (Value.ref D) && Value.builtin "BaseException.__getattribute__" == Value.builtin "object.__getattribute__") = false := by rw [hx2]; rfl
  unfold getAttr? getAttrBy? getAttrBy
  refine wpAny_bind (wpAny_mkText (wpAny_bind (wpAny_attempt (wpAny_holding (wpAny_bind (L0.at (wpAny_bind (L1.at ?_))))))))
  show wpAny _ _ (if (onTheHeap (Value.ref D) && Value.builtin "BaseException.__getattribute__" == Value.builtin "object.__getattribute__") = true then _ else _) _ _ _
  rw [hx1, if_neg Bool.false_ne_true]
  unfold getAttrByItsOwn hookBefore
  refine wpAny_bind ?_
  rw [if_pos (show onTheHeap (Value.ref D) = true from rfl)]
  refine L2.at ?_
  refine wpAny_bind (wpAny_attempt (wpAny_holding ?_))
  unfold callGetattribute
  rw [hx0, if_neg Bool.false_ne_true]
  unfold boundAndCalled
  rw [PySem.F.excAttr_ValueError.ga.bind (.ref x)]
  refine wpAny_bind (wpAny_pure ?_)
  show wpAny _ _ (call (.builtin "BaseException.__getattribute__") [.ref x, .str "__class__" t]) _ _ _
  refine wpAny_call (codeAny_call_builtin PySem.F.excAttr_ValueError.ga.plain PySem.F.entry_bexc_ga ?_)
  refine @check_slot (model prog w) _ _ ⟨hp, g, d, t + 1, os⟩ "BaseException.__getattribute__" "BaseException" "__getattribute__" (.ref x) [.str "__class__" t] [] _ (by decide +kernel) (by decide +kernel) sub (PySem.F.args_bexc_ga (.ref x) (.str "__class__" t)) ?_
  unfold Builtin.«object.__getattribute__»
  refine wpAny_bind (wpAny_of_eq (a := ((Value.ref x : Value), [Value.str "__class__" t])) (by first | rfl | (simp only [slotArgs]; rfl)) ?_)
  refine wpAny_bind (wpAny_pure (wpAny_bind (L0.at (wpAny_bind (L3.at ?_)))))
  show wpAny _ _ (holding [Value.builtin "object.__class__"] (call (.builtin "getset_descriptor.__get__") [.builtin "object.__class__", .ref x, .ref D]) >>= ret) _ _ _
  refine wpAny_bind (wpAny_holding (wpAny_call (class_get (s := ⟨hp, g, d, t + 1, os⟩) (ox := ox) (od := od) X I hm ?_)))
  refine wpAny_pure ?_
  show wpAny _ _ (handedOut (.ref D)) _ _ _
  rw [handedOut_of (v := .ref D) rfl]
  first
    | exact wpAny_pure (wpAny_pure h)
    | exact wpAny_pure h
    | exact wpAny_pure (wpAny_bind (wpAny_pure (wpAny_pure h)))
theorem kitx_excD (hga : findIn K (.ref D) "__getattribute__" = some (some (.builtin "BaseException.__getattribute__"))) (hgt : findIn K (.ref D) "__getattr__" = some none) (hsub : subIn K (.ref D) (.type "BaseException") = some true) (hdct : hasDictIn K D = true) (ha : findIn K (.ref D) "__class__" = some (some (.builtin "object.__class__")))
    (hn : specialIn K (.builtin "object.__class__") "__get__" = some (some (.builtin "getset_descriptor.__get__"))) (htk : takesIn K (.builtin "object.__class__") = some true) (hm : mroIn K D (.type "object") = some true) :
    KitX K (.ref x) (.ref D) (fun h => InstAt h x ox D od) where
  ty := fun _ _ _ I => I.type
  it := fun _ _ X _ => by
    obtain ⟨cdD, hcD, _⟩ := any_some hdct
    unfold clsIn at hcD
    split at hcD
    · rename_i c' d' cd' sl' ho
      intro A' Q' E' s' k q
      unfold isType loadHead
      exact wpAny_bind (wpAny_loadPart (k _ _ (X _ _ ho)) (wpAny_pure q))
    · cases hcD
  ne := fun h tp dd its n sl X htp => by
    obtain ⟨cdD, hcD, _⟩ := any_some hdct
    refine Bool.eq_false_iff.mpr fun q => ?_
    have e : D = tp := Value.ref.inj (beq_iff_eq.mp q)
    subst e
    unfold clsIn at hcD
    split at hcD
    · rename_i c' d' cd' sl' ho
      have z := (X _ _ ho).symm.trans htp
      cases z
    · cases hcD
  ca := fun X I k => kin_classD hga hgt hsub hdct ha hn htk hm X I k
end
/-- isinstance(e, c), e the exception that the suite holds, its dict at dd -/
def rIsED (K : PySem.W.Frag) (D a : Addr) (d : Option Addr) : List V → Hp → VK → Prop := fun xs H Q => ∃ (c : V) (cv : Value) (b : Bool) (dd : Addr) (fs : List (Str × V)), xs = [.ref a, c] ∧ (∀ u, RelV c u → u = cv) ∧ PySem.W.kitOne K (.ref D) cv = some b ∧ d = some dd ∧ H dd = some (.xd fs) ∧ Q (.bl b) H
theorem call_isED {X : Cx} {a D : Addr} {d : Option Addr} {oe : Obj} {pn : List (Addr × Obj)} (C : ExcC X.K D) (hz : Zc (.ref D) d oe) (hf : ∃ vs, oe.data = .fields vs) : CallR (X.suite a ((a, oe) :: pn)) (.builtin "isinstance") (rIsED X.K D a d) := by
  intro pins s σ H xs us Q I r h
  obtain ⟨c, cv, b, dd, fs, rfl, hcv, e, ed, hd, q⟩ := h
  subst ed
  cases r with
  | cons rx rr =>
    cases rr with
    | cons rt rr =>
      cases rr
      cases rx
      have ec := hcv _ rt
      subst ec
      obtain ⟨hget, _⟩ := I.pin (a, oe) (List.mem_append.mpr (.inl List.mem_cons_self))
      obtain ⟨vs, hv⟩ := hf
      have hx : ObjOk X.prog X.w H s.heap dd (.xd fs) := I.hok dd _ hd
      obtain ⟨mA, hns, hr⟩ := hx
      obtain ⟨od, ho, hl⟩ := lookIn_ns hns
      have J : PySem.W.InstAt s.heap a oe D (some od) := ⟨hget, hz.1, by unfold PySem.W.notCls; rw [hv] <;> rfl, by rw [hz.2]; exact ho⟩
      exact PySem.W.kia_one (kitx_excD C.hg C.hk C.hs C.hd C.ha C.hn C.ht C.hm) I.kIn J e (fun z => nomatch z) fun tk => ⟨.bl b, H, I.kept (t' := tk) fun _ _ z => z, rfl, q⟩
end Rj

set_option Elab.async false
set_option linter.all false
set_option maxRecDepth 100000
set_option maxHeartbeats 4000000
/-! o.m(e, ..) in a try: what is wished of an exception knows the slots -/
namespace Rj
open PySem PySem.Spec PyProof.Rows L2
def tMethAt (C : Addr) (m : Str) (sp : Sp) (E : L2.St → XK) (ta : TE) (t : TA) : TE := fun σ H Q => ta σ H fun x H1 => ∃ a dx fs, x = .ref a ∧ H1 a = some (.ins C dx fs) ∧ fs.lookup m = none ∧ t σ H1 fun vs H2 => sp (x :: vs) H2 Q (E σ)
section
variable {X : Cx} {CX : CXT} {k : Nat} {C f : Addr} {fd : FuncData} {ps : List Str} {m : Str} {sp : Sp} {E : L2.St → XK} {o e : Expr} {es : List Expr} {ta : TE} {t : TA} {apos pos : Pos}
theorem pe_methAt {pl : Sem Bool} (he : PE X o ta) (c : Cls X.K C) (hm : Meth X.K C m f) (F : FnOk X.prog X.w X.K X.mg X.base CX k f fd ps sp) (hr : Room k X.A) (hb : Binds X.K fd ps []) (hx : ∀ σ, PassesAt CX X σ (E σ)) (ha : PA X (e :: es) t)
    (hst : starEach (e :: es) X.env = (false, eval e X.env) :: starEach es X.env := by rfl) (hpl : (backTo pos (starEach es X.env)).any (·.1) = false := by rfl)
    (ht : eval (.Call (.Attribute o m apos) (e :: es) [] pos) X.env = (do
      let ov ← eval o X.env
      standAt apos.atName
      let (f, first) ← holding [ov] (getMethod ov m pl)
      callWith pos f first (backTo pos (starEach (e :: es) X.env)) (backToKw pos (keywordEach [] X.env))) := by rfl) :
    PE X (.Call (.Attribute o m apos) (e :: es) [] pos) (tMethAt C m sp E ta t) := by
  refine ⟨fun pins s σ H Q I h => ?_⟩
  refine PySem.W.methodCall_KW (pl := pl) (thn (he.run pins s σ H _ I h) fun u s1 ⟨x, H1, I1, rx, a, dx, fs, ex, ea, l, q⟩ => ?_) ht
  subst ex
  obtain rfl : u = Value.ref a := rx
  refine getmeth_ok I1 ea c hm l ?_
  refine PySem.W.callWith_K (first := [.ref a]) (h₀ := X.base) I.ok.mod.kin hm.kp (thn (ha.run pos pins s1 σ H1 _ I1 q) fun us s2 ⟨vs, H2, I2, r, q2⟩ => ⟨I2.kIn, ?_⟩) hst hpl
  exact run_fnS (us := .ref a :: us) (vs := .ref a :: vs) F hr hb (hx σ) I2 (.cons rfl r) q2
end
end Rj

set_option Elab.async false
set_option linter.all false
set_option maxRecDepth 100000
set_option maxHeartbeats 8000000
namespace Bs
open PySem L2
/-! ### InvalidNotation; words that do not fit -/
abbrev sNote : Stmt := inClass (top 4) 0
/-- an InvalidNotation in the making gets its line -/
def spNote (C : Addr) : Sp := fun vs H Q _ => ∃ (a : Addr) (n : Nat), vs = [.ref a, .int (n : Int)] ∧ H a = some (exo a C none) ∧ n ≤ 1000 ∧
  ∀ dx, H dx = none → dx ≠ a → Q .non (upd (upd H dx (exd dx [("line", .int (n : Int))])) a (exo a C (some dx)))
/-- InvalidNotation with this line -/
def NoLine (CN : Addr) (n : Nat) (H : Hp) (E : XK) : Prop := ∀ d H', Same H H' → H' d = some (.xd [("line", .int (n : Int))]) → E (.ref CN) (some d) H'
theorem NoLine.same {CN : Addr} {n : Nat} {H H' : Hp} {E : XK} (s : Same H H') (h : NoLine CN n H E) : NoLine CN n H' E := fun d H2 s2 e => h d H2 (s.trans s2) e
/-- first words that are no kind -/
def oddHeads : List Str := ["", "Number", "Bytes", "Text", "Repeat", "Either", "Switch", "Check", "Pad", "Choice", "Case", "End", "ends"]
def Forms2 (K : PySem.W.Frag) (w : World) (mg : Str → Option Value) : Prop := ∃ d es n, mg "FORMS" = some (.ref d) ∧ KDict K w d es n ∧ (∀ z fs, formOf z = some fs → ∃ a, PySem.W.nsIn K d z = some (some (.ref a)) ∧ ∀ H, SqT K H a (fs.map V.str)) ∧ ∀ z ∈ oddHeads, PySem.W.nsIn K d z = some none
/-- a statement that is never come to -/
theorem ps_neverR {X : Cx} (st : Stmt) : PS X st (fun _ _ _ => False) := ⟨fun _ _ _ _ _ _ h => h.elim⟩
inductive NoFit : List Str → Prop where
  | head {w0 : Str} {wr : List Str} : w0 ∈ oddHeads → NoFit (w0 :: wr)
  | len {w0 : Str} {wr fs : List Str} : formOf w0 = some fs → wr.length ≠ fs.length → NoFit (w0 :: wr)
  | word {w0 : Str} {wr fs : List Str} (i : Nat) (z fm : Str) : formOf w0 = some fs → wr.length = fs.length → wr[i]? = some z → fs[i]? = some fm → fitsB z fm = false → NoFit (w0 :: wr)
def spPartsN : Sp := fun vs H Q _ => ∃ (p : Addr) (ws : List Str), vs = [.ref p] ∧ H p = some (.lst (ws.map V.str)) ∧ NoFit ws ∧ (∀ z ∈ ws, z.length ≤ 10000) ∧ ws.length ≤ 1000 ∧ ∀ H', Same H H' → Q .non H'
section
variable {P : Program} {w : World} {K : PySem.W.Frag} {mg : Str → Option Value} {base : Heap} {f C CN cc c : Addr} {fd : FuncData}
abbrev nfNote (cc c : Addr) : NdefX.NF := ⟨"__init__", "InvalidNotation.__init__", defArgs sNote, defBody sNote, defScope sNote, [(("__class__" : Str), cc)], c⟩
theorem ok_note {oc : Value} {od an : Option Addr} {osl : Array (Option Value)} {kV doc pm ctv : Value} (lk : K.lookup f = some ⟨oc, od, .func (PySem.W.fnX "__init__" "InvalidNotation.__init__" (defArgs sNote) (defBody sNote) (defScope sNote) [(("__class__" : Str), cc)] .none kV doc pm an (.ref c) ctv), osl⟩)
    (hcd : PySem.W.codeIn K (.ref c) "InvalidNotation.__init__" = true) (Cs : Rj.SupC P K c cc CN) (T : OexC K CN) (hm : mg "super" = none) (hno : PySem.W.findIn K (.ref CN) "line" = some none) :
    FnOk P w K mg base CX0 1 f (PySem.W.fnX "__init__" "InvalidNotation.__init__" (defArgs sNote) (defBody sNote) (defScope sNote) [(("__class__" : Str), cc)] .none kV doc pm an (.ref c) ctv) ["self", "line"] (spNote CN) := by
  refine Rj.fn_super (F := nfNote cc c) (N := ["self", "line", "__class__"]) lk hcd rfl (NdefX.nscope_by (by show NdefX.nscB ["self", "line", "__class__"] ["self", "line"] ["__class__"] (defScope sNote) = true; decide +kernel)) Cs T hm rfl rfl rfl (by show (defScope sNote).names.lookup ("super" : Str) = some .globalImplicit; decide +kernel) (fun env _ => ⟨_, rfl⟩) (fun _ => rfl) (fun _ => rfl) (fun vs H Q E h => ?_) (fun A outer s H vs Q E hr h => ?_)
  · obtain ⟨a, n, rfl, _⟩ := h
    rfl
  · obtain ⟨a, n, rfl, ha, hn, q⟩ := h
    refine ⟨_, _, a, pe_joined (.cons pe_str (.cons (pe_fmt (pv 1)) (.cons pe_str .nil))), pss_one (ps_ost (pv 0) (pv 1)), rfl, ha, fun R hR => ?_⟩
    have l0 : (Str.empty ++ ("line " : Str)).length = 5 := by decide +kernel
    have l1 : (" cannot stand where it stands" : Str).length = 29 := by decide +kernel
    have li : (toString (n : Int) : Str).length ≤ 9 := by
      have := (int_text (iS_word (i := (n : Int)) (by omega) (by omega)).1).2
      exact this
    have lg : (n : Int).natAbs.log2 < 1920 := by
      rw [Int.natAbs_natCast]
      exact Nat.lt_of_le_of_lt (Nat.log2_le_self n) (by omega)
    refine ⟨_, rfl, by decide +kernel, _, rfl, .inr ⟨_, rfl, lg, _, rfl, ?_, _, rfl, ?_, ?_⟩⟩
    · rw [slen0, l0]; exact le_line (by omega)
    · rw [slen0, slen0, l0, l1]; exact le_line (by omega)
    · refine hR _ _ ha ?_
      exact ⟨_, rfl, _, rfl, a, CN, rfl, T, hno, .inl ⟨ha, fun dx n ne => q dx n ne⟩⟩
theorem ok_partsN (F : Fun K "parts_of" "parts_of" sPartsOf f fd) (T : Forms2 K w mg) (gF : Cal P w K mg base CX0 2 "fits" ["word", "form"] spFits) (ml : mg "len" = none) (mz : mg "zip" = none) : FnOk P w K mg base CX0 3 f fd ["words"] spPartsN := by
  refine F.ok scPartsOf (fun vs H Q E h => ?_) (fun cdv A outer s H vs Q E hr h => ?_)
  · obtain ⟨p, ws, rfl, _⟩ := h
    rfl
  · obtain ⟨p, ws, rfl, hp, nf, hz, hl, q⟩ := h
    obtain ⟨d, es, n, gD, D, hD, hO⟩ := T
    have hr2 : Room 2 _ := hr.mono (by omega)
    refine ⟨_, pss_cons (ps_if (pt_cmpR (op_notIn_kd D) (pe_ix ix_list (pv 0) pe_int (fun _ _ => rfl)) (pe_glob (v := .ref d) (by rfl) gD rfl) (by rfl)) (pss_one (ps_ret pe_non)) pss_nil)
      (pss_cons (ps_set (i := 1) scPartsOf.nd rfl (.inl rfl) (pe_ix ix_kdict (pe_glob (v := .ref d) (by rfl) gD rfl) (pe_ix ix_list (pv 0) pe_int (fun _ _ => rfl)) (fun _ _ => rfl)))
      (pss_cons (ps_if (pt_cmpR op_ne (pe_callB call_len (by rfl) ml boot_len (pa_cons (pv 0) pa_nil)) (pe_op op_add (pe_callB call_len (by rfl) ml boot_len (pa_cons (pv 1) pa_nil)) pe_int) (nomark _)) (pss_one (ps_ret pe_non)) pss_nil)
      (pss_cons (ps_for PassesOwn.never rfl (pi_zipM (by rfl) mz (pa_cons (pe_slice sl_list (pv 0) (po_some pe_int) po_none) (pa_cons (pv 1) pa_nil))) (pg_tup rfl (pgs_cons (pg_name (i := 2) scPartsOf.nd rfl (Or.inl rfl)) (pgs_cons (pg_name (i := 3) scPartsOf.nd rfl (Or.inl rfl)) pgs_nil)))
        (pss_one (ps_if (pt_not (pt_val (pe_cal gF hr2 pass0 (pa_cons (pv 2) (pa_cons (pv 3) pa_nil))))) (pss_one (ps_ret pe_non)) pss_nil)))
      (pss_one (ps_neverR _))))), ?_⟩
    have hL : SqL K H p _ := SqL.of hp
    have cut : ∀ {w0 : Str} {wr : List Str}, cutV ((w0 :: wr).map V.str) (some 1) none = wr.map V.str := fun {w0 wr} => by
      unfold cutV
      rw [HT.sIx_none, show (1 : Int) = ((1 : Nat) : Int) from rfl, HT.sIx_nat]
      simp
      exact List.take_of_length_le (by simp)
    -- the words of a kind
    have hkn : ∀ {w0 : Str} {wr : List Str}, ws = w0 :: wr → (w0 ∈ oddHeads) ∨ ∃ fs, formOf w0 = some fs ∧ (wr.length = fs.length → ∃ i z fm, wr[i]? = some z ∧ fs[i]? = some fm ∧ fitsB z fm = false) := fun {w0 wr} e => by
      subst e
      cases nf with
      | head h => exact .inl h
      | len h1 h2 => exact .inr ⟨_, h1, fun e => absurd e h2⟩
      | word i z fm h1 h2 h3 h4 h5 => exact .inr ⟨_, h1, fun _ => ⟨i, z, fm, h3, h4, h5⟩⟩
    obtain ⟨w0, wr, rfl⟩ : ∃ w0 wr, ws = w0 :: wr := by cases nf <;> exact ⟨_, _, rfl⟩
    rcases hkn rfl with hodd | ⟨fs, hfo, hbad⟩
    · refine ⟨_, rfl, p, _, 0, _, rfl, rfl, hL, atI_nat (j := 0) rfl, w0, _, rfl, rfl, hO w0 hodd, _, rfl, iteT ?_⟩
      exact q H (.refl H)
    obtain ⟨ad, nsA, hA⟩ := hD w0 fs hfo
    have lw : ((w0 :: wr).map V.str).length = wr.length + 1 := by simp
    have lf := form_len hfo
    refine ⟨_, rfl, p, _, 0, _, rfl, rfl, hL, atI_nat (j := 0) rfl, w0, _, rfl, rfl, nsA, _, rfl, iteF ?_⟩
    refine ⟨_, rfl, p, _, 0, _, rfl, rfl, hL, atI_nat (j := 0) rfl, d, w0, .ref ad, rfl, rfl, ⟨es, n, _, D.at_, D.lit, nsA, rfl⟩, ?_⟩
    refine ⟨_, rfl, _, _, rfl, .inl ⟨_, hL, rfl⟩, _, rfl, _, _, rfl, .inr ⟨_, hA H, rfl⟩, _, _, rfl, rfl, rfl, _, rfl, ?_⟩
    by_cases hlen : wr.length = fs.length
    rotate_left
    · rw [decide_eq_false (fun e => hlen (by have := V.int.inj e; rw [lw, List.length_map] at this; omega))]
      exact iteT (q H (.refl H))
    rw [decide_eq_true (show V.int (((w0 :: wr).map V.str).length : Int) = V.int (((fs.map V.str).length : Int) + 1) by rw [lw, List.length_map, hlen]; rfl)]
    refine iteF ?_
    obtain ⟨ib, zb, fb, gz, gf, nofit⟩ := hbad hlen
    refine ⟨_, rfl, 1, rfl, p, _, rfl, hL, fun p1 hp1 => ?_⟩
    rw [cut]
    have s1 := same_new hp1 (.lst (wr.map V.str))
    have h1 : (upd H p1 (.lst (wr.map V.str))) p1 = some (.lst (wr.map V.str)) := upd_same
    generalize upd H p1 (.lst (wr.map V.str)) = H1 at s1 h1 ⊢
    refine ⟨_, rfl, p1, ad, wr.map V.str, fs.map V.str, rfl, SqL.of h1, hA H1, for_it (walk_zipM (xs := wr.map V.str) (ys := fs.map V.str) (by simp [hlen])) (fun i σ H' => ∃ i2 i3, σ = [some (.ref p), some (.ref ad), i2, i3] ∧ Same H1 H' ∧ i ≤ ib) ⟨none, none, rfl, Same.refl _, Nat.zero_le _⟩ (fun i σ H' _ z => by obtain ⟨_, _, _, z, _⟩ := z; exact ⟨SqL.of (z _ _ h1), hA H'⟩) ?_ ?_⟩
    · rintro i v σ H2 H3 hi ⟨i2, i3, rfl, s2, ile⟩ ⟨T, vx, vy, rfl, hT0, rfl, ex, ey⟩
      have s3 := same_new hT0 (.tup [vx, vy])
      rw [List.getElem?_map] at ex ey
      obtain ⟨z, ez, rfl⟩ := Option.map_eq_some_iff.mp ex
      obtain ⟨fm, ef, rfl⟩ := Option.map_eq_some_iff.mp ey
      refine ⟨T, _, rfl, SqT.of upd_same, rfl, _, _, rfl, _, _, rfl, rfl, ?_⟩
      have zl := hz z (List.mem_cons_of_mem _ (List.mem_of_getElem? ez))
      refine ⟨_, rfl, _, rfl, z, fm, rfl, le_line (by omega), fun H4 s4 => ?_⟩
      cases hf : fitsB z fm with
      | false => exact ⟨_, rfl, iteT (q H4 (s1.trans (s2.trans (s3.trans s4))))⟩
      | true =>
        refine ⟨_, rfl, iteF ⟨_, _, rfl, s2.trans (s3.trans s4), ?_⟩⟩
        have : i ≠ ib := fun e => by
          subst e
          rw [gz] at ez; rw [gf] at ef
          cases ez; cases ef
          rw [nofit] at hf; cases hf
        omega
    · rintro σ H2 ⟨i2, i3, rfl, s2, ile⟩
      have : ib < wr.length := by
        apply Decidable.byContradiction
        intro k
        rw [List.getElem?_eq_none (by omega)] at gz; cases gz
      rw [List.length_map] at ile
      omega
end
end Bs

set_option Elab.async false
set_option linter.all false
set_option maxRecDepth 100000
set_option maxHeartbeats 8000000
namespace Bs
open PySem L2
/-! ### lines that the builder refuses -/
inductive Ref : Ms → List Str → Prop where
  | end0 (out : Its) : Ref ⟨[], out⟩ ["end"]
  | choice (st : Ms) : (∀ n bs r, st.fr ≠ .eit n bs :: r) → Ref st ["choice"]
  | case (st : Ms) (v : Int) : 0 ≤ v → v < 100000 → (∀ n t bs r, st.fr ≠ .swi n t bs :: r) → Ref st ["case", iS v]
  | flat (st : Ms) (y : It) : y.blocky = false → y.hd → ¬ st.has → Ref st y.words
  | deepR (st : Ms) (n : Str) (a : Key) : isName n = true → kW a → st.has → st.fr.length = 3 → Ref st ["repeat", n, kS a]
  | deepE (st : Ms) (n : Str) : isName n = true → st.has → st.fr.length = 3 → Ref st ["either", n]
  | deepS (st : Ms) (n t : Str) : isName n = true → isName t = true → st.has → st.fr.length = 3 → Ref st ["switch", n, t]
theorem ref_words {st : Ms} {ws : List Str} (h : Ref st ws) : Fit ws ∧ (∀ z ∈ ws, Good z) ∧ ws ≠ [] := by
  cases h with
  | end0 out => exact step_words (Step.close (.rep "" (.inl 0) .nil) [] out trivial)
  | choice => exact step_words (Step.choice "" .nil [] .nil 0)
  | case _ v h0 h1 => exact step_words (Step.case "" "" .nil [] .nil v h0 h1)
  | flat _ y hb hd => exact step_words (Step.flat ⟨[], .nil⟩ y hb hd trivial)
  | deepR _ n a hn ha => exact step_words (Step.opnR ⟨[], .nil⟩ n a hn ha trivial (by decide))
  | deepE _ n hn => exact step_words (Step.opnE ⟨[], .nil⟩ n hn trivial (by decide))
  | deepS _ n t hn ht => exact step_words (Step.opnS ⟨[], .nil⟩ n t hn ht trivial (by decide))
def Fr.kw : Fr → Str
  | .rep .. => "repeat" | .eit .. => "either" | .swi .. => "switch"
theorem FrAt.kw {S : Hp} {fr : Fr} {p : Pc} (h : FrAt S fr p) : p.Fs ∧ ∃ rest, S p.hd = some (.tup (.str fr.kw :: rest)) := by
  cases fr with
  | rep => exact ⟨h.1, _, h.2.1⟩
  | eit => exact ⟨h.1, _, h.2.1⟩
  | swi => exact ⟨h.1, _, h.2.1⟩
section
variable {P : Program} {w : World} {K : PySem.W.Frag} {mg : Str → Option Value} {base : Heap} {f CB CO fW fC fG fO : Addr} {fd fdW fdC fdG fdO : FuncData}
def spCloseN (CB CO : Addr) : Sp := fun vs H Q _ => ∃ (bd : Addr) (S : Hp) (b : Bp) (out : Its), vs = [.ref bd] ∧ BuAt CB CO S H bd b ⟨[], out⟩ ∧ Q (.bl false) H
theorem ok_closeN (F : Fun K "_close" "Builder._close" sClose f fd) (TB : BuC K CB) : FnOk P w K mg base CX0 2 f fd ["self"] (spCloseN CB CO) := by
  refine F.ok scClose (fun vs H Q E h => ?_) (fun cdv A outer s H vs Q E hr h => ?_)
  · obtain ⟨bd, S, b, out, rfl, _⟩ := h
    rfl
  · obtain ⟨bd, S, b, out, rfl, w, q⟩ := h
    refine ⟨_, (pss_cons (ps_if (pt_not (pt_truth (pe_fld (pv 0) rfl) (fun _ => rfl))) (pss_one (ps_ret pe_bl)) pss_nil)
      (pss_cons (ps_neverR _) (pss_cons (ps_neverR _) (pss_cons (ps_neverR _) (pss_one (ps_neverR _)))))), ?_⟩
    have hb := w.own.at' (.head _)
    have hl := w.own.at' (.tail _ (.tail _ (.head _)))
    have hps : b.ps = [] := by cases e : b.ps with
      | nil => rfl
      | cons p pr => have := w.fr; rw [e] at this; cases this
    rw [hps] at hl
    exact ⟨_, rfl, bd, CB, b.dx, b.bf, _, rfl, hb, TB.cl, TB.n2, w.f2, false, .inl ⟨_, SqL.of hl, rfl⟩, iteT q⟩
def spBegN (CB CO : Addr) : Sp := fun vs H Q _ => ∃ (bd pt : Addr) (S : Hp) (b : Bp) (st : Ms) (key k : Str) (tail : List V), vs = [.ref bd, .ref pt] ∧ BuAt CB CO S H bd b st ∧ S pt = some (.tup (.str key :: tail)) ∧ (key = "choice" ∧ k = "either" ∨ key = "case" ∧ k = "switch") ∧ (∀ f r, st.fr = f :: r → f.kw ≠ k) ∧ Q (.bl false) H
theorem ok_begN (F : Fun K "_begin_block" "Builder._begin_block" sBegB f fd) (TB : BuC K CB) (TO : OpC K CO) (T : Begs K w mg) : FnOk P w K mg base CX0 1 f fd ["self", "parts"] (spBegN CB CO) := by
  refine F.ok scBegB (fun vs H Q E h => ?_) (fun cdv A outer s H vs Q E hr h => ?_)
  · obtain ⟨bd, pt, S, b, st, key, k, tail, rfl, _⟩ := h
    rfl
  · obtain ⟨bd, pt, S, b, st, key, k, tail, rfl, ba, hpt, hk, hno, q⟩ := h
    obtain ⟨d, es, n, gD, D, ⟨tE, nE⟩, ⟨tS, nS⟩, _⟩ := T
    obtain ⟨u, tt, eu, hkey⟩ : ∃ u tt, u = Value.str k tt ∧ PySem.W.nsIn K d key = some (some u) := by
      rcases hk with ⟨rfl, rfl⟩ | ⟨rfl, rfl⟩
      · exact ⟨_, _, rfl, nE⟩
      · exact ⟨_, _, rfl, nS⟩
    refine ⟨_, (pss_cons (ps_if (PW.pt (pw_or (pt_not (pt_truth (pe_fld (pv 0) rfl) (fun _ => rfl))) (pw_or1 (pt_cmpR op_ne (pe_ix ix_tup (pe_fld (pe_ix ix_list (pe_fld (pv 0) rfl) (pe_un un_neg pe_int) (fun _ _ => rfl)) rfl) pe_int (fun _ _ => rfl)) (pe_ix ix_kdict (pe_glob (v := .ref d) (by rfl) gD rfl) (pe_ix ix_tup (pv 1) pe_int (fun _ _ => rfl)) (fun _ _ => rfl)) (nomark _))))) (pss_one (ps_ret pe_bl)) pss_nil)
      (pss_cons (ps_neverR _) (pss_cons (ps_neverR _) (pss_one (ps_neverR _))))), ?_⟩
    obtain ⟨dx, o, s, bf, xs, ps⟩ := b
    obtain ⟨w, hout, hf, f1, f2, f3, f4, f5⟩ := ba
    dsimp only at hf f1 f2 hout
    have hb := w.at' (.head _)
    have hl := w.at' (.tail _ (.tail _ (.head _)))
    dsimp only at hb hl
    cases hs : st.fr with
    | nil =>
      rw [hs] at hf
      cases hf
      exact ⟨_, rfl, bd, CB, dx, bf, _, rfl, hb, TB.cl, TB.n2, f2, false, .inl ⟨_, SqL.of hl, rfl⟩, iteT (iteT q)⟩
    | cons fr r =>
      rw [hs] at hf
      cases hf with
      | @cons _ p _ pr hp ht =>
        obtain ⟨fp, rest, hhd⟩ := hp.kw
        rw [rev_refs] at hl
        have hmem : ∀ a o, (a, o) ∈ p.own CO → H a = some o := fun a o hm => w.at' (by
          unfold Bp.own
          rw [List.flatMap_cons]
          exact .tail _ (.tail _ (.tail _ (List.mem_append_left _ hm))))
        have hpf := hmem _ _ (.head _)
        refine ⟨_, rfl, bd, CB, dx, bf, _, rfl, hb, TB.cl, TB.n2, f2, true, .inl ⟨_, SqL.of hl, by simp⟩, iteF ?_⟩
        refine ⟨_, rfl, bd, CB, dx, bf, _, rfl, hb, TB.cl, TB.n2, f2, _, rfl, s, _, -1, .ref p.f, rfl, rfl, SqL.of hl, atI_last _ _, p.f, CO, p.dx, p.fs, _, rfl, hpf, TO.cl, TO.n1, fp.h, p.hd, _, 0, _, rfl, rfl, SqT.of (w.s _ _ hhd), atI_nat (j := 0) rfl, ?_⟩
        refine ⟨_, rfl, pt, _, 0, _, rfl, rfl, SqT.of (w.s _ _ hpt), atI_nat (j := 0) rfl, d, key, .str k, rfl, rfl, ⟨es, n, _, D.at_, D.lit, hkey, tt, eu⟩, rfl, _, rfl, ?_⟩
        rw [decide_eq_false (fun e => hno fr r hs (V.str.inj e))]
        exact iteT q
def spTakeN (CB CO : Addr) : Sp := fun vs H Q _ => ∃ (bd pt : Addr) (S : Hp) (b : Bp) (st : Ms) (ws : List Str) (m : Nat), vs = [.ref bd, .ref pt] ∧ BuAt CB CO S H bd b st ∧ S pt = some (.tup (ws.map prt1)) ∧ Ref st ws ∧ st.sz m ∧ m ≤ 900 ∧ ∀ H', Same H H' → Q (.bl false) H'
theorem ok_takeN (F : Fun K "take" "Builder.take" sTake f fd) (TB : BuC K CB) (TO : OpC K CO) (T : Begs K w mg) (O : Opens K mg) (gM : GInt mg "MOST_OPEN" 3) (ml : mg "len" = none) (mC : Meth K CB "_close" fC) (GC : FnOk P w K mg base CX0 2 fC fdC ["self"] (spCloseN CB CO)) (bC : Binds K fdC ["self"] [])
    (mG : Meth K CB "_begin_block" fG) (GG : FnOk P w K mg base CX0 1 fG fdG ["self", "parts"] (spBegN CB CO)) (bG : Binds K fdG ["self", "parts"] []) : FnOk P w K mg base CX0 3 f fd ["self", "parts"] (spTakeN CB CO) := by
  refine F.ok scTake (fun vs H Q E h => ?_) (fun cdv A outer s H vs Q E hr h => ?_)
  · obtain ⟨bd, pt, S, b, st, ws, m, rfl, _⟩ := h
    rfl
  · obtain ⟨bd, pt, S, b, st, ws, m, rfl, ba, hpt, href, z, hm, q⟩ := h
    obtain ⟨d, es, n, gD, D, ⟨tE, nE⟩, ⟨tS, nS⟩, nK⟩ := T
    obtain ⟨aO, gO, hO⟩ := O
    have hr1 : Room 1 _ := hr.mono (by omega)
    refine ⟨_, (pss_cons (ps_if (pt_cmpR op_eq (pe_ix ix_tup (pv 1) pe_int (fun _ _ => rfl)) pe_str (nomark _)) (pss_one (ps_ret (pe_meth0 (pv 0) TB.cl mC GC hr bC .nil pass0))) pss_nil)
      (pss_cons (ps_if (pt_cmpR (op_in_kd D) (pe_ix ix_tup (pv 1) pe_int (fun _ _ => rfl)) (pe_glob (v := .ref d) (by rfl) gD rfl) (by rfl)) (pss_one (ps_ret (pe_meth (pv 0) TB.cl mG GG hr1 bG .nil pass0 (pa_cons (pv 1) pa_nil)))) pss_nil)
      (pss_cons (ps_set (i := 2) scTake.nd rfl (.inl rfl) (show PE _ _ (tBlk K) from pe_ifExp (pt_truth (pe_fld (pv 0) rfl) (fun _ => rfl)) (pe_fld (pe_ix ix_list (pe_fld (pv 0) rfl) (pe_un un_neg pe_int) (fun _ _ => rfl)) rfl) (pe_lst (pa_cons (pe_fld (pv 0) rfl) pa_nil))))
      (pss_cons (ps_if (pt_not (pt_truth (pv 2) (fun _ => rfl))) (pss_one (ps_ret pe_bl)) pss_nil)
      (pss_cons (ps_if (pt_cmpR op_notIn_seq (pe_ix ix_tup (pv 1) pe_int (fun _ _ => rfl)) (pe_glob (v := .ref aO) (by rfl) gO rfl) (by rfl)) (pss_cons (ps_neverR _) (pss_one (ps_neverR _))) pss_nil)
      (pss_cons (ps_if (pt_cmpR op_eq (pe_callB call_len (by rfl) ml boot_len (pa_cons (pe_fld (pv 0) rfl) pa_nil)) (pe_gint gM rfl) (nomark _)) (pss_one (ps_ret pe_bl)) pss_nil)
      (pss_cons (ps_neverR _) (pss_one (ps_neverR _))))))))), ?_⟩
    have hb := ba.own.at' (.head _)
    have hT := SqT.of (K := K) (ba.own.s _ _ hpt)
    have kne2 : ∀ {a b : Str}, a ≠ b → ¬ decide (V.str a = V.str b) = true := fun h k => h (V.str.inj (of_decide_eq_true k))
    obtain ⟨k1, k2, k3, k4, k5, k6, k7, k8, k9, k10, k11, k12, k13⟩ := prt_kw
    cases href with
    | end0 out =>
      simp only [List.map_cons, List.map_nil, k9] at hpt hT
      refine ⟨_, rfl, pt, _, 0, _, rfl, rfl, hT, atI_nat (j := 0) rfl, rfl, _, rfl, iteT ?_⟩
      exact ⟨_, rfl, bd, b.dx, b.bf, rfl, hb, ba.f4, bd, S, b, out, rfl, ba, q H (.refl H)⟩
    | choice _ hno =>
      simp only [List.map_cons, List.map_nil, k10] at hpt hT
      refine ⟨_, rfl, pt, _, 0, _, rfl, rfl, hT, atI_nat (j := 0) rfl, rfl, _, rfl, ite2 (fun e => absurd e (kne2 (by decide +kernel))) (fun _ => ?_)⟩
      refine ⟨_, rfl, pt, _, 0, _, rfl, rfl, hT, atI_nat (j := 0) rfl, "choice", _, rfl, rfl, nE, _, rfl, iteT ?_⟩
      refine ⟨_, rfl, bd, b.dx, b.bf, rfl, hb, ba.f5, _, rfl, bd, pt, S, b, st, "choice", "either", _, rfl, ba, hpt, .inl ⟨rfl, rfl⟩, fun f r e ek => ?_, q H (.refl H)⟩
      cases f with
      | eit n bs => exact hno n bs r e
      | rep => exact absurd ek (by simp only [Fr.kw]; decide +kernel)
      | swi => exact absurd ek (by simp only [Fr.kw]; decide +kernel)
    | case _ v v0 v1 hno =>
      simp only [List.map_cons, List.map_nil, k11, prt_int ⟨v0, v1⟩] at hpt hT
      refine ⟨_, rfl, pt, _, 0, _, rfl, rfl, hT, atI_nat (j := 0) rfl, rfl, _, rfl, ite2 (fun e => absurd e (kne2 (by decide +kernel))) (fun _ => ?_)⟩
      refine ⟨_, rfl, pt, _, 0, _, rfl, rfl, hT, atI_nat (j := 0) rfl, "case", _, rfl, rfl, nS, _, rfl, iteT ?_⟩
      refine ⟨_, rfl, bd, b.dx, b.bf, rfl, hb, ba.f5, _, rfl, bd, pt, S, b, st, "case", "switch", _, rfl, ba, hpt, .inr ⟨rfl, rfl⟩, fun f r e ek => ?_, q H (.refl H)⟩
      cases f with
      | swi n t bs => exact hno n t bs r e
      | rep => exact absurd ek (by simp only [Fr.kw]; decide +kernel)
      | eit => exact absurd ek (by simp only [Fr.kw]; decide +kernel)
    | flat _ y hbk hd hs =>
      obtain ⟨hy, rest, er⟩ := flat_words (fz := false) hbk hd hpt
      rw [er] at hT
      refine ⟨_, rfl, pt, _, 0, _, rfl, rfl, hT, atI_nat (j := 0) rfl, rfl, _, rfl, ite2 (fun e => absurd e (kne2 (by cases y <;> simp only [It.kind] <;> decide +kernel))) (fun _ => ?_)⟩
      refine ⟨_, rfl, pt, _, 0, _, rfl, rfl, hT, atI_nat (j := 0) rfl, y.kind, _, rfl, rfl, nK y, _, rfl, iteF ?_⟩
      refine blk_go TB TO rfl ba z (fun B q0 l0 xs0 H' has _ _ _ _ _ => absurd has hs) (fun B nh hB => ?_)
      exact ⟨_, rfl, false, .inl ⟨_, SqL.of hB, rfl⟩, iteT (q H (.refl H))⟩
    | deepR _ n0 a hn ha hs hf3 =>
      simp only [List.map_cons, List.map_nil, k4, prt_name hn, prt_k ha] at hpt
      have hT : SqT K H pt _ := SqT.of (ba.own.s _ _ hpt)
      have hnK : PySem.W.nsIn K d "repeat" = some none := nK (.rep n0 a .nil)
      refine ⟨_, rfl, pt, _, 0, _, rfl, rfl, hT, atI_nat (j := 0) rfl, rfl, _, rfl, ite2 (fun e => absurd e (kne2 (by decide +kernel))) (fun _ => ?_)⟩
      refine ⟨_, rfl, pt, _, 0, _, rfl, rfl, hT, atI_nat (j := 0) rfl, "repeat", _, rfl, rfl, hnK, _, rfl, iteF ?_⟩
      refine blk_go TB TO rfl ba z (fun B q0 l0 xs0 H' _ s' hB hq lx kk => ?_) (fun B nh => absurd hs nh)
      refine ⟨_, rfl, true, .inl ⟨_, SqL.of hB, by simp⟩, iteF ?_⟩
      have hT' : SqT K H' pt _ := SqT.of (s' _ _ (ba.own.s _ _ hpt))
      refine ⟨_, rfl, pt, _, 0, _, rfl, rfl, hT', atI_nat (j := 0) rfl, aO, _, rfl, .inr (hO _), rfl, rfl, _, rfl, ?_⟩
      rw [show inV (V.str "repeat") [.str "repeat", .str "either", .str "switch"] = true from by decide +kernel]
      refine iteF ?_
      obtain ⟨dx, o, s, bf, xs, ps⟩ := b
      obtain ⟨w, hout, hf, f1, f2, f3, f4, f5⟩ := ba
      dsimp only at hf f1 f2 hout
      have w' := w.same s'
      have hb' := w'.at' (.head _)
      have hl' := w'.at' (.tail _ (.tail _ (.head _)))
      have pl : ps.length = st.fr.length := (Paired.length hf).symm
      dsimp only at hb' hl'
      refine ⟨_, rfl, bd, CB, dx, bf, _, rfl, hb', TB.cl, TB.n2, f2, _, _, rfl, .inl ⟨_, SqL.of hl', rfl⟩, rfl, _, rfl, ?_⟩
      rw [decide_eq_true (by simp; omega)]
      exact iteT (q H' s')
    | deepE _ n0 hn hs hf3 =>
      simp only [List.map_cons, List.map_nil, k5, prt_name hn] at hpt
      have hT : SqT K H pt _ := SqT.of (ba.own.s _ _ hpt)
      have hnK : PySem.W.nsIn K d "either" = some none := nK (.eit n0 .nil)
      refine ⟨_, rfl, pt, _, 0, _, rfl, rfl, hT, atI_nat (j := 0) rfl, rfl, _, rfl, ite2 (fun e => absurd e (kne2 (by decide +kernel))) (fun _ => ?_)⟩
      refine ⟨_, rfl, pt, _, 0, _, rfl, rfl, hT, atI_nat (j := 0) rfl, "either", _, rfl, rfl, hnK, _, rfl, iteF ?_⟩
      refine blk_go TB TO rfl ba z (fun B q0 l0 xs0 H' _ s' hB hq lx kk => ?_) (fun B nh => absurd hs nh)
      refine ⟨_, rfl, true, .inl ⟨_, SqL.of hB, by simp⟩, iteF ?_⟩
      have hT' : SqT K H' pt _ := SqT.of (s' _ _ (ba.own.s _ _ hpt))
      refine ⟨_, rfl, pt, _, 0, _, rfl, rfl, hT', atI_nat (j := 0) rfl, aO, _, rfl, .inr (hO _), rfl, rfl, _, rfl, ?_⟩
      rw [show inV (V.str "either") [.str "repeat", .str "either", .str "switch"] = true from by decide +kernel]
      refine iteF ?_
      obtain ⟨dx, o, s, bf, xs, ps⟩ := b
      obtain ⟨w, hout, hf, f1, f2, f3, f4, f5⟩ := ba
      dsimp only at hf f1 f2 hout
      have w' := w.same s'
      have hb' := w'.at' (.head _)
      have hl' := w'.at' (.tail _ (.tail _ (.head _)))
      have pl : ps.length = st.fr.length := (Paired.length hf).symm
      dsimp only at hb' hl'
      refine ⟨_, rfl, bd, CB, dx, bf, _, rfl, hb', TB.cl, TB.n2, f2, _, _, rfl, .inl ⟨_, SqL.of hl', rfl⟩, rfl, _, rfl, ?_⟩
      rw [decide_eq_true (by simp; omega)]
      exact iteT (q H' s')
    | deepS _ n0 t hn ht hs hf3 =>
      simp only [List.map_cons, List.map_nil, k6, prt_name hn, prt_name ht] at hpt
      have hT : SqT K H pt _ := SqT.of (ba.own.s _ _ hpt)
      have hnK : PySem.W.nsIn K d "switch" = some none := nK (.swi n0 t .nil)
      refine ⟨_, rfl, pt, _, 0, _, rfl, rfl, hT, atI_nat (j := 0) rfl, rfl, _, rfl, ite2 (fun e => absurd e (kne2 (by decide +kernel))) (fun _ => ?_)⟩
      refine ⟨_, rfl, pt, _, 0, _, rfl, rfl, hT, atI_nat (j := 0) rfl, "switch", _, rfl, rfl, hnK, _, rfl, iteF ?_⟩
      refine blk_go TB TO rfl ba z (fun B q0 l0 xs0 H' _ s' hB hq lx kk => ?_) (fun B nh => absurd hs nh)
      refine ⟨_, rfl, true, .inl ⟨_, SqL.of hB, by simp⟩, iteF ?_⟩
      have hT' : SqT K H' pt _ := SqT.of (s' _ _ (ba.own.s _ _ hpt))
      refine ⟨_, rfl, pt, _, 0, _, rfl, rfl, hT', atI_nat (j := 0) rfl, aO, _, rfl, .inr (hO _), rfl, rfl, _, rfl, ?_⟩
      rw [show inV (V.str "switch") [.str "repeat", .str "either", .str "switch"] = true from by decide +kernel]
      refine iteF ?_
      obtain ⟨dx, o, s, bf, xs, ps⟩ := b
      obtain ⟨w, hout, hf, f1, f2, f3, f4, f5⟩ := ba
      dsimp only at hf f1 f2 hout
      have w' := w.same s'
      have hb' := w'.at' (.head _)
      have hl' := w'.at' (.tail _ (.tail _ (.head _)))
      have pl : ps.length = st.fr.length := (Paired.length hf).symm
      dsimp only at hb' hl'
      refine ⟨_, rfl, bd, CB, dx, bf, _, rfl, hb', TB.cl, TB.n2, f2, _, _, rfl, .inl ⟨_, SqL.of hl', rfl⟩, rfl, _, rfl, ?_⟩
      rw [decide_eq_true (by simp; omega)]
      exact iteT (q H' s')
end
end Bs

set_option Elab.async false
set_option linter.all false
set_option maxRecDepth 100000
set_option maxHeartbeats 8000000
namespace Bs
open PySem L2
/-! ### parse_shape of a text that is refused -/
def Good2 (z : Str) : Prop := (∀ c ∈ z.cps.toList, c ≠ 32 ∧ c ≠ 10) ∧ z.length ≤ 10000
theorem Good.two {z : Str} (h : Good z) : Good2 z := ⟨h.1, by have := h.2; omega⟩
theorem wd_nonl2 {ws : List Str} (h : ∀ z ∈ ws, Good2 z) : ¬ 10 ∈ TL.tl (wd ws) := fun q => by
  rw [wd_tl] at q
  rcases mem_joinL q with q | ⟨p, hp, hc⟩
  · simp at q
  · obtain ⟨z, hz, rfl⟩ := List.mem_map.mp hp
    exact ((h z hz).1 _ hc).2 rfl
theorem wd_split2 {ws : List Str} (h : ∀ z ∈ ws, Good2 z) (n : ws ≠ []) : Txt.split (wd ws) " " = ws :=
  TL.split_join (y := " ") (s := 32) (S := []) (by decide +kernel) (by decide +kernel) n fun p hp q => ((h p hp).1 _ q).1 rfl
/-- a text's lines, as words, that are refused at line n -/
def BadT (lws : List (List Str)) (n : Nat) : Prop := ∃ pre rest st, lws = pre ++ rest ∧ Runs ⟨[], .nil⟩ pre st ∧ n = pre.length + 1 ∧ ((rest = [] ∧ st.fr ≠ []) ∨ ∃ ws post, rest = ws :: post ∧ (NoFit ws ∨ Ref st ws))
/-- such lines can be joined and split -/
structure LwOk (lws : List (List Str)) : Prop where
  ne : lws ≠ []
  w : ∀ ws ∈ lws, ws ≠ [] ∧ ws.length ≤ 20 ∧ ∀ z ∈ ws, Good2 z
  l : lws.length ≤ 800
  ln : ∀ ws ∈ lws, (wd ws).length ≤ 12000
theorem LwOk.lns {lws : List (List Str)} (h : LwOk lws) : ∀ z ∈ lws.map wd, z.length ≤ 12000 := fun z hz => by
  obtain ⟨ws, hws, rfl⟩ := List.mem_map.mp hz
  exact h.ln ws hws
theorem LwOk.t {lws : List (List Str)} (h : LwOk lws) : (Txt.join "\n" (lws.map wd)).length ≤ 16000000 := text_len h.lns (by rw [List.length_map]; exact h.l)
def spParseN (CN : Addr) : Sp := fun vs H Q E => ∃ (lws : List (List Str)) (n : Nat), vs = [.str (Txt.join "\n" (lws.map wd))] ∧ LwOk lws ∧ BadT lws n ∧ NoLine CN n H E
theorem joinL_lenW {S p : List Nat} : ∀ {ps : List (List Nat)}, p ∈ ps → p.length ≤ (TL.joinL S ps).length
  | [q], h => by rw [List.mem_singleton.mp h]; simp [TL.joinL]
  | q :: r :: l, h => by
    simp only [TL.joinL, List.length_append]
    rcases List.mem_cons.mp h with rfl | h
    · omega
    · have := joinL_lenW (S := S) h
      omega
theorem join_len_mem {y z : Str} {ls : List Str} (h : z ∈ ls) : z.length ≤ (Txt.join y ls).length := by
  have e : TL.tl (Txt.join y ls) = TL.joinL (TL.tl y) (ls.map TL.tl) := by rw [TL.join_eq, TL.tl_join]
  have l := joinL_lenW (S := TL.tl y) (List.mem_map_of_mem (f := TL.tl) h)
  rw [← e] at l
  have k : ∀ z : Str, z.length = (TL.tl z).length := fun z => by simp [Str.length, TL.tl]
  rw [k, k]
  exact l
section
variable {P : Program} {w : World} {K : PySem.W.Frag} {mg : Str → Option Value} {base : Heap} {f CB CO C CS CN fN fT fB fI : Addr} {fd fdN fdT fdB fdI : FuncData}
theorem ok_parseN {k : Nat} (hk : 3 ≤ k) (F : Fun K "parse_shape" "parse_shape" sParse f fd) (TB : BuC K CB) (U : NoteC K mg CN fN) (GU : FnOk P w K mg base CX0 1 fN fdN ["self", "line"] (spNote CN)) (bU : Binds K fdN ["self", "line"] [])
    (MB : Mk K CB fB) (GB : FnOk P w K mg base CX0 k fB fdB ["self"] (spBuInit CB CO)) (bB : Binds K fdB ["self"] []) (gB : mg "Builder" = some (.ref CB)) (gP : Cal P w K mg base CX0 3 "parts_of" ["words"] (fun vs H Q E => spPartsOf vs H Q E ∨ spPartsN vs H Q E)) (mT : Meth K CB "take" fT) (GT : FnOk P w K mg base CX0 3 fT fdT ["self", "parts"] (fun vs H Q E => spTake CB CO vs H Q E ∨ spTakeN CB CO vs H Q E)) (bT : Binds K fdT ["self", "parts"] [])
    (me : mg "enumerate" = none) (ml : mg "len" = none) : FnOk P w K mg base (L2.CX P w) (k + 2) f fd ["text"] (spParseN CN) := by
  refine F.okX scParse (fun vs H Q E h => ?_) (fun cdv A outer s H vs Q E hr h => ?_)
  · obtain ⟨lws, n, rfl, _⟩ := h
    rfl
  · obtain ⟨lws, n, rfl, lo, bad, q⟩ := h
    have tk : Takes (cxOf (L2.CX P w) P w K mg base nParse "parse_shape" (defScope sParse) f cdv A outer s H E) (fun cls d _ H => E cls d H) := takes_of rfl rfl rfl rfl
    have hx := passes_call tk (E := E) fun _ _ _ _ h => h
    have hr3 : Room 3 _ := hr.mono (by omega)
    have hr2 : Room 2 _ := hr.mono (by omega)
    refine ⟨_, (pss_cons (ps_set (i := 1) scParse.nd rfl (.inl rfl) (pe_make0 MB GB hr (by rfl) gB bB .nil pass0))
      (pss_cons (ps_set (i := 2) scParse.nd rfl (.inl rfl) (pe_split (pv 0) pe_str))
      (pss_cons (ps_for (passes_of rfl) rfl (pi_enum (by rfl) me (pa_cons (pv 2) pa_nil)) (pg_tup rfl (pgs_cons (pg_name (i := 3) scParse.nd rfl (Or.inl rfl)) (pgs_cons (pg_name (i := 4) scParse.nd rfl (Or.inl rfl)) pgs_nil)))
        (pss_cons (ps_set (i := 5) scParse.nd rfl (.inl rfl) (pe_cal gP hr3 pass0 (pa_cons (pe_split (pv 4) pe_str) pa_nil)))
      (pss_one (ps_if (PW.pt (pw_or (pt_cmp (pc_isN (pv 5)) (by rfl)) (pw_or1 (pt_not (pt_val (pe_meth (pv 1) TB.cl mT GT hr3 bT .nil pass0 (pa_cons (pv 5) pa_nil))))))) (pss_one (ps_raise rfl tk (pmk_oex U.T U.i U.t GU hr2 bU .nil pass0 (by rfl) U.g (pa_cons (pe_op op_add (pv 3) pe_int) pa_nil)))) pss_nil))))
      (pss_cons (ps_if (pt_truth (pe_fld (pv 1) rfl) (fun _ => rfl)) (pss_one (ps_raise rfl tk (pmk_oex U.T U.i U.t GU hr2 bU .nil pass0 (by rfl) U.g (pa_cons (pe_op op_add (pe_callB call_len (by rfl) ml boot_len (pa_cons (pv 2) pa_nil)) pe_int) pa_nil)))) pss_nil)
      (pss_one (ps_neverR _)))))), ?_⟩
    obtain ⟨pre, rest, stE, elw, runs, en, bad⟩ := bad
    have n811 : n ≤ 811 := by
      have := lo.l
      rw [elw, List.length_append] at this
      omega
    -- what is raised
    have note : ∀ {Hx : Hp} (a dd : Addr), Same H Hx → Hx a = none → (upd Hx a (exo a CN none)) dd = none → dd ≠ a → ∀ Hz, Hz = upd (upd (upd Hx a (exo a CN none)) dd (exd dd [("line", .int (n : Int))])) a (exo a CN (some dd)) → Same H (upd (del Hz a) dd (.xd [("line", .int (n : Int))])) := fun {Hx} a dd s na nd ne Hz eH b u e => ?_
    rotate_left
    · have e := s _ _ e
      have b2 : b ≠ a := ne_of_none e na
      have n0 : Hx dd = none := by rw [upd_ne ne] at nd; exact nd
      have b1 : b ≠ dd := ne_of_none e n0
      rw [upd_ne b1, del_ne b2, eH, upd_ne b2, upd_ne b1, upd_ne b2]
      exact e
    have w0 : Own H H [] := ⟨Same.refl _, List.nodup_nil, fun p hp => by cases hp⟩
    refine fun bd dxb no ndx nex => ⟨bd, dxb, H, rfl, (w0.same (same_new ndx (.own bd))).new (a := bd) (o := .ins CB dxb []) (by rw [upd_ne (Ne.symm nex)]; exact no), fun b0 H1 ba => ⟨rfl, ?_⟩⟩
    obtain ⟨st, st0, st1, sts⟩ := Runs.states runs
    have esp : Txt.split (Txt.join "\n" (lws.map wd)) "\n" = lws.map wd := lines_split (fun z hz => by
      obtain ⟨ws, hws, rfl⟩ := List.mem_map.mp hz
      exact wd_nonl2 (lo.w ws hws).2.2) (fun k => lo.ne (List.map_eq_nil_iff.mp k))
    have hsz : ∀ i, i ≤ pre.length → (st i).sz i := fun i => by
      induction i with
      | zero => intro _; rw [st0]; exact ⟨by simp [Its.len], fun f hf => by cases hf⟩
      | succ i ih =>
        intro hi
        exact sz_step (sts i _ (List.getElem?_eq_getElem (by omega))) (ih (by omega))
    have tl := lo.t
    have ll8 := lo.l
    refine ⟨_, rfl, ⟨_, rfl⟩, _, _, rfl, rfl, by decide +kernel, le_line (by omega), fun p hp => ?_⟩
    rw [esp]
    have w1 := ba.own.stand (o := .lst ((lws.map wd).map V.str)) hp
    have sS : Same H (upd H p (.lst ((lws.map wd).map V.str))) := same_new (ba.own.s.free hp) _
    have ba1 := ba.up w1 sS
    have hS1 : (upd H p (.lst ((lws.map wd).map V.str))) p = some (.lst ((lws.map wd).map V.str)) := upd_same
    generalize upd H p (.lst ((lws.map wd).map V.str)) = S1 at sS ba1 hS1
    generalize upd H1 p (.lst ((lws.map wd).map V.str)) = H2 at ba1 ⊢
    clear w1 ba
    have ll : ((lws.map wd).map V.str).length = lws.length := by rw [List.length_map, List.length_map]
    refine ⟨_, rfl, p, _, rfl, SqL.of (ba1.own.s _ _ hS1), for_it (walk_enum (xs := (lws.map wd).map V.str)) (fun i σ Hx => ∃ i3 i4 i5 Sx bx, σ = [some (.str (Txt.join "\n" (lws.map wd))), some (.ref bd), some (.ref p), i3, i4, i5] ∧ Same S1 Sx ∧ i ≤ pre.length ∧ BuAt CB CO Sx Hx bd bx (st i))
      ⟨none, none, none, S1, b0, rfl, Same.refl _, Nat.zero_le _, by rw [st0]; exact ba1⟩ (fun i σ Hx _ z => by obtain ⟨_, _, _, _, _, _, z1, _, z2⟩ := z; exact SqL.of (z2.own.s _ _ (z1 _ _ hS1))) ?_ ?_⟩
    · rintro i v σ Hx Hy hi ⟨i3, i4, i5, Sx, bx, rfl, sx, ip, bax⟩ ⟨Tn, ax, ay, rfl, hT0, rfl, ex, ey⟩
      have ey : ((lws.map wd).map V.str)[i]? = some ay := ey
      rw [ll] at hi
      simp only [Option.some.injEq] at ex
      subst ex
      rw [List.getElem?_map, List.getElem?_map, List.getElem?_eq_getElem hi] at ey
      simp only [Option.map_some, Option.some.injEq] at ey
      subst ey
      have gws : lws[i]? = some lws[i] := List.getElem?_eq_getElem hi
      obtain ⟨wne, w20, wg⟩ := lo.w _ (List.mem_of_getElem? gws)
      generalize lws[i] = ws at gws wne w20 wg
      have s4 := same_new hT0 (.tup [.int (i : Int), .str (wd ws)])
      refine ⟨Tn, _, rfl, SqT.of upd_same, rfl, _, _, rfl, _, _, rfl, rfl, ?_⟩
      have wl : (wd ws).length ≤ 16000000 := by
        have := join_len_mem (y := "\n") (List.mem_map.mpr ⟨ws, List.mem_of_getElem? gws, rfl⟩ : wd ws ∈ lws.map wd)
        omega
      refine ⟨_, rfl, ⟨_, rfl⟩, _, _, rfl, rfl, by decide +kernel, le_line (by omega), fun p2 hp2 => ?_⟩
      rw [wd_split2 wg wne]
      have s5 := s4.trans (same_new hp2 (.lst (ws.map V.str)))
      by_cases ib : i < pre.length
      · have stp := sts i ws (by rw [elw, List.getElem?_append_left ib] at gws; exact gws)
        obtain ⟨ft, gw, ne⟩ := step_words stp
        refine .inl ⟨p2, ws, rfl, upd_same, ft, fun z hz => by have := (gw z hz).2; omega, fun t H5 s6 nt ht => ?_⟩
        have s56 := s5.trans s6
        obtain ⟨S', w5, g5, m5⟩ := bax.own.more s56
        have ba5 := bax.up w5 g5
        have hpt := m5 _ _ (s5.free nt) ht
        refine ⟨_, rfl, _, rfl, ?_⟩
        rw [decide_eq_false (by intro k; cases k)]
        refine iteF ?_
        refine ⟨_, rfl, bd, bx.dx, bx.bf, rfl, ba5.own.at' (.head _), ba5.f3, _, rfl, .inl ⟨bd, t, S', bx, _, _, ws, i, rfl, ba5, hpt, stp, hsz i (by omega), by omega, fun S2 H6 b6 s7 ba6 => ?_⟩⟩
        exact ⟨_, rfl, iteF ⟨_, _, _, S2, b6, rfl, sx.trans (g5.trans s7), ib, ba6⟩⟩
      · have ei : i = pre.length := by omega
        subst ei
        have Sx0 : Same H Hx := sS.trans (sx.trans bax.own.s)
        rcases bad with ⟨rfl, _⟩ | ⟨ws2, post, rfl, bad⟩
        · rw [elw, List.append_nil] at hi; omega
        obtain rfl : ws2 = ws := by
          rw [elw, List.getElem?_append_right (Nat.le_refl _), Nat.sub_self] at gws
          exact Option.some.inj gws
        rcases bad with nf | rf
        · refine .inr ⟨p2, ws2, rfl, upd_same, nf, fun z hz => by have := (wg z hz).2; omega, by omega, fun H5 s6 => ?_⟩
          refine ⟨_, rfl, _, rfl, iteT (iteT ?_)⟩
          refine ⟨_, rfl, _, _, rfl, rfl, ?_⟩
          refine ⟨(by show 1 ≤ 1000; decide), fun a na => ⟨a, n, by rw [en]; rfl, upd_same, by omega, fun dd nd ne => ⟨rfl, dd, [("line", .int (n : Int))], upd_same, by rw [upd_ne ne, upd_same], by rw [upd_ne ne] at nd; exact nd, q dd _ (note a dd (Sx0.trans (s5.trans s6)) na nd ne _ rfl) upd_same⟩⟩⟩
        · obtain ⟨ft, gw, ne⟩ := ref_words rf
          refine .inl ⟨p2, ws2, rfl, upd_same, ft, fun z hz => by have := (gw z hz).2; omega, fun t H5 s6 nt ht => ?_⟩
          have s56 := s5.trans s6
          obtain ⟨S', w5, g5, m5⟩ := bax.own.more s56
          have ba5 := bax.up w5 g5
          have hpt := m5 _ _ (s5.free nt) ht
          refine ⟨_, rfl, _, rfl, ?_⟩
          rw [decide_eq_false (by intro k; cases k)]
          refine iteF ?_
          refine ⟨_, rfl, bd, bx.dx, bx.bf, rfl, ba5.own.at' (.head _), ba5.f3, _, rfl, .inr ⟨bd, t, S', bx, _, ws2, pre.length, rfl, ba5, hpt, by rw [st1]; exact rf, hsz _ (Nat.le_refl _), by omega, fun H6 s7 => ?_⟩⟩
          refine ⟨_, rfl, iteT ?_⟩
          refine ⟨_, rfl, _, _, rfl, rfl, ?_⟩
          refine ⟨(by show 1 ≤ 1000; decide), fun a na => ⟨a, n, by rw [en]; rfl, upd_same, by omega, fun dd nd ne => ⟨rfl, dd, [("line", .int (n : Int))], upd_same, by rw [upd_ne ne, upd_same], by rw [upd_ne ne] at nd; exact nd, q dd _ (note a dd (Sx0.trans (s56.trans s7)) na nd ne _ rfl) upd_same⟩⟩⟩
    · rintro σ Hx ⟨i3, i4, i5, Sx, bx, rfl, sx, ip, bax⟩
      rw [ll] at ip
      have Sx0 : Same H Hx := sS.trans (sx.trans bax.own.s)
      rcases bad with ⟨rfl, op⟩ | ⟨ws2, post, rfl, bad⟩
      rotate_left
      · rw [elw, List.length_append, List.length_cons] at ip; omega
      rw [List.append_nil] at elw
      rw [ll, elw, st1] at bax
      have hb := bax.own.at' (.head _)
      have hl := bax.own.at' (.tail _ (.tail _ (.head _)))
      have hps : bx.ps.length ≠ 0 := fun z => op (List.eq_nil_of_length_eq_zero (by rw [Paired.length bax.fr]; exact z))
      refine ⟨_, rfl, bd, CB, bx.dx, bx.bf, _, rfl, hb, TB.cl, TB.n2, bax.f2, true, .inl ⟨_, SqL.of hl, ?_⟩, iteT ?_⟩
      · simp
        intro z
        exact hps (by rw [z]; rfl)
      refine ⟨_, rfl, _, _, rfl, .inl ⟨_, SqL.of (bax.own.s _ _ (sx _ _ hS1)), rfl⟩, _, _, rfl, rfl, ?_⟩
      rw [ll, elw]
      refine ⟨(by show 1 ≤ 1000; decide), fun a na => ⟨a, n, by rw [en]; rfl, upd_same, by omega, fun dd nd ne => ⟨rfl, dd, [("line", .int (n : Int))], upd_same, by rw [upd_ne ne, upd_same], by rw [upd_ne ne] at nd; exact nd, q dd _ (note a dd (Sx0) na nd ne _ rfl) upd_same⟩⟩⟩
end
end Bs

set_option Elab.async false
set_option linter.all false
set_option maxRecDepth 100000
set_option maxHeartbeats 4000000
/-! TM: try with several except clauses, some of them 'as n'; modelled on the rules for one clause 'as n' and for several plain ones. -/
namespace Rj
open PySem L2 PySem.Spec PyProof.Rows
abbrev Hand := Value × Option Nat × (Addr → Value → Option Addr → TS)
/-- where a suite with the name in slot i ends -/
def Ends.less (D : Ends) (i : Nat) : Ends := ⟨fun σ H => D.nx (σ.set i none) H, D.rt, fun σ H => D.bk (σ.set i none) H, fun σ H => D.ct (σ.set i none) H⟩
def suiteW (D : Ends) (ts : Addr → Value → Option Addr → TS) : Option Nat → Value → Option Addr → L2.St → Hp → Prop
  | none, cls, d, σ, H => ∀ a, H a = none → ts a cls d D σ H
  | some i, cls, d, σ, H => ∀ a, H a = none → ts a cls d (Ends.less D i) (σ.set i (some (.ref a))) H
def wMix (K : PySem.W.Frag) (Wout : WX) (D : Ends) : List Hand → WX
  | [] => Wout
  | (c, o, ts) :: r => fun cls d σ H => ∃ b, PySem.W.exmOne K cls c = some b ∧ (b = true → suiteW D ts o cls d σ H) ∧ (b = false → wMix K Wout D r cls d σ H)
abbrev SuiteOk (X : Cx) (suite : List Stmt) (ts : Addr → Value → Option Addr → TS) : Prop := ∀ (a : Addr) (oe : Obj) (cls : Value) (d : Option Addr) (pn : List (Addr × Obj)), Zc cls d oe → (∃ vs, oe.data = .fields vs) → PSs (X.suite a ((a, oe) :: pn)) suite (ts a cls d)
inductive HdM (X : Cx) : List ExceptHandler → List Hand → Prop
  | nil : HdM X [] []
  | plain {x : Str} {c : Value} {ts : Addr → Value → Option Addr → TS} {s0 : Stmt} {suite : List Stmt} {np p : Pos} {hds : List ExceptHandler} {l : List Hand} : Names X x c → SuiteOk X (s0 :: suite) ts → HdM X hds l → HdM X (.ExceptHandler (some (.Name x np)) none (s0 :: suite) p :: hds) ((c, none, ts) :: l)
  | named {x n : Str} {i : Nat} {c : Value} {ts : Addr → Value → Option Addr → TS} {s0 : Stmt} {suite : List Stmt} {np p : Pos} {hds : List ExceptHandler} {l : List Hand} : X.N[i]? = some n → X.env.kindOf n = some .local → Names X x c → SuiteOk X (s0 :: suite) ts → HdM X hds l →
      HdM X (.ExceptHandler (some (.Name x np)) (some n) (s0 :: suite) p :: hds) ((c, some i, ts) :: l)
section
variable {X : Cx} {body : List Stmt} {h0 : ExceptHandler} {hds : List ExceptHandler} {l : List Hand} {pos : Pos} {tb : WX → TS} {Wout : WX}
theorem ps_try_mix (hs : X.stack = X.env :: X.outer) (hf : X.env.frame = some X.env.locals) (hN : X.N.Nodup) (tk : Takes X Wout)
    (hb : ∀ (W : WX) (pn : List (Addr × Obj)) (xe : Value → Shared → Prop), Takes (X.tr pn xe) W → PassesOwn (model X.prog X.w) X.A X.env xe → PSs (X.tr pn xe) body (tb W))
    (hh : HdM X (h0 :: hds) l) : PS X (.Try body (h0 :: hds) [] [] pos) (fun D σ H => tb (wMix X.K Wout D l) D σ H) := by
  refine ⟨fun pins s σ H D I h => ?_⟩
  have ok := I.ok
  refine wpAny_Try_except (wpAny_mono ((hb (wMix X.K Wout D l) (X.pn ++ pins) _ (fun e s1 xx => ?_) PassesOwn.looking).run [] s σ H D (I.toTry _) h) (fun f s1 r => ?_) fun e s1 he => he)
  · obtain ⟨a, B, sI, pins', τ, G, cls, d, rfl, J', nb, up, sky, na, os, ag, w⟩ := xx
    have J : Inv X pins τ G sI := J'.ofTry ok
    show wpAny (model X.prog X.w) X.A (noteFrame (.ref a) X.env) _ _ _
    refine Sky.land Zc.steady (by rw [ok.frames, hs]) hf (by rw [← hs]; exact sky) fun h3 fl up3 => ?_
    have J3 : Inv X pins τ G { s1 with heap := h3 } := J.landed nb fl.1 (up.trans up3) os ag
    obtain ⟨oe, vs, he, hz, hd⟩ := fl.there
    have out : a ∉ frs (X.env :: X.outer) := fun hm => by
      obtain ⟨_, o', e', hnf⟩ := fl.2.2.1.mem hm
      rw [he] at e'; cases e'
      exact hnf _ hd
    have nL : a ≠ X.env.locals := fun z => out (List.mem_filterMap.mpr ⟨X.env, List.mem_cons_self, by rw [hf, z]⟩)
    have nF : a ∉ X.fs := fun hm => by
      obtain ⟨e, m, q⟩ := List.mem_filterMap.mp hm
      exact out (List.mem_filterMap.mpr ⟨e, List.mem_cons_of_mem _ m, q⟩)
    have S3 := J3.suite he hd na nL nF
    have test : ∀ {x : Str} {np : Pos} {c : Value} {Q E : Value → Shared → Prop}, Names X x c → Q c { s1 with heap := h3 } → wpAny (model X.prog X.w) (X.A.mark (some (.ref a))) (eval (.Name x np) X.env) Q E { s1 with heap := h3 } := fun hc q => by
      obtain ⟨hg, hdbg, hm | ⟨hm, hv, hnn⟩⟩ := hc
      · exact ld_glob (X := X.suite a ((a, oe) :: (X.pn ++ pins))) S3 hg hm q hdbg
      · exact ld_blt (X := X.suite a ((a, oe) :: (X.pn ++ pins))) S3 hg hm hv q hnn hdbg
    have LT : PySem.W.Looks (model X.prog X.w) h3 (typeOf (.ref a)) cls := fun A Q E s k q => wpAny_typeOf_ref (k _ _ he) (by rw [hz.1]; exact q)
    have go : ∀ {hs' : List ExceptHandler} {l' : List Hand}, HdM X hs' l' → wMix X.K Wout D l' cls d τ G → wpAny (model X.prog X.w) X.A (handleBy (.ref a) X.env hs') (SP X pins D) X.xe { s1 with heap := h3 } := by
      intro hs' l' hk
      induction hk with
      | nil =>
        intro w
        refine wpAny_handleBy_nil ?_
        obtain ⟨_, _, _, o1, v1, T, oT, ts', g1, _, g3, g4, _⟩ := id fl
        unfold PySem.passOn
        refine wpAny_bind (wpAny_field g1 g3 g4 ?_)
        rw [if_neg (show ¬ ((Value.ref T == Value.none) = true) from by simp)]
        have fin : wpAny (model X.prog X.w) X.A (setFlight (.ref a) X.env.frame) (fun _ s4 => wpAny (model X.prog X.w) X.A (throw (.ref a) : Sem Flow) (SP X pins D) X.xe s4) X.xe { s1 with heap := h3 } := by
          rw [hf]
          exact HandSPX.setFlight_upZ fl fun h4 hh4 up4 => wpAny_throw (tk _ _ ⟨a, B, sI, pins, τ, G, cls, d, rfl, J, nb, (up.trans up3).trans up4, .inr (.inr (by rw [hs]; exact hh4)), na, os, ag, w⟩)
        first
          | exact wpAny_bind (wpAny_pure (wpAny_bind fin))
          | exact wpAny_bind fin
      | @plain x c ts s0 suite np p hds2 l2 hc hsu r ih =>
        rintro ⟨b, hb1, hyes, hno⟩
        refine wpAny_handleBy_cons (codeAny_handlers_test (test hc ((PySem.W.exm_one (M := model X.prog X.w) J3.kIn LT hb1).here ?_))) (by intro q; cases q)
        cases b with
        | false => exact ih (hno rfl)
        | true =>
          refine codeAny_handlers_suite (HandSPX.lands_againZ fl fun h4 fl4 up4 => ?_)
          have J4 : Inv X pins τ G { s1 with heap := h4 } := J.landed nb fl4.1 ((up.trans up3).trans up4) os ag
          obtain ⟨oe4, vs4, he4, hz4, hd4⟩ := fl4.there
          refine wpAny_mono ((hsu a oe4 cls d (X.pn ++ pins) hz4 ⟨_, hd4⟩).run [] _ _ G _ (J4.suite he4 hd4 na nL nF) (hyes rfl a na)) (fun f s6 q => ?_) (fun _ _ z => False.elim z)
          cases f with
          | ret u => obtain ⟨v6, σ6, H6, S6, r6, q6⟩ := q; exact ⟨_, _, _, S6.unsuite ok, r6, q6⟩
          | next => obtain ⟨σ6, H6, S6, q6⟩ := q; exact ⟨_, _, S6.unsuite ok, q6⟩
          | brk => obtain ⟨σ6, H6, S6, q6⟩ := q; exact ⟨_, _, S6.unsuite ok, q6⟩
          | cont => obtain ⟨σ6, H6, S6, q6⟩ := q; exact ⟨_, _, S6.unsuite ok, q6⟩
      | @named x n i c ts s0 suite np p hds2 l2 hi hln hc hsu r ih =>
        rintro ⟨b, hb1, hyes, hno⟩
        refine wpAny_handleBy_cons (codeAny_handlers_test (test hc ((PySem.W.exm_one (M := model X.prog X.w) J3.kIn LT hb1).here ?_))) (by intro q; cases q)
        cases b with
        | false => exact ih (hno rfl)
        | true =>
          refine codeAny_handlers_suite_as (HandSPX.lands_againZ fl fun h4 fl4 up4 => ?_)
          have J4 : Inv X pins τ G { s1 with heap := h4 } := J.landed nb fl4.1 ((up.trans up3).trans up4) os ag
          obtain ⟨oe4, vs4, he4, hz4, hd4⟩ := fl4.there
          refine store_ok (X := X.suite a ((a, oe4) :: (X.pn ++ pins))) (v := .ref a) (J4.suite he4 hd4 na nL nF) hN hi (.inl hln) rfl (fun s5 S5 => ?_) (.inr hln)
          refine wpAny_mono ((hsu a oe4 cls d (X.pn ++ pins) hz4 ⟨_, hd4⟩).run [] s5 _ G _ S5 (hyes rfl a na)) (fun f s6 q => ?_) (fun _ _ z => False.elim z)
          have gone : ∀ {σ6 : L2.St} {H6 : Hp} {Q : Shared → Prop}, Inv (X.suite a ((a, oe4) :: (X.pn ++ pins))) [] σ6 H6 s6 → (∀ s7, Inv X pins (σ6.set i none) H6 s7 → Q s7) →
              wpAny (model X.prog X.w) X.A (do bindName X.env n .none; unbindBehindTheSuite X.env n p) (fun _ s7 => Q s7) X.xe s6 := fun S6 hq => gone_ok (S6.unsuite ok) hN hi hln hq
          cases f with
          | ret u => obtain ⟨v6, σ6, H6, S6, r6, q6⟩ := q; exact gone S6 fun s7 J7 => ⟨_, _, _, J7, r6, q6⟩
          | next => obtain ⟨σ6, H6, S6, q6⟩ := q; exact gone S6 fun s7 J7 => ⟨_, _, J7, q6⟩
          | brk => obtain ⟨σ6, H6, S6, q6⟩ := q; exact gone S6 fun s7 J7 => ⟨_, _, J7, q6⟩
          | cont => obtain ⟨σ6, H6, S6, q6⟩ := q; exact gone S6 fun s7 J7 => ⟨_, _, J7, q6⟩
    exact go hh w
  · cases f with
    | ret u => obtain ⟨v, σ', H', J', r1, q⟩ := r; exact ⟨v, σ', H', J'.ofTry ok, r1, q⟩
    | next => obtain ⟨σ', H', J', q⟩ := r; exact wpAny_execs_nil ⟨σ', H', J'.ofTry ok, q⟩
    | brk => obtain ⟨σ', H', J', q⟩ := r; exact ⟨σ', H', J'.ofTry ok, q⟩
    | cont => obtain ⟨σ', H', J', q⟩ := r; exact ⟨σ', H', J'.ofTry ok, q⟩
end
end Rj

set_option Elab.async false
set_option linter.all false
set_option maxRecDepth 100000
set_option maxHeartbeats 8000000
namespace Bs
open PySem L2
/-! ### _law_line -/
abbrev sLine : Stmt := top 72
def spP (CS CN : Addr) : Sp := fun vs H Q E => spParse CS vs H Q E ∨ spParseN CN vs H Q E
/-- the text of a shape, whole -/
structure TxOk (x : Its) : Prop where
  hh : x.hds
  sh : x.shape = true
  tm : x.tame
  l8 : x.lw.length ≤ 800
  wk : (x.walk 0).length ≤ 1000
  ln : ∀ z ∈ x.lines, z.length ≤ 12000
theorem TxOk.ll {x : Its} (h : TxOk x) : x.lines.length ≤ 800 := by rw [Its.lw_lines, List.length_map]; exact h.l8
def spLine : Sp := fun vs H Q _ => ∃ (p : Addr) (ls : List Str), vs = [.ref p] ∧ H p = some (.lst (ls.map V.str)) ∧ ((∃ x, ls = x.lines ∧ TxOk x ∧ ∀ H', Same H H' → Q (.int 0) H') ∨ ∃ lws n, ls = lws.map wd ∧ LwOk lws ∧ BadT lws n ∧ ∀ H', Same H H' → Q (.int (n : Int)) H')
theorem pss_of1 {X : Cx} {b : List Stmt} {t : TS} {p : Prop} (h : p → PSs X b t) : PSs X b (fun D σ H => p ∧ t D σ H) :=
  ⟨fun pins s σ H D I ⟨e1, z⟩ => (h e1).run pins s σ H D I z⟩
def tNote (K : PySem.W.Frag) (CN CB C a : Addr) (cls : Value) (d : Option Addr) : TS := fun D σ H => cls = .ref CN ∧ tSeq (tIfS (tAnd (tB (tCB (Rj.rIsED K CN a d) (tCons (tVar 1) (tCons (tC (.ref CB)) tNil)))) (tAnd (tB (tCB (Rj.rIsED K CN a d) (tCons (tVar 1) (tCons (tC (.ty "ValueError")) tNil)))) (tNot (tB (tCB (Rj.rIsED K CN a d) (tCons (tVar 1) (tCons (tC (.ref C)) tNil)))))))
  (tIfS (tAnd (tB (tCB (rIsi K) (tCons (tXf a cls d CN "line" (tVar 1)) (tCons (tC (.ty "int")) tNil)))) (tNot (tB (tCB (rIsi K) (tCons (tXf a cls d CN "line" (tVar 1)) (tCons (tC (.ty "bool")) tNil)))))) (tRet (tXf a cls d CN "line" (tVar 1))) tNext) tNext) (tRet (tUn (rU fun i => V.int (-i)) (tC (.int 1)))) D σ H
def rJn (K : PySem.W.Frag) : V → List V → Hp → VK → Prop := fun x xs H Q => ∃ a p, ∃ ys : List Str, x = .str a ∧ xs = [.ref p] ∧ (SqL K H p (ys.map V.str) ∨ SqT K H p (ys.map V.str)) ∧ (ys.map (·.length)).sum + ys.length * a.length ≤ 16777216 ∧ Q (.str (Txt.join a ys)) H
def tBody (K : PySem.W.Frag) (CS CN : Addr) (W : WX) : TS := tDrop (tCallS (spP CS CN) (WE W) (tCons (tM1 (rJn K) (tC (.str "\n")) (tVar 0)) tNil))
def tTwo (a : Addr) (cls : Value) (d : Option Addr) : TS := tRet (tUn (rU fun i => V.int (-i)) (tC (.int 2)))
def handsL (K : PySem.W.Frag) (CN CB C : Addr) : List Rj.Hand := [(.ref CN, some 1, tNote K CN CB C), (.ref C, none, tTwo)]
section
variable {P : Program} {w : World} {K : PySem.W.Frag} {mg : Str → Option Value} {base : Heap} {f C CB CS CN : Addr} {fd : FuncData}
abbrev nLine : List Str := ["lines", "e"]
theorem scLine : FnScope nLine ["lines"] (defScope sLine) := ⟨rfl, rfl, rfl, by decide +kernel, rfl, by decide +kernel, by decide +kernel⟩
theorem ok_line {k : Nat} (F : Fun K "_law_line" "_law_line" sLine f fd) (gP : Cal P w K mg base (L2.CX P w) k "parse_shape" ["text"] (spP CS CN)) (gN : mg "InvalidNotation" = some (.ref CN)) (gC : mg "InvalidShape" = some (.ref C)) (gB : mg "ByteshapeError" = some (.ref CB)) (EN : ExcC K CN) (XN : XfC K CN) (hno : PySem.W.findIn K (.ref CN) "line" = some none)
    (me : PySem.W.exmOne K (.ref CN) (.ref CN) = some true) (kB : PySem.W.kitOne K (.ref CN) (.ref CB) = some true) (kV : PySem.W.kitOne K (.ref CN) (.type "ValueError") = some true) (kC : PySem.W.kitOne K (.ref CN) (.ref C) = some false)
    (mi : mg "isinstance" = none) (mint : mg "int" = none) (mb : mg "bool" = none) (mV : mg "ValueError" = none) : FnOk P w K mg base CX0 (k + 1) f fd ["lines"] spLine := by
  refine F.ok scLine (fun vs H Q E h => ?_) (fun cdv A outer s H vs Q E hr h => ?_)
  · obtain ⟨p, ls, rfl, _⟩ := h
    rfl
  · obtain ⟨p, ls, rfl, hp, q⟩ := h
    obtain ⟨f1, fd1, mg1, kp1, b1, G1⟩ := gP.ex
    refine ⟨_, pss_cons (show PS _ _ (fun D σ H => tBody K CS CN (Rj.wMix K (fun _ _ _ _ => False) D (handsL K CN CB C)) D σ H) from
      Rj.ps_try_mix (tb := tBody K CS CN) (Wout := fun _ _ _ _ => False) (l := handsL K CN CB C) rfl rfl scLine.nd takes0
        (fun W pn xe tk _ => pss_one (ps_expr (by exact pe_callS G1 hr rfl mg1 kp1 b1 (fun σ => passAt tk σ) (pa_cons (pe_join pe_str (pv 0)) pa_nil))))
        (.named (n := "e") rfl rfl ⟨rfl, by decide, Or.inl gN⟩ (fun a oe cls d pn hz hf => pss_of1 fun e1 => by
            subst e1
            exact (pss_cons (ps_if (PW.pt (pw_and (pt_val (pe_callB (Rj.call_isED EN hz hf) (by rfl) mi (by decide +kernel) (pa_cons (pv 1) (pa_cons (pe_glob (v := .ref CB) (by rfl) gB rfl) pa_nil)))) (pw_and (pt_val (pe_callB (Rj.call_isED EN hz hf) (by rfl) mi (by decide +kernel) (pa_cons (pv 1) (pa_cons (pe_bltn (v := .ty "ValueError") (by rfl) mV (by decide +kernel) rfl) pa_nil)))) (pw_and1 (pt_not (pt_val (pe_callB (Rj.call_isED EN hz hf) (by rfl) mi (by decide +kernel) (pa_cons (pv 1) (pa_cons (pe_glob (v := .ref C) (by rfl) gC rfl) pa_nil))))))))) (pss_one (ps_if (PW.pt (pw_and (pt_val (pe_callB call_isi (by rfl) mi (by decide +kernel) (pa_cons (pe_xf XN hno hz hf (pv 1)) (pa_cons (pe_bltn (v := .ty "int") (by rfl) mint (by decide +kernel) rfl) pa_nil)))) (pw_and1 (pt_not (pt_val (pe_callB call_isi (by rfl) mi (by decide +kernel) (pa_cons (pe_xf XN hno hz hf (pv 1)) (pa_cons (pe_bltn (v := .ty "bool") (by rfl) mb (by decide +kernel) rfl) pa_nil)))))))) (pss_one (ps_ret (pe_xf XN hno hz hf (pv 1)))) pss_nil)) pss_nil)
      (pss_one (ps_ret (pe_un un_neg pe_int)))))
          (.plain ⟨rfl, by decide, Or.inl gC⟩ (fun a oe cls d pn hz hf => pss_one (ps_ret (pe_un un_neg pe_int))) .nil)))
      (pss_one (ps_ret pe_int)), ?_⟩
    have sum : (ls.map (·.length)).sum + ls.length * ("\n" : Str).length ≤ 16777216 := by
      rcases q with ⟨x, rfl, ok, _⟩ | ⟨lws, n, rfl, ok, _⟩
      · exact lines_sum ok.ln (by have := ok.ll; omega)
      · exact lines_sum ok.lns (by rw [List.length_map]; have := ok.l; omega)
    refine ⟨⟨_, rfl⟩, _, rfl, _, p, ls, rfl, rfl, .inl (SqL.of hp), sum, ?_⟩
    rcases q with ⟨x, rfl, ok, q⟩ | ⟨lws, n, rfl, ok, bad, q⟩
    · exact .inl ⟨x, rfl, ok.hh, ok.sh, ok.tm, ok.l8, ok.wk, text_len ok.ln ok.ll, fun o dx fs H' s _ _ => q H' s⟩
    · refine .inr ⟨lws, n, rfl, ok, bad, fun d H' s hd => ?_⟩
      refine ⟨true, me, fun _ a na => ⟨rfl, ?_⟩, fun z => by cases z⟩
      refine ⟨_, rfl, .ref CB, _, true, d, _, rfl, fun u hu => hu, kB, rfl, hd, _, rfl, iteT ?_⟩
      refine ⟨_, rfl, .ty "ValueError", _, true, d, _, rfl, fun u hu => hu, kV, rfl, hd, _, rfl, iteT ?_⟩
      refine ⟨_, rfl, .ref C, _, false, d, _, rfl, fun u hu => hu, kC, rfl, hd, _, rfl, iteT ?_⟩
      refine ⟨_, rfl, rfl, rfl, d, _, _, rfl, hd, rfl, _, _, _, _, true, rfl, .ty _, .base (.int _), kit_ty (by decide +kernel), _, rfl, iteT ?_⟩
      refine ⟨_, rfl, rfl, rfl, d, _, _, rfl, hd, rfl, _, _, _, _, false, rfl, .ty _, .base (.int _), kit_ty (by decide +kernel), _, rfl, iteT ?_⟩
      exact ⟨_, rfl, rfl, rfl, d, _, _, rfl, hd, rfl, q H' s⟩
end
end Bs

set_option Elab.async false
set_option linter.all false
set_option maxRecDepth 100000
set_option maxHeartbeats 4000000
/-! x.replace(' ', '  ', 1), and what it gives -/
namespace Rj
open PySem PySem.Spec PyProof.Rows L2 Builtin Builtin.Str
def repl1 (x y z : Str) : Str := if (occurrences x y 0 x.length 1).isEmpty = true then x else glued z (partsBetween x (occurrences x y 0 x.length 1) y.length)
theorem limit1 (c : Tok) (n : Nat) : countLimit "str.replace" (some (.int 1 c)) n = pure 1 := by
  unfold countLimit asSsize
  rfl
theorem gives_repl1 (x y z : Str) (t u v c : Tok) (hy : (y.length == 0) = false)
    (hf : (u == 0 || v == 0) = false ∧ (u == v) = false ∧ (y == z) = false ∧ tooLong (x.length + (occurrences x y 0 x.length 1).length * z.length) = false) :
    Gives («str.replace» ⟨[.str x t, .str y u, .str z v, .int 1 c], []⟩) (if (occurrences x y 0 x.length 1).isEmpty = true then .val (.str x t) else .str (glued z (partsBetween x (occurrences x y 0 x.length 1) y.length))) := by
  show Gives (do
    let limit ← countLimit "str.replace" (some (.int 1 c)) (x.length + 1)
    if ((occurrences x y 0 x.length limit).isEmpty || (y.length == 0 && z.length == 0)) = true then (do rule "str.replace.nothing"; ret (.str x t)) else
          (do let same ← isSame (.str y u) (.str z v)
              if same = true then (do rule "str.replace.old-is-new"; ret (.str x t)) else
              if tooLong (x.length + (occurrences x y 0 x.length limit).length * z.length) = true then unsupported "str.replace:memory" else
              retStr (glued z (partsBetween x (occurrences x y 0 x.length limit) y.length)))) _
  rw [limit1]
  show Gives (if ((occurrences x y 0 x.length 1).isEmpty || (y.length == 0 && z.length == 0)) = true then (do rule "str.replace.nothing"; ret (.str x t)) else
          (do let same ← isSame (.str y u) (.str z v)
              if same = true then (do rule "str.replace.old-is-new"; ret (.str x t)) else
              if tooLong (x.length + (occurrences x y 0 x.length 1).length * z.length) = true then unsupported "str.replace:memory" else
              retStr (glued z (partsBetween x (occurrences x y 0 x.length 1) y.length)))) _
  rw [hy, Bool.false_and, Bool.or_false]
  cases hc : (occurrences x y 0 x.length 1).isEmpty
  · obtain ⟨h0, huv, hyz, hl⟩ := hf
    rw [isSame_str_other y z u v h0 huv hyz, hl]
    exact .of_eq rfl
  · exact .rule (.of_eq rfl)
section
variable {prog : Program} {w : World} {A : Around} {E : Value → Shared → Prop} {s : Shared} {x y z : Str} {t u v c : Tok} {Q : Value → Shared → Prop}
theorem replace1 (hu : u ≠ 0) (hv : v ≠ 0) (huv : u ≠ v) (hyz : (y == z) = false) (hy : (y.length == 0) = false) (hb : x.length + (x.length + 1) * z.length ≤ 16777216)
    (hq : ∀ t' k, Q (.str (repl1 x y z) t') { s with toks := k }) : wpAny (model prog w) A (call (.builtin "str.replace") [.str x t, .str y u, .str z v, .int 1 c]) Q E s := by
  have e : (2 : Nat) ^ 24 = 16777216 := by decide
  have h1 := StrLaws.occ_length_le x y 0 x.length 1
  have hl : tooLong (x.length + (occurrences x y 0 x.length 1).length * z.length) = false := by
    have h2 : (occurrences x y 0 x.length 1).length * z.length ≤ 1 * z.length := Nat.mul_le_mul_right _ h1
    have h3 : 1 * z.length ≤ (x.length + 1) * z.length := Nat.mul_le_mul_right _ (by omega)
    unfold tooLong sizeLine
    exact decide_eq_false (by omega)
  refine call_gives F.slot_str_replace (typeIs_str _ _ _) F.entry_str_replace (F.args_str_replace_4 _ _ _ _)
    (gives_repl1 x y z t u v c hy ⟨by simp [hu, hv], by simp [huv], hyz, hl⟩) ?_
  have hq' := hq
  unfold repl1 at hq'
  cases hc : (occurrences x y 0 x.length 1).isEmpty
  · rw [hc] at hq'
    simp only [Bool.false_eq_true, if_false] at hq' ⊢
    refine ⟨?_, hq' _ _⟩
    have hy' : (glued y (partsBetween x (occurrences x y 0 x.length 1) y.length)).length = x.length := by rw [StrLaws.glued_between_self]
    rw [size_glued, length_partsBetween, Nat.add_sub_cancel] at hy'
    rw [size_glued, length_partsBetween, Nat.add_sub_cancel, sizeLine_eq]
    have h2 : (occurrences x y 0 x.length 1).length * z.length ≤ 1 * z.length := Nat.mul_le_mul_right _ h1
    have h3 : 1 * z.length ≤ (x.length + 1) * z.length := Nat.mul_le_mul_right _ (by omega)
    omega
  · rw [hc] at hq'
    simp only [if_true] at hq' ⊢
    exact hq' t s.toks
end
def tRepl1 (to : TE) (y z : Str) : TE := fun σ H Q => to σ H fun v H1 => ∃ x, v = .str x ∧ x.length + (x.length + 1) * z.length ≤ 16777216 ∧ Q (.str (repl1 x y z)) H1
section
variable {X : Cx} {o : Expr} {to : TE} {y z : Str} {j k m : Nat} {c0 c1 c2 apos pos : Pos}
/-- o.replace('y', 'z', 1), one token out -/
theorem pet_repl1 (ho : PE X o to) (hyz : (y == z) = false := by decide) (hy : (y.length == 0) = false := by decide)
    (hst : starEach [.Constant (.str y) j c0, .Constant (.str z) k c1, .Constant (.int 1) m c2] X.env = [(false, eval (.Constant (.str y) j c0) X.env), (false, eval (.Constant (.str z) k c1) X.env), (false, eval (.Constant (.int 1) m c2) X.env)] := by rfl)
    (hbase : attributeBase o "replace" X.env (eval o X.env) = eval o X.env := by rfl) (hline : (apos.endLine == pos.line) = true := by rfl) :
    PET X (.Call (.Attribute o "replace" apos) [.Constant (.str y) j c0, .Constant (.str z) k c1, .Constant (.int 1) m c2] [] pos) (tRepl1 to y z) := by
  intro pins s σ H Q h0 I h
  refine PySem.wpAny_Call_method_lateS hbase (by rw [hst]; rfl) hline ?_
  rw [hst]
  refine (wpAny_mono (PySem.wpAny_toks (ho.run pins s σ H _ I h)) (fun v s1 q => ?_) fun _ _ z => z.2)
  obtain ⟨hk, v', H1, I1, r1, x, e1, hb, q⟩ := q
  subst e1
  obtain ⟨tx, e2⟩ := r1
  subst e2
  refine ⟨"str", _, PySem.F.plainAttrs_str, PySem.F.slot_str_replace, PySem.F.type_str_replace, typeIs_str _ _ _, (fun _ e => nomatch e), Calls.callWith_builtin rfl (Calls.evalArgs_plain (Calls.spliced_cons ?_))⟩
  refine Calls.Constant_str (k := j) (pos := c0) (Calls.spliced_cons (Calls.Constant_str (k := k) (pos := c1) (Calls.spliced_cons (wpAny_Constant_int (k := m) (pos := c2) (Calls.spliced_nil ?_)))))
  exact replace1 (by show s1.toks ≠ 0; omega) (by show s1.toks + 1 ≠ 0; omega) (by show s1.toks ≠ s1.toks + 1; omega) hyz hy hb fun t' k => ⟨.str (repl1 x y z), H1, I1.tok k, ⟨t', rfl⟩, q⟩
end
def rSpl : V → List V → Hp → VK → Prop := fun x xs H Q => ∃ a b, x = .str a ∧ xs = [.str b] ∧ (b.length == 0) = false ∧ a.length + 2 ≤ sizeLine ∧ rNewStrs (Txt.split a b) H Q
section
variable {X : Cx} {o : Expr} {to : TE} {rest : List Stmt} {u : TS} {i jj : Nat} {x c : Str} {cpos apos cp pos' pos : Pos}
/-- x = o.split('c'): behind it a token is out -/
theorem pss_splT (hN : X.N.Nodup) (hi : X.N[i]? = some x) (hx : Loc X.env.scope x) (ho : PE X o to) (h2 : PSsT X rest u)
    (hst : starEach [.Constant (.str c) jj cpos] X.env = [(false, eval (.Constant (.str c) jj cpos) X.env)] := by rfl) (hbase : attributeBase o "split" X.env (eval o X.env) = eval o X.env := by rfl) (hline : (apos.endLine == cp.line) = true := by rfl)
    (hs : swapsWith (.Call (.Attribute o "split" apos) [.Constant (.str c) jj cpos] [] cp) (some (.Name x pos')) pos.line X.env = pure false := by rfl) (hf : X.fn x = true ∨ X.env.scope.names.lookup x = some .local := by first | exact .inl rfl | exact .inr rfl | assumption) :
    PSs X (.Assign [.Name x pos'] (.Call (.Attribute o "split" apos) [.Constant (.str c) jj cpos] [] cp) pos :: rest) (tSeq (tAsg (tM1 rSpl to (tC (.str c))) (gName i)) u) := by
  refine ⟨fun pins s σ H D I h => ?_⟩
  refine wpAny_execs_cons (wpAny_Assign_Name ?_ hs)
  refine PySem.Call_method1 hbase hst hline (thn (ho.run pins s σ H _ I h) fun v s1 ⟨y, H1, I1, r1, q1⟩ => ?_)
  obtain ⟨⟨a, rfl⟩, q1⟩ := q1
  obtain ⟨t, rfl⟩ := _root_.id r1
  refine ⟨"str", _, PySem.F.plainAttrs_str, PySem.F.slot_str_split, PySem.F.type_str_split, typeIs_str _ _ _, (fun _ e => nomatch e), Calls.callWith_builtin rfl (Calls.evalArgs_plain (Calls.spliced_cons ?_))⟩
  refine Calls.Constant_str (k := jj) (pos := cpos) (Calls.spliced_nil ?_)
  refine wpAny_mono (PySem.wpAny_toks (mt_split pins { s1 with toks := s1.toks + 1 } σ H1 _ [.str c] _ [.str c s1.toks] _ (I1.tok _) r1 (.cons ⟨_, rfl⟩ .nil) q1)) (fun v s2 q => ?_) fun _ _ z => z.2
  obtain ⟨hk, y2, H2, I2, r2, q2⟩ := q
  have hk : s1.toks + 1 ≤ s2.toks := hk
  refine wpAny_mono (PySem.wpAny_toks (store_ok (Q := fun _ s3 => Inv X pins (σ.set i (some y2)) H2 s3) I2 hN hi hx r2 (fun s3 I3 => I3) hf)) (fun _ s3 q => ?_) fun _ _ z => z.2
  exact h2 pins s3 _ H2 D (Nat.le_trans (Nat.le_trans (Nat.le_add_left 1 _) hk) q.1) q.2 q2
end
end Rj

set_option Elab.async false
set_option linter.all false
set_option maxRecDepth 100000
set_option maxHeartbeats 8000000
namespace Bs
open PySem L2
theorem tlen (z : Str) : z.length = z.cps.toList.length := by simp [Str.length]
theorem tapp (z y : Str) : (z ++ y).cps.toList = z.cps.toList ++ y.cps.toList := by
  show (z.cps ++ y.cps).toList = _
  simp
theorem text {z y : Str} (h : z.cps.toList = y.cps.toList) : z = y := TL.ext_tl h
/-! ### a text times a number -/
def rep (k : Nat) (z : Str) : Str := ⟨(List.replicate k z.cps).foldl (· ++ ·) #[]⟩
theorem fold_cat (a : Array Nat) : ∀ (k : Nat) (b : Array Nat), ((List.replicate k a).foldl (· ++ ·) b).toList = b.toList ++ (List.replicate k a.toList).flatten
  | 0, b => by simp
  | k + 1, b => by rw [List.replicate_succ, List.foldl_cons, fold_cat a k]; simp [List.replicate_succ]
theorem rep_list (k : Nat) (z : Str) : (rep k z).cps.toList = (List.replicate k z.cps.toList).flatten := by
  show ((List.replicate k z.cps).foldl (· ++ ·) #[]).toList = _
  rw [fold_cat]; simp
theorem rep_blank (k : Nat) : (rep k (" " : Str)).cps.toList = List.replicate k 32 := by
  rw [rep_list, show ((" " : Str).cps.toList) = [32] by decide +kernel]
  induction k with
  | zero => rfl
  | succ k ih => rw [List.replicate_succ, List.flatten_cons, ih, List.replicate_succ]; rfl
theorem rep_len (k : Nat) (z : Str) : (rep k z).length = k * z.length := by
  rw [tlen, rep_list, tlen]
  induction k with
  | zero => simp
  | succ k ih => rw [List.replicate_succ, List.flatten_cons, List.length_append, ih, Nat.succ_mul, Nat.add_comm]
theorem op_mulS {X : Cx} : OpR X (binaryOp .Mult) (fun x y H Q => ∃ (z : Str) (k : Nat), x = .str z ∧ y = .int (k : Int) ∧ z.length ≤ 1000 ∧ k ≤ 10000 ∧ Q (.str (rep k z)) H) := by
  intro pins s σ H x y v u Q I rx ry h
  obtain ⟨z, k, rfl, rfl, h2, h3, q⟩ := h
  obtain ⟨t, rfl⟩ := rx
  obtain ⟨t', rfl⟩ := ry
  have sz : z.length * (k : Int).toNat ≤ 10000000 := by
    rw [Int.toNat_natCast]
    exact Nat.le_trans (Nat.mul_le_mul h2 h3) (by decide)
  have tl1 : PySem.Builtin.Str.tooLong (z.length * (k : Int).toNat) = false := by
    unfold PySem.Builtin.Str.tooLong
    exact decide_eq_false (by rw [sizeLine_eq]; omega)
  refine PySem.P.mul_str (by rw [decide_eq_false (by omega), decide_eq_false (by omega)]; rfl) (fun a b => ?_) (fun a b => tl1) ?_
  · have hk : (0 : Int) < (k : Int) := by omega
    have : (1000 : Int) ≤ (2 ^ 63 - 1) / (k : Int) := by
      rw [Int.le_ediv_iff_mul_le hk]
      omega
    omega
  · by_cases c0 : (k : Int) < 1
    · rw [if_pos c0]
      obtain rfl : k = 0 := by omega
      exact ⟨by decide, .str (rep 0 z), H, I.tok _, ⟨_, rfl⟩, q⟩
    · rw [if_neg c0]
      by_cases c1 : ((k : Int) == 1 || z.length == 0) = true
      · rw [if_pos c1]
        have e : rep k z = z := text (by
          rw [rep_list]
          simp only [Bool.or_eq_true, beq_iff_eq] at c1
          rcases c1 with c1 | c1
          · obtain rfl : k = 1 := by omega
            simp
          · have : z.cps.toList = [] := List.eq_nil_of_length_eq_zero (by rw [← tlen]; exact c1)
            rw [this]
            simp)
        rw [e] at q
        exact ⟨.str z, H, I, ⟨_, rfl⟩, q⟩
      · rw [if_neg c1, Int.toNat_natCast]
        refine ⟨?_, .str (rep k z), H, I.tok _, ⟨_, rfl⟩, q⟩
        have e := rep_len k z
        have : k * z.length ≤ 10000000 := Nat.le_trans (Nat.mul_le_mul h3 h2) (by decide)
        unfold rep at e
        rw [e, sizeLine_eq]
        omega

/-! ### lines edited as texts -/
theorem joinL_app {S : List Nat} : ∀ {l m : List (List Nat)}, l ≠ [] → m ≠ [] → TL.joinL S (l ++ m) = TL.joinL S l ++ (S ++ TL.joinL S m)
  | [], _, h, _ => absurd rfl h
  | [p], [], _, h => absurd rfl h
  | [p], q :: r, _, _ => rfl
  | p :: q :: r, m, _, hm => by
    have ih := joinL_app (S := S) (l := q :: r) (m := m) (by simp) hm
    show p ++ (S ++ TL.joinL S (q :: r ++ m)) = _
    rw [ih]
    simp [TL.joinL, List.append_assoc]
theorem sp_tl : TL.tl (" " : Str) = [32] := by decide +kernel
theorem wd_pre {ws : List Str} (h : ws ≠ []) : (" " : Str) ++ wd ws = wd ("" :: ws) := by
  refine TL.ext_tl ?_
  rw [TL.tl_append, wd_tl, wd_tl, sp_tl]
  cases ws with
  | nil => exact absurd rfl h
  | cons a r => rfl
theorem wd_post {ws : List Str} {z : Str} (h : ws ≠ []) : wd ws ++ ((" " : Str) ++ z) = wd (ws ++ [z]) := by
  rw [wd_snoc h]
  exact TL.ext_tl (by rw [TL.tl_append, TL.tl_append, TL.tl_append, TL.tl_append, List.append_assoc])
theorem wd_cons {w0 w1 : Str} {r : List Str} : TL.tl (wd (w0 :: w1 :: r)) = TL.tl w0 ++ (32 :: TL.tl (wd (w1 :: r))) := by
  rw [wd_tl, wd_tl]
  rfl
theorem repl_wd {w0 w1 : Str} {r : List Str} (h : ¬ 32 ∈ TL.tl w0) : Rj.repl1 (wd (w0 :: w1 :: r)) " " "  " = wd (w0 :: "" :: w1 :: r) := by
  have hy : TL.tl (" " : Str) ≠ [] := by rw [sp_tl]; simp
  have ex := wd_cons (w0 := w0) (w1 := w1) (r := r)
  have e2 := wd_cons (w0 := w0) (w1 := "") (r := w1 :: r)
  have e3 := wd_cons (w0 := "") (w1 := w1) (r := r)
  generalize wd (w0 :: w1 :: r) = x at ex
  generalize wd (w0 :: "" :: w1 :: r) = y2 at e2
  rw [e3] at e2
  have hat : StrLaws.At x " " x.length (TL.tl w0).length := (TL.at_iff hy _).mpr (by rw [ex, List.drop_left, sp_tl]; rfl)
  have hno : ∀ k, k < (TL.tl w0).length → ¬ StrLaws.At x " " x.length k := fun k hk a => by
    have := (TL.at_iff hy _).mp a
    rw [ex, sp_tl, TL.free_of h k hk] at this
    cases this
  have hl := StrLaws.occ_length_le x " " 0 x.length 1
  rcases StrLaws.occ_head x " " 1 (Nat.le_refl _) with ⟨_, hn⟩ | ⟨i, r', e, hi, hk⟩
  · exact absurd hat (hn _)
  have ei : i = (TL.tl w0).length := by
    rcases Nat.lt_trichotomy i (TL.tl w0).length with g | g | g
    · exact absurd hi (hno i g)
    · exact g
    · exact absurd hat (hk _ g)
  have er : r' = [] := by
    rw [e] at hl
    cases r' with
    | nil => rfl
    | cons a b => simp at hl
  subst er ei
  unfold Rj.repl1
  rw [e, if_neg (by simp), StrLaws.glued_eq_join, StrLaws.partsBetween_eq]
  refine TL.ext_tl ?_
  rw [TL.tl_join, e2]
  show TL.tl (Builtin.Str.strSub x 0 (TL.tl w0).length) ++ (TL.tl ("  " : Str) ++ TL.tl (Builtin.Str.strSub x ((TL.tl w0).length + (" " : Str).length) x.length)) = _
  rw [TL.tl_strSub, TL.tl_strSub_end, ex, show (" " : Str).length = 1 from by decide +kernel, show TL.tl ("  " : Str) = [32, 32] from by decide +kernel]
  rw [List.drop_zero, Nat.sub_zero, List.take_left, ← List.drop_drop, List.drop_left]
  rfl
theorem cut_last {ws : List Str} {z : Str} (h : ws ≠ []) (hz : ¬ 32 ∈ TL.tl z) : Txt.rfind (wd (ws ++ [z])) " " = ((wd ws).length : Int) ∧ cutS (wd (ws ++ [z])) none (some ((wd ws).length : Int)) = wd ws := by
  have hy : TL.tl (" " : Str) ≠ [] := by rw [sp_tl]; simp
  have ex : TL.tl (wd (ws ++ [z])) = TL.tl (wd ws) ++ (32 :: TL.tl z) := by
    rw [wd_tl, wd_tl, List.map_append, joinL_app (by simpa using h) (by simp)]
    rfl
  have lw : (wd ws).length = (TL.tl (wd ws)).length := TL.len_tl _
  generalize wd (ws ++ [z]) = x at ex
  generalize wd ws = y at ex lw
  have hat : StrLaws.At x " " x.length (TL.tl y).length := (TL.at_iff hy _).mpr (by rw [ex, List.drop_left, sp_tl]; rfl)
  have hno : ∀ k, (TL.tl y).length < k → ¬ StrLaws.At x " " x.length k := fun k hk a => by
    have b := a.1
    have hx := TL.len_tl x
    have p := (TL.at_iff hy _).mp a
    rw [show (" " : Str).length = 1 from by decide +kernel] at b
    rw [ex, List.length_append, List.length_cons] at hx
    obtain ⟨m, rfl⟩ : ∃ m, k = (TL.tl y).length + 1 + m := ⟨k - ((TL.tl y).length + 1), by omega⟩
    rw [ex, sp_tl, ← List.drop_drop, ← List.drop_drop, List.drop_left] at p
    have := TL.free_of (S := []) (q := []) hz m (by omega)
    rw [List.append_nil] at this
    rw [show List.drop 1 (32 :: TL.tl z) = TL.tl z from rfl, this] at p
    cases p
  constructor
  · unfold Txt.rfind
    rcases StrLaws.last_spec x " " with ⟨_, hn⟩ | ⟨i, e, hi, hk⟩
    · exact absurd hat (hn _)
    · rw [e]
      show ((i : Nat) : Int) = _
      rw [lw]
      rcases Nat.lt_trichotomy i (TL.tl y).length with g | g | g
      · exact absurd hat (hk _ g)
      · rw [g]
      · exact absurd hi (hno i g)
  · refine TL.ext_tl ?_
    have hx := TL.len_tl x
    rw [ex, List.length_append, List.length_cons] at hx
    show TL.tl (⟨((x.cps.toList.drop (HT.sIx x.length 0 none)).take (HT.sIx x.length x.length (some ((y.length : Nat) : Int)) - HT.sIx x.length 0 none)).toArray⟩ : Str) = _
    rw [HT.sIx_none, HT.sIx_nat, lw, Nat.min_eq_left (by omega), List.drop_zero, Nat.sub_zero]
    show (TL.tl x).take _ = _
    rw [ex, List.take_left]
/-- a kind's first sign, and what follows -/
def capOf (z : Str) : Str := Txt.upper ⟨#[z.cps.getD 0 0]⟩ ++ ⟨(z.cps.toList.drop 1).toArray⟩
theorem cap_odd : ∀ z fs, formOf z = some fs → capOf z ∈ oddHeads := by
  intro z fs h
  unfold formOf at h
  split at h
  · subst z; decide +kernel
  split at h
  · subst z; decide +kernel
  split at h
  · subst z; decide +kernel
  split at h
  · subst z; decide +kernel
  split at h
  · subst z; decide +kernel
  split at h
  · subst z; decide +kernel
  split at h
  · subst z; decide +kernel
  split at h
  · subst z; decide +kernel
  split at h
  · subst z; decide +kernel
  split at h
  · subst z; decide +kernel
  split at h
  · subst z; decide +kernel
  · cases h
theorem cap_wd {w0 : Str} {wr : List Str} (h : w0.cps.toList ≠ []) : Txt.upper (cutS (wd (w0 :: wr)) none (some 1)) ++ cutS (wd (w0 :: wr)) (some 1) none = wd (capOf w0 :: wr) := by
  obtain ⟨c, t, e0⟩ : ∃ c t, TL.tl w0 = c :: t := by
    cases e : TL.tl w0 with
    | nil => exact absurd e h
    | cons c t => exact ⟨c, t, rfl⟩
  obtain ⟨rr, e1, e2⟩ : ∃ rr, TL.tl (wd (w0 :: wr)) = TL.tl w0 ++ rr ∧ ∀ u : Str, TL.tl (wd (u :: wr)) = TL.tl u ++ rr := by
    cases wr with
    | nil => exact ⟨[], by rw [wd_tl]; simp [TL.joinL], fun u => by rw [wd_tl]; simp [TL.joinL]⟩
    | cons w1 r => exact ⟨_, wd_cons, fun u => wd_cons⟩
  have hg : w0.cps.getD 0 0 = c := by
    have : w0.cps.toList.getD 0 0 = c := by rw [show w0.cps.toList = c :: t from e0]; rfl
    simpa using this
  have ca : capOf w0 = Txt.upper ⟨#[c]⟩ ++ ⟨t.toArray⟩ := by
    unfold capOf
    rw [hg, show w0.cps.toList = c :: t from e0]
    rfl
  generalize wd (w0 :: wr) = x at e1
  have lx : x.length = (TL.tl x).length := TL.len_tl x
  rw [e1, e0] at lx
  have c1 : cutS x none (some 1) = ⟨#[c]⟩ := by
    refine TL.ext_tl ?_
    show (TL.tl x |>.drop (HT.sIx x.length 0 none)).take (HT.sIx x.length x.length (some 1) - HT.sIx x.length 0 none) = [c]
    rw [HT.sIx_none, show (some (1 : Int)) = some ((1 : Nat) : Int) from rfl, HT.sIx_nat, Nat.min_eq_left (by rw [lx]; simp), e1, e0]
    rfl
  have c2 : TL.tl (cutS x (some 1) none) = t ++ rr := by
    show (TL.tl x |>.drop (HT.sIx x.length 0 (some 1))).take (HT.sIx x.length x.length none - HT.sIx x.length 0 (some 1)) = t ++ rr
    rw [HT.sIx_none, show (some (1 : Int)) = some ((1 : Nat) : Int) from rfl, HT.sIx_nat, Nat.min_eq_left (by rw [lx]; simp), e1, e0]
    show ((t ++ rr)).take _ = _
    exact List.take_of_length_le (by rw [lx]; simp)
  refine TL.ext_tl ?_
  rw [TL.tl_append, c1, c2, e2, ca, TL.tl_append, List.append_assoc]
end Bs

set_option Elab.async false
set_option linter.all false
set_option maxRecDepth 100000
set_option maxHeartbeats 8000000
namespace Bs
open PySem L2
abbrev sWord : Stmt := top 73
abbrev sSorts : Stmt := top 74
abbrev nWord : List Str := ["sort", "number"]
theorem scWord : FnScope nWord ["sort", "number"] (defScope sWord) := ⟨rfl, rfl, rfl, by decide +kernel, rfl, by decide +kernel, by decide +kernel⟩
abbrev nSorts : List Str := ["kind"]
theorem scSorts : FnScope nSorts ["kind"] (defScope sSorts) := ⟨rfl, rfl, rfl, by decide +kernel, rfl, by decide +kernel, by decide +kernel⟩
def sortOf (fm : Str) : Str := if fm = "amount" then "use" else fm
/-- a word of at most 5000 signs that is not what is due there -/
def BadW (fm z : Str) : Prop := fitsB z fm = false ∧ (∀ c ∈ z.cps.toList, c ≠ 32 ∧ c ≠ 10) ∧ z.length ≤ 5000
instance (fm z : Str) : Decidable (BadW fm z) := by unfold BadW; exact inferInstance
def spWord : Sp := fun vs H Q _ => ∃ (fm : Str) (n : Int), vs = [.str (sortOf fm), .int n] ∧ (fm = "name" ∨ fm = "order" ∨ fm = "integer" ∨ fm = "amount") ∧ 0 ≤ n ∧ ∀ z H', Same H H' → BadW fm z → Q (.str z) H'
def spSorts : Sp := fun vs H Q _ => ∃ (w0 : Str) (fs : List Str), vs = [.str w0] ∧ formOf w0 = some fs ∧ ∀ p H', Same H H' → H p = none → H' p = some (.lst (fs.map fun fm => V.str (sortOf fm))) → Q (.ref p) H'
def badN : List Str := ["", "0a", "A", "abcdefghijklm", "a_b", "7"]
def badO : List Str := ["", "Big", "middle", "0"]
def badI : List Str := ["", "00", "-1", "1.0", "a", "1000000000", "+1", "07"]
def badU : List Str := ["", "00", "-1", "A", "0a", "1000000000", "a_b", rep 5000 "7"]
theorem badN_ok : ∀ z ∈ badN, BadW "name" z := by decide +kernel
theorem badO_ok : ∀ z ∈ badO, BadW "order" z := by decide +kernel
theorem badI_ok : ∀ z ∈ badI, BadW "integer" z := by decide +kernel
theorem badU_ok : ∀ z ∈ badU, BadW "amount" z := by
  have a : ∀ z ∈ badU.take 7, BadW "amount" z := by decide +kernel
  intro z hz
  by_cases h : z = rep 5000 "7"
  · subst h
    have e : (rep 5000 ("7" : Str)).cps.toList = List.replicate 5000 55 := by
      rw [rep_list, show (("7" : Str).cps.toList) = [55] by decide +kernel]
      generalize 5000 = k
      induction k with
      | zero => rfl
      | succ k ih => rw [List.replicate_succ, List.flatten_cons, ih, List.replicate_succ]; rfl
    have l : (rep 5000 ("7" : Str)).length = 5000 := by rw [tlen, e, List.length_replicate]
    refine ⟨?_, fun c hc => ?_, by omega⟩
    · have h1 : isIntWord (rep 5000 "7") = false := by
        cases h : isIntWord (rep 5000 "7") with
        | false => rfl
        | true => have := (int_text h).2; omega
      have h2 : isName (rep 5000 "7") = false := by
        cases h : isName (rep 5000 "7") with
        | false => rfl
        | true => have := (name_len h).2; omega
      unfold fitsB
      rw [if_neg (by decide +kernel), if_neg (by decide +kernel), if_pos rfl, h1, h2]
      rfl
    · rw [e] at hc
      have := List.eq_of_mem_replicate hc
      subst this
      decide
  · refine a z ?_
    unfold badU at hz ⊢
    simp only [List.take, List.mem_cons] at hz ⊢
    rcases hz with h1 | h1 | h1 | h1 | h1 | h1 | h1 | h1 | h1 <;> simp_all
theorem pick_at {l : List Str} {m : Int} (h0 : 0 ≤ m) (h1 : m < (l.length : Int)) : ∃ z, z ∈ l ∧ atI (l.map V.str) m = some (.str z) := by
  obtain ⟨j, rfl⟩ := Int.eq_ofNat_of_zero_le h0
  have hj : j < l.length := by omega
  exact ⟨l[j], List.getElem_mem hj, atI_nat (by rw [List.getElem?_map, List.getElem?_eq_getElem hj]; rfl)⟩
theorem kne2 {a b : Str} (h : a ≠ b) : ¬ decide (V.str a = V.str b) = true := fun k => h (V.str.inj (of_decide_eq_true k))
theorem form_kinds {w0 : Str} {fs : List Str} (h : formOf w0 = some fs) : (w0 = "number" ∧ fs = (["name", "integer", "order", "integer", "integer"] : List Str)) ∨ (w0 = "bytes" ∧ fs = (["name", "amount"] : List Str)) ∨ (w0 = "text" ∧ fs = (["name", "integer", "integer"] : List Str)) ∨ (w0 = "repeat" ∧ fs = (["name", "amount"] : List Str)) ∨ (w0 = "either" ∧ fs = (["name"] : List Str)) ∨ (w0 = "switch" ∧ fs = (["name", "name"] : List Str)) ∨ (w0 = "check" ∧ fs = (["name", "integer"] : List Str)) ∨ (w0 = "pad" ∧ fs = (["name", "integer", "integer"] : List Str)) ∨ (w0 = "choice" ∧ fs = ([] : List Str)) ∨ (w0 = "case" ∧ fs = (["integer"] : List Str)) ∨ (w0 = "end" ∧ fs = ([] : List Str)) := by
  unfold formOf at h
  repeat' split at h
  all_goals first
    | (cases h; done)
    | (subst_vars; cases h; simp only [true_and, eq_self_iff_true, true_or, or_true]; done)
section
variable {P : Program} {w : World} {K : PySem.W.Frag} {mg : Str → Option Value} {base : Heap} {f : Addr} {fd : FuncData}
theorem ok_word (F : Fun K "_law_word" "_law_word" sWord f fd) (mint : mg "int" = none) : FnOk P w K mg base CX0 1 f fd ["sort", "number"] spWord := by
  refine F.ok scWord (fun vs H Q E h => ?_) (fun cdv A outer s H vs Q E hr h => ?_)
  · obtain ⟨fm, n, rfl, _⟩ := h
    rfl
  · obtain ⟨fm, n, rfl, hf, hn, q⟩ := h
    refine ⟨_, (pss_cons (ps_if (pt_cmpR op_eq (pv 0) pe_str (nomark _)) (pss_one (ps_ret (pe_ix ix_list (pe_lst (pa_cons pe_str (pa_cons pe_str (pa_cons pe_str (pa_cons pe_str (pa_cons pe_str (pa_cons pe_str pa_nil))))))) (pe_op op_mod (pe_callTy (r := rInt1) call_int1 (by rfl) mint (by decide +kernel) (pa_cons (pv 1) pa_nil)) pe_int) (fun _ _ => rfl)))) pss_nil)
      (pss_cons (ps_if (pt_cmpR op_eq (pv 0) pe_str (nomark _)) (pss_one (ps_ret (pe_ix ix_list (pe_lst (pa_cons pe_str (pa_cons pe_str (pa_cons pe_str (pa_cons pe_str pa_nil))))) (pe_op op_mod (pe_callTy (r := rInt1) call_int1 (by rfl) mint (by decide +kernel) (pa_cons (pv 1) pa_nil)) pe_int) (fun _ _ => rfl)))) pss_nil)
      (pss_cons (ps_if (pt_cmpR op_eq (pv 0) pe_str (nomark _)) (pss_one (ps_ret (pe_ix ix_list (pe_lst (pa_cons pe_str (pa_cons pe_str (pa_cons pe_str (pa_cons pe_str (pa_cons pe_str (pa_cons pe_str (pa_cons pe_str (pa_cons pe_str pa_nil))))))))) (pe_op op_mod (pe_callTy (r := rInt1) call_int1 (by rfl) mint (by decide +kernel) (pa_cons (pv 1) pa_nil)) pe_int) (fun _ _ => rfl)))) pss_nil)
      (pss_one (ps_ret (pe_ix ix_list (pe_lst (pa_cons pe_str (pa_cons pe_str (pa_cons pe_str (pa_cons pe_str (pa_cons pe_str (pa_cons pe_str (pa_cons pe_str (pa_cons (pe_op op_mulS pe_str pe_int) pa_nil))))))))) (pe_op op_mod (pe_callTy (r := rInt1) call_int1 (by rfl) mint (by decide +kernel) (pa_cons (pv 1) pa_nil)) pe_int) (fun _ _ => rfl))))))), ?_⟩
    have m6 := Int.emod_nonneg n (show (6 : Int) ≠ 0 by decide)
    have m6' := Int.emod_lt_of_pos n (show (0 : Int) < 6 by decide)
    have m4 := Int.emod_nonneg n (show (4 : Int) ≠ 0 by decide)
    have m4' := Int.emod_lt_of_pos n (show (0 : Int) < 4 by decide)
    have m8 := Int.emod_nonneg n (show (8 : Int) ≠ 0 by decide)
    have m8' := Int.emod_lt_of_pos n (show (0 : Int) < 8 by decide)
    rcases hf with rfl | rfl | rfl | rfl
    · obtain ⟨z, hz, ez⟩ := pick_at (l := badN) m6 m6'
      refine ⟨_, rfl, rfl, _, rfl, ite2 (fun _ => ?_) (fun e => absurd (decide_eq_true (by decide +kernel)) e)⟩
      refine ⟨by show 6 ≤ sizeLine; decide, fun p hp => ⟨_, rfl, .inl ⟨_, rfl, _, _, rfl, rfl, (by show (0 : Int) < 6; decide), p, _, _, _, rfl, rfl, SqL.of upd_same, ez, ?_⟩⟩⟩
      exact q z _ (same_new hp _) (badN_ok z hz)
    · refine ⟨_, rfl, rfl, _, rfl, ite2 (fun e => absurd e (kne2 (by decide +kernel))) (fun _ => ?_)⟩
      obtain ⟨z, hz, ez⟩ := pick_at (l := badO) m4 m4'
      refine ⟨_, rfl, rfl, _, rfl, ite2 (fun _ => ?_) (fun e => absurd (decide_eq_true (by decide +kernel)) e)⟩
      refine ⟨by show 4 ≤ sizeLine; decide, fun p hp => ⟨_, rfl, .inl ⟨_, rfl, _, _, rfl, rfl, (by show (0 : Int) < 4; decide), p, _, _, _, rfl, rfl, SqL.of upd_same, ez, ?_⟩⟩⟩
      exact q z _ (same_new hp _) (badO_ok z hz)
    · refine ⟨_, rfl, rfl, _, rfl, ite2 (fun e => absurd e (kne2 (by decide +kernel))) (fun _ => ?_)⟩
      refine ⟨_, rfl, rfl, _, rfl, ite2 (fun e => absurd e (kne2 (by decide +kernel))) (fun _ => ?_)⟩
      obtain ⟨z, hz, ez⟩ := pick_at (l := badI) m8 m8'
      refine ⟨_, rfl, rfl, _, rfl, ite2 (fun _ => ?_) (fun e => absurd (decide_eq_true (by decide +kernel)) e)⟩
      refine ⟨by show 8 ≤ sizeLine; decide, fun p hp => ⟨_, rfl, .inl ⟨_, rfl, _, _, rfl, rfl, (by show (0 : Int) < 8; decide), p, _, _, _, rfl, rfl, SqL.of upd_same, ez, ?_⟩⟩⟩
      exact q z _ (same_new hp _) (badI_ok z hz)
    · refine ⟨_, rfl, rfl, _, rfl, ite2 (fun e => absurd e (kne2 (by decide +kernel))) (fun _ => ?_)⟩
      refine ⟨_, rfl, rfl, _, rfl, ite2 (fun e => absurd e (kne2 (by decide +kernel))) (fun _ => ?_)⟩
      refine ⟨_, rfl, rfl, _, rfl, ite2 (fun e => absurd e (kne2 (by decide +kernel))) (fun _ => ?_)⟩
      obtain ⟨z, hz, ez⟩ := pick_at (l := badU) m8 m8'
      refine ⟨"7", 5000, rfl, rfl, by decide, by decide, ?_⟩
      refine ⟨by show 8 ≤ sizeLine; decide, fun p hp => ⟨_, rfl, .inl ⟨_, rfl, _, _, rfl, rfl, (by show (0 : Int) < 8; decide), p, _, _, _, rfl, rfl, SqL.of upd_same, ez, ?_⟩⟩⟩
      exact q z _ (same_new hp _) (badU_ok z hz)
theorem ok_sorts (F : Fun K "_law_sorts" "_law_sorts" sSorts f fd) : FnOk P w K mg base CX0 1 f fd ["kind"] spSorts := by
  refine F.ok scSorts (fun vs H Q E h => ?_) (fun cdv A outer s H vs Q E hr h => ?_)
  · obtain ⟨w0, fs, rfl, _⟩ := h
    rfl
  · obtain ⟨w0, fs, rfl, hf, q⟩ := h
    refine ⟨_, (pss_cons (ps_if (pt_cmpR op_eq (pv 0) pe_str (nomark _)) (pss_one (ps_ret (pe_lst (pa_cons pe_str (pa_cons pe_str (pa_cons pe_str (pa_cons pe_str (pa_cons pe_str pa_nil)))))))) pss_nil)
      (pss_cons (ps_if (PW.pt (pw_or (pt_cmpR op_eq (pv 0) pe_str (nomark _)) (pw_or1 (pt_cmpR op_eq (pv 0) pe_str (nomark _))))) (pss_one (ps_ret (pe_lst (pa_cons pe_str (pa_cons pe_str pa_nil))))) pss_nil)
      (pss_cons (ps_if (PW.pt (pw_or (pt_cmpR op_eq (pv 0) pe_str (nomark _)) (pw_or1 (pt_cmpR op_eq (pv 0) pe_str (nomark _))))) (pss_one (ps_ret (pe_lst (pa_cons pe_str (pa_cons pe_str (pa_cons pe_str pa_nil)))))) pss_nil)
      (pss_cons (ps_if (pt_cmpR op_eq (pv 0) pe_str (nomark _)) (pss_one (ps_ret (pe_lst (pa_cons pe_str (pa_cons pe_str pa_nil))))) pss_nil)
      (pss_cons (ps_if (pt_cmpR op_eq (pv 0) pe_str (nomark _)) (pss_one (ps_ret (pe_lst (pa_cons pe_str (pa_cons pe_str pa_nil))))) pss_nil)
      (pss_cons (ps_if (pt_cmpR op_eq (pv 0) pe_str (nomark _)) (pss_one (ps_ret (pe_lst (pa_cons pe_str pa_nil)))) pss_nil)
      (pss_cons (ps_if (pt_cmpR op_eq (pv 0) pe_str (nomark _)) (pss_one (ps_ret (pe_lst (pa_cons pe_str pa_nil)))) pss_nil)
      (pss_one (ps_ret (pe_lst pa_nil)))))))))), ?_⟩
    have hk : (w0 = "number" ∧ fs = (["name", "integer", "order", "integer", "integer"] : List Str)) ∨ (w0 = "bytes" ∧ fs = (["name", "amount"] : List Str)) ∨ (w0 = "text" ∧ fs = (["name", "integer", "integer"] : List Str)) ∨ (w0 = "repeat" ∧ fs = (["name", "amount"] : List Str)) ∨ (w0 = "either" ∧ fs = (["name"] : List Str)) ∨ (w0 = "switch" ∧ fs = (["name", "name"] : List Str)) ∨ (w0 = "check" ∧ fs = (["name", "integer"] : List Str)) ∨ (w0 = "pad" ∧ fs = (["name", "integer", "integer"] : List Str)) ∨ (w0 = "choice" ∧ fs = ([] : List Str)) ∨ (w0 = "case" ∧ fs = (["integer"] : List Str)) ∨ (w0 = "end" ∧ fs = ([] : List Str)) := form_kinds hf
    rcases hk with ⟨rfl, rfl⟩ | ⟨rfl, rfl⟩ | ⟨rfl, rfl⟩ | ⟨rfl, rfl⟩ | ⟨rfl, rfl⟩ | ⟨rfl, rfl⟩ | ⟨rfl, rfl⟩ | ⟨rfl, rfl⟩ | ⟨rfl, rfl⟩ | ⟨rfl, rfl⟩ | ⟨rfl, rfl⟩
    · -- number
      refine ⟨_, rfl, rfl, _, rfl, ite2 (fun _ => ?_) (fun e => absurd (decide_eq_true rfl) e)⟩
      exact ⟨by show 5 ≤ sizeLine; decide, fun p hp => q p _ (same_new hp _) hp upd_same⟩
    · -- bytes
      refine ⟨_, rfl, rfl, _, rfl, ite2 (fun e => absurd e (kne2 (by decide +kernel))) (fun _ => ?_)⟩
      refine ⟨_, rfl, rfl, _, rfl, ite2 (fun _ => ?_) (fun e => absurd (decide_eq_true rfl) e)⟩
      exact ⟨by show 2 ≤ sizeLine; decide, fun p hp => q p _ (same_new hp _) hp upd_same⟩
    · -- text
      refine ⟨_, rfl, rfl, _, rfl, ite2 (fun e => absurd e (kne2 (by decide +kernel))) (fun _ => ?_)⟩
      refine ⟨_, rfl, rfl, _, rfl, ite2 (fun e => absurd e (kne2 (by decide +kernel))) (fun _ => ?_)⟩
      refine ⟨_, rfl, rfl, _, rfl, ite2 (fun e => absurd e (kne2 (by decide +kernel))) (fun _ => ?_)⟩
      refine ⟨_, rfl, rfl, _, rfl, ite2 (fun _ => ?_) (fun e => absurd (decide_eq_true rfl) e)⟩
      exact ⟨by show 3 ≤ sizeLine; decide, fun p hp => q p _ (same_new hp _) hp upd_same⟩
    · -- repeat
      refine ⟨_, rfl, rfl, _, rfl, ite2 (fun e => absurd e (kne2 (by decide +kernel))) (fun _ => ?_)⟩
      refine ⟨_, rfl, rfl, _, rfl, ite2 (fun e => absurd e (kne2 (by decide +kernel))) (fun _ => ?_)⟩
      refine ⟨_, rfl, rfl, _, rfl, ite2 (fun _ => ?_) (fun e => absurd (decide_eq_true rfl) e)⟩
      exact ⟨by show 2 ≤ sizeLine; decide, fun p hp => q p _ (same_new hp _) hp upd_same⟩
    · -- either
      refine ⟨_, rfl, rfl, _, rfl, ite2 (fun e => absurd e (kne2 (by decide +kernel))) (fun _ => ?_)⟩
      refine ⟨_, rfl, rfl, _, rfl, ite2 (fun e => absurd e (kne2 (by decide +kernel))) (fun _ => ?_)⟩
      refine ⟨_, rfl, rfl, _, rfl, ite2 (fun e => absurd e (kne2 (by decide +kernel))) (fun _ => ?_)⟩
      refine ⟨_, rfl, rfl, _, rfl, ite2 (fun e => absurd e (kne2 (by decide +kernel))) (fun _ => ?_)⟩
      refine ⟨_, rfl, rfl, _, rfl, ite2 (fun e => absurd e (kne2 (by decide +kernel))) (fun _ => ?_)⟩
      refine ⟨_, rfl, rfl, _, rfl, ite2 (fun e => absurd e (kne2 (by decide +kernel))) (fun _ => ?_)⟩
      refine ⟨_, rfl, rfl, _, rfl, ite2 (fun e => absurd e (kne2 (by decide +kernel))) (fun _ => ?_)⟩
      refine ⟨_, rfl, rfl, _, rfl, ite2 (fun _ => ?_) (fun e => absurd (decide_eq_true rfl) e)⟩
      exact ⟨by show 1 ≤ sizeLine; decide, fun p hp => q p _ (same_new hp _) hp upd_same⟩
    · -- switch
      refine ⟨_, rfl, rfl, _, rfl, ite2 (fun e => absurd e (kne2 (by decide +kernel))) (fun _ => ?_)⟩
      refine ⟨_, rfl, rfl, _, rfl, ite2 (fun e => absurd e (kne2 (by decide +kernel))) (fun _ => ?_)⟩
      refine ⟨_, rfl, rfl, _, rfl, ite2 (fun e => absurd e (kne2 (by decide +kernel))) (fun _ => ?_)⟩
      refine ⟨_, rfl, rfl, _, rfl, ite2 (fun e => absurd e (kne2 (by decide +kernel))) (fun _ => ?_)⟩
      refine ⟨_, rfl, rfl, _, rfl, ite2 (fun e => absurd e (kne2 (by decide +kernel))) (fun _ => ?_)⟩
      refine ⟨_, rfl, rfl, _, rfl, ite2 (fun _ => ?_) (fun e => absurd (decide_eq_true rfl) e)⟩
      exact ⟨by show 2 ≤ sizeLine; decide, fun p hp => q p _ (same_new hp _) hp upd_same⟩
    · -- check
      refine ⟨_, rfl, rfl, _, rfl, ite2 (fun e => absurd e (kne2 (by decide +kernel))) (fun _ => ?_)⟩
      refine ⟨_, rfl, rfl, _, rfl, ite2 (fun e => absurd e (kne2 (by decide +kernel))) (fun _ => ?_)⟩
      refine ⟨_, rfl, rfl, _, rfl, ite2 (fun e => absurd e (kne2 (by decide +kernel))) (fun _ => ?_)⟩
      refine ⟨_, rfl, rfl, _, rfl, ite2 (fun e => absurd e (kne2 (by decide +kernel))) (fun _ => ?_)⟩
      refine ⟨_, rfl, rfl, _, rfl, ite2 (fun e => absurd e (kne2 (by decide +kernel))) (fun _ => ?_)⟩
      refine ⟨_, rfl, rfl, _, rfl, ite2 (fun e => absurd e (kne2 (by decide +kernel))) (fun _ => ?_)⟩
      refine ⟨_, rfl, rfl, _, rfl, ite2 (fun _ => ?_) (fun e => absurd (decide_eq_true rfl) e)⟩
      exact ⟨by show 2 ≤ sizeLine; decide, fun p hp => q p _ (same_new hp _) hp upd_same⟩
    · -- pad
      refine ⟨_, rfl, rfl, _, rfl, ite2 (fun e => absurd e (kne2 (by decide +kernel))) (fun _ => ?_)⟩
      refine ⟨_, rfl, rfl, _, rfl, ite2 (fun e => absurd e (kne2 (by decide +kernel))) (fun _ => ?_)⟩
      refine ⟨_, rfl, rfl, _, rfl, ite2 (fun e => absurd e (kne2 (by decide +kernel))) (fun _ => ?_)⟩
      refine ⟨_, rfl, rfl, _, rfl, ite2 (fun e => absurd e (kne2 (by decide +kernel))) (fun _ => ?_)⟩
      refine ⟨_, rfl, rfl, _, rfl, ite2 (fun _ => ?_) (fun e => absurd (decide_eq_true rfl) e)⟩
      exact ⟨by show 3 ≤ sizeLine; decide, fun p hp => q p _ (same_new hp _) hp upd_same⟩
    · -- choice
      refine ⟨_, rfl, rfl, _, rfl, ite2 (fun e => absurd e (kne2 (by decide +kernel))) (fun _ => ?_)⟩
      refine ⟨_, rfl, rfl, _, rfl, ite2 (fun e => absurd e (kne2 (by decide +kernel))) (fun _ => ?_)⟩
      refine ⟨_, rfl, rfl, _, rfl, ite2 (fun e => absurd e (kne2 (by decide +kernel))) (fun _ => ?_)⟩
      refine ⟨_, rfl, rfl, _, rfl, ite2 (fun e => absurd e (kne2 (by decide +kernel))) (fun _ => ?_)⟩
      refine ⟨_, rfl, rfl, _, rfl, ite2 (fun e => absurd e (kne2 (by decide +kernel))) (fun _ => ?_)⟩
      refine ⟨_, rfl, rfl, _, rfl, ite2 (fun e => absurd e (kne2 (by decide +kernel))) (fun _ => ?_)⟩
      refine ⟨_, rfl, rfl, _, rfl, ite2 (fun e => absurd e (kne2 (by decide +kernel))) (fun _ => ?_)⟩
      refine ⟨_, rfl, rfl, _, rfl, ite2 (fun e => absurd e (kne2 (by decide +kernel))) (fun _ => ?_)⟩
      refine ⟨_, rfl, rfl, _, rfl, ite2 (fun e => absurd e (kne2 (by decide +kernel))) (fun _ => ?_)⟩
      exact ⟨by show 0 ≤ sizeLine; decide, fun p hp => q p _ (same_new hp _) hp upd_same⟩
    · -- case
      refine ⟨_, rfl, rfl, _, rfl, ite2 (fun e => absurd e (kne2 (by decide +kernel))) (fun _ => ?_)⟩
      refine ⟨_, rfl, rfl, _, rfl, ite2 (fun e => absurd e (kne2 (by decide +kernel))) (fun _ => ?_)⟩
      refine ⟨_, rfl, rfl, _, rfl, ite2 (fun e => absurd e (kne2 (by decide +kernel))) (fun _ => ?_)⟩
      refine ⟨_, rfl, rfl, _, rfl, ite2 (fun e => absurd e (kne2 (by decide +kernel))) (fun _ => ?_)⟩
      refine ⟨_, rfl, rfl, _, rfl, ite2 (fun e => absurd e (kne2 (by decide +kernel))) (fun _ => ?_)⟩
      refine ⟨_, rfl, rfl, _, rfl, ite2 (fun e => absurd e (kne2 (by decide +kernel))) (fun _ => ?_)⟩
      refine ⟨_, rfl, rfl, _, rfl, ite2 (fun e => absurd e (kne2 (by decide +kernel))) (fun _ => ?_)⟩
      refine ⟨_, rfl, rfl, _, rfl, ite2 (fun e => absurd e (kne2 (by decide +kernel))) (fun _ => ?_)⟩
      refine ⟨_, rfl, rfl, _, rfl, ite2 (fun _ => ?_) (fun e => absurd (decide_eq_true rfl) e)⟩
      exact ⟨by show 1 ≤ sizeLine; decide, fun p hp => q p _ (same_new hp _) hp upd_same⟩
    · -- end
      refine ⟨_, rfl, rfl, _, rfl, ite2 (fun e => absurd e (kne2 (by decide +kernel))) (fun _ => ?_)⟩
      refine ⟨_, rfl, rfl, _, rfl, ite2 (fun e => absurd e (kne2 (by decide +kernel))) (fun _ => ?_)⟩
      refine ⟨_, rfl, rfl, _, rfl, ite2 (fun e => absurd e (kne2 (by decide +kernel))) (fun _ => ?_)⟩
      refine ⟨_, rfl, rfl, _, rfl, ite2 (fun e => absurd e (kne2 (by decide +kernel))) (fun _ => ?_)⟩
      refine ⟨_, rfl, rfl, _, rfl, ite2 (fun e => absurd e (kne2 (by decide +kernel))) (fun _ => ?_)⟩
      refine ⟨_, rfl, rfl, _, rfl, ite2 (fun e => absurd e (kne2 (by decide +kernel))) (fun _ => ?_)⟩
      refine ⟨_, rfl, rfl, _, rfl, ite2 (fun e => absurd e (kne2 (by decide +kernel))) (fun _ => ?_)⟩
      refine ⟨_, rfl, rfl, _, rfl, ite2 (fun e => absurd e (kne2 (by decide +kernel))) (fun _ => ?_)⟩
      refine ⟨_, rfl, rfl, _, rfl, ite2 (fun e => absurd e (kne2 (by decide +kernel))) (fun _ => ?_)⟩
      exact ⟨by show 0 ≤ sizeLine; decide, fun p hp => q p _ (same_new hp _) hp upd_same⟩

end
end Bs

set_option Elab.async false
set_option linter.all false
set_option maxRecDepth 100000
set_option maxHeartbeats 8000000
namespace Bs
open PySem L2
abbrev sBroken : Stmt := top 75
abbrev nBroken : List Str := ["line", "fault", "number", "words", "sorts", "at"]
theorem scBroken : FnScope nBroken ["line", "fault", "number"] (defScope sBroken) := ⟨rfl, rfl, rfl, by decide +kernel, rfl, by decide +kernel, by decide +kernel⟩
/-- words that do not fit, of a line that can be read -/
structure OddW (ws : List Str) : Prop where
  nf : NoFit ws
  ne : ws ≠ []
  l : ws.length ≤ 20
  g : ∀ z ∈ ws, Good2 z
  ln : (wd ws).length ≤ 12000
def spBroken : Sp := fun vs H Q _ => ∃ (ws : List Str) (c n : Int), vs = [.str (wd ws), .int c, .int n] ∧ Fit ws ∧ (∀ z ∈ ws, Good z) ∧ 0 ≤ n ∧ n ≤ 100000 ∧ ∀ ws' H', Same H H' → OddW ws' → Q (.str (wd ws')) H'
theorem joinL_len3 {S : List Nat} : ∀ ps : List (List Nat), (TL.joinL S ps).length ≤ (ps.map List.length).sum + ps.length * S.length
  | [] => by simp [TL.joinL]
  | [p] => by simp [TL.joinL]
  | p :: q :: r => by
    have ih := joinL_len3 (S := S) (q :: r)
    simp only [TL.joinL, List.length_append, List.map_cons, List.sum_cons, List.length_cons, Nat.add_mul, Nat.one_mul] at ih ⊢
    omega
theorem wd_le {ws : List Str} {c : Nat} (h : (ws.map Str.length).sum ≤ c) : (wd ws).length ≤ c + ws.length := by
  rw [TL.len_tl, wd_tl]
  have := joinL_len3 (S := [32]) (ws.map TL.tl)
  have e : ((ws.map TL.tl).map List.length).sum = (ws.map Str.length).sum := by
    rw [List.map_map]
    congr 1
  rw [e, List.length_map] at this
  simp only [List.length_cons, List.length_nil] at this
  omega
theorem sum_good {ws : List Str} (h : ∀ z ∈ ws, Good z) : (ws.map Str.length).sum ≤ 12 * ws.length := by
  induction ws with
  | nil => simp
  | cons a r ih =>
    have i := ih fun z hz => h z (List.mem_cons_of_mem _ hz)
    have := (h a (.head _)).2
    simp only [List.map_cons, List.sum_cons, List.length_cons]
    omega
theorem good2_app {l m : List Str} (h : ∀ z ∈ l, Good2 z) (g : ∀ z ∈ m, Good2 z) : ∀ z ∈ l ++ m, Good2 z := fun z hz => (List.mem_append.mp hz).elim (h z) (g z)
theorem good_e : Good ("" : Str) ∧ Good ("1" : Str) := by unfold Good; decide +kernel
theorem cap_good {w0 : Str} {fs : List Str} (h : formOf w0 = some fs) : Good (capOf w0) := by
  have : ∀ z ∈ oddHeads, Good z := by unfold Good; decide +kernel
  exact this _ (cap_odd _ _ h)
theorem oddW_good {ws : List Str} (h : NoFit ws) (n : ws ≠ []) (l : ws.length ≤ 7) (g : ∀ z ∈ ws, Good z) : OddW ws := ⟨h, n, by omega, fun z hz => (g z hz).two, by
  have := wd_le (Nat.le_refl _ : (ws.map Str.length).sum ≤ (ws.map Str.length).sum)
  have := sum_good g
  omega⟩
theorem form_ne {w0 : Str} {fs : List Str} (h : formOf w0 = some fs) : w0.cps.toList ≠ [] := by
  rcases form_kinds h with ⟨rfl, _⟩ | ⟨rfl, _⟩ | ⟨rfl, _⟩ | ⟨rfl, _⟩ | ⟨rfl, _⟩ | ⟨rfl, _⟩ | ⟨rfl, _⟩ | ⟨rfl, _⟩ | ⟨rfl, _⟩ | ⟨rfl, _⟩ | ⟨rfl, _⟩ <;> decide +kernel
theorem form_mem {w0 : Str} {fs : List Str} (h : formOf w0 = some fs) : ∀ fm ∈ fs, fm = "name" ∨ fm = "order" ∨ fm = "integer" ∨ fm = "amount" := by
  rcases form_kinds h with ⟨_, rfl⟩ | ⟨_, rfl⟩ | ⟨_, rfl⟩ | ⟨_, rfl⟩ | ⟨_, rfl⟩ | ⟨_, rfl⟩ | ⟨_, rfl⟩ | ⟨_, rfl⟩ | ⟨_, rfl⟩ | ⟨_, rfl⟩ | ⟨_, rfl⟩ <;> decide +kernel
section
variable {P : Program} {w : World} {K : PySem.W.Frag} {mg : Str → Option Value} {base : Heap} {f : Addr} {fd : FuncData}
theorem ok_broken (F : Fun K "_law_broken" "_law_broken" sBroken f fd) (gWo : Cal P w K mg base CX0 1 "_law_word" ["sort", "number"] spWord) (gSo : Cal P w K mg base CX0 1 "_law_sorts" ["kind"] spSorts) (ml : mg "len" = none) : FnOk P w K mg base CX0 2 f fd ["line", "fault", "number"] spBroken := by
  refine F.ok scBroken (fun vs H Q E h => ?_) (fun cdv A outer s H vs Q E hr h => ?_)
  · obtain ⟨ws, c, n, rfl, _⟩ := h
    rfl
  · obtain ⟨ws, c, n, rfl, ft, gd, hn, hnn, q⟩ := h
    have hr1 : Room 1 _ := hr
    refine ⟨_, Rj.pss_splT (i := 3) scBroken.nd rfl (.inl rfl) (pv 0) (psst_cons (PST.of (ps_set (i := 4) scBroken.nd rfl (.inl rfl) (pe_cal gSo hr1 pass0 (pa_cons (pe_ix ix_list (pv 3) pe_int (fun _ _ => rfl)) pa_nil))))
      (psst_cons (CwR.pst_if (pt_cmpR op_eq (pv 1) pe_int (nomark _)) (PSsT.of (pss_one (ps_ret (pe_op op_add_str pe_str (pv 0))))) CwR.psst_nil)
      (psst_cons (CwR.pst_if (PW.pt (pw_and (pt_cmpR op_eq (pv 1) pe_int (nomark _)) (pw_and1 (pt_cmpR op_gt (pe_callB call_len (by rfl) ml boot_len (pa_cons (pv 3) pa_nil)) pe_int (nomark _))))) (CwR.psst_one (CwR.pst_ret (Rj.pet_repl1 (pv 0)))) CwR.psst_nil)
      (psst_cons (CwR.pst_if (pt_cmpR op_eq (pv 1) pe_int (nomark _)) (PSsT.of (pss_one (ps_ret (pe_op op_add_str (pv 0) pe_str)))) CwR.psst_nil)
      (psst_cons (CwR.pst_if (PW.pt (pw_and (pt_cmpR op_eq (pv 1) pe_int (nomark _)) (pw_and1 (pt_cmpR op_gt (pe_callB call_len (by rfl) ml boot_len (pa_cons (pv 3) pa_nil)) pe_int (nomark _))))) (PSsT.of (pss_one (ps_ret (pe_slice sl_str (pv 0) po_none (po_some (pe_m1 PySem.F.slot_str_rfind PySem.F.type_str_rfind mt_rfind (pv 0) pe_str)))))) CwR.psst_nil)
      (psst_cons (CwR.pst_if (pt_cmpR op_eq (pv 1) pe_int (nomark _)) (PSsT.of (pss_one (ps_ret (pe_op op_add_str (pe_upper (pe_slice sl_str (pv 0) po_none (po_some pe_int))) (pe_slice sl_str (pv 0) (po_some pe_int) po_none))))) CwR.psst_nil)
      (psst_cons (CwR.pst_if (pt_cmpR op_eq (pv 1) pe_int (nomark _)) (PSsT.of (pss_one (ps_ret pe_str))) CwR.psst_nil)
      (psst_cons (CwR.pst_if (PW.pt (pw_and (pt_cmpR op_ge (pv 1) pe_int (nomark _)) (pw_and1 (pt_cmpR op_gt (pe_callB call_len (by rfl) ml boot_len (pa_cons (pv 4) pa_nil)) pe_int (nomark _))))) (PSsT.of (pss_cons (ps_set (i := 5) scBroken.nd rfl (.inl rfl) (pe_op op_mod (pe_op op_fdiv (pv 2) pe_int) (pe_callB call_len (by rfl) ml boot_len (pa_cons (pv 4) pa_nil))))
      (pss_one (ps_ret (pe_join pe_str (pe_op op_cat (pe_op op_cat (pe_slice sl_list (pv 3) po_none (po_some (pe_op op_add (pv 5) pe_int))) (pe_lst (pa_cons (pe_cal gWo hr1 pass0 (pa_cons (pe_ix ix_list (pv 4) (pv 5) (fun _ _ => rfl)) (pa_cons (pv 2) pa_nil))) pa_nil))) (pe_slice sl_list (pv 3) (po_some (pe_op op_add (pv 5) pe_int)) po_none))))))) CwR.psst_nil)
      (psst_cons (PST.of (ps_ret (pe_op op_add_str (pv 0) pe_str)))
      CwR.psst_nil))))))))), ?_⟩
    obtain ⟨w0, wr, fs, rfl, hf, hl, hfit⟩ := ft
    have l5 := form_len hf
    have fq := form_ne hf
    obtain ⟨wl, hne⟩ : (wd (w0 :: wr)).length ≤ 100 ∧ (w0 :: wr) ≠ [] := by
      have := wd_le (Nat.le_refl _ : ((w0 :: wr).map Str.length).sum ≤ _)
      have := sum_good gd
      simp only [List.length_cons] at *
      exact ⟨by omega, by simp⟩
    refine ⟨_, rfl, ⟨_, rfl⟩, _, _, rfl, rfl, by decide +kernel, le_line (by omega), fun p1 hp1 => ?_⟩
    rw [wd_split2 (fun z hz => (gd z hz).two) hne]
    have s1 := same_new hp1 (.lst ((w0 :: wr).map V.str))
    have h1 : (upd H p1 (.lst ((w0 :: wr).map V.str))) p1 = some (.lst ((w0 :: wr).map V.str)) := upd_same
    generalize upd H p1 (.lst ((w0 :: wr).map V.str)) = H1 at s1 h1 ⊢
    refine ⟨_, rfl, p1, _, 0, _, rfl, rfl, SqL.of h1, atI_nat (j := 0) rfl, w0, fs, rfl, hf, fun p2 H2 s2 _ h2 => ?_⟩
    have h12 := s2 _ _ h1
    have S2 := s1.trans s2
    -- 1
    refine ⟨_, rfl, rfl, _, rfl, ite2 (fun _ => ?_) (fun ne1 => ?_)⟩
    · refine ⟨_, rfl, _, _, rfl, rfl, le_line (by rw [show (" " : Str).length = 1 from by decide +kernel]; omega), ?_⟩
      rw [wd_pre hne]
      exact q _ _ S2 (oddW_good (.head (by decide +kernel)) (by simp) (by simp; omega) fun z hz => (List.mem_cons.mp hz).elim (fun e => e ▸ good_e.1) (gd z))
    -- 2
    refine (fun r => ⟨_, rfl, rfl, _, rfl, ite2 (fun _ => ⟨_, rfl, _, _, rfl, .inl ⟨_, SqL.of h12, rfl⟩, _, _, rfl, rfl, _, rfl, ite2 (fun g2 => ?g2) (fun _ => r)⟩) (fun _ => iteF r)⟩) ?r2
    case g2 =>
      have g2 := of_decide_eq_true g2
      obtain ⟨w1, r1, rfl⟩ : ∃ w1 r1, wr = w1 :: r1 := by
        cases wr with
        | nil => simp at g2
        | cons a b => exact ⟨a, b, rfl⟩
      refine ⟨_, rfl, _, rfl, ?_, ?_⟩
      · rw [show ("  " : Str).length = 2 from by decide +kernel]; omega
      · rw [repl_wd (fun m => ((gd w0 (.head _)).1 _ m).1 rfl)]
        exact q _ _ S2 (oddW_good (.len hf (by simp at hl ⊢; omega)) (by simp) (by simp at hl ⊢; omega) fun z hz => by
          rcases List.mem_cons.mp hz with rfl | hz
          · exact gd _ (.head _)
          · rcases List.mem_cons.mp hz with rfl | hz
            · exact good_e.1
            · exact gd z (List.mem_cons_of_mem _ hz))
    -- 3
    refine ⟨_, rfl, rfl, _, rfl, ite2 (fun _ => ?_) (fun ne3 => ?_)⟩
    · refine ⟨_, rfl, _, _, rfl, rfl, le_line (by rw [show (" 1" : Str).length = 2 from by decide +kernel]; omega), ?_⟩
      rw [show (" 1" : Str) = " " ++ "1" from by decide +kernel, wd_post hne]
      exact q _ _ S2 (oddW_good (.len hf (by simp; omega)) (by simp) (by simp; omega) fun z hz => by
        rw [List.mem_append] at hz
        exact hz.elim (gd z) (fun e => by rw [List.mem_singleton.mp e]; exact good_e.2))
    -- 4
    refine (fun r => ⟨_, rfl, rfl, _, rfl, ite2 (fun _ => ⟨_, rfl, _, _, rfl, .inl ⟨_, SqL.of h12, rfl⟩, _, _, rfl, rfl, _, rfl, ite2 (fun g2 => ?g4) (fun _ => r)⟩) (fun _ => iteF r)⟩) ?r4
    case g4 =>
      have g2 := of_decide_eq_true g2
      have hwr : wr ≠ [] := fun e => by subst e; simp at g2
      obtain ⟨wi, z, rfl⟩ : ∃ wi z, wr = wi ++ [z] := ⟨wr.dropLast, wr.getLast hwr, (List.dropLast_concat_getLast hwr).symm⟩
      obtain ⟨e1, e2⟩ := cut_last (ws := w0 :: wi) (z := z) (by simp) (fun m => ((gd z (by simp)).1 _ m).1 rfl)
      refine ⟨_, rfl, _, rfl, ⟨_, rfl⟩, _, _, rfl, rfl, _, rfl, _, rfl, le_line (by omega), ?_⟩
      rw [show (w0 :: (wi ++ [z])) = (w0 :: wi) ++ [z] from rfl, e1, e2]
      exact q _ _ S2 (oddW_good (.len hf (by simp at hl ⊢; omega)) (by simp) (by simp at hl ⊢; omega) fun y hy => gd y (by
        rcases List.mem_cons.mp hy with rfl | hy
        · exact .head _
        · exact List.mem_cons_of_mem _ (List.mem_append_left _ hy)))
    -- 5
    refine ⟨_, rfl, rfl, _, rfl, ite2 (fun _ => ?_) (fun ne5 => ?_)⟩
    · have lu := (TL.len_tl (cutS (wd (w0 :: wr)) none (some 1))).symm
      have c1 := cutS_length (wd (w0 :: wr)) none (some 1)
      have c2 := cutS_length (wd (w0 :: wr)) (some 1) none
      have e := cap_wd (w0 := w0) (wr := wr) fq
      have gw : ∀ z ∈ capOf w0 :: wr, Good z := fun z hz => (List.mem_cons.mp hz).elim (fun e => e ▸ cap_good hf) (fun h => gd z (List.mem_cons_of_mem _ h))
      have lc : (wd (capOf w0 :: wr)).length ≤ 100 := by
        have := wd_le (Nat.le_refl _ : ((capOf w0 :: wr).map Str.length).sum ≤ _)
        have := sum_good gw
        simp only [List.length_cons] at *
        omega
      have la : (Txt.upper (cutS (wd (w0 :: wr)) none (some 1))).length + (cutS (wd (w0 :: wr)) (some 1) none).length ≤ 100 := by
        rw [← Str.length_append, e]
        exact lc
      refine ⟨_, rfl, _, rfl, _, rfl, le_line (by omega), ⟨_, rfl⟩, _, rfl, rfl, by omega, _, rfl, _, rfl, _, rfl, le_line (by omega), _, _, rfl, rfl, le_line (by omega), ?_⟩
      rw [e]
      exact q _ _ S2 (oddW_good (.head (cap_odd _ _ hf)) (by simp) (by simp; omega) gw)
    -- 6
    refine ⟨_, rfl, rfl, _, rfl, ite2 (fun _ => ?_) (fun ne6 => ?_)⟩
    · rw [show ("" : Str) = wd [""] from by decide +kernel]
      exact q _ _ S2 (oddW_good (.head (by decide +kernel)) (by simp) (by simp) fun z hz => by rw [List.mem_singleton.mp hz]; exact good_e.1)
    -- 7
    refine (fun r => ⟨_, rfl, _, _, rfl, rfl, _, rfl, ite2 (fun _ => ⟨_, rfl, _, _, rfl, .inl ⟨_, SqL.of h2, rfl⟩, _, _, rfl, rfl, _, rfl, ite2 (fun g2 => ?g7) (fun _ => r)⟩) (fun _ => iteF r)⟩) ?r7
    case g7 =>
      have g2 := of_decide_eq_true g2
      rw [List.length_map] at g2
      have m1 := Int.emod_nonneg (n / 8) (show (fs.length : Int) ≠ 0 by omega)
      have m2 := Int.emod_lt_of_pos (n / 8) (show (0 : Int) < fs.length by omega)
      refine ⟨_, rfl, _, _, rfl, rfl, ⟨by decide, by decide⟩, _, rfl, _, _, rfl, .inl ⟨_, SqL.of h2, rfl⟩, _, _, rfl, rfl, (by rw [List.length_map]; exact g2), ?_⟩
      rw [List.length_map]
      show gName 5 (V.int (n / 8 % (fs.length : Int))) _ _ _
      obtain ⟨i, hi⟩ := Int.eq_ofNat_of_zero_le m1
      rw [hi] at m2 ⊢
      have hi5 : i < fs.length := by omega
      have hf4 : fs[i] = "name" ∨ fs[i] = "order" ∨ fs[i] = "integer" ∨ fs[i] = "amount" := form_mem hf _ (List.getElem_mem hi5)
      refine ⟨⟨_, rfl⟩, _, rfl, _, rfl, _, _, rfl, rfl, _, rfl, _, _, rfl, SqL.of h12, fun p3 hp3 => ?_⟩
      have s3 := same_new hp3 (.lst (cutV ((w0 :: wr).map V.str) none (some ((i : Int) + 1))))
      have h3 : (upd H2 p3 (.lst (cutV ((w0 :: wr).map V.str) none (some ((i : Int) + 1))))) p3 = some (.lst (cutV ((w0 :: wr).map V.str) none (some ((i : Int) + 1)))) := upd_same
      generalize upd H2 p3 (.lst (cutV ((w0 :: wr).map V.str) none (some ((i : Int) + 1)))) = H3 at s3 h3 ⊢
      have cu1 : cutV ((w0 :: wr).map V.str) none (some ((i : Int) + 1)) = (w0 :: wr.take i).map V.str := by
        unfold cutV
        rw [HT.sIx_none, show ((i : Int) + 1) = ((i + 1 : Nat) : Int) from rfl, HT.sIx_nat, Nat.min_eq_left (by simp; omega)]
        simp [List.map_take]
      have cu2 : cutV ((w0 :: wr).map V.str) (some ((i : Int) + 2)) none = (wr.drop (i + 1)).map V.str := by
        unfold cutV
        rw [HT.sIx_none, show ((i : Int) + 2) = ((i + 2 : Nat) : Int) from rfl, HT.sIx_nat, Nat.min_eq_left (by simp; omega)]
        simp [List.map_drop]
        exact List.take_of_length_le (by simp)
      rw [cu1] at h3
      have h23 := s3 _ _ h2
      refine ⟨_, rfl, _, rfl, _, _, _, _, rfl, rfl, SqL.of h23, atI_nat (j := i) (by rw [List.getElem?_map, List.getElem?_eq_getElem hi5]; rfl), _, rfl, fs[i], n, rfl, hf4, hn, fun z H4 s4 bad => ⟨by show 1 ≤ sizeLine; decide, fun p4 hp4 => ?_⟩⟩
      have s4' := same_new hp4 (.lst [V.str z])
      have h4 : (upd H4 p4 (.lst [V.str z])) p4 = some (.lst ([z].map V.str)) := upd_same
      generalize upd H4 p4 (.lst [V.str z]) = H5 at s4' h4 ⊢
      refine ⟨p3, p4, _, _, rfl, rfl, s4' _ _ (s4 _ _ h3), h4, le_line (by simp; omega), fun p5 hp5 => ?_⟩
      rw [← List.map_append]
      have s5 := same_new hp5 (.lst (((w0 :: wr.take i) ++ [z]).map V.str))
      have h5 : (upd H5 p5 (.lst (((w0 :: wr.take i) ++ [z]).map V.str))) p5 = some (.lst (((w0 :: wr.take i) ++ [z]).map V.str)) := upd_same
      generalize upd H5 p5 (.lst (((w0 :: wr.take i) ++ [z]).map V.str)) = H6 at s5 h5 ⊢
      have h126 := s5 _ _ (s4' _ _ (s4 _ _ (s3 _ _ h12)))
      refine ⟨_, rfl, _, rfl, _, _, rfl, rfl, _, rfl, _, _, rfl, SqL.of h126, fun p6 hp6 => ?_⟩
      rw [cu2]
      have s6 := same_new hp6 (.lst ((wr.drop (i + 1)).map V.str))
      have h6 : (upd H6 p6 (.lst ((wr.drop (i + 1)).map V.str))) p6 = some (.lst ((wr.drop (i + 1)).map V.str)) := upd_same
      generalize upd H6 p6 (.lst ((wr.drop (i + 1)).map V.str)) = H7 at s6 h6 ⊢
      refine ⟨p5, p6, _, _, rfl, rfl, s6 _ _ h5, h6, le_line (by simp; omega), fun p7 hp7 => ?_⟩
      rw [← List.map_append]
      have s7 := same_new hp7 (.lst ((((w0 :: wr.take i) ++ [z]) ++ wr.drop (i + 1)).map V.str))
      obtain ⟨bf, bg, bl⟩ := bad
      have gt : ∀ y ∈ wr.take i, Good y := fun y hy => gd y (List.mem_cons_of_mem _ (List.mem_of_mem_take hy))
      have gr : ∀ y ∈ wr.drop (i + 1), Good y := fun y hy => gd y (List.mem_cons_of_mem _ (List.mem_of_mem_drop hy))
      have lt : (wr.take i).length = i := by rw [List.length_take]; omega
      have sl : ((((w0 :: wr.take i) ++ [z]) ++ wr.drop (i + 1)).map Str.length).sum ≤ 5100 := by
        have a := sum_good gt
        have b := sum_good gr
        have c := (gd w0 (.head _)).2
        rw [List.length_drop] at b
        simp only [List.map_append, List.sum_append, List.map_cons, List.sum_cons, List.map_nil, List.sum_nil]
        omega
      have ll : (((w0 :: wr.take i) ++ [z]) ++ wr.drop (i + 1)).length = wr.length + 1 := by simp; omega
      refine ⟨_, p7, _, rfl, rfl, .inl (SqL.of upd_same), ?_, ?_⟩
      · rw [ll, show (" " : Str).length = 1 from by decide +kernel]
        show ((((w0 :: wr.take i) ++ [z]) ++ wr.drop (i + 1)).map Str.length).sum + _ ≤ _
        omega
      · refine q (((w0 :: wr.take i) ++ [z]) ++ wr.drop (i + 1)) _ (S2.trans (s3.trans (s4.trans (s4'.trans (s5.trans (s6.trans s7)))))) ⟨?_, by simp, by omega, ?_, ?_⟩
        · refine .word (w0 := w0) (wr := (wr.take i ++ [z]) ++ wr.drop (i + 1)) i z fs[i] hf (by simp; omega) ?_ (List.getElem?_eq_getElem hi5) bf
          rw [List.append_assoc, List.getElem?_append_right (by omega), lt, Nat.sub_self]
          rfl
        · refine good2_app (good2_app (fun y hy => ?_) (fun y hy => ?_)) (fun y hy => (gr y hy).two)
          · rcases List.mem_cons.mp hy with rfl | hy
            · exact (gd _ (.head _)).two
            · exact (gt y hy).two
          · rw [List.mem_singleton.mp hy]
            exact ⟨bg, by omega⟩
        · have := wd_le sl
          omega
    refine ⟨_, rfl, _, _, rfl, rfl, le_line (by rw [show (" " : Str).length = 1 from by decide +kernel]; omega), ?_⟩
    have e := wd_post (ws := w0 :: wr) (z := "") hne
    rw [show (" " : Str) ++ "" = " " from by decide +kernel] at e
    rw [e]
    exact q _ _ S2 (oddW_good (.len hf (by simp; omega)) (by simp) (by simp; omega) fun z hz => by
      rw [List.mem_append] at hz
      exact hz.elim (gd z) (fun e => by rw [List.mem_singleton.mp e]; exact good_e.1))
end
end Bs

set_option Elab.async false
set_option linter.all false
set_option maxRecDepth 100000
set_option maxHeartbeats 8000000
namespace Bs
open PySem L2
abbrev sClo : Stmt := top 76
abbrev sOrder : Stmt := top 77
abbrev nClo : List Str := ["lines", "at", "open_blocks", "k", "word"]
theorem scClo : FnScope nClo ["lines", "at"] (defScope sClo) := ⟨rfl, rfl, rfl, by decide +kernel, rfl, by decide +kernel, by decide +kernel⟩
abbrev nOrder : List Str := ["lines", "fault", "number", "openers", "deep", "close", "k"]
theorem scOrder : FnScope nOrder ["lines", "fault", "number"] (defScope sOrder) := ⟨rfl, rfl, rfl, by decide +kernel, rfl, by decide +kernel, by decide +kernel⟩
/-- lines that can be split -/
def LinesAt (H : Hp) (p : Addr) (lws : List (List Str)) : Prop := H p = some (.lst (lws.map fun ws => V.str (wd ws)))
structure SpOk (lws : List (List Str)) : Prop where
  l : lws.length ≤ 700
  w : ∀ ws ∈ lws, ws ≠ [] ∧ ws.length ≤ 6 ∧ ∀ z ∈ ws, Good z ∧ ∀ c ∈ z.cps.toList, c < 128
def spClo : Sp := fun vs H Q _ => ∃ (p : Addr) (lws : List (List Str)) (i : Nat), vs = [.ref p, .int (i : Int)] ∧ LinesAt H p lws ∧ SpOk lws ∧ i < lws.length ∧ ∀ (k : Nat) H', k ≤ lws.length → Same H H' → Q (.int (k : Int)) H'
def spOrder : Sp := fun vs H Q _ => ∃ (p : Addr) (lws : List (List Str)) (out : Its) (c n : Int), vs = [.ref p, .int c, .int n] ∧ LinesAt H p lws ∧ SpOk lws ∧ Runs ⟨[], .nil⟩ lws ⟨[], out⟩ ∧ 0 ≤ n ∧
  ∀ t pb lws' (m : Nat) H', Same H H' → H' t = some (.tup [.ref pb, .int (m : Int)]) → LinesAt H' pb lws' → LwOk lws' → BadT lws' m → Q (.ref t) H'
theorem SpOk.wl {lws : List (List Str)} (h : SpOk lws) {ws : List Str} (m : ws ∈ lws) : (wd ws).length ≤ 100 := by
  obtain ⟨_, l, g⟩ := h.w ws m
  have := wd_le (Nat.le_refl _ : (ws.map Str.length).sum ≤ _)
  have := sum_good fun z hz => (g z hz).1
  omega
/-- the first word of a line -/
theorem first_go {lws : List (List Str)} (h : SpOk lws) {i : Nat} (hi : i < lws.length) : ∃ z r, lws[i] = z :: r ∧ Txt.split (wd lws[i]) " " = z :: r := by
  obtain ⟨n, _, g⟩ := h.w _ (List.getElem_mem hi)
  cases e : lws[i] with
  | nil => exact absurd e n
  | cons z r => exact ⟨z, r, rfl, by rw [← e]; exact wd_split2 (fun y hy => (g y hy).1.two) n⟩

instance (z : Str) : Decidable (Good z) := by unfold Good; exact inferInstance
abbrev gL (ws : List Str) : V := V.str (wd ws)
def XtOk (l : List (List Str)) : Prop := ∀ ws ∈ l, ws ≠ [] ∧ ws.length ≤ 6 ∧ ∀ z ∈ ws, Good z
instance (l : List (List Str)) : Decidable (XtOk l) := by unfold XtOk; exact inferInstance
theorem lw_ok {lws ext lws' : List (List Str)} (h : SpOk lws) (e : XtOk ext) (m : ∀ ws ∈ lws', ws ∈ lws ∨ ws ∈ ext) (n : lws' ≠ []) (l : lws'.length ≤ lws.length + 10) : LwOk lws' := by
  have all : ∀ ws ∈ lws', ws ≠ [] ∧ ws.length ≤ 6 ∧ ∀ z ∈ ws, Good z := fun ws hw => (m ws hw).elim (fun a => ⟨(h.w ws a).1, (h.w ws a).2.1, fun z hz => ((h.w ws a).2.2 z hz).1⟩) (e ws)
  have := h.l
  refine ⟨n, fun ws hw => ?_, by omega, fun ws hw => ?_⟩
  · obtain ⟨a, b, c⟩ := all ws hw
    exact ⟨a, by omega, fun z hz => (c z hz).two⟩
  · obtain ⟨a, b, c⟩ := all ws hw
    have := wd_le (Nat.le_refl _ : (ws.map Str.length).sum ≤ _)
    have := sum_good c
    omega
theorem pick2 {l : List (List Str)} {xs : List V} {m : Int} (e : xs = l.map gL) (h0 : 0 ≤ m) (h1 : m < (l.length : Int)) : ∃ ws, ws ∈ l ∧ atI xs m = some (gL ws) := by
  subst e
  obtain ⟨j, rfl⟩ := Int.eq_ofNat_of_zero_le h0
  have hj : j < l.length := by omega
  exact ⟨l[j], List.getElem_mem hj, atI_nat (by rw [List.getElem?_map, List.getElem?_eq_getElem hj]; rfl)⟩
theorem Runs.pre {st st' : Ms} : ∀ {l r : List (List Str)}, Runs st (l ++ r) st' → ∃ s, Runs st l s
  | [], _, _ => ⟨st, .nil _⟩
  | a :: l, r, h => by
    cases h with
    | cons s h =>
      obtain ⟨t, ht⟩ := Runs.pre h
      exact ⟨t, .cons s ht⟩
theorem iS0 : iS 0 = "0" ∧ iS 1 = "1" ∧ iS 2 = "2" ∧ iS 3 = "3" := by decide +kernel
theorem empty_ref (out : Its) (i : Int) (h : i = 0 ∨ i = 1) : ∀ ws ∈ ([["end"], ["choice"], ["case", iS i], [""]] : List (List Str)), NoFit ws ∨ Ref ⟨[], out⟩ ws := by
  intro ws hw
  simp only [List.mem_cons, List.not_mem_nil, or_false] at hw
  rcases hw with rfl | rfl | rfl | rfl
  · exact .inr (.end0 out)
  · exact .inr (.choice _ fun n bs r e => by cases e)
  · exact .inr (.case _ i (by omega) (by omega) fun n t bs r e => by cases e)
  · exact .inl (.head (by decide +kernel))
theorem bad_f0 {lws : List (List Str)} {out : Its} (run : Runs ⟨[], .nil⟩ lws ⟨[], out⟩) : ∀ ws ∈ ([["end"], ["choice"], ["case", "1"], [""]] : List (List Str)), BadT (lws ++ ([ws] : List (List Str))) (lws.length + 1) := fun ws hw =>
  ⟨lws, [ws], _, rfl, run, rfl, .inr ⟨ws, [], rfl, empty_ref out 1 (.inr rfl) ws (by rw [iS0.2.1]; exact hw)⟩⟩
theorem bad_f1 (lws : List (List Str)) : ∀ ws ∈ ([["end"], ["choice"], ["case", "0"], [""]] : List (List Str)), BadT (ws :: lws) 1 := fun ws hw =>
  ⟨[], ws :: lws, _, rfl, .nil _, rfl, .inr ⟨ws, lws, rfl, empty_ref .nil 0 (.inl rfl) ws (by rw [iS0.1]; exact hw)⟩⟩
abbrev deep4 : List (List Str) := [["repeat", "a", "1"], ["repeat", "b", "2"], ["either", "c"], ["choice"]]
theorem run_rep {st : Ms} {n z : Str} {i : Int} (e : iS i = z) (h0 : 0 ≤ i ∧ i < 100000) (hn : isName n = true) (h : st.has) (l : st.fr.length < 3) : Step st ["repeat", n, z] ⟨.rep n (.inl i) .nil :: st.fr, st.out⟩ := by
  subst e
  exact .opnR st n (.inl i) hn h0 h l
theorem bad_f2 {lws : List (List Str)} {out : Its} (run : Runs ⟨[], .nil⟩ lws ⟨[], out⟩) : ∀ ws ∈ ([["repeat", "d", "3"], ["either", "d"], ["switch", "d", "a"]] : List (List Str)), BadT (lws ++ (deep4 ++ ([ws] : List (List Str)))) (lws.length + 5) := fun ws hw => by
  have st1 : Step ⟨[], out⟩ ["repeat", "a", "1"] _ := run_rep (i := 1) iS0.2.1 (by decide) (by decide +kernel) trivial (by simp)
  have st2 : Step ⟨[.rep "a" (.inl 1) .nil], out⟩ ["repeat", "b", "2"] _ := run_rep (i := 2) iS0.2.2.1 (by decide) (by decide +kernel) trivial (by simp)
  have st3 : Step ⟨[.rep "b" (.inl 2) .nil, .rep "a" (.inl 1) .nil], out⟩ ["either", "c"] _ := .opnE _ "c" (by decide +kernel) trivial (by simp)
  have st4 := Step.choice "c" .nil [.rep "b" (.inl 2) .nil, .rep "a" (.inl 1) .nil] out 0
  have r4 := run.app (.cons st1 (.cons st2 (.cons st3 (.cons st4 (.nil _)))))
  refine ⟨lws ++ deep4, [ws], _, by simp, r4, by simp, .inr ⟨ws, [], rfl, .inr ?_⟩⟩
  have has : Ms.has ⟨.eit "c" (Blks.snoc .nil 0 .nil) :: [.rep "b" (.inl 2) .nil, .rep "a" (.inl 1) .nil], out⟩ := snocB_ne _ _ _
  simp only [List.mem_cons, List.not_mem_nil, or_false] at hw
  rcases hw with rfl | rfl | rfl
  · rw [← iS0.2.2.2]
    exact .deepR _ "d" (.inl 3) (by decide +kernel) ⟨by decide, by decide⟩ has rfl
  · exact .deepE _ "d" (by decide +kernel) has rfl
  · exact .deepS _ "d" "a" (by decide +kernel) (by decide +kernel) has rfl
theorem bad_f3 {lws : List (List Str)} {out : Its} (run : Runs ⟨[], .nil⟩ lws ⟨[], out⟩) : BadT (lws ++ ([["repeat", "zz", "2"]] : List (List Str))) (lws.length + 2) :=
  ⟨lws ++ ([["repeat", "zz", "2"]] : List (List Str)), [], _, by simp, run.app (.one (run_rep (i := 2) iS0.2.2.1 (by decide) (by decide +kernel) trivial (by simp))), by simp, .inl ⟨rfl, by simp⟩⟩
theorem ref_byt {st : Ms} (h : ¬ st.has) : Ref st ["bytes", "y", "1"] := by
  rw [← iS0.2.1]
  exact .flat st (.byt "y" (.inl 1)) rfl ⟨by decide +kernel, ⟨by decide, by decide⟩⟩ h
theorem bad_f4 {lws : List (List Str)} {out : Its} (run : Runs ⟨[], .nil⟩ lws ⟨[], out⟩) : ∀ ws ∈ ([["bytes", "y", "1"], ["case", "1"], ["pad", "y", "1", "0"]] : List (List Str)), BadT (lws ++ ([["either", "zz"], ws] : List (List Str))) (lws.length + 2) := fun ws hw => by
  have st : Step ⟨[], out⟩ ["either", "zz"] _ := .opnE _ "zz" (by decide +kernel) trivial (by simp)
  refine ⟨lws ++ ([["either", "zz"]] : List (List Str)), [ws], _, by simp, run.app (.one st), by simp, .inr ⟨ws, [], rfl, .inr ?_⟩⟩
  have nh : ¬ Ms.has ⟨[.eit "zz" .nil], out⟩ := fun h => h rfl
  simp only [List.mem_cons, List.not_mem_nil, or_false] at hw
  rcases hw with rfl | rfl | rfl
  · exact ref_byt nh
  · rw [← iS0.2.1]
    exact .case _ 1 (by decide) (by decide) fun n t bs r e => by cases e
  · rw [← iS0.2.1, ← iS0.1]
    exact .flat _ (.pad "y" 1 0) rfl ⟨by decide +kernel, by decide, by decide⟩ nh
theorem bad_f5 {lws : List (List Str)} {out : Its} (run : Runs ⟨[], .nil⟩ lws ⟨[], out⟩) : ∀ ws ∈ ([["choice"], ["number", "y", "1", "big", "0", "1"], [""]] : List (List Str)), BadT (lws ++ ([["switch", "zz", "y"], ws] : List (List Str))) (lws.length + 2) := fun ws hw => by
  have st : Step ⟨[], out⟩ ["switch", "zz", "y"] _ := .opnS _ "zz" "y" (by decide +kernel) (by decide +kernel) trivial (by simp)
  refine ⟨lws ++ ([["switch", "zz", "y"]] : List (List Str)), [ws], _, by simp, run.app (.one st), by simp, .inr ⟨ws, [], rfl, ?_⟩⟩
  have nh : ¬ Ms.has ⟨[.swi "zz" "y" .nil], out⟩ := fun h => h rfl
  simp only [List.mem_cons, List.not_mem_nil, or_false] at hw
  rcases hw with rfl | rfl | rfl
  · exact .inr (.choice _ fun n bs r e => by cases e)
  · rw [← iS0.2.1, ← iS0.1]
    exact .inr (.flat _ (.num "y" 1 "big" 0 1) rfl ⟨by decide +kernel, by decide, .inl rfl, by decide, by decide⟩ nh)
  · exact .inl (.head (by decide +kernel))
theorem bad_f6 {lws : List (List Str)} {out : Its} (run : Runs ⟨[], .nil⟩ lws ⟨[], out⟩) : ∀ ws ∈ ([["choice"], ["case", "3"], ["End"]] : List (List Str)), BadT (lws ++ ([["repeat", "zz", "1"], ["bytes", "y", "1"], ws, ["end"]] : List (List Str))) (lws.length + 3) := fun ws hw => by
  have st1 : Step ⟨[], out⟩ ["repeat", "zz", "1"] _ := run_rep (i := 1) iS0.2.1 (by decide) (by decide +kernel) trivial (by simp)
  have st2 : Step ⟨[.rep "zz" (.inl 1) .nil], out⟩ ["bytes", "y", "1"] ⟨[.rep "zz" (.inl 1) (Its.snoc .nil (.byt "y" (.inl 1)))], out⟩ := by
    have := Step.flat ⟨[.rep "zz" (.inl 1) .nil], out⟩ (.byt "y" (.inl 1)) rfl ⟨by decide +kernel, ⟨by decide, by decide⟩⟩ trivial
    simp only [It.words, kS, iS0.2.1] at this
    exact this
  refine ⟨lws ++ ([["repeat", "zz", "1"], ["bytes", "y", "1"]] : List (List Str)), ws :: [["end"]], _, by simp, run.app (.cons st1 (.one st2)), by simp, .inr ⟨ws, [["end"]], rfl, ?_⟩⟩
  simp only [List.mem_cons, List.not_mem_nil, or_false] at hw
  rcases hw with rfl | rfl | rfl
  · exact .inr (.choice _ fun n bs r e => by simp [Ms.add, Fr.add] at e)
  · rw [← iS0.2.2.2]
    exact .inr (.case _ 3 (by decide) (by decide) fun n t bs r e => by simp [Ms.add, Fr.add] at e)
  · exact .inl (.head (by decide +kernel))
theorem bad_f7 {lws : List (List Str)} {out : Its} (run : Runs ⟨[], .nil⟩ lws ⟨[], out⟩) : BadT (lws ++ ([["either", "zz"], ["choice"], ["choice"], ["case", "1"], ["end"]] : List (List Str))) (lws.length + 4) := by
  have st1 : Step ⟨[], out⟩ ["either", "zz"] _ := .opnE _ "zz" (by decide +kernel) trivial (by simp)
  have st2 := Step.choice "zz" .nil [] out 0
  have st3 := Step.choice "zz" (Blks.snoc .nil 0 .nil) [] out 0
  refine ⟨lws ++ ([["either", "zz"], ["choice"], ["choice"]] : List (List Str)), [["case", "1"], ["end"]], _, by simp, run.app (.cons st1 (.cons st2 (.one st3))), by simp, .inr ⟨["case", "1"], [["end"]], rfl, .inr ?_⟩⟩
  rw [← iS0.2.1]
  exact .case _ 1 (by decide) (by decide) fun n t bs r e => by cases e
theorem bad_f8 {lws : List (List Str)} {out : Its} (run : Runs ⟨[], .nil⟩ lws ⟨[], out⟩) : BadT (lws ++ ([["end"]] : List (List Str))) (lws.length + 1) := bad_f0 run _ (.head _)
theorem bad_f9 {lws : List (List Str)} {st : Ms} (run : Runs ⟨[], .nil⟩ lws st) {k : Nat} (hk : k ≤ lws.length) : BadT (lws.take k ++ ([["ends"]] : List (List Str)) ++ lws.drop k) (k + 1) := by
  rw [← List.take_append_drop k lws] at run
  obtain ⟨s, hs⟩ := run.pre
  exact ⟨lws.take k, ["ends"] :: lws.drop k, s, by simp, hs, by rw [List.length_take]; omega, .inr ⟨_, _, rfl, .inl (.head (by decide +kernel))⟩⟩
def natV (k : Nat) : V := .int (k : Int)
def Opn (L : Addr) (H : Hp) (i : Nat) (H' : Hp) : Prop := ∃ ks : List Nat, (∀ k ∈ ks, k < i) ∧ ks.length ≤ i ∧ Same H H' ∧ H' L = some (.lst (ks.map natV))
theorem xt_nil : XtOk [] := fun ws h => by cases h
theorem xt_cons {a : List Str} {r : List (List Str)} (h : XtOk [a]) (g : XtOk r) : XtOk (a :: r) := fun ws hw => (List.mem_cons.mp hw).elim (fun e => h ws (e ▸ .head _)) (g ws)
theorem xt_mem {a : List Str} {r : List (List Str)} (h : XtOk r) (m : a ∈ r) : XtOk [a] := fun ws hw => by rw [List.mem_singleton.mp hw]; exact h a m
theorem cut_to {lws : List (List Str)} {k : Nat} (h : k ≤ lws.length) : cutV (lws.map gL) (some (k : Int)) none = (lws.drop k).map gL := by
  unfold cutV
  rw [HT.sIx_none, HT.sIx_nat, Nat.min_eq_left (by simpa using h), List.map_drop]
  exact List.take_of_length_le (by simp)
theorem cut_fr {lws : List (List Str)} {k : Nat} (h : k ≤ lws.length) : cutV (lws.map gL) none (some (k : Int)) = (lws.take k).map gL := by
  unfold cutV
  rw [HT.sIx_none, HT.sIx_nat, Nat.min_eq_left (by simpa using h), List.map_take]
  rfl
theorem dp_strs {K : PySem.W.Frag} {H : Hp} : ∀ l : List Str, DpAll K H (l.map V.str) (l.map PyData.str)
  | [] => .nil
  | z :: l => .cons (.str z) (dp_strs l)
theorem dp_lines {K : PySem.W.Frag} {H : Hp} (l : List (List Str)) : DpAll K H (l.map gL) ((l.map wd).map PyData.str) := by
  have := dp_strs (K := K) (H := H) (l.map wd)
  rw [List.map_map] at this
  exact this
theorem lay_strs {l : List Str} (h : ∀ z ∈ l, PyData.strOk z = true) : PyData.canLayAll0 (l.map PyData.str) = true ∧ PyData.depthAll (l.map PyData.str) = 0 := by
  induction l with
  | nil => exact ⟨rfl, rfl⟩
  | cons z r ih =>
    obtain ⟨i1, i2⟩ := ih fun y hy => h y (List.mem_cons_of_mem _ hy)
    have hz := h z (List.mem_cons_self ..)
    refine ⟨?_, ?_⟩
    · simp only [List.map_cons, PyData.canLayAll0, PyData.canLay0, hz, i1, Bool.and_self]
    · simp only [List.map_cons, PyData.depthAll, PyData.depth, i2, Nat.max_self]
theorem shaped_strs {l : List Str} (h : ∀ z ∈ l, PyData.strOk z = true) : SeqAt.shaped (.list (l.map PyData.str)) = true := by
  have a := lay_strs h
  unfold SeqAt.shaped
  simp only [PyData.canLay0, PyData.depth, a.1, a.2]
  decide
theorem ok_line2 {ws : List Str} (h : ∀ z ∈ ws, ∀ c ∈ z.cps.toList, c < 128) : PyData.strOk (wd ws) = true := by
  unfold PyData.strOk
  rw [← Array.all_toList, List.all_eq_true]
  intro c hc
  have hc : c ∈ TL.tl (wd ws) := hc
  rw [wd_tl] at hc
  refine decide_eq_true ?_
  rcases mem_joinL hc with q | ⟨p, hp, hc⟩
  · simp at q; omega
  · obtain ⟨z, hz, rfl⟩ := List.mem_map.mp hp
    have := h z hz c hc
    omega
theorem shaped_lines {lws : List (List Str)} (ok : SpOk lws) (k : Nat) : SeqAt.shaped (.list (((lws.drop k).map wd).map PyData.str)) = true := shaped_strs fun z hz => by
  obtain ⟨ws, hw, rfl⟩ := List.mem_map.mp hz
  exact ok_line2 fun z hz => (((ok.w ws (List.mem_of_mem_drop hw)).2.2) z hz).2
section
variable {P : Program} {w : World} {K : PySem.W.Frag} {mg : Str → Option Value} {base : Heap} {f : Addr} {fd : FuncData}
theorem ok_clo (F : Fun K "_law_close" "_law_close" sClo f fd) (ml : mg "len" = none) (mr : mg "range" = none) : FnOk P w K mg base CX0 1 f fd ["lines", "at"] spClo := by
  refine F.ok scClo (fun vs H Q E h => ?_) (fun cdv A outer s H vs Q E hr h => ?_)
  · obtain ⟨p, lws, i, rfl, _⟩ := h
    rfl
  · obtain ⟨p, lws, i, rfl, hp, ok, hi, q⟩ := h
    refine ⟨_, (pss_cons (ps_set (i := 2) scClo.nd rfl (.inl rfl) pe_int)
      (pss_cons (ps_for PassesOwn.never rfl (pi_range2 (by rfl) mr (pa_cons (pe_op op_add (pv 1) pe_int) (pa_cons (pe_callB call_len (by rfl) ml boot_len (pa_cons (pv 0) pa_nil)) pa_nil))) (pg_name (i := 3) scClo.nd rfl (.inl rfl))
        (pss_cons (ps_set (i := 4) scClo.nd rfl (.inl rfl) (pe_ix ix_list (pe_split (pe_ix ix_list (pv 0) (pv 3) (fun _ _ => rfl)) pe_str) pe_int (fun _ _ => rfl)))
      (pss_cons (ps_if (PW.pt (pw_or (pt_cmpR op_eq (pv 4) pe_str (nomark _)) (pw_or (pt_cmpR op_eq (pv 4) pe_str (nomark _)) (pw_or1 (pt_cmpR op_eq (pv 4) pe_str (nomark _)))))) (pss_one (ps_set (i := 2) scClo.nd rfl (.inl rfl) (pe_op op_add (pv 2) pe_int))) pss_nil)
      (pss_one (ps_if (pt_cmpR op_eq (pv 4) pe_str (nomark _)) (pss_cons (ps_if (pt_cmpR op_eq (pv 2) pe_int (nomark _)) (pss_one (ps_ret (pv 3))) pss_nil)
      (pss_one (ps_set (i := 2) scClo.nd rfl (.inl rfl) (pe_op op_sub (pv 2) pe_int)))) pss_nil)))))
      (pss_one (ps_ret (pe_callB call_len (by rfl) ml boot_len (pa_cons (pv 0) pa_nil)))))), ?_⟩
    have l7 := ok.l
    refine ⟨_, rfl, _, _, rfl, rfl, _, rfl, _, _, rfl, .inl ⟨_, SqL.of hp, rfl⟩, _, _, rfl, ⟨by omega, by omega, by rw [List.length_map]; omega, by rw [List.length_map]; omega⟩, ?_⟩
    rw [List.length_map]
    refine for_it walk_range (fun j σ H' => ∃ ob i3 i4, σ = [some (.ref p), some (.int (i : Int)), some (.int ob), i3, i4] ∧ Same H H') ⟨0, none, none, rfl, .refl H⟩ (fun _ _ _ _ _ => trivial) ?_ ?_
    · rintro j y σ H3 H2 hj ⟨ob, i3, i4, rfl, s2⟩ ⟨rfl, rfl⟩
      have hj' : i + 1 + j < lws.length := by omega
      obtain ⟨z, r, e1, e2⟩ := first_go ok hj'
      have hp2 := s2 _ _ hp
      refine ⟨_, rfl, _, rfl, _, _, _, _, rfl, rfl, SqL.of hp2, atI_nat (j := i + 1 + j) (by rw [List.getElem?_map, List.getElem?_eq_getElem hj']; rfl), ⟨_, rfl⟩, _, _, rfl, rfl, by decide +kernel, le_line (by have := ok.wl (List.getElem_mem hj'); omega), fun p3 hp3 => ?_⟩
      rw [e2]
      have s3 := same_new hp3 (.lst ((z :: r).map V.str))
      have h3 : (upd H2 p3 (.lst ((z :: r).map V.str))) p3 = some (.lst ((z :: r).map V.str)) := upd_same
      generalize upd H2 p3 (.lst ((z :: r).map V.str)) = H3 at s3 h3 ⊢
      refine ⟨_, _, _, _, rfl, rfl, SqL.of h3, atI_nat (j := 0) rfl, ?_⟩
      have S3 := s2.trans s3
      refine ⟨_, rfl, rfl, _, rfl, ite2 (fun _ => ?_) (fun _ => ?_)⟩
      · refine ⟨_, rfl, _, _, rfl, rfl, ?_⟩
        refine ⟨_, rfl, rfl, _, rfl, ite2 (fun _ => ?_) (fun _ => ⟨_, _, _, rfl, S3⟩)⟩
        refine ⟨_, rfl, rfl, _, rfl, ite2 (fun _ => ?_) (fun _ => ?_)⟩
        · exact ⟨_, rfl, q (i + 1 + j) H3 (by omega) S3⟩
        · exact ⟨_, rfl, _, _, rfl, rfl, _, _, _, rfl, S3⟩
      refine ⟨_, rfl, rfl, _, rfl, ite2 (fun _ => ?_) (fun _ => ?_)⟩
      · refine ⟨_, rfl, _, _, rfl, rfl, ?_⟩
        refine ⟨_, rfl, rfl, _, rfl, ite2 (fun _ => ?_) (fun _ => ⟨_, _, _, rfl, S3⟩)⟩
        refine ⟨_, rfl, rfl, _, rfl, ite2 (fun _ => ?_) (fun _ => ?_)⟩
        · exact ⟨_, rfl, q (i + 1 + j) H3 (by omega) S3⟩
        · exact ⟨_, rfl, _, _, rfl, rfl, _, _, _, rfl, S3⟩
      refine ⟨_, rfl, rfl, _, rfl, ite2 (fun _ => ?_) (fun _ => ?_)⟩
      · refine ⟨_, rfl, _, _, rfl, rfl, ?_⟩
        refine ⟨_, rfl, rfl, _, rfl, ite2 (fun _ => ?_) (fun _ => ⟨_, _, _, rfl, S3⟩)⟩
        refine ⟨_, rfl, rfl, _, rfl, ite2 (fun _ => ?_) (fun _ => ?_)⟩
        · exact ⟨_, rfl, q (i + 1 + j) H3 (by omega) S3⟩
        · exact ⟨_, rfl, _, _, rfl, rfl, _, _, _, rfl, S3⟩
      refine ⟨_, rfl, rfl, _, rfl, ite2 (fun _ => ?_) (fun _ => ⟨_, _, _, rfl, S3⟩)⟩
      refine ⟨_, rfl, rfl, _, rfl, ite2 (fun _ => ?_) (fun _ => ?_)⟩
      · exact ⟨_, rfl, q (i + 1 + j) H3 (by omega) S3⟩
      · exact ⟨_, rfl, _, _, rfl, rfl, _, _, _, rfl, S3⟩
    · rintro σ H2 ⟨ob, i3, i4, rfl, s2⟩
      exact ⟨_, rfl, _, _, rfl, .inl ⟨_, SqL.of (s2 _ _ hp), rfl⟩, by rw [List.length_map]; exact q lws.length H2 (Nat.le_refl _) s2⟩
theorem ok_order (F : Fun K "_law_order" "_law_order" sOrder f fd) (gCl : Cal P w K mg base CX0 1 "_law_close" ["lines", "at"] spClo) (mint : mg "int" = none) (ml : mg "len" = none) (mr : mg "range" = none) : FnOk P w K mg base CX0 2 f fd ["lines", "fault", "number"] spOrder := by
  refine F.ok scOrder (fun vs H Q E h => ?_) (fun cdv A outer s H vs Q E hr h => ?_)
  · obtain ⟨p, lws, out, c, n, rfl, _⟩ := h
    rfl
  · obtain ⟨p, lws, out, c, n, rfl, hp, ok, run, hn, q⟩ := h
    refine ⟨_, (pss_cons (ps_setLc (i := 3) (own := [("k", 6)]) (g := gName 6) rfl scOrder.nd rfl rfl (sw_true rfl rfl rfl (by decide +kernel)) (pi_range1 (by rfl) mr (pa_cons (pe_callB call_len (by rfl) ml boot_len (pa_cons (pv 0) pa_nil)) pa_nil)) (blkOk_by (own := [("k", 6)]) (N := nOrder) (sc := defScope sOrder) (by decide +kernel)) (fun _ _ _ _ _ => pg_name (i := 6) scOrder.nd rfl (Or.inl rfl)) (fun _ _ _ _ _ => pts_one (pt_cmpR (r := rIn K false) op_in_seq (pe_ix (r := rIxL K) ix_list (pe_split (pe_ix (r := rIxL K) ix_list (pv 0) (pv 6) (fun _ _ => rfl)) pe_str) pe_int (fun _ _ => rfl)) (pe_lst (pa_cons pe_str (pa_cons pe_str (pa_cons pe_str pa_nil)))) (by rfl))) (fun _ _ _ _ _ => (pv 6)))
      (pss_cons (ps_if (pt_cmpR op_eq (pv 1) pe_int (nomark _)) (pss_one (ps_ret (pe_tup (pa_cons (pe_op op_cat (pv 0) (pe_lst (pa_cons (pe_ix ix_list (pe_lst (pa_cons pe_str (pa_cons pe_str (pa_cons pe_str (pa_cons pe_str pa_nil))))) (pe_op op_mod (pe_callTy (r := rInt1) call_int1 (by rfl) mint (by decide +kernel) (pa_cons (pv 2) pa_nil)) pe_int) (fun _ _ => rfl)) pa_nil))) (pa_cons (pe_op op_add (pe_callB call_len (by rfl) ml boot_len (pa_cons (pv 0) pa_nil)) pe_int) pa_nil))))) pss_nil)
      (pss_cons (ps_if (pt_cmpR op_eq (pv 1) pe_int (nomark _)) (pss_one (ps_ret (pe_tup (pa_cons (pe_op op_cat (pe_lst (pa_cons (pe_ix ix_list (pe_lst (pa_cons pe_str (pa_cons pe_str (pa_cons pe_str (pa_cons pe_str pa_nil))))) (pe_op op_mod (pe_callTy (r := rInt1) call_int1 (by rfl) mint (by decide +kernel) (pa_cons (pv 2) pa_nil)) pe_int) (fun _ _ => rfl)) pa_nil)) (pv 0)) (pa_cons pe_int pa_nil))))) pss_nil)
      (pss_cons (ps_if (pt_cmpR op_eq (pv 1) pe_int (nomark _)) (pss_cons (ps_set (i := 4) scOrder.nd rfl (.inl rfl) (pe_lst (pa_cons pe_str (pa_cons pe_str (pa_cons pe_str (pa_cons pe_str (pa_cons (pe_ix ix_list (pe_lst (pa_cons pe_str (pa_cons pe_str (pa_cons pe_str pa_nil)))) (pe_op op_mod (pe_callTy (r := rInt1) call_int1 (by rfl) mint (by decide +kernel) (pa_cons (pv 2) pa_nil)) pe_int) (fun _ _ => rfl)) pa_nil)))))))
      (pss_one (ps_ret (pe_tup (pa_cons (pe_op op_cat (pv 0) (pv 4)) (pa_cons (pe_op op_add (pe_callB call_len (by rfl) ml boot_len (pa_cons (pv 0) pa_nil)) pe_int) pa_nil)))))) pss_nil)
      (pss_cons (ps_if (pt_cmpR op_eq (pv 1) pe_int (nomark _)) (pss_one (ps_ret (pe_tup (pa_cons (pe_op op_cat (pv 0) (pe_lst (pa_cons pe_str pa_nil))) (pa_cons (pe_op op_add (pe_callB call_len (by rfl) ml boot_len (pa_cons (pv 0) pa_nil)) pe_int) pa_nil))))) pss_nil)
      (pss_cons (ps_if (pt_cmpR op_eq (pv 1) pe_int (nomark _)) (pss_one (ps_ret (pe_tup (pa_cons (pe_op op_cat (pv 0) (pe_lst (pa_cons pe_str (pa_cons (pe_ix ix_list (pe_lst (pa_cons pe_str (pa_cons pe_str (pa_cons pe_str pa_nil)))) (pe_op op_mod (pe_callTy (r := rInt1) call_int1 (by rfl) mint (by decide +kernel) (pa_cons (pv 2) pa_nil)) pe_int) (fun _ _ => rfl)) pa_nil)))) (pa_cons (pe_op op_add (pe_callB call_len (by rfl) ml boot_len (pa_cons (pv 0) pa_nil)) pe_int) pa_nil))))) pss_nil)
      (pss_cons (ps_if (pt_cmpR op_eq (pv 1) pe_int (nomark _)) (pss_one (ps_ret (pe_tup (pa_cons (pe_op op_cat (pv 0) (pe_lst (pa_cons pe_str (pa_cons (pe_ix ix_list (pe_lst (pa_cons pe_str (pa_cons pe_str (pa_cons pe_str pa_nil)))) (pe_op op_mod (pe_callTy (r := rInt1) call_int1 (by rfl) mint (by decide +kernel) (pa_cons (pv 2) pa_nil)) pe_int) (fun _ _ => rfl)) pa_nil)))) (pa_cons (pe_op op_add (pe_callB call_len (by rfl) ml boot_len (pa_cons (pv 0) pa_nil)) pe_int) pa_nil))))) pss_nil)
      (pss_cons (ps_if (pt_cmpR op_eq (pv 1) pe_int (nomark _)) (pss_one (ps_ret (pe_tup (pa_cons (pe_op op_cat (pv 0) (pe_lst (pa_cons pe_str (pa_cons pe_str (pa_cons (pe_ix ix_list (pe_lst (pa_cons pe_str (pa_cons pe_str (pa_cons pe_str pa_nil)))) (pe_op op_mod (pe_callTy (r := rInt1) call_int1 (by rfl) mint (by decide +kernel) (pa_cons (pv 2) pa_nil)) pe_int) (fun _ _ => rfl)) (pa_cons pe_str pa_nil)))))) (pa_cons (pe_op op_add (pe_callB call_len (by rfl) ml boot_len (pa_cons (pv 0) pa_nil)) pe_int) pa_nil))))) pss_nil)
      (pss_cons (ps_if (PW.pt (pw_or (pt_cmpR op_eq (pv 1) pe_int (nomark _)) (pw_or1 (pt_cmpR op_eq (pe_callB call_len (by rfl) ml boot_len (pa_cons (pv 3) pa_nil)) pe_int (nomark _))))) (pss_one (ps_ret (pe_tup (pa_cons (pe_op op_cat (pv 0) (pe_lst (pa_cons pe_str (pa_cons pe_str (pa_cons pe_str (pa_cons pe_str (pa_cons pe_str pa_nil))))))) (pa_cons (pe_op op_add (pe_callB call_len (by rfl) ml boot_len (pa_cons (pv 0) pa_nil)) pe_int) pa_nil))))) pss_nil)
      (pss_cons (ps_set (i := 5) scOrder.nd rfl (.inl rfl) (pe_cal gCl hr pass0 (pa_cons (pv 0) (pa_cons (pe_ix ix_list (pv 3) (pe_op op_mod (pe_callTy (r := rInt1) call_int1 (by rfl) mint (by decide +kernel) (pa_cons (pv 2) pa_nil)) (pe_callB call_len (by rfl) ml boot_len (pa_cons (pv 3) pa_nil))) (fun _ _ => rfl)) pa_nil))))
      (pss_cons (ps_if (pt_cmpR (op_eqD hr.units) (pe_slice sl_list (pv 0) (po_some (pv 5)) po_none) (pe_lst (pa_cons pe_str pa_nil)) (nomark _)) (pss_one (ps_ret (pe_tup (pa_cons (pe_op op_cat (pv 0) (pe_lst (pa_cons pe_str pa_nil))) (pa_cons (pe_op op_add (pe_callB call_len (by rfl) ml boot_len (pa_cons (pv 0) pa_nil)) pe_int) pa_nil))))) pss_nil)
      (pss_one (ps_ret (pe_tup (pa_cons (pe_op op_cat (pe_op op_cat (pe_slice sl_list (pv 0) po_none (po_some (pv 5))) (pe_lst (pa_cons pe_str pa_nil))) (pe_slice sl_list (pv 0) (po_some (pv 5)) po_none)) (pa_cons (pe_op op_add (pv 5) pe_int) pa_nil)))))))))))))))), ?_⟩
    have l7 := ok.l
    have q' : ∀ (t pb : Addr) (lws' : List (List Str)) (m : Nat) (mi : Int) (ys : List V) (H' : Hp), mi = (m : Int) → ys = lws'.map gL → Same H H' → H' t = some (.tup [.ref pb, .int mi]) → H' pb = some (.lst ys) → LwOk lws' → BadT lws' m → Q (.ref t) H' := fun t pb lws' m mi ys H' e1 e2 s ht hb lw bad => by
      subst e1 e2
      exact q t pb lws' m H' s ht hb lw bad
    have m4 := Int.emod_nonneg n (show (4 : Int) ≠ 0 by decide)
    have m4' := Int.emod_lt_of_pos n (show (0 : Int) < 4 by decide)
    have m3 := Int.emod_nonneg n (show (3 : Int) ≠ 0 by decide)
    have m3' := Int.emod_lt_of_pos n (show (0 : Int) < 3 by decide)
    refine ⟨_, rfl, _, _, rfl, .inl ⟨_, SqL.of hp, rfl⟩, _, rfl, by rw [List.length_map]; omega, by rw [List.length_map]; omega, fun L hL => ?_⟩
    rw [List.length_map, show ((lws.length : Nat) : Int).toNat = lws.length from rfl]
    have kp : ∀ (H' : Hp) (o : HO), Same H H' → Same H (upd H' L o) := fun H' o s b u e => by
      rw [upd_ne (fun z => by rw [z, hL] at e; cases e)]
      exact s b u e
    refine lc_range (lo := 0) (n := lws.length) (Opn L H) ⟨[], (fun k h => by cases h), Nat.le_refl _, kp _ _ (.refl H), upd_same⟩ ?_ ?_
    · rintro i H3 hi ⟨ks, hk, hkl, S3, hL3⟩
      refine ⟨rfl, ?_⟩
      obtain ⟨z, r, e1, e2⟩ := first_go ok hi
      refine ⟨_, rfl, _, rfl, _, _, _, _, rfl, rfl, SqL.of (S3 _ _ hp), (by rw [Int.zero_add]; exact atI_nat (j := i) (by rw [List.getElem?_map, List.getElem?_eq_getElem hi]; rfl)), ⟨_, rfl⟩, _, _, rfl, rfl, by decide +kernel, le_line (by have := ok.wl (List.getElem_mem hi); omega), fun p3 hp3 => ?_⟩
      rw [e2]
      have s3 := same_new hp3 (.lst ((z :: r).map V.str))
      have h3 : (upd H3 p3 (.lst ((z :: r).map V.str))) p3 = some (.lst ((z :: r).map V.str)) := upd_same
      generalize upd H3 p3 (.lst ((z :: r).map V.str)) = H4 at s3 h3 ⊢
      refine ⟨_, _, _, _, rfl, rfl, SqL.of h3, atI_nat (j := 0) rfl, by show 3 ≤ sizeLine; decide, fun p4 hp4 => ⟨_, _, rfl, .inl (SqL.of upd_same), rfl, rfl, _, rfl, ?_⟩⟩
      have s34 := s3.trans (same_new hp4 (.lst [.str "repeat", .str "either", .str "switch"]))
      have S4 := S3.trans s34
      have hL4 := s34 _ _ hL3
      generalize upd H4 p4 _ = H5 at S4 hL4 ⊢
      refine ite2 (fun _ => ?_) (fun _ => ⟨ks, fun k h => Nat.lt_succ_of_lt (hk k h), by omega, S4, hL4⟩)
      refine ⟨_, rfl, _, hL4, le_line (by rw [List.length_map]; omega), ks ++ [i], ?_, ?_, kp _ _ S4, ?_⟩
      · intro k h
        rw [List.mem_append, List.mem_singleton] at h
        exact h.elim (fun h => Nat.lt_succ_of_lt (hk k h)) (fun h => by omega)
      · rw [List.length_append, List.length_singleton]; omega
      · rw [upd_same, List.map_append, Int.zero_add]; rfl
    rintro H3 ⟨ks, hk, hkl, S3, hL3⟩
    refine g_nx ?_
    refine ⟨_, rfl, rfl, _, rfl, ite2 (fun _ => ?_) (fun _ => ?_)⟩
    · obtain ⟨wp, hwp, ep⟩ := pick2 (l := ([["end"], ["choice"], ["case", "1"], [""]] : List (List Str))) (xs := [V.str "end", V.str "choice", V.str "case 1", V.str ""]) (by decide +kernel) m4 m4'
      refine ⟨_, rfl, by show 4 ≤ sizeLine; decide, fun p4 hp4 => ⟨_, rfl, .inl ⟨_, rfl, _, _, rfl, rfl, (by show (0 : Int) < 4; decide), p4, _, _, _, rfl, rfl, SqL.of upd_same, ep, by show 1 ≤ sizeLine; decide, fun p5 hp5 => ?_⟩⟩⟩
      have s5 := (S3.trans (same_new hp4 (.lst [V.str "end", V.str "choice", V.str "case 1", V.str ""]))).trans (same_new hp5 (.lst [gL wp]))
      have h5 := s5 _ _ hp
      refine ⟨p, p5, _, _, rfl, rfl, h5, upd_same, le_line (by simp; omega), fun p6 hp6 => ?_⟩
      have s6 := s5.trans (same_new hp6 (.lst (lws.map gL ++ [gL wp])))
      refine ⟨_, rfl, _, _, rfl, .inl ⟨_, SqL.of (s6 _ _ hp), rfl⟩, _, _, rfl, rfl, by show 2 ≤ sizeLine; decide, fun t ht => ?_⟩
      exact q' t p6 (lws ++ ([wp] : List (List Str))) (lws.length + 1) _ _ _ (by simp) (by simp only [gL, List.map_append, List.map_cons, List.map_nil]) (s6.trans (same_new ht _)) upd_same (same_new ht _ _ _ upd_same) (lw_ok ok (xt_cons (xt_mem (by decide +kernel : XtOk ([["end"], ["choice"], ["case", "1"], [""]] : List (List Str))) hwp) xt_nil) (fun ws hw => List.mem_append.mp hw) (by simp) (by simp)) (bad_f0 run wp hwp)
    refine ⟨_, rfl, rfl, _, rfl, ite2 (fun _ => ?_) (fun _ => ?_)⟩
    · obtain ⟨wp, hwp, ep⟩ := pick2 (l := ([["end"], ["choice"], ["case", "0"], [""]] : List (List Str))) (xs := [V.str "end", V.str "choice", V.str "case 0", V.str ""]) (by decide +kernel) m4 m4'
      refine ⟨by show 4 ≤ sizeLine; decide, fun p4 hp4 => ⟨_, rfl, .inl ⟨_, rfl, _, _, rfl, rfl, (by show (0 : Int) < 4; decide), p4, _, _, _, rfl, rfl, SqL.of upd_same, ep, by show 1 ≤ sizeLine; decide, fun p5 hp5 => ?_⟩⟩⟩
      have s5 := (S3.trans (same_new hp4 (.lst [V.str "end", V.str "choice", V.str "case 0", V.str ""]))).trans (same_new hp5 (.lst [gL wp]))
      have h5 := s5 _ _ hp
      refine ⟨_, rfl, p5, p, _, _, rfl, rfl, upd_same, h5, le_line (by simp; omega), fun p6 hp6 => ?_⟩
      have s6 := s5.trans (same_new hp6 (.lst ([gL wp] ++ lws.map gL)))
      refine ⟨by show 2 ≤ sizeLine; decide, fun t ht => ?_⟩
      exact q' t p6 (([wp] : List (List Str)) ++ lws) (1) _ _ _ (by simp) (by simp only [gL, List.map_append, List.map_cons, List.map_nil]) (s6.trans (same_new ht _)) upd_same (same_new ht _ _ _ upd_same) (lw_ok ok (xt_cons (xt_mem (by decide +kernel : XtOk ([["end"], ["choice"], ["case", "0"], [""]] : List (List Str))) hwp) xt_nil) (fun ws hw => (List.mem_append.mp hw).symm) (by simp) (by simp)) (bad_f1 lws wp hwp)
    refine ⟨_, rfl, rfl, _, rfl, ite2 (fun _ => ?_) (fun _ => ?_)⟩
    · obtain ⟨wp, hwp, ep⟩ := pick2 (l := ([["repeat", "d", "3"], ["either", "d"], ["switch", "d", "a"]] : List (List Str))) (xs := [V.str "repeat d 3", V.str "either d", V.str "switch d a"]) (by decide +kernel) m3 m3'
      refine ⟨by show 3 ≤ sizeLine; decide, fun p4 hp4 => ⟨_, rfl, .inl ⟨_, rfl, _, _, rfl, rfl, (by show (0 : Int) < 3; decide), p4, _, _, _, rfl, rfl, SqL.of upd_same, ep, by show 5 ≤ sizeLine; decide, fun p5 hp5 => ?_⟩⟩⟩
      have s5 := (S3.trans (same_new hp4 (.lst [V.str "repeat d 3", V.str "either d", V.str "switch d a"]))).trans (same_new hp5 (.lst [V.str "repeat a 1", V.str "repeat b 2", V.str "either c", V.str "choice", gL wp]))
      have h5 := s5 _ _ hp
      refine ⟨_, rfl, _, rfl, p, p5, _, _, rfl, rfl, h5, upd_same, le_line (by simp; omega), fun p6 hp6 => ?_⟩
      have s6 := s5.trans (same_new hp6 (.lst (lws.map gL ++ [V.str "repeat a 1", V.str "repeat b 2", V.str "either c", V.str "choice", gL wp])))
      refine ⟨_, rfl, _, _, rfl, .inl ⟨_, SqL.of (s6 _ _ hp), rfl⟩, _, _, rfl, rfl, by show 2 ≤ sizeLine; decide, fun t ht => ?_⟩
      exact q' t p6 (lws ++ ([["repeat", "a", "1"], ["repeat", "b", "2"], ["either", "c"], ["choice"], wp] : List (List Str))) (lws.length + 5) _ _ _ (by simp) (by simp only [gL, List.map_append, List.map_cons, List.map_nil, show wd (["repeat", "a", "1"] : List Str) = "repeat a 1" from by decide +kernel, show wd (["repeat", "b", "2"] : List Str) = "repeat b 2" from by decide +kernel, show wd (["either", "c"] : List Str) = "either c" from by decide +kernel, show wd (["choice"] : List Str) = "choice" from by decide +kernel]) (s6.trans (same_new ht _)) upd_same (same_new ht _ _ _ upd_same) (lw_ok ok (xt_cons (by decide +kernel) (xt_cons (by decide +kernel) (xt_cons (by decide +kernel) (xt_cons (by decide +kernel) (xt_cons (xt_mem (by decide +kernel : XtOk ([["repeat", "d", "3"], ["either", "d"], ["switch", "d", "a"]] : List (List Str))) hwp) xt_nil))))) (fun ws hw => List.mem_append.mp hw) (by simp) (by simp)) (bad_f2 run wp hwp)
    refine ⟨_, rfl, rfl, _, rfl, ite2 (fun _ => ?_) (fun _ => ?_)⟩
    · refine ⟨_, rfl, by show 1 ≤ sizeLine; decide, fun p5 hp5 => ?_⟩
      have s5 := S3.trans (same_new hp5 (.lst [V.str "repeat zz 2"]))
      have h5 := s5 _ _ hp
      refine ⟨p, p5, _, _, rfl, rfl, h5, upd_same, le_line (by simp; omega), fun p6 hp6 => ?_⟩
      have s6 := s5.trans (same_new hp6 (.lst (lws.map gL ++ [V.str "repeat zz 2"])))
      refine ⟨_, rfl, _, _, rfl, .inl ⟨_, SqL.of (s6 _ _ hp), rfl⟩, _, _, rfl, rfl, by show 2 ≤ sizeLine; decide, fun t ht => ?_⟩
      exact q' t p6 (lws ++ ([["repeat", "zz", "2"]] : List (List Str))) (lws.length + 2) _ _ _ (by simp) (by simp only [gL, List.map_append, List.map_cons, List.map_nil, show wd (["repeat", "zz", "2"] : List Str) = "repeat zz 2" from by decide +kernel]) (s6.trans (same_new ht _)) upd_same (same_new ht _ _ _ upd_same) (lw_ok ok (xt_cons (by decide +kernel) xt_nil) (fun ws hw => List.mem_append.mp hw) (by simp) (by simp)) (bad_f3 run)
    refine ⟨_, rfl, rfl, _, rfl, ite2 (fun _ => ?_) (fun _ => ?_)⟩
    · obtain ⟨wp, hwp, ep⟩ := pick2 (l := ([["bytes", "y", "1"], ["case", "1"], ["pad", "y", "1", "0"]] : List (List Str))) (xs := [V.str "bytes y 1", V.str "case 1", V.str "pad y 1 0"]) (by decide +kernel) m3 m3'
      refine ⟨_, rfl, by show 3 ≤ sizeLine; decide, fun p4 hp4 => ⟨_, rfl, .inl ⟨_, rfl, _, _, rfl, rfl, (by show (0 : Int) < 3; decide), p4, _, _, _, rfl, rfl, SqL.of upd_same, ep, by show 2 ≤ sizeLine; decide, fun p5 hp5 => ?_⟩⟩⟩
      have s5 := (S3.trans (same_new hp4 (.lst [V.str "bytes y 1", V.str "case 1", V.str "pad y 1 0"]))).trans (same_new hp5 (.lst [V.str "either zz", gL wp]))
      have h5 := s5 _ _ hp
      refine ⟨p, p5, _, _, rfl, rfl, h5, upd_same, le_line (by simp; omega), fun p6 hp6 => ?_⟩
      have s6 := s5.trans (same_new hp6 (.lst (lws.map gL ++ [V.str "either zz", gL wp])))
      refine ⟨_, rfl, _, _, rfl, .inl ⟨_, SqL.of (s6 _ _ hp), rfl⟩, _, _, rfl, rfl, by show 2 ≤ sizeLine; decide, fun t ht => ?_⟩
      exact q' t p6 (lws ++ ([["either", "zz"], wp] : List (List Str))) (lws.length + 2) _ _ _ (by simp) (by simp only [gL, List.map_append, List.map_cons, List.map_nil, show wd (["either", "zz"] : List Str) = "either zz" from by decide +kernel]) (s6.trans (same_new ht _)) upd_same (same_new ht _ _ _ upd_same) (lw_ok ok (xt_cons (by decide +kernel) (xt_cons (xt_mem (by decide +kernel : XtOk ([["bytes", "y", "1"], ["case", "1"], ["pad", "y", "1", "0"]] : List (List Str))) hwp) xt_nil)) (fun ws hw => List.mem_append.mp hw) (by simp) (by simp)) (bad_f4 run wp hwp)
    refine ⟨_, rfl, rfl, _, rfl, ite2 (fun _ => ?_) (fun _ => ?_)⟩
    · obtain ⟨wp, hwp, ep⟩ := pick2 (l := ([["choice"], ["number", "y", "1", "big", "0", "1"], [""]] : List (List Str))) (xs := [V.str "choice", V.str "number y 1 big 0 1", V.str ""]) (by decide +kernel) m3 m3'
      refine ⟨_, rfl, by show 3 ≤ sizeLine; decide, fun p4 hp4 => ⟨_, rfl, .inl ⟨_, rfl, _, _, rfl, rfl, (by show (0 : Int) < 3; decide), p4, _, _, _, rfl, rfl, SqL.of upd_same, ep, by show 2 ≤ sizeLine; decide, fun p5 hp5 => ?_⟩⟩⟩
      have s5 := (S3.trans (same_new hp4 (.lst [V.str "choice", V.str "number y 1 big 0 1", V.str ""]))).trans (same_new hp5 (.lst [V.str "switch zz y", gL wp]))
      have h5 := s5 _ _ hp
      refine ⟨p, p5, _, _, rfl, rfl, h5, upd_same, le_line (by simp; omega), fun p6 hp6 => ?_⟩
      have s6 := s5.trans (same_new hp6 (.lst (lws.map gL ++ [V.str "switch zz y", gL wp])))
      refine ⟨_, rfl, _, _, rfl, .inl ⟨_, SqL.of (s6 _ _ hp), rfl⟩, _, _, rfl, rfl, by show 2 ≤ sizeLine; decide, fun t ht => ?_⟩
      exact q' t p6 (lws ++ ([["switch", "zz", "y"], wp] : List (List Str))) (lws.length + 2) _ _ _ (by simp) (by simp only [gL, List.map_append, List.map_cons, List.map_nil, show wd (["switch", "zz", "y"] : List Str) = "switch zz y" from by decide +kernel]) (s6.trans (same_new ht _)) upd_same (same_new ht _ _ _ upd_same) (lw_ok ok (xt_cons (by decide +kernel) (xt_cons (xt_mem (by decide +kernel : XtOk ([["choice"], ["number", "y", "1", "big", "0", "1"], [""]] : List (List Str))) hwp) xt_nil)) (fun ws hw => List.mem_append.mp hw) (by simp) (by simp)) (bad_f5 run wp hwp)
    refine ⟨_, rfl, rfl, _, rfl, ite2 (fun _ => ?_) (fun _ => ?_)⟩
    · obtain ⟨wp, hwp, ep⟩ := pick2 (l := ([["choice"], ["case", "3"], ["End"]] : List (List Str))) (xs := [V.str "choice", V.str "case 3", V.str "End"]) (by decide +kernel) m3 m3'
      refine ⟨_, rfl, by show 3 ≤ sizeLine; decide, fun p4 hp4 => ⟨_, rfl, .inl ⟨_, rfl, _, _, rfl, rfl, (by show (0 : Int) < 3; decide), p4, _, _, _, rfl, rfl, SqL.of upd_same, ep, by show 4 ≤ sizeLine; decide, fun p5 hp5 => ?_⟩⟩⟩
      have s5 := (S3.trans (same_new hp4 (.lst [V.str "choice", V.str "case 3", V.str "End"]))).trans (same_new hp5 (.lst [V.str "repeat zz 1", V.str "bytes y 1", gL wp, V.str "end"]))
      have h5 := s5 _ _ hp
      refine ⟨p, p5, _, _, rfl, rfl, h5, upd_same, le_line (by simp; omega), fun p6 hp6 => ?_⟩
      have s6 := s5.trans (same_new hp6 (.lst (lws.map gL ++ [V.str "repeat zz 1", V.str "bytes y 1", gL wp, V.str "end"])))
      refine ⟨_, rfl, _, _, rfl, .inl ⟨_, SqL.of (s6 _ _ hp), rfl⟩, _, _, rfl, rfl, by show 2 ≤ sizeLine; decide, fun t ht => ?_⟩
      exact q' t p6 (lws ++ ([["repeat", "zz", "1"], ["bytes", "y", "1"], wp, ["end"]] : List (List Str))) (lws.length + 3) _ _ _ (by simp) (by simp only [gL, List.map_append, List.map_cons, List.map_nil, show wd (["repeat", "zz", "1"] : List Str) = "repeat zz 1" from by decide +kernel, show wd (["bytes", "y", "1"] : List Str) = "bytes y 1" from by decide +kernel, show wd (["end"] : List Str) = "end" from by decide +kernel]) (s6.trans (same_new ht _)) upd_same (same_new ht _ _ _ upd_same) (lw_ok ok (xt_cons (by decide +kernel) (xt_cons (by decide +kernel) (xt_cons (xt_mem (by decide +kernel : XtOk ([["choice"], ["case", "3"], ["End"]] : List (List Str))) hwp) (xt_cons (by decide +kernel) xt_nil)))) (fun ws hw => List.mem_append.mp hw) (by simp) (by simp)) (bad_f6 run wp hwp)
    refine (fun x => ⟨_, rfl, rfl, _, rfl, ite2 (fun _ => iteT x) (fun _ => ⟨_, rfl, _, _, rfl, .inl ⟨_, SqL.of hL3, rfl⟩, rfl, _, rfl, ite2 (fun _ => x) (fun h0 => ?rest)⟩)⟩) ?x7
    case x7 =>
      refine ⟨_, rfl, by show 5 ≤ sizeLine; decide, fun p5 hp5 => ?_⟩
      have s5 := S3.trans (same_new hp5 (.lst [V.str "either zz", V.str "choice", V.str "choice", V.str "case 1", V.str "end"]))
      have h5 := s5 _ _ hp
      refine ⟨p, p5, _, _, rfl, rfl, h5, upd_same, le_line (by simp; omega), fun p6 hp6 => ?_⟩
      have s6 := s5.trans (same_new hp6 (.lst (lws.map gL ++ [V.str "either zz", V.str "choice", V.str "choice", V.str "case 1", V.str "end"])))
      refine ⟨_, rfl, _, _, rfl, .inl ⟨_, SqL.of (s6 _ _ hp), rfl⟩, _, _, rfl, rfl, by show 2 ≤ sizeLine; decide, fun t ht => ?_⟩
      exact q' t p6 (lws ++ ([["either", "zz"], ["choice"], ["choice"], ["case", "1"], ["end"]] : List (List Str))) (lws.length + 4) _ _ _ (by simp) (by simp only [gL, List.map_append, List.map_cons, List.map_nil, show wd (["either", "zz"] : List Str) = "either zz" from by decide +kernel, show wd (["choice"] : List Str) = "choice" from by decide +kernel, show wd (["case", "1"] : List Str) = "case 1" from by decide +kernel, show wd (["end"] : List Str) = "end" from by decide +kernel]) (s6.trans (same_new ht _)) upd_same (same_new ht _ _ _ upd_same) (lw_ok ok (xt_cons (by decide +kernel) (xt_cons (by decide +kernel) (xt_cons (by decide +kernel) (xt_cons (by decide +kernel) (xt_cons (by decide +kernel) xt_nil))))) (fun ws hw => List.mem_append.mp hw) (by simp) (by simp)) (bad_f7 run)
    case rest =>
      have k0 : 0 < ks.length := by
        rw [List.length_map] at h0
        refine Nat.pos_of_ne_zero fun e => h0 (decide_eq_true (by rw [e]; rfl))
      have m1 := Int.emod_nonneg n (show (ks.length : Int) ≠ 0 by omega)
      have m2 := Int.emod_lt_of_pos n (show (0 : Int) < ks.length by omega)
      obtain ⟨i, hi⟩ := Int.eq_ofNat_of_zero_le m1
      rw [hi] at m2
      have hi5 : i < ks.length := by omega
      refine ⟨_, rfl, _, rfl, _, rfl, .inl ⟨_, rfl, _, rfl, _, _, rfl, .inl ⟨_, SqL.of hL3, rfl⟩, _, _, rfl, rfl, (by show (0 : Int) < ((ks.map natV).length : Int); rw [List.length_map]; omega), _, _, _, natV ks[i], rfl, rfl, SqL.of hL3, (by rw [List.length_map, hi]; exact atI_nat (by rw [List.getElem?_map, List.getElem?_eq_getElem hi5]; rfl)), p, lws, ks[i], rfl, S3 _ _ hp, ok, hk _ (List.getElem_mem hi5), fun k H4 hk4 s4 => ?_⟩⟩
      have S4 := S3.trans s4
      refine ⟨_, rfl, _, rfl, _, rfl, _, _, rfl, SqL.of (S4 _ _ hp), fun p7 hp7 => ⟨by show 1 ≤ sizeLine; decide, fun p8 hp8 => ?_⟩⟩
      rw [cut_to hk4] at hp8 ⊢
      have s7 := S4.trans (same_new hp7 (.lst ((lws.drop k).map gL)))
      have h7 := same_new hp8 (.lst [.str "end"]) _ _ (upd_same (H := H4) (a := p7) (o := .lst ((lws.drop k).map gL)))
      have S8 := s7.trans (same_new hp8 (.lst [.str "end"]))
      refine ⟨_, _, .lst (SqL.of h7) (dp_lines _), .lst (SqL.of upd_same) (dp_strs [("end" : Str)]), shaped_lines ok k, by decide +kernel, _, rfl, ?_⟩
      clear h7 s7
      generalize upd (upd H4 p7 _) p8 _ = H8 at S8 ⊢
      refine ite2 (fun _ => ?_) (fun _ => ?_)
      · refine ⟨_, rfl, by show 1 ≤ sizeLine; decide, fun p5 hp5 => ?_⟩
        have s5 := S8.trans (same_new hp5 (.lst [V.str "end"]))
        have h5 := s5 _ _ hp
        refine ⟨p, p5, _, _, rfl, rfl, h5, upd_same, le_line (by simp; omega), fun p6 hp6 => ?_⟩
        have s6 := s5.trans (same_new hp6 (.lst (lws.map gL ++ [V.str "end"])))
        refine ⟨_, rfl, _, _, rfl, .inl ⟨_, SqL.of (s6 _ _ hp), rfl⟩, _, _, rfl, rfl, by show 2 ≤ sizeLine; decide, fun t ht => ?_⟩
        exact q' t p6 (lws ++ ([["end"]] : List (List Str))) (lws.length + 1) _ _ _ (by simp) (by simp only [gL, List.map_append, List.map_cons, List.map_nil, show wd (["end"] : List Str) = "end" from by decide +kernel]) (s6.trans (same_new ht _)) upd_same (same_new ht _ _ _ upd_same) (lw_ok ok (xt_cons (by decide +kernel) xt_nil) (fun ws hw => List.mem_append.mp hw) (by simp) (by simp)) (bad_f8 run)
      · refine ⟨_, rfl, _, rfl, _, rfl, _, _, rfl, SqL.of (S8 _ _ hp), fun p9 hp9 => ⟨by show 1 ≤ sizeLine; decide, fun pa hpa => ?_⟩⟩
        rw [cut_fr hk4] at hpa ⊢
        have s9 := S8.trans (same_new hp9 (.lst ((lws.take k).map gL)))
        have h9 := same_new hpa (.lst [.str "ends"]) _ _ (upd_same (H := H8) (a := p9) (o := .lst ((lws.take k).map gL)))
        have Sa := s9.trans (same_new hpa (.lst [.str "ends"]))
        refine ⟨p9, pa, _, _, rfl, rfl, h9, upd_same, le_line (by simp; omega), fun pb hpb => ?_⟩
        have Sb := Sa.trans (same_new hpb (.lst ((lws.take k).map gL ++ [.str "ends"])))
        refine ⟨_, rfl, _, rfl, _, rfl, _, _, rfl, SqL.of (Sb _ _ hp), fun pc hpc => ?_⟩
        rw [cut_to hk4]
        refine ⟨pb, pc, _, _, rfl, rfl, same_new hpc _ _ _ upd_same, upd_same, le_line (by simp; omega), fun pd hpd => ?_⟩
        refine ⟨_, rfl, _, _, rfl, rfl, by show 2 ≤ sizeLine; decide, fun t ht => ?_⟩
        exact q' t pd (lws.take k ++ ([["ends"]] : List (List Str)) ++ lws.drop k) (k + 1) _ _ _ (by simp) (by simp only [gL, List.map_append, List.map_cons, List.map_nil, show wd (["ends"] : List Str) = "ends" from by decide +kernel]) (((Sb.trans (same_new hpc _)).trans (same_new hpd _)).trans (same_new ht _)) upd_same (same_new ht _ _ _ upd_same) (lw_ok ok (xt_cons (by decide +kernel : XtOk ([["ends"]] : List (List Str))) xt_nil) (fun ws hw => by
          rcases List.mem_append.mp hw with hw | hw
          · rcases List.mem_append.mp hw with hw | hw
            · exact .inl (List.mem_of_mem_take hw)
            · exact .inr hw
          · exact .inl (List.mem_of_mem_drop hw)) (by simp) (by simp; omega)) (bad_f9 run hk4)
end
end Bs

set_option Elab.async false
set_option linter.all false
set_option maxRecDepth 100000
set_option maxHeartbeats 8000000
namespace Bs
open PySem L2
abbrev sLaw7 : Stmt := top 78
abbrev nLaw7 : List Str := ["script", "numbers", "draw", "items", "lines", "choice", "at", "bad", "due"]
theorem scLaw7 : FnScope nLaw7 ["script"] (defScope sLaw7) := ⟨rfl, rfl, rfl, by decide +kernel, rfl, by decide +kernel, by decide +kernel⟩
def spLaw (K : PySem.W.Frag) : Sp := fun vs H Q _ => ∃ (a : Addr) (ns : List Int), vs = [.ref a] ∧ SqL K H a (ns.map V.int) ∧ ns.length ≤ 63 ∧ ∀ H', Q (.bl true) H'
theorem lo_empty : LwOk [[("" : Str)]] := ⟨by simp, fun ws h => by
  rw [List.mem_singleton.mp h]
  exact ⟨by simp, by decide, fun z hz => by rw [List.mem_singleton.mp hz]; exact good_e.1.two⟩, by decide, fun ws h => by rw [List.mem_singleton.mp h]; decide +kernel⟩
theorem bt_empty : BadT [[("" : Str)]] 1 := ⟨[], [[""]], _, rfl, .nil _, rfl, .inr ⟨_, [], rfl, .inl (.head (by decide +kernel))⟩⟩
/-- words that fit are plain -/
theorem fits_asc {z fm : Str} (h : fitsB z fm = true) : ∀ c ∈ z.cps.toList, c < 128 := by
  have hd : ∀ c, isDigit c = true → c < 128 := fun c h => by have := (digit_iff c).mp h; omega
  have hl : ∀ c, isLetter c = true → c < 128 := by
    intro c h
    unfold isLetter at h
    have : ∀ c ∈ letters.cps.toList, c < 128 := by decide +kernel
    exact this c (of_decide_eq_true h)
  have sg : ∀ c, isSign c = true → c < 128 := fun c h => by
    unfold isSign at h
    rw [Bool.or_eq_true] at h
    exact h.elim (hl c) (hd c)
  have nm : isName z = true → ∀ c ∈ z.cps.toList, c < 128 := fun h c hc => by
    unfold isName at h
    cases e : z.cps.toList with
    | nil => rw [e] at hc; cases hc
    | cons a t =>
      rw [e] at h hc
      rw [nameOk, Bool.and_eq_true, Bool.and_eq_true, List.all_eq_true] at h
      exact sg c (h.2.2 c hc)
  have it : isIntWord z = true → ∀ c ∈ z.cps.toList, c < 128 := fun h c hc => by
    unfold isIntWord at h
    rw [Bool.and_eq_true, Bool.and_eq_true] at h
    exact hd c (List.all_eq_true.mp h.2.1 c hc)
  unfold fitsB at h
  split at h
  · exact it h
  split at h
  · exact nm h
  split at h
  · rw [Bool.or_eq_true] at h
    exact h.elim it nm
  · rw [Bool.or_eq_true] at h
    rcases h with h | h
    · rw [of_decide_eq_true h]; decide +kernel
    · rw [of_decide_eq_true h]; decide +kernel
theorem kind_asc {w0 : Str} {fs : List Str} (h : formOf w0 = some fs) : ∀ c ∈ w0.cps.toList, c < 128 := by
  rcases form_kinds h with ⟨rfl, _⟩ | ⟨rfl, _⟩ | ⟨rfl, _⟩ | ⟨rfl, _⟩ | ⟨rfl, _⟩ | ⟨rfl, _⟩ | ⟨rfl, _⟩ | ⟨rfl, _⟩ | ⟨rfl, _⟩ | ⟨rfl, _⟩ | ⟨rfl, _⟩ <;> decide +kernel
theorem run_ok {st st' : Ms} {lws : List (List Str)} (h : Runs st lws st') : ∀ ws ∈ lws, Fit ws ∧ ws ≠ [] ∧ ws.length ≤ 6 ∧ ∀ z ∈ ws, Good z ∧ ∀ c ∈ z.cps.toList, c < 128 := by
  induction h with
  | nil => intro ws h; cases h
  | cons s _ ih =>
    intro ws hw
    rcases List.mem_cons.mp hw with rfl | hw
    · obtain ⟨a, b, c⟩ := step_words s
      refine ⟨a, c, ?_, fun z hz => ⟨b z hz, ?_⟩⟩
      · obtain ⟨w0, wr, fs, rfl, hf, hl, _⟩ := a
        have := form_len hf
        simp only [List.length_cons]
        omega
      · obtain ⟨w0, wr, fs, rfl, hf, hl, hfit⟩ := a
        rcases List.mem_cons.mp hz with rfl | hz
        · exact kind_asc hf
        · obtain ⟨i, hi, e⟩ := List.getElem_of_mem hz
          exact fits_asc (hfit i z fs[i] (by rw [List.getElem?_eq_getElem hi, e]) (List.getElem?_eq_getElem (by omega)))
    · exact ih ws hw
theorem lw_ne7 {x : Its} (h : x.shape = true) : x.lw ≠ [] := by
  cases x with
  | nil => exact absurd h (by decide)
  | cons y r => cases y <;> simp [Its.lw, It.lw]
theorem ne_go {a b : Int} {p q : Prop} (e : a = b) (h : q) : if (!decide (V.int a = V.int b)) = true then p else q := by
  subst e
  rw [decide_eq_true rfl]
  exact iteF h
theorem lw_one {lws : List (List Str)} {ws' : List Str} {i : Nat} (ok : SpOk lws) (od : OddW ws') : LwOk ((lws.take i ++ [ws']) ++ lws.drop (i + 1)) := by
  have all : ∀ ws ∈ (lws.take i ++ [ws']) ++ lws.drop (i + 1), ws ∈ lws ∨ ws = ws' := fun ws hw => by
    rcases List.mem_append.mp hw with hw | hw
    · rcases List.mem_append.mp hw with hw | hw
      · exact .inl (List.mem_of_mem_take hw)
      · exact .inr (List.mem_singleton.mp hw)
    · exact .inl (List.mem_of_mem_drop hw)
  have := ok.l
  refine ⟨by simp, fun ws hw => ?_, by simp; omega, fun ws hw => ?_⟩
  · rcases all ws hw with h | rfl
    · obtain ⟨a, b, c⟩ := ok.w ws h
      exact ⟨a, by omega, fun z hz => (c z hz).1.two⟩
    · exact ⟨od.ne, od.l, od.g⟩
  · rcases all ws hw with h | rfl
    · have := ok.wl h; omega
    · exact od.ln
section
variable {P : Program} {w : World} {K : PySem.W.Frag} {mg : Str → Option Value} {base : Heap} {f C CS CN : Addr} {fd : FuncData}
theorem ok_law {k : Nat} (hk : 2 ≤ k) (F : Fun K "law" "law" sLaw7 f fd) (gN : Cal P w K mg base CX0 2 "_law_numbers" ["script", "many"] (spNums K)) (gBg : Cal P w K mg base CX0 1 "_law_begin" ["numbers"] spBegin) (gI : Cal P w K mg base CX0 k "_law_items" ["draw", "ahead", "depth", "many"] (spItems 3))
    (T : ShapeC K CS) (gLi : Cal P w K mg base CX0 k "_law_lines" ["items"] (spLLines 3)) (gZ : Cal P w K mg base CX0 k "_law_frozen" ["items"] (spLFroz 3)) (gP : Cal P w K mg base (L2.CX P w) k "parse_shape" ["text"] (spP CS CN))
    (gLn : Cal P w K mg base CX0 k "_law_line" ["lines"] spLine) (gBk : Cal P w K mg base CX0 2 "_law_broken" ["line", "fault", "number"] spBroken) (gO : Cal P w K mg base CX0 2 "_law_order" ["lines", "fault", "number"] spOrder)
    (mint : mg "int" = none) (ml : mg "len" = none) : FnOk P w K mg base CX0 (k + 1) f fd ["script"] (spLaw K) := by
  refine F.ok scLaw7 (fun vs H Q E h => ?_) (fun cdv A outer s H vs Q E hr h => ?_)
  · obtain ⟨a, ns, rfl, _⟩ := h
    rfl
  · obtain ⟨a, ns, rfl, ha, hlen, q⟩ := h
    have hu := hu_of hr
    have hr1 : Room 1 _ := hr.mono (by omega)
    have hr2 : Room 2 _ := hr.mono hk
    refine ⟨_, (pss_cons (ps_set (i := 1) scLaw7.nd rfl (.inl rfl) (pe_cal gN hr2 pass0 (pa_cons (pv 0) (pa_cons pe_int pa_nil))))
      (pss_cons (ps_set (i := 2) scLaw7.nd rfl (.inl rfl) (pe_cal gBg hr1 pass0 (pa_cons (pv 1) pa_nil)))
      (pss_cons (ps_set (i := 3) scLaw7.nd rfl (.inl rfl) (pe_cal gI hr pass0 (pa_cons (pv 2) (pa_cons (pe_lst pa_nil) (pa_cons pe_int (pa_cons (pe_op op_add pe_int (pe_op op_mod (pe_callTy (r := rInt1) call_int1 (by rfl) mint (by decide +kernel) (pa_cons (pe_ix ix_list (pv 1) pe_int (fun _ _ => rfl)) pa_nil)) pe_int)) pa_nil))))))
      (pss_cons (ps_set (i := 4) scLaw7.nd rfl (.inl rfl) (pe_cal gLi hr pass0 (pa_cons (pv 3) pa_nil)))
      (pss_cons (ps_if (pt_cmpR op_ne (pe_cal gLn hr pass0 (pa_cons (pv 4) pa_nil)) pe_int (nomark _)) (pss_one (ps_ret pe_bl)) pss_nil)
      (pss_cons (ps_set (i := 5) scLaw7.nd rfl (.inl rfl) (pe_op op_mod (pe_callTy (r := rInt1) call_int1 (by rfl) mint (by decide +kernel) (pa_cons (pe_ix ix_list (pv 1) pe_int (fun _ _ => rfl)) pa_nil)) pe_int))
      (pss_cons (ps_set (i := 6) scLaw7.nd rfl (.inl rfl) (pe_op op_mod (pe_callTy (r := rInt1) call_int1 (by rfl) mint (by decide +kernel) (pa_cons (pe_ix ix_list (pv 1) pe_int (fun _ _ => rfl)) pa_nil)) (pe_callB call_len (by rfl) ml boot_len (pa_cons (pv 4) pa_nil))))
      (pss_cons (ps_set (i := 7) scLaw7.nd rfl (.inl rfl) (pe_op op_cat (pe_op op_cat (pe_slice sl_list (pv 4) po_none (po_some (pv 6))) (pe_lst (pa_cons (pe_cal gBk hr2 pass0 (pa_cons (pe_ix ix_list (pv 4) (pv 6) (fun _ _ => rfl)) (pa_cons (pv 5) (pa_cons (pe_callTy (r := rInt1) call_int1 (by rfl) mint (by decide +kernel) (pa_cons (pe_ix ix_list (pv 1) pe_int (fun _ _ => rfl)) pa_nil)) pa_nil)))) pa_nil))) (pe_slice sl_list (pv 4) (po_some (pe_op op_add (pv 6) pe_int)) po_none)))
      (pss_cons (ps_set (i := 8) scLaw7.nd rfl (.inl rfl) (pe_op op_add (pv 6) pe_int))
      (pss_cons (ps_if (pt_cmpR op_ge (pv 5) pe_int (nomark _)) (pss_one (ps_asg (pe_cal gO hr2 pass0 (pa_cons (pv 4) (pa_cons (pe_op op_sub (pv 5) pe_int) (pa_cons (pe_callTy (r := rInt1) call_int1 (by rfl) mint (by decide +kernel) (pa_cons (pe_ix ix_list (pv 1) pe_int (fun _ _ => rfl)) pa_nil)) pa_nil)))) (pg_tup rfl (pgs_cons (pg_name (i := 7) scLaw7.nd rfl (.inl rfl)) (pgs_cons (pg_name (i := 8) scLaw7.nd rfl (.inl rfl)) pgs_nil))))) pss_nil)
      (pss_cons (ps_if (PW.pt (pw_or (pt_cmpR op_ne (pe_cal gLn hr pass0 (pa_cons (pv 7) pa_nil)) (pv 8) (nomark _)) (pw_or (pt_cmpR op_ne (pe_cal gLn hr pass0 (pa_cons (pv 7) pa_nil)) (pv 8) (nomark _)) (pw_or1 (pt_cmpR op_ne (pe_cal gLn hr pass0 (pa_cons (pe_lst (pa_cons pe_str pa_nil)) pa_nil)) pe_int (nomark _)))))) (pss_one (ps_ret pe_bl)) pss_nil)
      (pss_one (ps_ret (pe_and (pe_cmpR op_eq (pe_cal gLn hr pass0 (pa_cons (pv 4) pa_nil)) pe_int (nomark _)) (pe_one (pe_cmpR (op_eqD hr.units) (pe_fld (pe_cal gP hr passE0 (pa_cons (pe_join pe_str (pv 4)) pa_nil)) rfl) (pe_cal gZ hr pass0 (pa_cons (pv 3) pa_nil)) (nomark _))))))))))))))))), ?_⟩
    refine ⟨_, rfl, a, ns, rfl, ha, hlen, fun pn rs H1 s1 hn hrl hnb => ?_⟩
    refine ⟨_, rfl, pn, rs, rfl, hn, hrl, fun D N H2 s2 eu d2 h30 hnd hnm hnl => ?_⟩
    have hn2 := s2 _ _ hn
    have g6 : (rs.map V.int)[6]? = some (.int (rs[6]'(by omega))) := by rw [List.getElem?_map, List.getElem?_eq_getElem (by omega)]; rfl
    have m0 := Int.emod_nonneg (rs[6]'(by omega)) (show (12 : Int) ≠ 0 by decide)
    have m1 := Int.emod_lt_of_pos (rs[6]'(by omega)) (show (0 : Int) < 12 by decide)
    obtain ⟨kk, hkk, hk1, hk12⟩ : ∃ kk : Nat, ((1 : Int) + rs[6]'(by omega) % 12) = (kk : Int) ∧ 1 ≤ kk ∧ kk ≤ 12 := by
      obtain ⟨j, hj⟩ := Int.eq_ofNat_of_zero_le m0
      exact ⟨1 + j, by rw [hj]; omega, by omega, by omega⟩
    refine ⟨_, rfl, (by show 0 ≤ sizeLine; decide), fun e0 he0 => ?_⟩
    obtain ⟨d3, s3, g3⟩ := d2.new he0 (.lst [])
    have hn3 := (same_new he0 (.lst [])) _ _ hn2
    refine ⟨_, rfl, pn, _, 6, _, rfl, rfl, SqL.of hn3, atI_nat (j := 6) g6, .inl ⟨_, rfl, _, _, rfl, rfl, (by show (0 : Int) < 12; decide), _, _, rfl, rfl, ?_⟩⟩
    have hN1 : N ≠ [] := fun z => by rw [z] at h30; cases h30
    refine ⟨D, N, 0, e0, [], [], 0, kk, by rw [← hkk], by decide, d3, g3, .nil, ⟨hnd, hnm, (fun p hp => by cases hp), (fun p hp => by cases hp), by simp [h30], Nat.zero_le 1⟩, hk12, fun r xs x bs H4 N' c' S4 d4 h4 a4 dr => ?_⟩
    obtain ⟨hsh, hw30, hnn⟩ := drawn_shape hk12 (by omega) (by omega) hN1 hnd dr
    have hr4 := neu_le _ _ h4
    have hx4 := a4.same neu_le
    have nu : ∀ G : Hp, D.hid G pn = G pn := fun G => by
      unfold Dr4.hid
      rw [← eu, if_neg]
      intro h
      rcases h with h | h | h
      · exact d3.d4 h
      · exact d3.d5 h
      · exact d3.d6 h
    have hn4 := hid_le _ _ (S4 _ _ (by rw [nu]; exact hn3))
    clear a4 h4 S4 d4 s3 g3 hn3 d2 hn2
    obtain ⟨l, el, _⟩ := dr.lens (fun _ => none) (fun z p h => by cases h) (fun p hp => by cases hp)
    have okx := dr.ok
    have tx := dr.tame
    have xl12 : x.len ≤ 12 := Nat.le_trans dr.len hk12
    have fx := Its.fine_of x _ l (fun z p h => by cases h) tx el
    have hx := Its.hds_of x _ l 0 (fun z p h => by cases h) okx el
    have wl : (x.walk 0).length = x.flat.length := by rw [← Its.walk_flat x 0, List.length_map]
    have lx := Its.lines_num x 0 okx
    have lwl : x.lw.length = x.lines.length := by rw [Its.lw_lines, List.length_map]
    have txl := text_len (Its.lines_len x fx) (by omega)
    have xle : x.lines.length ≤ 600 := by omega
    have xne : x.lw ≠ [] := lw_ne7 hsh
    clear dr
    have run0 := Its.runs x 0 ⟨[], .nil⟩ hx okx rfl trivial
    rw [adds_out] at run0
    have rok := run_ok run0
    have spk : SpOk x.lw := ⟨by omega, fun ws hw => (rok ws hw).2⟩
    have tx5 : TxOk x := ⟨hx, hsh, tx, by omega, by omega, Its.lines_len x fx⟩
    refine ⟨_, rfl, H4, r, x, xs, 0, rfl, by decide, Its.lev_of x 0 okx, Same.refl _, .inr ⟨rfl, hr4⟩, hx4, fx, by omega, fun r5 H5 s5 h50 h5 => ?_⟩
    have hr5 := s5 _ _ hr4
    have hx5 := hx4.same s5
    have hn5 := s5 _ _ hn4
    clear h50 s5 hr4 hx4 hn4
    refine ⟨_, rfl, r5, x.lines, rfl, h5, .inl ⟨x, rfl, tx5, fun H6 s6 => ?_⟩⟩
    refine ⟨rfl, _, rfl, iteF ?_⟩
    have h56 := s6 _ _ h5
    have g0 : ∀ (j : Nat) (hj : j < 160), (rs.map V.int)[j]? = some (.int (rs[j]'(by omega))) := fun j hj => by rw [List.getElem?_map, List.getElem?_eq_getElem (by omega)]; rfl
    have nb : ∀ (j : Nat) (hj : j < 160), 0 ≤ rs[j]'(by omega) ∧ rs[j]'(by omega) < 1009 := fun j hj => hnb _ (List.getElem_mem _)
    have hn6 := s6 _ _ hn5
    have lpos : 0 < x.lines.length := by rw [← lwl]; exact List.length_pos_iff.mpr xne
    refine ⟨_, rfl, pn, _, 150, _, rfl, rfl, SqL.of hn6, atI_nat (j := 150) (g0 150 (by omega)), .inl ⟨_, rfl, _, _, rfl, rfl, (by show (0 : Int) < 20; decide), ?_⟩⟩
    refine ⟨_, rfl, pn, _, 151, _, rfl, rfl, SqL.of hn6, atI_nat (j := 151) (g0 151 (by omega)), .inl ⟨_, rfl, _, rfl, _, _, rfl, .inl ⟨_, SqL.of h56, rfl⟩, _, _, rfl, rfl, (by show (0 : Int) < ((x.lines.map V.str).length : Int); rw [List.length_map]; omega), ?_⟩⟩
    have hlen : (x.lines.map V.str).length = x.lw.length := by rw [List.length_map, lwl]
    have m2 := Int.emod_nonneg (rs[151]'(by omega)) (show (x.lw.length : Int) ≠ 0 by omega)
    have m3 := Int.emod_lt_of_pos (rs[151]'(by omega)) (show (0 : Int) < x.lw.length by omega)
    show gName 6 (V.int ((rs[151]'(by omega)) % ((x.lines.map V.str).length : Int))) _ _ _
    rw [hlen]
    obtain ⟨i, hi⟩ := Int.eq_ofNat_of_zero_le m2
    rw [hi] at m3 ⊢
    have hi5 : i < x.lw.length := by omega
    have eL : x.lines.map V.str = x.lw.map gL := by rw [Its.lw_lines, List.map_map]; rfl
    have h5l : H5 r5 = some (.lst (x.lw.map gL)) := by rw [← eL]; exact h5
    have h6l := s6 _ _ h5l
    have nb2 := nb 152 (by omega)
    refine ⟨_, rfl, _, rfl, _, rfl, _, _, rfl, SqL.of h6l, fun p1 hp1 => ?_⟩
    rw [cut_fr (Nat.le_of_lt hi5)]
    have sp1 := same_new hp1 (.lst ((x.lw.take i).map gL))
    have hp1' : (upd H6 p1 (.lst ((x.lw.take i).map gL))) p1 = some (.lst ((x.lw.take i).map gL)) := upd_same
    have S7 := s6.trans sp1
    generalize upd H6 p1 (.lst ((x.lw.take i).map gL)) = H7 at S7 hp1' ⊢
    refine ⟨_, rfl, _, rfl, _, _, _, gL x.lw[i], rfl, rfl, SqL.of (S7 _ _ h5l), atI_nat (j := i) (by rw [List.getElem?_map, List.getElem?_eq_getElem hi5]; rfl), _, rfl, _, rfl, pn, _, 152, _, rfl, rfl, SqL.of (S7 _ _ hn5), atI_nat (j := 152) (g0 152 (by omega)), .inl ⟨_, rfl, x.lw[i], _, _, rfl, (rok _ (List.getElem_mem hi5)).1, fun z hz => (((rok _ (List.getElem_mem hi5)).2.2.2) z hz).1, nb2.1, by omega, fun ws' H8 s8 od => ⟨by show 1 ≤ sizeLine; decide, fun p2 hp2 => ?_⟩⟩⟩
    have sp2 := same_new hp2 (.lst [gL ws'])
    have hp2' : (upd H8 p2 (.lst [gL ws'])) p2 = some (.lst [gL ws']) := upd_same
    have S9 := S7.trans (s8.trans sp2)
    have hp1'' := sp2 _ _ (s8 _ _ hp1')
    refine ⟨p1, p2, _, _, rfl, rfl, hp1'', hp2', le_line (by simp; omega), fun p3 hp3 => ?_⟩
    have sp3 := same_new hp3 (.lst ((x.lw.take i).map gL ++ [gL ws']))
    have hp3' : (upd (upd H8 p2 (.lst [gL ws'])) p3 (.lst ((x.lw.take i).map gL ++ [gL ws']))) p3 = some (.lst ((x.lw.take i).map gL ++ [gL ws'])) := upd_same
    have Sa := S9.trans sp3
    generalize upd (upd H8 p2 (.lst [gL ws'])) p3 (.lst ((x.lw.take i).map gL ++ [gL ws'])) = Ha at Sa hp3' ⊢
    refine ⟨_, rfl, _, rfl, _, _, rfl, rfl, _, rfl, _, _, rfl, SqL.of (Sa _ _ h5l), fun p4 hp4 => ?_⟩
    rw [show ((i : Int) + 1) = ((i + 1 : Nat) : Int) from rfl, cut_to hi5]
    have sp4 := same_new hp4 (.lst ((x.lw.drop (i + 1)).map gL))
    have hp4' : (upd Ha p4 (.lst ((x.lw.drop (i + 1)).map gL))) p4 = some (.lst ((x.lw.drop (i + 1)).map gL)) := upd_same
    have Sb := Sa.trans sp4
    refine ⟨p3, p4, _, _, rfl, rfl, sp4 _ _ hp3', hp4', le_line (by simp; omega), fun p5 hp5 => ?_⟩
    have sp5 := same_new hp5 (.lst (((x.lw.take i).map gL ++ [gL ws']) ++ (x.lw.drop (i + 1)).map gL))
    have hp5' : (upd (upd Ha p4 (.lst ((x.lw.drop (i + 1)).map gL))) p5 (.lst (((x.lw.take i).map gL ++ [gL ws']) ++ (x.lw.drop (i + 1)).map gL))) p5 = some (.lst (((x.lw.take i).map gL ++ [gL ws']) ++ (x.lw.drop (i + 1)).map gL)) := upd_same
    have Sc := Sb.trans sp5
    generalize upd (upd Ha p4 (.lst ((x.lw.drop (i + 1)).map gL))) p5 (.lst (((x.lw.take i).map gL ++ [gL ws']) ++ (x.lw.drop (i + 1)).map gL)) = Hc at Sc hp5' ⊢
    clear sp1 sp2 sp3 sp4 sp5 hp1 hp2 hp3 hp4 hp5 hp1' hp2' hp1'' hp3' hp4' S7 S9 Sa Sb s8
    refine ⟨_, rfl, _, _, rfl, rfl, ?_⟩
    refine ⟨_, rfl, _, _, rfl, rfl, _, rfl, ite2 (fun _ => ?_) (fun _ => ?_)⟩
    · refine ⟨_, rfl, _, rfl, _, _, rfl, rfl, _, rfl, pn, _, 152, _, rfl, rfl, SqL.of (Sc _ _ hn5), atI_nat (j := 152) (g0 152 (by omega)), .inl ⟨_, rfl, r5, x.lw, _, _, _, rfl, Sc _ _ h5l, spk, run0, nb2.1, fun t pb lws' m H8 s8 ht hpb lo bt => ?_⟩⟩
      have S8 := Sc.trans s8
      refine ⟨t, _, rfl, SqT.of ht, rfl, _, _, rfl, _, _, rfl, rfl, ?_⟩
      refine ⟨_, rfl, pb, lws'.map wd, rfl, by rw [List.map_map]; exact hpb, .inr ⟨lws', m, rfl, lo, bt, fun H9 s9 => ?_⟩⟩
      refine ⟨_, rfl, rfl, _, rfl, ne_go (by omega) ?_⟩
      refine ⟨_, rfl, pb, lws'.map wd, rfl, by rw [List.map_map]; exact s9 _ _ hpb, .inr ⟨lws', m, rfl, lo, bt, fun Ha sa => ?_⟩⟩
      refine ⟨_, rfl, rfl, _, rfl, ne_go (by omega) ?_⟩
      refine ⟨by show 1 ≤ sizeLine; decide, fun pe hpe => ?_⟩
      have sb := same_new hpe (.lst [.str ""])
      refine ⟨pe, [""], rfl, upd_same, .inr ⟨[[""]], 1, by decide +kernel, lo_empty, bt_empty, fun Hc sc => ?_⟩⟩
      refine ⟨rfl, _, rfl, iteF ?_⟩
      have Sc := S8.trans (s9.trans (sa.trans (sb.trans sc)))
      refine ⟨_, rfl, r5, x.lines, rfl, Sc _ _ h5, .inl ⟨x, rfl, tx5, fun Hd sd => ?_⟩⟩
      refine ⟨rfl, _, rfl, iteT ?_⟩
      have Sd := Sc.trans sd
      refine ⟨⟨_, rfl⟩, _, rfl, _, r5, x.lines, rfl, rfl, .inl (SqL.of (Sd _ _ h5)), lines_sum (Its.lines_len x fx) (by omega), ?_⟩
      refine .inl ⟨x, rfl, hx, hsh, tx, by omega, by omega, txl, fun o4 dx4 fs4 H13 s13 ho13 sf13 => ?_⟩
      obtain ⟨p13, ys13, k13, j13, a13⟩ := sf13.parts
      have S13 := Sd.trans s13
      refine ⟨o4, CS, dx4, fs4, _, rfl, ho13, T.cl, T.n1, k13, ?_⟩
      refine ⟨_, rfl, H13, r, x, xs, 0, rfl, by decide, okx, xl12, Same.refl _, .inr ⟨rfl, S13 _ _ hr5⟩, hx5.same S13, fun r14 zs4 H14 s14 h14 a14 => ?_⟩
      refine ⟨.tuple x.data, .tuple x.data, .tup (SqT.of (s14 _ _ j13)) (Its.dp (a13.same s14)), .tup (SqT.of h14) (Its.dp a14), shaped_data okx el, shaped_data okx el, ?_⟩
      rw [eqv_data okx el]
      exact q _
    · obtain ⟨s0, hs0⟩ := (show Runs _ (x.lw.take i ++ x.lw.drop i) _ by rw [List.take_append_drop]; exact run0).pre
      have bt : BadT ((x.lw.take i ++ [ws']) ++ x.lw.drop (i + 1)) (i + 1) := ⟨x.lw.take i, ws' :: x.lw.drop (i + 1), s0, by simp, hs0, by rw [List.length_take]; omega, .inr ⟨ws', _, rfl, .inl od.nf⟩⟩
      have lo : LwOk ((x.lw.take i ++ [ws']) ++ x.lw.drop (i + 1)) := lw_one spk od
      have hpb : LinesAt Hc p5 ((x.lw.take i ++ [ws']) ++ x.lw.drop (i + 1)) := by
        unfold LinesAt
        rw [List.map_append, List.map_append]
        exact hp5'
      have S8 := Sc
      obtain ⟨pb, epb⟩ : ∃ pb, p5 = pb := ⟨_, rfl⟩
      obtain ⟨lws', el'⟩ : ∃ lws', (x.lw.take i ++ [ws']) ++ x.lw.drop (i + 1) = lws' := ⟨_, rfl⟩
      rw [el'] at bt lo hpb
      rw [epb] at hpb ⊢
      obtain ⟨m, em⟩ : ∃ m, i + 1 = m := ⟨_, rfl⟩
      rw [em] at bt
      refine ⟨_, rfl, pb, lws'.map wd, rfl, by rw [List.map_map]; exact hpb, .inr ⟨lws', m, rfl, lo, bt, fun H9 s9 => ?_⟩⟩
      refine ⟨_, rfl, rfl, _, rfl, ne_go (by omega) ?_⟩
      refine ⟨_, rfl, pb, lws'.map wd, rfl, by rw [List.map_map]; exact s9 _ _ hpb, .inr ⟨lws', m, rfl, lo, bt, fun Ha sa => ?_⟩⟩
      refine ⟨_, rfl, rfl, _, rfl, ne_go (by omega) ?_⟩
      refine ⟨by show 1 ≤ sizeLine; decide, fun pe hpe => ?_⟩
      have sb := same_new hpe (.lst [.str ""])
      refine ⟨pe, [""], rfl, upd_same, .inr ⟨[[""]], 1, by decide +kernel, lo_empty, bt_empty, fun Hc sc => ?_⟩⟩
      refine ⟨rfl, _, rfl, iteF ?_⟩
      have Sc := S8.trans (s9.trans (sa.trans (sb.trans sc)))
      refine ⟨_, rfl, r5, x.lines, rfl, Sc _ _ h5, .inl ⟨x, rfl, tx5, fun Hd sd => ?_⟩⟩
      refine ⟨rfl, _, rfl, iteT ?_⟩
      have Sd := Sc.trans sd
      refine ⟨⟨_, rfl⟩, _, rfl, _, r5, x.lines, rfl, rfl, .inl (SqL.of (Sd _ _ h5)), lines_sum (Its.lines_len x fx) (by omega), ?_⟩
      refine .inl ⟨x, rfl, hx, hsh, tx, by omega, by omega, txl, fun o4 dx4 fs4 H13 s13 ho13 sf13 => ?_⟩
      obtain ⟨p13, ys13, k13, j13, a13⟩ := sf13.parts
      have S13 := Sd.trans s13
      refine ⟨o4, CS, dx4, fs4, _, rfl, ho13, T.cl, T.n1, k13, ?_⟩
      refine ⟨_, rfl, H13, r, x, xs, 0, rfl, by decide, okx, xl12, Same.refl _, .inr ⟨rfl, S13 _ _ hr5⟩, hx5.same S13, fun r14 zs4 H14 s14 h14 a14 => ?_⟩
      refine ⟨.tuple x.data, .tuple x.data, .tup (SqT.of (s14 _ _ j13)) (Its.dp (a13.same s14)), .tup (SqT.of h14) (Its.dp a14), shaped_data okx el, shaped_data okx el, ?_⟩
      rw [eqv_data okx el]
      exact q _
end
end Bs

set_option Elab.async false
set_option linter.all false
set_option maxRecDepth 100000
set_option maxHeartbeats 4000000
namespace Bs
open PySem L2
theorem note_binds {K : PySem.W.Frag} {cc c : Addr} {kV doc pm ctv : Value} {an : Option Addr} : Binds K (PySem.W.fnX "__init__" "InvalidNotation.__init__" (defArgs sNote) (defBody sNote) (defScope sNote) [(("__class__" : Str), cc)] .none kV doc pm an (.ref c) ctv) ["self", "line"] [] := fun s us _ hl => by
  rw [List.append_nil] at hl ⊢
  match us, hl with
  | [a, b], _ =>
    intro M A E Q q
    rw [show bindArgs (PySem.W.fnX "__init__" "InvalidNotation.__init__" (defArgs sNote) (defBody sNote) (defScope sNote) [(("__class__" : Str), cc)] .none kV doc pm an (.ref c) ctv) { pos := [a, b] } = pure ((["self", "line"] : List Str).zip [a, b]) from rfl]
    exact wpAny_pure q
def tupAtB (K : PySem.W.Frag) (a : Addr) (vs : List He.Dv) : Bool := match List.lookup a K with
  | some { cls := Value.type c, dict := _, data := Data.seq its _, slots := _ } => decide (c = "tuple") && (decide (its.size ≤ sizeLine) && He.relAll (List.map (He.Dv.v K) vs) its.toList)
  | _ => false
theorem tupAtB_ok {K : PySem.W.Frag} {a : Addr} {vs : List He.Dv} (h : tupAtB K a vs = true) (H : Hp) : SqT K H a (vs.map (He.Dv.v K)) := by
  unfold tupAtB at h
  split at h
  · rename_i c d its e sl hk
    simp only [Bool.and_eq_true] at h
    obtain ⟨h1, h2, h3⟩ := h
    have h1 := of_decide_eq_true h1
    subst h1
    exact .inr ⟨_, its, e, hk, rfl, rfl, of_decide_eq_true h2, He.relAll_ok h3⟩
  · cases h
def formTab : List (Str × List Str) := [("number", ["name", "integer", "order", "integer", "integer"]), ("bytes", ["name", "amount"]), ("text", ["name", "integer", "integer"]), ("repeat", ["name", "amount"]), ("either", ["name"]), ("switch", ["name", "name"]), ("check", ["name", "integer"]), ("pad", ["name", "integer", "integer"]), ("choice", []), ("case", ["integer"]), ("end", [])]
theorem form_tab {z : Str} {fs : List Str} (h : formOf z = some fs) : (z, fs) ∈ formTab := by
  unfold formOf at h
  repeat' split at h
  all_goals first | (cases h; done) | (cases h; subst_vars; simp [formTab])
def formsB (K : PySem.W.Frag) : Bool := formTab.all fun p => match PySem.W.nsIn K (He.ga K "FORMS") p.1 with
  | some (some (.ref a)) => tupAtB K a (p.2.map He.Dv.str)
  | _ => false
theorem forms_ok {K : PySem.W.Frag} (h : formsB K = true) {z : Str} {fs : List Str} (e : formOf z = some fs) : ∃ a, PySem.W.nsIn K (He.ga K "FORMS") z = some (some (.ref a)) ∧ ∀ H, SqT K H a (fs.map V.str) := by
  have := List.all_eq_true.mp h _ (form_tab e)
  dsimp only at this
  split at this
  · rename_i a ha
    refine ⟨a, ha, fun H => ?_⟩
    have k := tupAtB_ok this H
    rw [List.map_map] at k
    exact k
  · cases this
def begsB (K : PySem.W.Frag) : Bool := He.valsB K (He.ga K "BEGINNERS") [("choice", .str "either"), ("case", .str "switch")] && (["number", "bytes", "text", "repeat", "either", "switch", "check", "pad"].all fun z => He.eqO (PySem.W.nsIn K (He.ga K "BEGINNERS") (Str.ofString z)) (some none))
theorem begs_ok {K : PySem.W.Frag} (h : begsB K = true) : (∃ t, PySem.W.nsIn K (He.ga K "BEGINNERS") "choice" = some (some (.str "either" t))) ∧ (∃ t, PySem.W.nsIn K (He.ga K "BEGINNERS") "case" = some (some (.str "switch" t))) ∧ ∀ x : It, PySem.W.nsIn K (He.ga K "BEGINNERS") x.kind = some none := by
  obtain ⟨h1, h2⟩ := He.ba h
  refine ⟨?_, ?_, fun x => ?_⟩
  · obtain ⟨u, e, r⟩ := He.valsB_ok h1 (.head _)
    obtain ⟨t, rfl⟩ := (show ∃ t, u = Value.str "either" t from r)
    exact ⟨t, e⟩
  · obtain ⟨u, e, r⟩ := He.valsB_ok h1 (.tail _ (.head _))
    obtain ⟨t, rfl⟩ := (show ∃ t, u = Value.str "switch" t from r)
    exact ⟨t, e⟩
  · have k : ∀ z : String, z ∈ ["number", "bytes", "text", "repeat", "either", "switch", "check", "pad"] → PySem.W.nsIn K (He.ga K "BEGINNERS") (Str.ofString z) = some none := fun z hz => He.eqO_ok (List.all_eq_true.mp h2 z hz)
    cases x with
    | num => exact k "number" (by simp)
    | byt => exact k "bytes" (by simp)
    | txt => exact k "text" (by simp)
    | rep => exact k "repeat" (by simp)
    | eit => exact k "either" (by simp)
    | swi => exact k "switch" (by simp)
    | chk => exact k "check" (by simp)
    | pad => exact k "pad" (by simp)
theorem fn_or {P : Program} {w : World} {K : PySem.W.Frag} {mg : Str → Option Value} {base : Heap} {CX : CXT} {k : Nat} {f : Addr} {fd : FuncData} {ps : List Str} {sp sq : Sp} (F : FnOk P w K mg base CX k f fd ps sp) (G : FnOk P w K mg base CX k f fd ps sq) : FnOk P w K mg base CX k f fd ps (fun vs H Q E => sp vs H Q E ∨ sq vs H Q E) :=
  ⟨fun vs H Q E h => h.elim (F.len vs H Q E) (G.len vs H Q E), fun A outer s H args us vs Q E hr he hb hv hs => hs.elim (F.run A outer s H args us vs Q E hr he hb hv) (G.run A outer s H args us vs Q E hr he hb hv)⟩
def oddB (K : PySem.W.Frag) : Bool := oddHeads.all fun z => He.eqO (PySem.W.nsIn K (He.ga K "FORMS") z) (some none)
theorem odd_ok {K : PySem.W.Frag} (h : oddB K = true) : ∀ z ∈ oddHeads, PySem.W.nsIn K (He.ga K "FORMS") z = some none := fun z hz => He.eqO_ok (List.all_eq_true.mp h z hz)
end Bs

set_option Elab.async false
set_option linter.all false
set_option maxRecDepth 100000
set_option maxHeartbeats 0
namespace Bs
open PySem L2
/-! ### the head: what the top leaves -/
def gDef (x : Str) (i : Nat) : He.DefD := ⟨(x, none), x, x, defArgs (top i), defBody (top i), defScope (top i), [], []⟩
def dInit : He.DefD := ⟨("Shape", some "__init__"), "__init__", "Shape.__init__", defArgs sInit, defBody sInit, defScope sInit, [], []⟩
def dOpInit : He.DefD := ⟨("Opened", some "__init__"), "__init__", "Opened.__init__", defArgs sOpInit, defBody sOpInit, defScope sOpInit, [], []⟩
def dWhole : He.DefD := ⟨("Opened", some "whole"), "whole", "Opened.whole", defArgs sWhole, defBody sWhole, defScope sWhole, [], []⟩
def dBuInit : He.DefD := ⟨("Builder", some "__init__"), "__init__", "Builder.__init__", defArgs sBuInit, defBody sBuInit, defScope sBuInit, [], []⟩
def dTake : He.DefD := ⟨("Builder", some "take"), "take", "Builder.take", defArgs sTake, defBody sTake, defScope sTake, [], []⟩
def dClose : He.DefD := ⟨("Builder", some "_close"), "_close", "Builder._close", defArgs sClose, defBody sClose, defScope sClose, [], []⟩
def dBegB : He.DefD := ⟨("Builder", some "_begin_block"), "_begin_block", "Builder._begin_block", defArgs sBegB, defBody sBegB, defScope sBegB, [], []⟩
def fns : List He.DefD := [gDef "blocks_of" 7, gDef "listed" 8, gDef "is_integer" 16, gDef "require" 17, gDef "amount_bounds" 18, gDef "number_lengths" 19, gDef "bytes_lengths" 20, gDef "text_lengths" 21, gDef "repeat_lengths" 22, gDef "either_lengths" 23, gDef "switch_lengths" 24, gDef "check_lengths" 25, gDef "pad_lengths" 26,
  gDef "list_lengths" 28, gDef "is_name" 38, gDef "is_row" 39, gDef "copied_list" 40, gDef "copied_item" 41, gDef "copied_choices" 42, gDef "copied_cases" 43, gDef "_law_row" 58, gDef "_law_numbers" 59, gDef "_law_next" 60, gDef "law" 78, dInit, gDef "_law_begin" 61, gDef "_law_number" 62, gDef "_law_use" 63, gDef "_law_block" 64, gDef "_law_nested" 65, gDef "_law_item" 66, gDef "_law_items" 67, gDef "_law_frozen" 69, gDef "_law_lines" 71, gDef "_law_line" 72, gDef "_law_word" 73, gDef "_law_sorts" 74, gDef "_law_broken" 75, gDef "_law_close" 76, gDef "_law_order" 77, gDef "is_integer_word" 51, gDef "fits" 52, gDef "parts_of" 53, gDef "parse_shape" 56, dOpInit, dWhole, dBuInit, dTake, dClose, dBegB]
def fas : List He.Fa := [.glo "blocks_of", .glo "listed", .glo "is_integer", .glo "require", .glo "amount_bounds", .glo "number_lengths", .glo "bytes_lengths", .glo "text_lengths", .glo "repeat_lengths", .glo "either_lengths", .glo "switch_lengths", .glo "check_lengths", .glo "pad_lengths",
  .glo "list_lengths", .glo "is_name", .glo "is_row", .glo "copied_list", .glo "copied_item", .glo "copied_choices", .glo "copied_cases", .glo "_law_row", .glo "_law_numbers", .glo "_law_next", .glo "law",
  .glo "Shape", .glo "InvalidShape", .glo "ByteshapeError", .glo "PARTS", .glo "RULES", .glo "WITH_BLOCKS", .glo "MULTIPLES",
  .free "isinstance", .free "int", .free "bool", .free "str", .free "list", .free "tuple", .free "len", .free "all", .free "dict", .free "set", .free "min", .free "max", .free "range", .free "abs", .free "ValueError",
  .int "LONGEST_NAME" 12, .int "LONGEST_LIST" 12, .int "DEEPEST" 3, .int "MOST_ITEMS" 30, .int "GREATEST_BYTE" 255, .int "GREATEST_PAIR" 65535, .int "GREATEST_LENGTH" 64, .int "GREATEST_COUNT" 16, .int "GREATEST_MODULUS" 16,
  .str "LETTERS" letters, .str "DIGITS" digits, .cls "Shape", .noat "Shape" "parts", .noat "Shape" "_rows", .noat "Shape" "names", .noat "Shape" "_least", .noat "Shape" "_greatest", .noat "Shape" "_row_of", .mkr "Shape", .exc "InvalidShape", .exm "InvalidShape" "InvalidShape" true, .glo "_law_begin", .glo "_law_number", .glo "_law_use", .glo "_law_block", .glo "_law_nested", .glo "_law_item", .glo "_law_items", .glo "_law_frozen", .glo "_law_lines", .glo "_law_line", .glo "_law_word", .glo "_law_sorts", .glo "_law_broken", .glo "_law_close", .glo "_law_order", .glo "is_integer_word", .glo "fits", .glo "parts_of", .glo "parse_shape", .free "zip", .glo "OPENERS", .glo "FORMS", .glo "BEGINNERS", .glo "Opened", .glo "Builder", .glo "InvalidNotation", .cls "Opened", .noat "Opened" "head", .noat "Opened" "blocks", .noat "Opened" "cases", .cls "Builder", .noat "Builder" "outermost", .noat "Builder" "opened", .mkr "Opened", .mkr "Builder", .meth "Opened" "whole", .meth "Builder" "take", .meth "Builder" "_close", .meth "Builder" "_begin_block", .int "LONGEST_INTEGER" 9, .int "MOST_OPEN" 3, .free "enumerate", .free "super", .exm "InvalidNotation" "InvalidNotation" true]
def kinds : List (Str × He.Dv) := [("number", .int 6), ("bytes", .int 3), ("text", .int 4), ("repeat", .int 4), ("either", .int 3), ("switch", .int 4), ("check", .int 3), ("pad", .int 4)]
def rules : List (Str × He.Dv) := [("number", .glo "number_lengths"), ("bytes", .glo "bytes_lengths"), ("text", .glo "text_lengths"), ("repeat", .glo "repeat_lengths"), ("either", .glo "either_lengths"), ("switch", .glo "switch_lengths"), ("check", .glo "check_lengths"), ("pad", .glo "pad_lengths")]
def tbs : List He.Tab := [(fun K => He.ga K "PARTS", kinds.map (·.1)), (fun K => He.ga K "RULES", rules.map (·.1)), (fun K => He.ga K "FORMS", formTab.map (·.1)), (fun K => He.ga K "BEGINNERS", ["choice", "case"])]
def excB (K : PySem.W.Frag) (D : Addr) : Bool :=
  He.eqO (PySem.W.findIn K (.ref D) "__getattribute__") (some (some (.builtin "BaseException.__getattribute__"))) && (He.eqO (PySem.W.findIn K (.ref D) "__getattr__") (some none) && (decide (PySem.W.subIn K (.ref D) (.type "BaseException") = some true) && (PySem.W.hasDictIn K D &&
  (He.eqO (PySem.W.findIn K (.ref D) "__class__") (some (some (.builtin "object.__class__"))) && (He.eqO (PySem.W.specialIn K (.builtin "object.__class__") "__get__") (some (some (.builtin "getset_descriptor.__get__"))) && (decide (PySem.W.takesIn K (.builtin "object.__class__") = some true) && decide (PySem.W.mroIn K D (.type "object") = some true)))))))
def kitB2 (K : PySem.W.Frag) : Bool := decide (PySem.W.kitOne K (.ref (He.ga K "InvalidShape")) (.ref (He.ga K "ByteshapeError")) = some true) && decide (PySem.W.kitOne K (.ref (He.ga K "InvalidShape")) (.type "ValueError") = some true)
def exs (K : PySem.W.Frag) : Bool := He.tupB K "WITH_BLOCKS" [.str "repeat", .str "either", .str "switch"] && (He.tupB K "MULTIPLES" [.int 1, .int 2, .int 4, .int 8, .int 16] && (He.valsB K (He.ga K "PARTS") kinds && (He.valsB K (He.ga K "RULES") rules && (excB K (He.ga K "InvalidShape") && kitB2 K))))
def noteAt (K : PySem.W.Frag) : Addr := He.ma K (He.ga K "InvalidNotation") "__init__"
def noteV (K : PySem.W.Frag) : He.FnV := some ("__init__", "InvalidNotation.__init__", defArgs sNote, .stmts (defBody sNote), defScope sNote, mainGlobals, [(("__class__" : Str), Rj.ccOf K (noteAt K))], .none, builtinsNs)
def exs6 (file : Str) (K : PySem.W.Frag) : Bool := Rj.oexB K (He.ga K "InvalidNotation") && (Rj.codR K (noteAt K) && (decide (PySem.W.typeIn K (.ref (noteAt K)) = some (.type "function")) && (He.eqO (PySem.W.findIn K (.ref (He.ga K "InvalidNotation")) "__init__") (some (some (.ref (noteAt K)))) && (He.tupB K "OPENERS" [.str "repeat", .str "either", .str "switch"] && (formsB K && (begsB K && (decide (PySem.W.kitOne K (.ref (He.ga K "InvalidNotation")) (.ref (He.ga K "InvalidShape")) = some false) && (excB K (He.ga K "InvalidNotation") && (He.eqO (PySem.W.findIn K (.ref (He.ga K "InvalidNotation")) "line") (some none) && (PySem.W.codeIn K (.ref (Rj.cdOf K (noteAt K))) "InvalidNotation.__init__" && (Rj.supB file K (noteAt K) (He.ga K "InvalidNotation") && (decide (PySem.W.kitOne K (.ref (He.ga K "InvalidNotation")) (.ref (He.ga K "ByteshapeError")) = some true) && (decide (PySem.W.kitOne K (.ref (He.ga K "InvalidNotation")) (.type "ValueError") = some true) && (oddB K))))))))))))))
end Bs

set_option Elab.async false
set_option linter.all false
set_option maxRecDepth 100000
set_option maxHeartbeats 4000000
namespace Bs
open PySem L2
/-! ### all defs together -/
section
variable {P : Program} {w : World} {K : PySem.W.Frag} {mg : Str → Option Value} {h base : Heap} {C : Addr}
theorem fun_of {x q : Str} {st : Stmt} {f : Addr} {fd : FuncData} (F : FunD K x q (defArgs st) (defBody st) (defScope st) [] [] f fd) : Fun K x q st f fd := by
  obtain ⟨oc, od, dV, kV, doc, pm, an, cdv, ct, osl, rfl, lk, c, d, _⟩ := F.ex
  have e : dV = .none := d.elim (·.2) (fun z => absurd rfl z.1)
  subst e
  exact ⟨⟨oc, od, kV, doc, pm, an, cdv, ct, osl, rfl, lk, c⟩, F.kp⟩
theorem def_of (c : He.SaysT fas fns tbs w K) (j : Nat) {x : Str} {i : Nat} (e : fns[j]? = some (gDef x i)) : ∃ fd, Fun K x x (top i) (He.ga K x) fd := by
  obtain ⟨fd, F⟩ := c.d.def_ j (d := gDef x i) e
  exact ⟨fd, fun_of F⟩
theorem cal_of (X : K.In h) (G : h.Ns mainGlobals mg) (c : He.SaysT fas fns tbs w K) (j jg : Nat) {x : Str} {i : Nat} (e : fns[j]? = some (gDef x i)) (eg : fas[jg]? = some (.glo x)) {CX : CXT} {k : Nat} {ps : List Str} {sp : Sp}
    (bn : ∀ (f : Addr) (fd : FuncData), Fun K x x (top i) f fd → Binds K fd ps []) (ok : ∀ (f : Addr) (fd : FuncData), Fun K x x (top i) f fd → FnOk P w K mg base CX k f fd ps sp) : Cal P w K mg base CX k x ps sp := by
  obtain ⟨fd, F⟩ := def_of c j e
  exact ⟨_, fd, He.glo_ok X G (c.d.fact jg eg), F.kp, bn _ fd F, ok _ fd F⟩
theorem Cal.mono {CX : CXT} {j k : Nat} {x : Str} {ps : List Str} {sp : Sp} (g : Cal P w K mg base CX j x ps sp) (h : j ≤ k) : Cal P w K mg base CX k x ps sp := by
  obtain ⟨f, fd, h1, h2, h3, h4⟩ := g.ex
  exact ⟨f, fd, h1, h2, h3, h4.mono h⟩
theorem Cal.no {CX : CXT} {j k : Nat} {x : Str} {ps : List Str} {sp sq : Sp} (g : Cal P w K mg base CX j x ps sp) (no : ∀ vs H Q E, ¬ sq vs H Q E) : Cal P w K mg base CX k x ps sq := by
  obtain ⟨f, fd, h1, h2, h3, h4⟩ := g.ex
  exact ⟨f, fd, h1, h2, h3, ⟨fun _ _ _ _ z => (no _ _ _ _ z).elim, fun _ _ _ _ _ _ _ _ _ _ _ _ _ z => (no _ _ _ _ z).elim⟩⟩
theorem shpC (X : K.In h) (G : h.Ns mainGlobals mg) (c : He.SaysT fas fns tbs w K) (ex : exs K = true) : ShpC K mg (He.ga K "InvalidShape") := by
  obtain ⟨h1, h2, h3, h4⟩ := He.exc_ok (c.d.fact 65 (f := .exc "InvalidShape") rfl)
  exact ⟨(He.glo_ok X G (c.d.fact 25 (f := .glo "InvalidShape") rfl)), h2, h1, h3, h4⟩
theorem shapeC (X : K.In h) (G : h.Ns mainGlobals mg) (c : He.SaysT fas fns tbs w K) (ex : exs K = true) : ShapeC K (He.ga K "Shape") := ⟨He.cls_ok (c.d.fact 57 (f := .cls "Shape") rfl), He.noat_ok (c.d.fact 58 (f := .noat "Shape" "parts") rfl), He.noat_ok (c.d.fact 59 (f := .noat "Shape" "_rows") rfl), He.noat_ok (c.d.fact 60 (f := .noat "Shape" "names") rfl), He.noat_ok (c.d.fact 61 (f := .noat "Shape" "_least") rfl), He.noat_ok (c.d.fact 62 (f := .noat "Shape" "_greatest") rfl), He.noat_ok (c.d.fact 63 (f := .noat "Shape" "_row_of") rfl)⟩
theorem ex_all (ex : exs K = true) : He.tupB K "WITH_BLOCKS" [.str "repeat", .str "either", .str "switch"] = true ∧ He.tupB K "MULTIPLES" [.int 1, .int 2, .int 4, .int 8, .int 16] = true ∧ He.valsB K (He.ga K "PARTS") kinds = true ∧ He.valsB K (He.ga K "RULES") rules = true ∧ excB K (He.ga K "InvalidShape") = true ∧ kitB2 K = true := by
  obtain ⟨h1, ex⟩ := He.ba ex
  obtain ⟨h2, ex⟩ := He.ba ex
  obtain ⟨h3, ex⟩ := He.ba ex
  obtain ⟨h4, ex⟩ := He.ba ex
  obtain ⟨h5, h6⟩ := He.ba ex
  exact ⟨h1, h2, h3, h4, h5, h6⟩
theorem excC_of {D : Addr} (e : excB K D = true) : ExcC K D := by
  obtain ⟨h1, e⟩ := He.ba e
  obtain ⟨h2, e⟩ := He.ba e
  obtain ⟨h3, e⟩ := He.ba e
  obtain ⟨h4, e⟩ := He.ba e
  obtain ⟨h5, e⟩ := He.ba e
  obtain ⟨h6, e⟩ := He.ba e
  obtain ⟨h7, h8⟩ := He.ba e
  exact ⟨He.eqO_ok h1, He.eqO_ok h2, of_decide_eq_true h3, h4, He.eqO_ok h5, He.eqO_ok h6, of_decide_eq_true h7, of_decide_eq_true h8⟩
theorem kindsC (X : K.In h) (G : h.Ns mainGlobals mg) (c : He.SaysT fas fns tbs w K) (ex : exs K = true) : Kinds K w mg := by
  obtain ⟨h1, h2, h3, h4, h5, h6⟩ := ex_all ex
  refine ⟨?_, ⟨_, (He.glo_ok X G (c.d.fact 29 (f := .glo "WITH_BLOCKS") rfl)), fun H => He.tupB_ok h1 H⟩⟩
  obtain ⟨es, n, D⟩ := c.tab 0 (t := (fun K => He.ga K "PARTS", kinds.map (·.1))) rfl
  refine ⟨_, es, n, (He.glo_ok X G (c.d.fact 27 (f := .glo "PARTS") rfl)), D, fun x => ?_⟩
  have f : ∀ (z : Str) (i : Int), (z, He.Dv.int i) ∈ kinds → ∃ t, PySem.W.nsIn K (He.ga K "PARTS") z = some (some (.int i t)) := fun z i hz => by
    obtain ⟨u, e, r⟩ := He.valsB_ok h3 hz
    obtain ⟨t, rfl⟩ := (show ∃ t, u = Value.int i t from r)
    exact ⟨t, e⟩
  cases x with
  | num => exact f "number" 6 (.head _)
  | byt => exact f "bytes" 3 (.tail _ (.head _))
  | txt => exact f "text" 4 (.tail _ (.tail _ (.head _)))
  | rep => exact f "repeat" 4 (.tail _ (.tail _ (.tail _ (.head _))))
  | eit => exact f "either" 3 (.tail _ (.tail _ (.tail _ (.tail _ (.head _)))))
  | swi => exact f "switch" 4 (.tail _ (.tail _ (.tail _ (.tail _ (.tail _ (.head _))))))
  | chk => exact f "check" 3 (.tail _ (.tail _ (.tail _ (.tail _ (.tail _ (.tail _ (.head _)))))))
  | pad => exact f "pad" 4 (.tail _ (.tail _ (.tail _ (.tail _ (.tail _ (.tail _ (.tail _ (.head _))))))))
theorem multsC (X : K.In h) (G : h.Ns mainGlobals mg) (c : He.SaysT fas fns tbs w K) (ex : exs K = true) : Mults K mg := ⟨_, (He.glo_ok X G (c.d.fact 30 (f := .glo "MULTIPLES") rfl)), fun H => He.tupB_ok (ex_all ex).2.1 H⟩
theorem cRequire (X : K.In h) (G : h.Ns mainGlobals mg) (c : He.SaysT fas fns tbs w K) (ex : exs K = true) : Cal P w K mg base (L2.CX P w) 1 "require" ["holds", "words"] (spRequire (He.ga K "InvalidShape")) := cal_of X G c 3 3 (i := 17) rfl rfl (fun _ _ F => F.binds fun _ _ _ _ _ _ us hl => match us, hl with | [_, _], _ => rfl) fun _ _ F => ok_require F (shpC X G c ex)
theorem cIsInt (X : K.In h) (G : h.Ns mainGlobals mg) (c : He.SaysT fas fns tbs w K) (ex : exs K = true) : Cal P w K mg base CX0 1 "is_integer" ["value", "low", "high"] spIsInt := cal_of X G c 2 2 (i := 16) rfl rfl (fun _ _ F => F.binds fun _ _ _ _ _ _ us hl => match us, hl with | [_, _, _], _ => rfl) fun _ _ F => ok_isint F (He.free_ok X G (c.d.fact 31 (f := .free "isinstance") rfl)) (He.free_ok X G (c.d.fact 32 (f := .free "int") rfl)) (He.free_ok X G (c.d.fact 33 (f := .free "bool") rfl))
theorem cIsName (X : K.In h) (G : h.Ns mainGlobals mg) (c : He.SaysT fas fns tbs w K) (ex : exs K = true) : Cal P w K mg base CX0 1 "is_name" ["text"] spIsName := cal_of X G c 14 14 (i := 38) rfl rfl (fun _ _ F => F.binds fun _ _ _ _ _ _ us hl => match us, hl with | [_], _ => rfl) fun _ _ F => ok_isname F (He.free_ok X G (c.d.fact 31 (f := .free "isinstance") rfl)) (He.free_ok X G (c.d.fact 34 (f := .free "str") rfl)) (He.free_ok X G (c.d.fact 37 (f := .free "len") rfl)) (He.free_ok X G (c.d.fact 38 (f := .free "all") rfl)) (He.str_ok X G (c.d.fact 55 (f := .str "LETTERS" letters) rfl)) (He.str_ok X G (c.d.fact 56 (f := .str "DIGITS" digits) rfl)) (He.int_ok X G (c.d.fact 46 (f := .int "LONGEST_NAME" 12) rfl))
theorem cIsRow (X : K.In h) (G : h.Ns mainGlobals mg) (c : He.SaysT fas fns tbs w K) (ex : exs K = true) : Cal P w K mg base CX0 1 "is_row" ["rows", "least", "most"] spIsRow := cal_of X G c 15 15 (i := 39) rfl rfl (fun _ _ F => F.binds fun _ _ _ _ _ _ us hl => match us, hl with | [_, _, _], _ => rfl) fun _ _ F => ok_isrow F (He.free_ok X G (c.d.fact 31 (f := .free "isinstance") rfl)) (He.free_ok X G (c.d.fact 37 (f := .free "len") rfl)) (He.free_ok X G (c.d.fact 35 (f := .free "list") rfl)) (He.free_ok X G (c.d.fact 36 (f := .free "tuple") rfl))
theorem cAmount (X : K.In h) (G : h.Ns mainGlobals mg) (c : He.SaysT fas fns tbs w K) (ex : exs K = true) : Cal P w K mg base (L2.CX P w) 2 "amount_bounds" ["amount", "visible", "most"] (spAmount (He.ga K "InvalidShape")) := cal_of X G c 4 4 (i := 18) rfl rfl (fun _ _ F => F.binds fun _ _ _ _ _ _ us hl => match us, hl with | [_, _, _], _ => rfl) fun _ _ F => ok_amount F (cRequire X G c ex) (cIsInt X G c ex) (He.free_ok X G (c.d.fact 31 (f := .free "isinstance") rfl)) (He.free_ok X G (c.d.fact 34 (f := .free "str") rfl))
theorem rulesC (X : K.In h) (G : h.Ns mainGlobals mg) (c : He.SaysT fas fns tbs w K) (ex : exs K = true) {n k : Nat} (hk : 3 ≤ k) (gL : Cal P w K mg base (L2.CX P w) (k - 1) "list_lengths" ["items", "visible"] (spSub (spLensList (He.ga K "InvalidShape")) n)) : Rules P w K mg base (He.ga K "InvalidShape") k n := by
  obtain ⟨h1, h2, h3, h4, h5, h6⟩ := ex_all ex
  obtain ⟨es, nn, D⟩ := c.tab 1 (t := (fun K => He.ga K "RULES", rules.map (·.1))) rfl
  refine ⟨_, es, nn, (He.glo_ok X G (c.d.fact 28 (f := .glo "RULES") rfl)), D, fun x => ?_⟩
  have f : ∀ (z y : Str), (z, He.Dv.glo y) ∈ rules → PySem.W.nsIn K (He.ga K "RULES") z = some (some (.ref (He.ga K y))) := fun z y hz => by
    obtain ⟨u, e, r⟩ := He.valsB_ok h4 hz
    have e2 : u = Value.ref (He.ga K y) := r
    rw [e, e2]
  have g : ∀ (j i : Nat) (y : Str), fns[j]? = some (gDef y i) → (y, x.kind) = (y, x.kind) → (x.kind, He.Dv.glo y) ∈ rules → (∀ (f : Addr) (fd : FuncData), Fun K y y (top i) f fd → Binds K fd ["item", "visible"] []) → (∀ (f : Addr) (fd : FuncData), Fun K y y (top i) f fd → FnOk P w K mg base (L2.CX P w) k f fd ["item", "visible"] (spLens (He.ga K "InvalidShape") x.kind n)) →
      ∃ f fd, PySem.W.nsIn K (He.ga K "RULES") x.kind = some (some (.ref f)) ∧ PySem.W.keepIn K (.ref f) = true ∧ Binds K fd ["item", "visible"] [] ∧ FnOk P w K mg base (L2.CX P w) k f fd ["item", "visible"] (spLens (He.ga K "InvalidShape") x.kind n) := fun j i y e _ hz bn ok => by
    obtain ⟨fd, F⟩ := def_of c j e
    exact ⟨_, fd, f _ _ hz, F.kp, bn _ fd F, ok _ fd F⟩
  obtain ⟨k, rfl⟩ : ∃ m, k = m + 1 := ⟨k - 1, by omega⟩
  rw [Nat.add_sub_cancel] at gL
  have hk2 : 2 ≤ k := by omega
  cases x with
  | num => exact g 5 19 "number_lengths" rfl rfl (.head _) (fun _ _ F => F.binds fun _ _ _ _ _ _ us hl => match us, hl with | [_, _], _ => rfl) fun _ _ F => (ok_number F (cRequire X G c ex) (cIsInt X G c ex) (He.int_ok X G (c.d.fact 50 (f := .int "GREATEST_BYTE" 255) rfl)) (He.int_ok X G (c.d.fact 51 (f := .int "GREATEST_PAIR" 65535) rfl))).mono (by omega)
  | byt => exact g 6 20 "bytes_lengths" rfl rfl (.tail _ (.head _)) (fun _ _ F => F.binds fun _ _ _ _ _ _ us hl => match us, hl with | [_, _], _ => rfl) fun _ _ F => (ok_bytes F (cAmount X G c ex) (He.int_ok X G (c.d.fact 52 (f := .int "GREATEST_LENGTH" 64) rfl))).mono (by omega)
  | txt => exact g 7 21 "text_lengths" rfl rfl (.tail _ (.tail _ (.head _))) (fun _ _ F => F.binds fun _ _ _ _ _ _ us hl => match us, hl with | [_, _], _ => rfl) fun _ _ F => (ok_text F (cRequire X G c ex) (cIsInt X G c ex) (He.int_ok X G (c.d.fact 52 (f := .int "GREATEST_LENGTH" 64) rfl)) (He.int_ok X G (c.d.fact 50 (f := .int "GREATEST_BYTE" 255) rfl))).mono (by omega)
  | rep => exact g 8 22 "repeat_lengths" rfl rfl (.tail _ (.tail _ (.tail _ (.head _)))) (fun _ _ F => F.binds fun _ _ _ _ _ _ us hl => match us, hl with | [_, _], _ => rfl) fun _ _ F => ok_repeat hk2 F (cRequire X G c ex) (cAmount X G c ex) (He.int_ok X G (c.d.fact 53 (f := .int "GREATEST_COUNT" 16) rfl)) gL
  | eit => exact g 9 23 "either_lengths" rfl rfl (.tail _ (.tail _ (.tail _ (.tail _ (.head _))))) (fun _ _ F => F.binds fun _ _ _ _ _ _ us hl => match us, hl with | [_, _], _ => rfl) fun _ _ F => ok_either hk2 F (cRequire X G c ex) (He.free_ok X G (c.d.fact 37 (f := .free "len") rfl)) (He.free_ok X G (c.d.fact 41 (f := .free "min") rfl)) (He.free_ok X G (c.d.fact 42 (f := .free "max") rfl)) gL
  | swi => exact g 10 24 "switch_lengths" rfl rfl (.tail _ (.tail _ (.tail _ (.tail _ (.tail _ (.head _)))))) (fun _ _ F => F.binds fun _ _ _ _ _ _ us hl => match us, hl with | [_, _], _ => rfl) fun _ _ F => ok_switch hk2 F (cRequire X G c ex) (cIsInt X G c ex) (He.int_ok X G (c.d.fact 51 (f := .int "GREATEST_PAIR" 65535) rfl)) (He.free_ok X G (c.d.fact 37 (f := .free "len") rfl)) (He.free_ok X G (c.d.fact 41 (f := .free "min") rfl)) (He.free_ok X G (c.d.fact 42 (f := .free "max") rfl)) (He.free_ok X G (c.d.fact 40 (f := .free "set") rfl)) (He.free_ok X G (c.d.fact 31 (f := .free "isinstance") rfl)) (He.free_ok X G (c.d.fact 34 (f := .free "str") rfl)) gL
  | chk => exact g 11 25 "check_lengths" rfl rfl (.tail _ (.tail _ (.tail _ (.tail _ (.tail _ (.tail _ (.head _))))))) (fun _ _ F => F.binds fun _ _ _ _ _ _ us hl => match us, hl with | [_, _], _ => rfl) fun _ _ F => (ok_check F (cRequire X G c ex) (cIsInt X G c ex) (He.int_ok X G (c.d.fact 54 (f := .int "GREATEST_MODULUS" 16) rfl))).mono (by omega)
  | pad => exact g 12 26 "pad_lengths" rfl rfl (.tail _ (.tail _ (.tail _ (.tail _ (.tail _ (.tail _ (.tail _ (.head _)))))))) (fun _ _ F => F.binds fun _ _ _ _ _ _ us hl => match us, hl with | [_, _], _ => rfl) fun _ _ F => (ok_pad F (cRequire X G c ex) (cIsInt X G c ex) (He.int_ok X G (c.d.fact 50 (f := .int "GREATEST_BYTE" 255) rfl)) (multsC X G c ex)).mono (by omega)
theorem cLens (X : K.In h) (G : h.Ns mainGlobals mg) (c : He.SaysT fas fns tbs w K) (ex : exs K = true) : ∀ n : Nat, Cal P w K mg base (L2.CX P w) (4 + 2 * n) "list_lengths" ["items", "visible"] (spLensList (He.ga K "InvalidShape") n) := by
  have st : ∀ {n k : Nat}, 3 ≤ k → Cal P w K mg base (L2.CX P w) (k - 1) "list_lengths" ["items", "visible"] (spSub (spLensList (He.ga K "InvalidShape")) n) → Cal P w K mg base (L2.CX P w) (k + 1) "list_lengths" ["items", "visible"] (spLensList (He.ga K "InvalidShape") n) := fun hk gL =>
    cal_of X G c 13 13 (i := 28) rfl rfl (fun _ _ F => F.binds fun _ _ _ _ _ _ us hl => match us, hl with | [_, _], _ => rfl) fun _ _ F => ok_listlen F (He.free_ok X G (c.d.fact 39 (f := .free "dict") rfl)) (rulesC X G c ex hk gL)
  intro n
  induction n with
  | zero =>
    exact st (k := 3) (by decide) (cal_of X G c 13 13 (i := 28) rfl rfl (fun _ _ F => F.binds fun _ _ _ _ _ _ us hl => match us, hl with | [_, _], _ => rfl) fun _ _ F => ⟨fun _ _ _ _ z => (show False from z).elim, fun _ _ _ _ _ _ _ _ _ _ _ _ _ z => (show False from z).elim⟩)
  | succ n ih =>
    rw [show 4 + 2 * (n + 1) = 5 + 2 * n + 1 by omega]
    exact st (n := n + 1) (k := 5 + 2 * n) (by omega) (ih.mono (by omega))
theorem cCop (X : K.In h) (G : h.Ns mainGlobals mg) (c : He.SaysT fas fns tbs w K) (ex : exs K = true) : ∀ n : Nat, Cal P w K mg base (L2.CX P w) (3 + 3 * n) "copied_list" ["items", "depth"] (spCopList (He.ga K "InvalidShape") n) ∧ Cal P w K mg base (L2.CX P w) (4 + 3 * n) "copied_choices" ["choices", "depth"] (spCopChoices (He.ga K "InvalidShape") n) ∧ Cal P w K mg base (L2.CX P w) (4 + 3 * n) "copied_cases" ["cases", "depth"] (spCopCases (He.ga K "InvalidShape") n) := by
  have st : ∀ {n k : Nat}, 1 ≤ k → Cal P w K mg base (L2.CX P w) k "copied_list" ["items", "depth"] (spSub (spCopList (He.ga K "InvalidShape")) n) → Cal P w K mg base (L2.CX P w) k "copied_choices" ["choices", "depth"] (spSub (spCopChoices (He.ga K "InvalidShape")) n) → Cal P w K mg base (L2.CX P w) k "copied_cases" ["cases", "depth"] (spSub (spCopCases (He.ga K "InvalidShape")) n) →
      Cal P w K mg base (L2.CX P w) (k + 2) "copied_list" ["items", "depth"] (spCopList (He.ga K "InvalidShape") n) ∧ Cal P w K mg base (L2.CX P w) (k + 3) "copied_choices" ["choices", "depth"] (spCopChoices (He.ga K "InvalidShape") n) ∧ Cal P w K mg base (L2.CX P w) (k + 3) "copied_cases" ["cases", "depth"] (spCopCases (He.ga K "InvalidShape") n) := fun {n k} hk gL gCh gCa => by
    have gI : Cal P w K mg base (L2.CX P w) (k + 1) "copied_item" ["item", "depth"] (spCopItem (He.ga K "InvalidShape") n) := cal_of X G c 17 17 (i := 41) rfl rfl (fun _ _ F => F.binds fun _ _ _ _ _ _ us hl => match us, hl with | [_, _], _ => rfl) fun _ _ F => ok_copitem F hk (kindsC X G c ex) (cRequire X G c ex) (cIsName X G c ex) (He.free_ok X G (c.d.fact 36 (f := .free "tuple") rfl)) (He.free_ok X G (c.d.fact 31 (f := .free "isinstance") rfl)) (He.free_ok X G (c.d.fact 37 (f := .free "len") rfl)) (He.free_ok X G (c.d.fact 34 (f := .free "str") rfl)) (He.int_ok X G (c.d.fact 48 (f := .int "DEEPEST" 3) rfl)) gL gCh gCa
    have gL2 : Cal P w K mg base (L2.CX P w) (k + 2) "copied_list" ["items", "depth"] (spCopList (He.ga K "InvalidShape") n) := cal_of X G c 16 16 (i := 40) rfl rfl (fun _ _ F => F.binds fun _ _ _ _ _ _ us hl => match us, hl with | [_, _], _ => rfl) fun _ _ F => ok_coplist F (by omega) (cRequire X G c ex) (cIsRow X G c ex) (He.int_ok X G (c.d.fact 47 (f := .int "LONGEST_LIST" 12) rfl)) (He.free_ok X G (c.d.fact 36 (f := .free "tuple") rfl)) gI
    exact ⟨gL2, cal_of X G c 18 18 (i := 42) rfl rfl (fun _ _ F => F.binds fun _ _ _ _ _ _ us hl => match us, hl with | [_, _], _ => rfl) fun _ _ F => ok_copchoices F (by omega) (cRequire X G c ex) (cIsRow X G c ex) (He.free_ok X G (c.d.fact 36 (f := .free "tuple") rfl)) gL2,
      cal_of X G c 19 19 (i := 43) rfl rfl (fun _ _ F => F.binds fun _ _ _ _ _ _ us hl => match us, hl with | [_, _], _ => rfl) fun _ _ F => ok_copcases F (by omega) (cRequire X G c ex) (cIsRow X G c ex) (He.free_ok X G (c.d.fact 36 (f := .free "tuple") rfl)) (He.free_ok X G (c.d.fact 31 (f := .free "isinstance") rfl)) (He.free_ok X G (c.d.fact 37 (f := .free "len") rfl)) gL2⟩
  intro n
  induction n with
  | zero =>
    exact st (k := 1) (by decide) (cal_of X G c 16 16 (i := 40) rfl rfl (fun _ _ F => F.binds fun _ _ _ _ _ _ us hl => match us, hl with | [_, _], _ => rfl) fun _ _ F => ⟨fun _ _ _ _ z => (show False from z).elim, fun _ _ _ _ _ _ _ _ _ _ _ _ _ z => (show False from z).elim⟩)
      (cal_of X G c 18 18 (i := 42) rfl rfl (fun _ _ F => F.binds fun _ _ _ _ _ _ us hl => match us, hl with | [_, _], _ => rfl) fun _ _ F => ⟨fun _ _ _ _ z => (show False from z).elim, fun _ _ _ _ _ _ _ _ _ _ _ _ _ z => (show False from z).elim⟩)
      (cal_of X G c 19 19 (i := 43) rfl rfl (fun _ _ F => F.binds fun _ _ _ _ _ _ us hl => match us, hl with | [_, _], _ => rfl) fun _ _ F => ⟨fun _ _ _ _ z => (show False from z).elim, fun _ _ _ _ _ _ _ _ _ _ _ _ _ z => (show False from z).elim⟩)
  | succ n ih =>
    obtain ⟨i1, i2, i3⟩ := ih
    rw [show 3 + 3 * (n + 1) = 4 + 3 * n + 2 by omega, show 4 + 3 * (n + 1) = 4 + 3 * n + 3 by omega]
    exact st (n := n + 1) (k := 4 + 3 * n) (by omega) (i1.mono (by omega)) i2 i3
theorem cListed (X : K.In h) (G : h.Ns mainGlobals mg) (c : He.SaysT fas fns tbs w K) (ex : exs K = true) : ∀ n : Nat, Cal P w K mg base CX0 (2 + n) "listed" ["items", "depth"] (spListed n) := by
  have gB : Cal P w K mg base CX0 1 "blocks_of" ["item"] spBlocks := cal_of X G c 0 0 (i := 7) rfl rfl (fun _ _ F => F.binds fun _ _ _ _ _ _ us hl => match us, hl with | [_], _ => rfl) fun _ _ F => ok_blocks F (He.free_ok X G (c.d.fact 36 (f := .free "tuple") rfl))
  have st : ∀ {n k : Nat}, 1 ≤ k → Cal P w K mg base CX0 k "listed" ["items", "depth"] (spSub spListed n) → Cal P w K mg base CX0 (k + 1) "listed" ["items", "depth"] (spListed n) := fun hk gS =>
    cal_of X G c 1 1 (i := 8) rfl rfl (fun _ _ F => F.binds fun _ _ _ _ _ _ us hl => match us, hl with | [_, _], _ => rfl) fun _ _ F => ok_listed hk F gB gS
  intro n
  induction n with
  | zero => exact st (k := 1) (by decide) (cal_of X G c 1 1 (i := 8) rfl rfl (fun _ _ F => F.binds fun _ _ _ _ _ _ us hl => match us, hl with | [_, _], _ => rfl) fun _ _ F => ⟨fun _ _ _ _ z => (show False from z).elim, fun _ _ _ _ _ _ _ _ _ _ _ _ _ z => (show False from z).elim⟩)
  | succ n ih =>
    rw [show 2 + (n + 1) = 2 + n + 1 by omega]
    exact st (n := n + 1) (k := 2 + n) (by omega) ih
theorem cInit (X : K.In h) (G : h.Ns mainGlobals mg) (c : He.SaysT fas fns tbs w K) (ex : exs K = true) {f : Addr} {fdI : FuncData} (FI : Fun K "__init__" "Shape.__init__" sInit f fdI) : FnOk P w K mg base (L2.CX P w) 13 f fdI ["self", "items"] (spInit (He.ga K "InvalidShape") (He.ga K "Shape")) :=
  ok_init (k := 12) (by decide) FI (shapeC X G c ex) (cRequire X G c ex) (cCop X G c ex 3).1 ((cListed X G c ex 3).mono (by decide)) ((cLens X G c ex 3).mono (by decide)) (He.free_ok X G (c.d.fact 37 (f := .free "len") rfl)) (He.free_ok X G (c.d.fact 36 (f := .free "tuple") rfl)) (He.free_ok X G (c.d.fact 40 (f := .free "set") rfl)) (He.int_ok X G (c.d.fact 49 (f := .int "MOST_ITEMS" 30) rfl))
theorem cNums (X : K.In h) (G : h.Ns mainGlobals mg) (c : He.SaysT fas fns tbs w K) : Cal P w K mg base CX0 2 "_law_numbers" ["script", "many"] (spNums K) := by
  have gRow : Cal P w K mg base CX0 1 "_law_row" ["cell", "many"] spRow := cal_of X G c 20 20 (i := 58) rfl rfl (fun _ _ F => F.binds fun _ _ _ _ _ _ us hl => match us, hl with | [_, _], _ => rfl) fun _ _ F => ok_lawrow F (He.free_ok X G (c.d.fact 44 (f := .free "abs") rfl)) (He.free_ok X G (c.d.fact 32 (f := .free "int") rfl)) (He.free_ok X G (c.d.fact 43 (f := .free "range") rfl))
  exact cal_of X G c 21 21 (i := 59) rfl rfl (fun _ _ F => F.binds fun _ _ _ _ _ _ us hl => match us, hl with | [_, _], _ => rfl) fun _ _ F => ok_lawnums (k := 1) (by decide) F gRow (He.free_ok X G (c.d.fact 42 (f := .free "max") rfl)) (He.free_ok X G (c.d.fact 37 (f := .free "len") rfl))
theorem cNext (X : K.In h) (G : h.Ns mainGlobals mg) (c : He.SaysT fas fns tbs w K) : Cal P w K mg base CX0 1 "_law_next" ["draw", "many"] spNext := cal_of X G c 22 22 (i := 60) rfl rfl (fun _ _ F => F.binds fun _ _ _ _ _ _ us hl => match us, hl with | [_, _], _ => rfl) fun _ _ F => ok_next F (He.free_ok X G (c.d.fact 32 (f := .free "int") rfl)) (He.free_ok X G (c.d.fact 37 (f := .free "len") rfl))
theorem cBegin (X : K.In h) (G : h.Ns mainGlobals mg) (c : He.SaysT fas fns tbs w K) : Cal P w K mg base CX0 1 "_law_begin" ["numbers"] spBegin := cal_of X G c 25 67 (i := 61) rfl rfl (fun _ _ F => F.binds fun _ _ _ _ _ _ us hl => match us, hl with | [_], _ => rfl) fun _ _ F => ok_begin F (He.free_ok X G (c.d.fact 37 (f := .free "len") rfl)) (He.free_ok X G (c.d.fact 43 (f := .free "range") rfl)) (He.free_ok X G (c.d.fact 32 (f := .free "int") rfl))
theorem cNumber (X : K.In h) (G : h.Ns mainGlobals mg) (c : He.SaysT fas fns tbs w K) : Cal P w K mg base CX0 2 "_law_number" ["draw", "name"] spNumber := cal_of X G c 26 68 (i := 62) rfl rfl (fun _ _ F => F.binds fun _ _ _ _ _ _ us hl => match us, hl with | [_, _], _ => rfl) fun _ _ F => ok_lawnumber F (cNext X G c) (He.free_ok X G (c.d.fact 41 (f := .free "min") rfl)) (He.free_ok X G (c.d.fact 42 (f := .free "max") rfl))
theorem cUse (X : K.In h) (G : h.Ns mainGlobals mg) (c : He.SaysT fas fns tbs w K) : Cal P w K mg base CX0 2 "_law_use" ["draw", "ahead", "most"] spUse := cal_of X G c 27 69 (i := 63) rfl rfl (fun _ _ F => F.binds fun _ _ _ _ _ _ us hl => match us, hl with | [_, _, _], _ => rfl) fun _ _ F => ok_use F (cNext X G c) (He.free_ok X G (c.d.fact 37 (f := .free "len") rfl))
theorem cItems (X : K.In h) (G : h.Ns mainGlobals mg) (c : He.SaysT fas fns tbs w K) : ∀ n : Nat, Cal P w K mg base CX0 (5 + 4 * n) "_law_items" ["draw", "ahead", "depth", "many"] (spItems n) := by
  have st : ∀ {n k : Nat}, 2 ≤ k → Cal P w K mg base CX0 k "_law_block" ["draw", "ahead", "depth", "name"] (spSub spBlock n) → Cal P w K mg base CX0 (k + 3) "_law_items" ["draw", "ahead", "depth", "many"] (spItems n) := fun {n k} hk gB => by
    have gS : Cal P w K mg base CX0 (k + 1) "_law_nested" ["draw", "ahead", "depth", "kind"] (spNested n) := cal_of X G c 29 71 (i := 65) rfl rfl (fun _ _ F => F.binds fun _ _ _ _ _ _ us hl => match us, hl with | [_, _, _, _], _ => rfl) fun _ _ F => ok_nested hk F (cNext X G c) (cUse X G c) gB (He.free_ok X G (c.d.fact 37 (f := .free "len") rfl)) (He.free_ok X G (c.d.fact 43 (f := .free "range") rfl)) (He.free_ok X G (c.d.fact 32 (f := .free "int") rfl))
    have gT : Cal P w K mg base CX0 (k + 2) "_law_item" ["draw", "ahead", "depth"] (spItem n) := cal_of X G c 30 72 (i := 66) rfl rfl (fun _ _ F => F.binds fun _ _ _ _ _ _ us hl => match us, hl with | [_, _, _], _ => rfl) fun _ _ F => ok_item (by omega) F (cNext X G c) (cNumber X G c) (cUse X G c) gS (He.free_ok X G (c.d.fact 37 (f := .free "len") rfl))
    exact cal_of X G c 31 73 (i := 67) rfl rfl (fun _ _ F => F.binds fun _ _ _ _ _ _ us hl => match us, hl with | [_, _, _, _], _ => rfl) fun _ _ F => ok_items F gT (He.free_ok X G (c.d.fact 35 (f := .free "list") rfl)) (He.free_ok X G (c.d.fact 43 (f := .free "range") rfl)) (He.free_ok X G (c.d.fact 37 (f := .free "len") rfl))
  intro n
  induction n with
  | zero => exact st (k := 2) (by decide) (cal_of X G c 28 70 (i := 64) rfl rfl (fun _ _ F => F.binds fun _ _ _ _ _ _ us hl => match us, hl with | [_, _, _, _], _ => rfl) fun _ _ F => ⟨fun _ _ _ _ z => (show False from z).elim, fun _ _ _ _ _ _ _ _ _ _ _ _ _ z => (show False from z).elim⟩)
  | succ n ih =>
    rw [show 5 + 4 * (n + 1) = 6 + 4 * n + 3 by omega]
    exact st (n := n + 1) (k := 6 + 4 * n) (by omega) (cal_of X G c 28 70 (i := 64) rfl rfl (fun _ _ F => F.binds fun _ _ _ _ _ _ us hl => match us, hl with | [_, _, _, _], _ => rfl) fun _ _ F => (ok_block (k := 5 + 4 * n) (by omega) F (cNext X G c) (cNumber X G c) ih).mono (by omega))
theorem cLFroz (X : K.In h) (G : h.Ns mainGlobals mg) (c : He.SaysT fas fns tbs w K) : ∀ n : Nat, Cal P w K mg base CX0 (2 + n) "_law_frozen" ["items"] (spLFroz n) := by
  have st : ∀ {n k : Nat}, Cal P w K mg base CX0 k "_law_frozen" ["items"] (spSub spLFroz n) → Cal P w K mg base CX0 (k + 1) "_law_frozen" ["items"] (spLFroz n) := fun gS =>
    cal_of X G c 32 74 (i := 69) rfl rfl (fun _ _ F => F.binds fun _ _ _ _ _ _ us hl => match us, hl with | [_], _ => rfl) fun _ _ F => ok_lfroz F gS (He.free_ok X G (c.d.fact 36 (f := .free "tuple") rfl))
  intro n
  induction n with
  | zero => exact st (k := 1) (cal_of X G c 32 74 (i := 69) rfl rfl (fun _ _ F => F.binds fun _ _ _ _ _ _ us hl => match us, hl with | [_], _ => rfl) fun _ _ F => ⟨fun _ _ _ _ z => (show False from z).elim, fun _ _ _ _ _ _ _ _ _ _ _ _ _ z => (show False from z).elim⟩)
  | succ n ih =>
    rw [show 2 + (n + 1) = 2 + n + 1 by omega]
    exact st (n := n + 1) (k := 2 + n) ih
theorem cLLines (X : K.In h) (G : h.Ns mainGlobals mg) (c : He.SaysT fas fns tbs w K) : ∀ n : Nat, Cal P w K mg base CX0 (2 + n) "_law_lines" ["items"] (spLLines n) := by
  have st : ∀ {n k : Nat}, Cal P w K mg base CX0 k "_law_lines" ["items"] (spSub spLLines n) → Cal P w K mg base CX0 (k + 1) "_law_lines" ["items"] (spLLines n) := fun gS =>
    cal_of X G c 33 75 (i := 71) rfl rfl (fun _ _ F => F.binds fun _ _ _ _ _ _ us hl => match us, hl with | [_], _ => rfl) fun _ _ F => ok_llines F gS (He.free_ok X G (c.d.fact 34 (f := .free "str") rfl))
  intro n
  induction n with
  | zero => exact st (k := 1) (cal_of X G c 33 75 (i := 71) rfl rfl (fun _ _ F => F.binds fun _ _ _ _ _ _ us hl => match us, hl with | [_], _ => rfl) fun _ _ F => ⟨fun _ _ _ _ z => (show False from z).elim, fun _ _ _ _ _ _ _ _ _ _ _ _ _ z => (show False from z).elim⟩)
  | succ n ih =>
    rw [show 2 + (n + 1) = 2 + n + 1 by omega]
    exact st (n := n + 1) (k := 2 + n) ih
theorem facts (X : K.In h) (G : h.Ns mainGlobals mg) (c : He.SaysT fas fns tbs w K) (ex : exs K = true) (e6 : exs6 P.main.file K = true) (hd : Rj.defAt K (noteAt K) = noteV K) (ht : (P.main.scope.names.lookup ("super" : Str)).isSome = false) {fa : Addr} (hfa : mg ("law" : Str) = some (.ref fa)) : ∃ fd : FuncData, (∀ (s : Shared) (v : Value), BindsTo s fd ⟨[v], []⟩ [("script", v)]) ∧ ∀ base : Heap, K.In base → base.Ns mainGlobals mg → FnOk P w K mg base CX0 18 fa fd ["script"] (spLaw K) := by
  have e := hfa.symm.trans (He.glo_ok X G (c.d.fact 23 (f := .glo "law") rfl))
  cases e
  obtain ⟨fdI, FI⟩ := c.d.def_ 24 (d := dInit) rfl
  have FI := fun_of (st := sInit) FI
  obtain ⟨fdH, FH⟩ := c.d.def_ 44 (d := dOpInit) rfl
  have FH := fun_of (st := sOpInit) FH
  obtain ⟨fdW, FW⟩ := c.d.def_ 45 (d := dWhole) rfl
  have FW := fun_of (st := sWhole) FW
  obtain ⟨fdB, FB⟩ := c.d.def_ 46 (d := dBuInit) rfl
  have FB := fun_of (st := sBuInit) FB
  obtain ⟨fdT, FT⟩ := c.d.def_ 47 (d := dTake) rfl
  have FT := fun_of (st := sTake) FT
  obtain ⟨fdC, FC⟩ := c.d.def_ 48 (d := dClose) rfl
  have FC := fun_of (st := sClose) FC
  obtain ⟨fdG, FG0⟩ := c.d.def_ 49 (d := dBegB) rfl
  have FG0 := fun_of (st := sBegB) FG0
  obtain ⟨fd, FD⟩ := c.d.def_ 23 (d := gDef "law" 78) rfl
  have b := FunD.bindsA (ps := ["script"]) FD fun _ _ _ _ _ _ us hl => match us, hl with | [_], _ => rfl
  have F : Fun K "law" "law" sLaw7 (He.ga K "law") fd := fun_of FD
  obtain ⟨_, _, _, _, h5, h6⟩ := ex_all ex
  obtain ⟨u1, e6⟩ := He.ba e6
  obtain ⟨u2, e6⟩ := He.ba e6
  obtain ⟨u3, e6⟩ := He.ba e6
  obtain ⟨u4, e6⟩ := He.ba e6
  obtain ⟨u5, e6⟩ := He.ba e6
  obtain ⟨u6, e6⟩ := He.ba e6
  obtain ⟨u7, e6⟩ := He.ba e6
  obtain ⟨u8, e6⟩ := He.ba e6
  obtain ⟨u9, e6⟩ := He.ba e6
  obtain ⟨ua, e6⟩ := He.ba e6
  obtain ⟨ub, e6⟩ := He.ba e6
  obtain ⟨uc, e6⟩ := He.ba e6
  obtain ⟨ud, e6⟩ := He.ba e6
  obtain ⟨ue, uf⟩ := He.ba e6
  obtain ⟨w1, w5⟩ := He.ba u9
  obtain ⟨w2, w5⟩ := He.ba w5
  obtain ⟨w3, w5⟩ := He.ba w5
  obtain ⟨w4, w5⟩ := He.ba w5
  have XN : XfC K (He.ga K "InvalidNotation") := ⟨He.eqO_ok w1, He.eqO_ok w2, of_decide_eq_true w3, w4⟩
  obtain ⟨oc, od, osl, kV, doc, pm, an, ctv, lk⟩ := Rj.defAt_ok hd u2
  refine ⟨fd, fun s v => b s [v] rfl, fun base _ _ => ?_⟩
  have bI : Binds K fdI ["self", "items"] [] := FI.binds fun _ _ _ _ _ _ us hl => match us, hl with | [_, _], _ => rfl
  have bH : Binds K fdH ["self", "head"] [] := FH.binds fun _ _ _ _ _ _ us hl => match us, hl with | [_, _], _ => rfl
  have bWh : Binds K fdW ["self"] [] := FW.binds fun _ _ _ _ _ _ us hl => match us, hl with | [_], _ => rfl
  have bB : Binds K fdB ["self"] [] := FB.binds fun _ _ _ _ _ _ us hl => match us, hl with | [_], _ => rfl
  have bT : Binds K fdT ["self", "parts"] [] := FT.binds fun _ _ _ _ _ _ us hl => match us, hl with | [_, _], _ => rfl
  have bC : Binds K fdC ["self"] [] := FC.binds fun _ _ _ _ _ _ us hl => match us, hl with | [_], _ => rfl
  have bGb : Binds K fdG ["self", "parts"] [] := FG0.binds fun _ _ _ _ _ _ us hl => match us, hl with | [_, _], _ => rfl
  have gInit := cInit (P := P) (base := base) X G c ex FI
  have M := He.mkr_ok (c.d.fact 64 (f := .mkr "Shape") rfl)
  have gS := He.glo_ok X G (c.d.fact 24 (f := .glo "Shape") rfl)
  have O : Opens K mg := ⟨_, (He.glo_ok X G (c.d.fact 87 (f := .glo "OPENERS") rfl)), fun H => He.tupB_ok u5 H⟩
  obtain ⟨esF, nF, DF⟩ := c.tab 2 (t := (fun K => He.ga K "FORMS", formTab.map (·.1))) rfl
  obtain ⟨esB, nB, DB⟩ := c.tab 3 (t := (fun K => He.ga K "BEGINNERS", ["choice", "case"])) rfl
  have TF : Forms K w mg := ⟨_, esF, nF, (He.glo_ok X G (c.d.fact 88 (f := .glo "FORMS") rfl)), DF, fun z fs e => forms_ok u6 e⟩
  obtain ⟨v1, v2, v3⟩ := begs_ok u7
  have TG : Begs K w mg := ⟨_, esB, nB, (He.glo_ok X G (c.d.fact 89 (f := .glo "BEGINNERS") rfl)), DB, v1, v2, v3⟩
  have TO : OpC K (He.ga K "Opened") := ⟨He.cls_ok (c.d.fact 93 (f := .cls "Opened") rfl), He.noat_ok (c.d.fact 94 (f := .noat "Opened" "head") rfl), He.noat_ok (c.d.fact 95 (f := .noat "Opened" "blocks") rfl), He.noat_ok (c.d.fact 96 (f := .noat "Opened" "cases") rfl)⟩
  have TB : BuC K (He.ga K "Builder") := ⟨He.cls_ok (c.d.fact 97 (f := .cls "Builder") rfl), He.noat_ok (c.d.fact 98 (f := .noat "Builder" "outermost") rfl), He.noat_ok (c.d.fact 99 (f := .noat "Builder" "opened") rfl)⟩
  have U : NoteC K mg (He.ga K "InvalidNotation") (noteAt K) := ⟨Rj.oexB_ok u1, (He.glo_ok X G (c.d.fact 92 (f := .glo "InvalidNotation") rfl)), He.eqO_ok u4, of_decide_eq_true u3⟩
  have gIW : Cal P w K mg base CX0 1 "is_integer_word" ["word"] spIntWord := cal_of X G c 40 82 (i := 51) rfl rfl (fun _ _ F => F.binds fun _ _ _ _ _ _ us hl => match us, hl with | [_], _ => rfl) fun _ _ F => ok_intword F (He.free_ok X G (c.d.fact 37 (f := .free "len") rfl)) (He.free_ok X G (c.d.fact 38 (f := .free "all") rfl)) (He.str_ok X G (c.d.fact 56 (f := .str "DIGITS" digits) rfl)) (He.int_ok X G (c.d.fact 106 (f := .int "LONGEST_INTEGER" 9) rfl))
  have gFi : Cal P w K mg base CX0 2 "fits" ["word", "form"] spFits := cal_of X G c 41 83 (i := 52) rfl rfl (fun _ _ F => F.binds fun _ _ _ _ _ _ us hl => match us, hl with | [_, _], _ => rfl) fun _ _ F => ok_fits F gIW (cIsName X G c ex)
  have gPo : Cal P w K mg base CX0 3 "parts_of" ["words"] spPartsOf := cal_of X G c 42 84 (i := 53) rfl rfl (fun _ _ F => F.binds fun _ _ _ _ _ _ us hl => match us, hl with | [_], _ => rfl) fun _ _ F => ok_partsof F TF gIW gFi (He.free_ok X G (c.d.fact 37 (f := .free "len") rfl)) (He.free_ok X G (c.d.fact 86 (f := .free "zip") rfl)) (He.free_ok X G (c.d.fact 36 (f := .free "tuple") rfl)) (He.free_ok X G (c.d.fact 32 (f := .free "int") rfl))
  have gH := ok_opinit (P := P) (w := w) (mg := mg) (base := base) FH TO
  have gWh := ok_whole (P := P) (w := w) (mg := mg) (base := base) FW TO (He.free_ok X G (c.d.fact 35 (f := .free "list") rfl)) (He.free_ok X G (c.d.fact 86 (f := .free "zip") rfl))
  have gC := ok_close (CB := (He.ga K "Builder")) FC TB TO (He.meth_ok (c.d.fact 102 (f := .meth "Opened" "whole") rfl)) gWh bWh
  have gGb := ok_begb (P := P) (base := base) (CB := (He.ga K "Builder")) FG0 TB TO TG
  have gT := ok_take FT TB TO TG O (He.int_ok X G (c.d.fact 107 (f := .int "MOST_OPEN" 3) rfl)) (He.free_ok X G (c.d.fact 37 (f := .free "len") rfl)) (He.meth_ok (c.d.fact 104 (f := .meth "Builder" "_close") rfl)) gC bC (He.meth_ok (c.d.fact 105 (f := .meth "Builder" "_begin_block") rfl)) gGb bGb (He.mkr_ok (c.d.fact 100 (f := .mkr "Opened") rfl)) gH bH (He.glo_ok X G (c.d.fact 90 (f := .glo "Opened") rfl))
  have gBi := ok_buinit (P := P) (w := w) (mg := mg) (base := base) (CO := (He.ga K "Opened")) FB TB
  have GU := ok_note (P := P) (w := w) (mg := mg) (base := base) lk ub (Rj.supB_ok rfl ht uc) (Rj.oexB_ok u1) (He.free_ok X G (c.d.fact 109 (f := .free "super") rfl)) (He.eqO_ok ua)
  have TF2 : Forms2 K w mg := ⟨_, esF, nF, (He.glo_ok X G (c.d.fact 88 (f := .glo "FORMS") rfl)), DF, fun z fs e => forms_ok u6 e, odd_ok uf⟩
  have gPoN : Cal P w K mg base CX0 3 "parts_of" ["words"] (fun vs H Q E => spPartsOf vs H Q E ∨ spPartsN vs H Q E) := cal_of X G c 42 84 (i := 53) rfl rfl (fun _ _ F => F.binds fun _ _ _ _ _ _ us hl => match us, hl with | [_], _ => rfl) fun _ _ F => fn_or (ok_partsof F TF gIW gFi (He.free_ok X G (c.d.fact 37 (f := .free "len") rfl)) (He.free_ok X G (c.d.fact 86 (f := .free "zip") rfl)) (He.free_ok X G (c.d.fact 36 (f := .free "tuple") rfl)) (He.free_ok X G (c.d.fact 32 (f := .free "int") rfl))) (ok_partsN F TF2 gFi (He.free_ok X G (c.d.fact 37 (f := .free "len") rfl)) (He.free_ok X G (c.d.fact 86 (f := .free "zip") rfl)))
  have gCN := ok_closeN (P := P) (w := w) (mg := mg) (base := base) (CO := (He.ga K "Opened")) FC TB
  have gGN := ok_begN (P := P) (base := base) FG0 TB TO TG
  have gTN := fn_or gT (ok_takeN FT TB TO TG O (He.int_ok X G (c.d.fact 107 (f := .int "MOST_OPEN" 3) rfl)) (He.free_ok X G (c.d.fact 37 (f := .free "len") rfl)) (He.meth_ok (c.d.fact 104 (f := .meth "Builder" "_close") rfl)) gCN bC (He.meth_ok (c.d.fact 105 (f := .meth "Builder" "_begin_block") rfl)) gGN bGb)
  have nbd := note_binds (K := K) (cc := Rj.ccOf K (noteAt K)) (c := Rj.cdOf K (noteAt K)) (kV := kV) (doc := doc) (pm := pm) (ctv := ctv) (an := an)
  have gPa : Cal P w K mg base (L2.CX P w) 15 "parse_shape" ["text"] (spP (He.ga K "Shape") (He.ga K "InvalidNotation")) := cal_of X G c 43 85 (i := 56) rfl rfl (fun _ _ F => F.binds fun _ _ _ _ _ _ us hl => match us, hl with | [_], _ => rfl) fun _ _ F => fn_or (ok_parse (k := 13) (by decide) F TB (shapeC X G c ex) U ⟨fun _ _ _ _ z => (show False from z).elim, fun _ _ _ _ _ _ _ _ _ _ _ _ _ z => (show False from z).elim⟩ nbd (He.mkr_ok (c.d.fact 101 (f := .mkr "Builder") rfl)) (gBi.mono (by decide)) bB (He.glo_ok X G (c.d.fact 91 (f := .glo "Builder") rfl)) gPo (He.meth_ok (c.d.fact 103 (f := .meth "Builder" "take") rfl)) gT bT M gInit bI gS (He.free_ok X G (c.d.fact 108 (f := .free "enumerate") rfl)) (He.free_ok X G (c.d.fact 37 (f := .free "len") rfl))) (ok_parseN (k := 13) (by decide) F TB U GU nbd (He.mkr_ok (c.d.fact 101 (f := .mkr "Builder") rfl)) (gBi.mono (by decide)) bB (He.glo_ok X G (c.d.fact 91 (f := .glo "Builder") rfl)) gPoN (He.meth_ok (c.d.fact 103 (f := .meth "Builder" "take") rfl)) gTN bT (He.free_ok X G (c.d.fact 108 (f := .free "enumerate") rfl)) (He.free_ok X G (c.d.fact 37 (f := .free "len") rfl)))
  have gIS := He.glo_ok X G (c.d.fact 25 (f := .glo "InvalidShape") rfl)
  have gIN := He.glo_ok X G (c.d.fact 92 (f := .glo "InvalidNotation") rfl)
  have me := He.exm_ok (c.d.fact 110 (f := .exm "InvalidNotation" "InvalidNotation" true) rfl)
  have gLn : Cal P w K mg base CX0 16 "_law_line" ["lines"] spLine := cal_of X G c 34 76 (i := 72) rfl rfl (fun _ _ F => F.binds fun _ _ _ _ _ _ us hl => match us, hl with | [_], _ => rfl) fun _ _ F => ok_line F gPa gIN gIS (He.glo_ok X G (c.d.fact 26 (f := .glo "ByteshapeError") rfl)) (excC_of u9) XN (He.eqO_ok ua) me (of_decide_eq_true ud) (of_decide_eq_true ue) (of_decide_eq_true u8) (He.free_ok X G (c.d.fact 31 (f := .free "isinstance") rfl)) (He.free_ok X G (c.d.fact 32 (f := .free "int") rfl)) (He.free_ok X G (c.d.fact 33 (f := .free "bool") rfl)) (He.free_ok X G (c.d.fact 45 (f := .free "ValueError") rfl))
  have gWo : Cal P w K mg base CX0 1 "_law_word" ["sort", "number"] spWord := cal_of X G c 35 77 (i := 73) rfl rfl (fun _ _ F => F.binds fun _ _ _ _ _ _ us hl => match us, hl with | [_, _], _ => rfl) fun _ _ F => ok_word F (He.free_ok X G (c.d.fact 32 (f := .free "int") rfl))
  have gSo : Cal P w K mg base CX0 1 "_law_sorts" ["kind"] spSorts := cal_of X G c 36 78 (i := 74) rfl rfl (fun _ _ F => F.binds fun _ _ _ _ _ _ us hl => match us, hl with | [_], _ => rfl) fun _ _ F => ok_sorts F
  have gBk : Cal P w K mg base CX0 2 "_law_broken" ["line", "fault", "number"] spBroken := cal_of X G c 37 79 (i := 75) rfl rfl (fun _ _ F => F.binds fun _ _ _ _ _ _ us hl => match us, hl with | [_, _, _], _ => rfl) fun _ _ F => ok_broken F gWo gSo (He.free_ok X G (c.d.fact 37 (f := .free "len") rfl))
  have gCl : Cal P w K mg base CX0 1 "_law_close" ["lines", "at"] spClo := cal_of X G c 38 80 (i := 76) rfl rfl (fun _ _ F => F.binds fun _ _ _ _ _ _ us hl => match us, hl with | [_, _], _ => rfl) fun _ _ F => ok_clo F (He.free_ok X G (c.d.fact 37 (f := .free "len") rfl)) (He.free_ok X G (c.d.fact 43 (f := .free "range") rfl))
  have gO : Cal P w K mg base CX0 2 "_law_order" ["lines", "fault", "number"] spOrder := cal_of X G c 39 81 (i := 77) rfl rfl (fun _ _ F => F.binds fun _ _ _ _ _ _ us hl => match us, hl with | [_, _, _], _ => rfl) fun _ _ F => ok_order F gCl (He.free_ok X G (c.d.fact 32 (f := .free "int") rfl)) (He.free_ok X G (c.d.fact 37 (f := .free "len") rfl)) (He.free_ok X G (c.d.fact 43 (f := .free "range") rfl))
  exact ok_law (k := 17) (by decide) F (cNums X G c) (cBegin X G c) (cItems X G c 3) (shapeC X G c ex) ((cLLines X G c 3).mono (by decide)) ((cLFroz X G c 3).mono (by decide)) (gPa.mono (by decide)) (gLn.mono (by decide)) gBk gO (He.free_ok X G (c.d.fact 32 (f := .free "int") rfl)) (He.free_ok X G (c.d.fact 37 (f := .free "len") rfl))
end
theorem walk {l : PySem.W.OpenLaw} {q : Program} {loose : List Str} {XP : (Str → Option Value) → Heap → Prop} {YP : World → Heap → Prop} {d : DefRec} {K : Params → PySem.W.Frag} (hn : l.most = some 63) (hdf : d.params.defaults = [])
    (hY : ∀ (w : World) (h : Heap), YP w h → (K w.params).In h)
    (F : ∀ (w : World) (mg : Str → Option Value) (fa : Addr) (h : Heap), (K w.params).In h → h.Ns mainGlobals mg → mg d.name = some (.ref fa) →
      ∃ fd : FuncData, (∀ (s : Shared) (u : Value), BindsTo s fd ⟨[u], []⟩ [("script", u)]) ∧ ∀ base : Heap, (K w.params).In base → base.Ns mainGlobals mg → FnOk l.prog w (K w.params) mg base CX0 18 fa fd ["script"] (spLaw (K w.params))) :
    PySem.W.WalkO q loose XP YP l.row.toRowW d [] (fun f vs => PySem.call f vs) :=
  L2.walk_of (n := 63) (k := 18) (x := "script") (CX := fun _ => CX0) (sp := fun w => spLaw (K w.params)) hn (by decide) hdf ⟨rfl, by decide, by decide⟩ hY F (fun _ _ a ns hl _ hS => ⟨a, ns, rfl, hS, hl, fun _ => rfl⟩) fun _ _ _ _ _ z => z
end Bs

set_option Elab.async false
set_option linter.all false
set_option maxRecDepth 100000
set_option maxHeartbeats 0
open PySem PySem.W PyProof.Rows
theorem PySem.Challenge.cw_byteshape_k07_texts_refused_holds : PySem.Challenge.rw_byteshape_k07_texts_refused.Holds := by
  w_on; o_law; k_head; (case hw => w_witness2)
  k_fill
  refine Bs.walk (l := PySem.Challenge.rw_byteshape_k07_texts_refused) rfl rfl (fun w h Y => PySem.W.kIn_of Y) ?F
  case F =>
    intro w mg fa h KX G hmg
    refine Bs.facts KX G ?c ?ex ?e6 ?hd ?ht hmg
    case c =>
      show He.obsT Bs.fas Bs.fns Bs.tbs _ = He.valT Bs.fns Bs.tbs w
      kernel_rfl
    case ex =>
      kernel_rfl
    case e6 =>
      kernel_rfl
    case hd =>
      kernel_rfl
    case ht =>
      kernel_rfl

