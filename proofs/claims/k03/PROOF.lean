import PyProof.Rows.All
import Wide.All
import OpenK.AllK
import Wide.FinOn
import HandS.ForMost
import HandS.Exc
import HandS.ExcOwn
import HandS.TryOnly
import HandS.WordsExc
import HandS.Conv
import HandS.More
import HandS.IsInst
import HandS.FStr
import HandS.Star
import HandS.RaiseMore
import HandS.ExcIs
import HandS.DictComp
import HandS.Zip
import HandS.TupAny
import HandS.CallLocal
import HandS.Flow
import HandS.EndBits
import KE.GoesComp
import KE.GoesRaise
import PySem.Challenge.RW_byteshape_k03_shapes_refused
import HandS.Walk
import HandS.Strs
import KE.KAssignIn
import HandS.ExcInit
import HandS.Nested
import KE.KExcSuper
import HandS.HeadHook1
import HandS.Deep
import HandS.Property
import HandS.Ends
import HandS.Defaults
import HandS.HeadEnd
import HandS.HeadHook2
import HandS.HeadHook3
set_option Elab.async false
set_option linter.all false
set_option maxRecDepth 100000
set_option maxHeartbeats 4000000
/-! The text by places, the mirror of shapes, the heap's relation to it. -/
namespace Bs
open PySem L2
def top (i : Nat) : Stmt := PySem.Challenge.pw_byteshape_k03_shapes_refused.main.body.getD i (.Pass ⟨0, 0, 0, 0⟩)
abbrev sBlocksOf : Stmt := top 6
abbrev sListed : Stmt := top 7
abbrev sIsInteger : Stmt := top 15
abbrev sRequire : Stmt := top 16
abbrev sAmount : Stmt := top 17
abbrev sNumber : Stmt := top 18
abbrev sBytes : Stmt := top 19
abbrev sText : Stmt := top 20
abbrev sRepeat : Stmt := top 21
abbrev sEither : Stmt := top 22
abbrev sSwitch : Stmt := top 23
abbrev sCheck : Stmt := top 24
abbrev sPad : Stmt := top 25
abbrev sListLen : Stmt := top 27
abbrev sIsName : Stmt := top 37
abbrev sIsRow : Stmt := top 38
abbrev sCopList : Stmt := top 39
abbrev sCopItem : Stmt := top 40
abbrev sCopChoices : Stmt := top 41
abbrev sCopCases : Stmt := top 42
abbrev sInit : Stmt := inClass (top 43) 0
abbrev sLawRow : Stmt := top 45
abbrev sLawNumbers : Stmt := top 46
abbrev sLawTaken : Stmt := top 47
abbrev sLaw : Stmt := top 48

/-! ### names -/
abbrev letters : Str := "abcdefghijklmnopqrstuvwxyz"
abbrev digits : Str := "0123456789"
def isLetter (c : Nat) : Bool := decide (c ∈ letters.cps.toList)
def isDigit (c : Nat) : Bool := decide (c ∈ digits.cps.toList)
def isSign (c : Nat) : Bool := isLetter c || isDigit c
def nameOk : List Nat → Bool
  | [] => false
  | c :: r => decide (r.length < 12) && (isLetter c && (c :: r).all isSign)
def isName (z : Str) : Bool := nameOk z.cps.toList

/-! ### shapes -/
/-- the kinds and how many parts they have; words that are no kind -/
def kindP : List (Str × Nat) := [("number", 6), ("bytes", 3), ("text", 4), ("repeat", 4), ("either", 3), ("switch", 4), ("check", 3), ("pad", 4)]
def oddWords : List Str := ["box", "numbers", "byte", "", "repeats"]
def OddOk (k : Str) (m : Nat) : Prop := k ∈ oddWords ∨ ∃ j, (k, j) ∈ kindP ∧ j ≠ m
mutual
inductive It where
  | num (n : Str) (size : Int) (order : Str) (low high : Int)
  | byt (n : Str) (amt : Key)
  | txt (n : Str) (stop most : Int)
  | rep (n : Str) (amt : Key) (body : Its)
  | eit (n : Str) (bs : Blks)
  | swi (n : Str) (tag : Str) (bs : Blks)
  | chk (n : Str) (m : Int)
  | pad (n : Str) (m b : Int)
  | odd (k n : Str) (m : Nat)
inductive Its where
  | nil | cons (x : It) (r : Its)
inductive Blks where
  | nil | cons (v : Int) (b : Its) (r : Blks)
end
def It.name : It → Str
  | .num n .. => n | .byt n .. => n | .txt n .. => n | .rep n .. => n | .eit n .. => n | .swi n .. => n | .chk n .. => n | .pad n .. => n | .odd _ n _ => n
def Its.len : Its → Nat
  | .nil => 0 | .cons _ r => r.len + 1
def Blks.len : Blks → Nat
  | .nil => 0 | .cons _ _ r => r.len + 1
def Blks.vals : Blks → List Int
  | .nil => [] | .cons v _ r => v :: r.vals

/-! ### an item as a value: fz says that all rows are tuples -/
def RowAt (fz : Bool) (H : Hp) (p : Addr) (xs : List V) : Prop := H p = some (.tup xs) ∨ (fz = false ∧ H p = some (.lst xs))
mutual
def It.At (fz : Bool) (H : Hp) : It → V → Prop
  | .num n size order low high, v => ∃ p, v = .ref p ∧ H p = some (.tup [.str "number", .str n, .int size, .str order, .int low, .int high])
  | .byt n amt, v => ∃ p, v = .ref p ∧ H p = some (.tup [.str "bytes", .str n, kV amt])
  | .txt n stop most, v => ∃ p, v = .ref p ∧ H p = some (.tup [.str "text", .str n, .int stop, .int most])
  | .rep n amt b, v => ∃ p q xs, v = .ref p ∧ H p = some (.tup [.str "repeat", .str n, kV amt, .ref q]) ∧ RowAt fz H q xs ∧ b.At fz H xs
  | .eit n bs, v => ∃ p q xs, v = .ref p ∧ H p = some (.tup [.str "either", .str n, .ref q]) ∧ RowAt fz H q xs ∧ bs.AtE fz H xs
  | .swi n tag bs, v => ∃ p q xs, v = .ref p ∧ H p = some (.tup [.str "switch", .str n, .str tag, .ref q]) ∧ RowAt fz H q xs ∧ bs.AtS fz H xs
  | .chk n m, v => ∃ p, v = .ref p ∧ H p = some (.tup [.str "check", .str n, .int m])
  | .pad n m b, v => ∃ p, v = .ref p ∧ H p = some (.tup [.str "pad", .str n, .int m, .int b])
  | .odd k n m, v => ∃ p r, v = .ref p ∧ H p = some (.tup (.str k :: r)) ∧ r.length + 1 = m ∧ OddOk k m
def Its.At (fz : Bool) (H : Hp) : Its → List V → Prop
  | .nil, l => l = []
  | .cons x r, l => ∃ v l', l = v :: l' ∧ x.At fz H v ∧ r.At fz H l'
def Blks.AtE (fz : Bool) (H : Hp) : Blks → List V → Prop
  | .nil, l => l = []
  | .cons _ b r, l => ∃ q xs l', l = .ref q :: l' ∧ RowAt fz H q xs ∧ b.At fz H xs ∧ r.AtE fz H l'
def Blks.AtS (fz : Bool) (H : Hp) : Blks → List V → Prop
  | .nil, l => l = []
  | .cons v b r, l => ∃ p q xs l', l = .ref p :: l' ∧ H p = some (.tup [.int v, .ref q]) ∧ RowAt fz H q xs ∧ b.At fz H xs ∧ r.AtS fz H l'
end
/-- what an item leans on is kept: tuples; where it may have lists, these, too -/
structure Kp (fz : Bool) (H H' : Hp) : Prop where
  t : ∀ b xs, H b = some (.tup xs) → H' b = some (.tup xs)
  l : fz = false → ∀ b xs, H b = some (.lst xs) → H' b = some (.lst xs)
theorem Kp.of {fz : Bool} {H H' : Hp} (s : Same H H') : Kp fz H H' := ⟨fun _ _ h => s _ _ h, fun _ _ _ h => s _ _ h⟩
theorem RowAt.kp {fz : Bool} {H H' : Hp} {p : Addr} {xs : List V} (s : Kp fz H H') (h : RowAt fz H p xs) : RowAt fz H' p xs := h.imp (s.t _ _) fun ⟨a, b⟩ => ⟨a, s.l a _ _ b⟩
theorem RowAt.same {fz : Bool} {H H' : Hp} {p : Addr} {xs : List V} (s : Same H H') (h : RowAt fz H p xs) : RowAt fz H' p xs := h.kp (.of s)
mutual
theorem It.At.kp {fz : Bool} {H H' : Hp} (s : Kp fz H H') : ∀ {x : It} {v : V}, x.At fz H v → x.At fz H' v
  | .num .., _, h => by simp only [It.At] at h ⊢; obtain ⟨p, e, h⟩ := h; exact ⟨p, e, s.t _ _ h⟩
  | .byt .., _, h => by simp only [It.At] at h ⊢; obtain ⟨p, e, h⟩ := h; exact ⟨p, e, s.t _ _ h⟩
  | .txt .., _, h => by simp only [It.At] at h ⊢; obtain ⟨p, e, h⟩ := h; exact ⟨p, e, s.t _ _ h⟩
  | .chk .., _, h => by simp only [It.At] at h ⊢; obtain ⟨p, e, h⟩ := h; exact ⟨p, e, s.t _ _ h⟩
  | .pad .., _, h => by simp only [It.At] at h ⊢; obtain ⟨p, e, h⟩ := h; exact ⟨p, e, s.t _ _ h⟩
  | .odd .., _, h => by simp only [It.At] at h ⊢; obtain ⟨p, r, e, h, q⟩ := h; exact ⟨p, r, e, s.t _ _ h, q⟩
  | .rep .., _, h => by simp only [It.At] at h ⊢; obtain ⟨p, q, xs, e, h, r, b⟩ := h; exact ⟨p, q, xs, e, s.t _ _ h, r.kp s, Its.At.kp s b⟩
  | .eit .., _, h => by simp only [It.At] at h ⊢; obtain ⟨p, q, xs, e, h, r, b⟩ := h; exact ⟨p, q, xs, e, s.t _ _ h, r.kp s, Blks.AtE.kp s b⟩
  | .swi .., _, h => by simp only [It.At] at h ⊢; obtain ⟨p, q, xs, e, h, r, b⟩ := h; exact ⟨p, q, xs, e, s.t _ _ h, r.kp s, Blks.AtS.kp s b⟩
theorem Its.At.kp {fz : Bool} {H H' : Hp} (s : Kp fz H H') : ∀ {x : Its} {v : List V}, x.At fz H v → x.At fz H' v
  | .nil, _, h => by simp only [Its.At] at h ⊢; exact h
  | .cons .., _, h => by simp only [Its.At] at h ⊢; obtain ⟨v, l', e, h, r⟩ := h; exact ⟨v, l', e, It.At.kp s h, Its.At.kp s r⟩
theorem Blks.AtE.kp {fz : Bool} {H H' : Hp} (s : Kp fz H H') : ∀ {x : Blks} {v : List V}, x.AtE fz H v → x.AtE fz H' v
  | .nil, _, h => by simp only [Blks.AtE] at h ⊢; exact h
  | .cons .., _, h => by simp only [Blks.AtE] at h ⊢; obtain ⟨q, xs, l', e, a, b, r⟩ := h; exact ⟨q, xs, l', e, a.kp s, Its.At.kp s b, Blks.AtE.kp s r⟩
theorem Blks.AtS.kp {fz : Bool} {H H' : Hp} (s : Kp fz H H') : ∀ {x : Blks} {v : List V}, x.AtS fz H v → x.AtS fz H' v
  | .nil, _, h => by simp only [Blks.AtS] at h ⊢; exact h
  | .cons .., _, h => by simp only [Blks.AtS] at h ⊢; obtain ⟨p, q, xs, l', e, z, a, b, r⟩ := h; exact ⟨p, q, xs, l', e, s.t _ _ z, a.kp s, Its.At.kp s b, Blks.AtS.kp s r⟩
end
theorem It.At.same {fz : Bool} {H H' : Hp} (s : Same H H') {x : It} {v : V} (h : x.At fz H v) : x.At fz H' v := h.kp (.of s)
theorem Its.At.same {fz : Bool} {H H' : Hp} (s : Same H H') {x : Its} {v : List V} (h : x.At fz H v) : x.At fz H' v := h.kp (.of s)
theorem Blks.AtE.same {fz : Bool} {H H' : Hp} (s : Same H H') {x : Blks} {v : List V} (h : x.AtE fz H v) : x.AtE fz H' v := h.kp (.of s)
theorem Blks.AtS.same {fz : Bool} {H H' : Hp} (s : Same H H') {x : Blks} {v : List V} (h : x.AtS fz H v) : x.AtS fz H' v := h.kp (.of s)
/-- a list is written -/
theorem Kp.wr {H : Hp} {D : Addr} {xs : List V} {o : HO} (h : H D = some (.lst xs)) : Kp true H (upd H D o) :=
  ⟨fun b ys e => by rw [upd_ne (ne_of e h (by intro z; cases z))]; exact e, fun z => by cases z⟩
theorem Kp.trans {fz : Bool} {H H1 H2 : Hp} (a : Kp fz H H1) (b : Kp fz H1 H2) : Kp fz H H2 := ⟨fun x y h => b.t _ _ (a.t _ _ h), fun z x y h => b.l z _ _ (a.l z _ _ h)⟩
theorem Its.At.len {fz : Bool} {H : Hp} : ∀ {x : Its} {l : List V}, x.At fz H l → l.length = x.len
  | .nil, _, h => by simp only [Its.At] at h; subst h; rfl
  | .cons _ r, _, h => by simp only [Its.At] at h; obtain ⟨v, l', e, h, b⟩ := h; subst e; simp [Its.len, Its.At.len b]
theorem Blks.AtE.len {fz : Bool} {H : Hp} : ∀ {x : Blks} {l : List V}, x.AtE fz H l → l.length = x.len
  | .nil, _, h => by simp only [Blks.AtE] at h; subst h; rfl
  | .cons _ _ r, _, h => by simp only [Blks.AtE] at h; obtain ⟨q, xs, l', e, a, b, c⟩ := h; subst e; simp [Blks.len, Blks.AtE.len c]
theorem Blks.AtS.len {fz : Bool} {H : Hp} : ∀ {x : Blks} {l : List V}, x.AtS fz H l → l.length = x.len
  | .nil, _, h => by simp only [Blks.AtS] at h; subst h; rfl
  | .cons _ _ r, _, h => by simp only [Blks.AtS] at h; obtain ⟨p, q, xs, l', e, z, a, b, c⟩ := h; subst e; simp [Blks.len, Blks.AtS.len c]

/-! ### what is copied -/
mutual
def It.ok (d : Int) : It → Bool
  | .rep n _ b => isName n && (decide (d ≤ 2) && (decide (b.len ≤ 12) && b.ok (d + 1)))
  | .eit n bs => isName n && (decide (d ≤ 2) && (decide (2 ≤ bs.len ∧ bs.len ≤ 4) && bs.ok (d + 1)))
  | .swi n _ bs => isName n && (decide (d ≤ 2) && (decide (1 ≤ bs.len ∧ bs.len ≤ 8) && bs.ok (d + 1)))
  | .odd .. => false
  | x => isName x.name && decide (d ≤ 3)
def Its.ok (d : Int) : Its → Bool
  | .nil => true
  | .cons x r => x.ok d && r.ok d
def Blks.ok (d : Int) : Blks → Bool
  | .nil => true
  | .cons _ b r => (decide (b.len ≤ 12) && b.ok d) && r.ok d
end

/-! ### lengths -/
abbrev Env := Str → Option (Int × Int)
def Env.put (f : Env) (n : Str) (p : Int × Int) : Env := fun y => if y = n then some p else f y
def amount (f : Env) (most : Int) : Key → Option (Int × Int)
  | .inl i => if 0 ≤ i ∧ i ≤ most then some (i, i) else none
  | .inr z => match f z with
    | some p => if p.2 ≤ most then some p else none
    | none => none
def numOk (size : Int) (order : Str) (low high : Int) : Bool :=
  decide (1 ≤ size ∧ size ≤ 2) && (decide (order = "big" ∨ order = "little") && (decide (0 ≤ high ∧ high ≤ (if size = 1 then 255 else 65535)) && decide (0 ≤ low ∧ low ≤ high)))
def spread (r : List (Int × Int)) : Option (Int × Int) := match (r.map (·.1)).min?, (r.map (·.2)).max? with
  | some a, some b => some (a, b)
  | _, _ => none
mutual
def It.lens (f : Env) : It → Option (Int × Int)
  | .num _ size order low high => if numOk size order low high = true then some (size, size) else none
  | .byt _ amt => amount f 64 amt
  | .txt _ stop most => if (0 ≤ stop ∧ stop ≤ 255) ∧ 0 ≤ most ∧ most ≤ 64 then some (1, most + 1) else none
  | .rep _ amt b => match amount f 16 amt, b.lens f with
    | some a, some l => if 1 ≤ l.1 then some (a.1 * l.1, a.2 * l.2) else none
    | _, _ => none
  | .eit _ bs => match bs.lens f with
    | some r => if (r.filter fun p => decide (p.1 = 0)).length ≤ 1 then spread r else none
    | none => none
  | .swi _ tag bs => if (f tag).isSome = true ∧ (∀ v ∈ bs.vals, 0 ≤ v ∧ v ≤ 65535) ∧ bs.vals.Nodup then (match bs.lens f with
    | some r => spread r
    | none => none) else none
  | .chk _ m => if 1 ≤ m ∧ m ≤ 16 then some (1, 1) else none
  | .pad _ m b => if (m = 1 ∨ m = 2 ∨ m = 4 ∨ m = 8 ∨ m = 16) ∧ 0 ≤ b ∧ b ≤ 255 then some (0, m - 1) else none
  | .odd .. => none
def Its.lens (f : Env) : Its → Option (Int × Int)
  | .nil => some (0, 0)
  | .cons x r => match x.lens f, r.lens (match x with | .num n _ _ low high => f.put n (low, high) | _ => f) with
    | some a, some b => some (a.1 + b.1, a.2 + b.2)
    | _, _ => none
def Blks.lens (f : Env) : Blks → Option (List (Int × Int))
  | .nil => some []
  | .cons _ b r => match b.lens f, r.lens f with
    | some a, some l => some (a :: l)
    | _, _ => none
end

/-! ### the items in their order -/
mutual
def It.walk (d : Int) : It → List (Int × It)
  | .rep n a b => (d, .rep n a b) :: b.walk (d + 1)
  | .eit n bs => (d, .eit n bs) :: bs.walk (d + 1)
  | .swi n t bs => (d, .swi n t bs) :: bs.walk (d + 1)
  | x => [(d, x)]
def Its.walk (d : Int) : Its → List (Int × It)
  | .nil => []
  | .cons x r => x.walk d ++ r.walk d
def Blks.walk (d : Int) : Blks → List (Int × It)
  | .nil => []
  | .cons _ b r => b.walk d ++ r.walk d
end
def It.isChk : It → Bool
  | .chk .. => true
  | _ => false
def Its.names (x : Its) : List Str := (x.walk 0).map (·.2.name)
def Its.shape (x : Its) : Bool :=
  (decide (x.len ≤ 12) && x.ok 0) && (decide (1 ≤ x.len) && (decide ((x.walk 0).length ≤ 30) && (decide x.names.Nodup && (decide (((x.walk 0).filter (·.2.isChk)).length ≤ 1) && (x.lens fun _ => none).isSome))))
end Bs

set_option Elab.async false
set_option linter.all false
set_option maxRecDepth 100000
set_option maxHeartbeats 4000000
namespace Rj
open PySem PySem.Spec PyProof.Rows L2

/-! ### a list comprehension whose element may raise -/
/-- an exception that a call in the block let out: sI is the state ahead of it, in the block's context Y -/
def Fell (Y : Cx) (E : XK) (u : Value) (s' : Shared) : Prop :=
  ∃ (a : Addr) (B : Heap) (sI : Shared) (pn : List (Addr × Obj)) (σ : L2.St) (H : Hp) (cls : Value) (d : Option Addr), u = .ref a ∧ Inv Y pn σ H sI ∧
    (∀ b o, sI.heap.get? b = some o → b ∉ frs Y.stack → B.get? b = some o) ∧ sI.heap.UpToSlots s'.heap ∧ HandSPX.FlyingZ B Y.stack a (Zc cls d) s'.heap ∧ H a = none ∧ s'.os = sI.os ∧ AllBare s'.gens ∧ E cls d H

theorem fell_of_call {Y : Cx} {pn : List (Addr × Obj)} {σ : L2.St} {H : Hp} {s s' : Shared} {E : XK} {u : Value} (I : Inv Y pn σ H s) (c : L2.CX Y.prog Y.w Y.stack H s E u s') : Fell Y E u s' := by
  obtain ⟨a, B, H', cls, d, eu, fl, hok, ub, na, eo, ag, hE⟩ := c
  obtain ⟨G, gin, gout⟩ := restrict s'.heap fun b => (B.get? b).isSome || decide (b ∈ frs Y.stack)
  have stay : B.StaysIn s'.heap := fl.1
  have ofB : ∀ b o, B.get? b = some o → G.get? b = some o := fun b o e => (gin b (by simp [e])).trans (stay b o e)
  have ofF : ∀ b, b ∈ frs Y.stack → G.get? b = s'.heap.get? b := fun b hb => gin b (by simp [hb])
  have back : ∀ b o, G.get? b = some o → s'.heap.get? b = some o ∧ ((B.get? b).isSome = true ∨ b ∈ frs Y.stack) := fun b o e => by
    by_cases q : ((B.get? b).isSome || decide (b ∈ frs Y.stack)) = true
    · exact ⟨(gin b q).symm.trans e, by simpa using q⟩
    · have z := gout b (by simpa using q)
      rw [z] at e
      cases e
  refine ⟨a, B, ⟨G, s'.gens, s'.drawn, s'.toks, s.os⟩, pn, σ, H', cls, d, eu, ?_, fun b o e hb => ?_, Heap.UpToSlots.of_keeps fun b o e => (back b o e).1, fl, na, eo, ag, hE⟩
  · exact I.call (ch := []) ⟨fun b o e n hb _ => ofB b o (ub.keep b o e n hb), fun b o e n hb _ => (ub.slot b o e hb).imp fun sl q => (ofF b hb).trans q, fun b o e n _ => ub.free b o e n,
      fun b o e _ => (Classical.em (b ∈ frs Y.stack)).elim (fun hb => let ⟨sl, q⟩ := ub.slot b o e hb; ⟨_, (ofF b hb).trans q⟩) (fun hb => let ⟨o', q⟩ := ub.there b o e hb; ⟨o', ofB b o' q⟩), ub.tups, ub.frzs, ub.tbls⟩
      (hok.kept ofB) ag (fun _ z => nomatch z)
  · obtain ⟨e1, h1⟩ := back b o e
    rcases h1 with h1 | h1
    · obtain ⟨o', q⟩ := Option.isSome_iff_exists.mp h1
      have z := stay b o' q
      rw [e1] at z
      cases z
      exact q
    · exact absurd h1 hb

/-- what may leave the block is passed on -/
theorem fell_passes {Y : Cx} {E : XK} : Passes (L2.CX (Y.wish (Fell Y E)).prog (Y.wish (Fell Y E)).w) (Y.wish (Fell Y E)) E := fun _ _ _ _ _ _ I c => fell_of_call I.unwish c

theorem flyingZ_less {B B' h : Heap} {l : List Env} {e : Addr} {Z : Obj → Prop} (x : HandSPX.FlyingZ B l e Z h) (sub : ∀ b o, B'.get? b = some o → B.get? b = some o) : HandSPX.FlyingZ B' l e Z h := by
  obtain ⟨k1, k2, k3, oe, vs, T, oT, ts, t1, t2, t3, t4, t5, t6⟩ := x
  have nn : ∀ b, B.get? b = none → B'.get? b = none := fun b n => by
    cases q : B'.get? b with
    | none => rfl
    | some o => rw [sub b o q] at n; cases n
  exact ⟨fun b o e => k1 b o (sub b o e), nn _ k2, funFrames_none k3 fun L hL => nn L (k3.mem hL).1, oe, vs, T, oT, ts, t1, t2, t3, t4, nn _ t5, t6⟩

theorem heldZ_but {B h h' : Heap} {l : List Env} {e L C : Addr} {Z : Obj → Prop} {m m' : Str → Option Value} (x : HandSPX.HeldZ B l e Z L h) (nB : B.get? C = none) (hn : h.Ns C m) (hn' : h'.Ns C m') (sb : Heap.SameBut C h h') : HandSPX.HeldZ B l e Z L h' := by
  obtain ⟨k1, k2, k3, oe, vs, T, oT, ts, t1, t2, t3, t4, t5, t6, t7, t8, t9⟩ := x
  obtain ⟨oC, es, ep, c1, c2, _⟩ := hn
  have ne1 : e ≠ C := fun z => by rw [z, c1] at t1; cases t1; rw [c2] at t3; cases t3
  have ne2 : T ≠ C := fun z => by rw [z, c1] at t7; cases t7; rw [c2] at t8; cases t8
  exact ⟨fun b o q => (sb.2 b fun z => by rw [z, nB] at q; cases q).trans (k1 b o q), k2, Heap.FunFrames.sameBut sb hn' k3, oe, vs, T, oT, ts, (sb.2 e ne1).trans t1, t2, t3, t4, t5, t6, (sb.2 T ne2).trans t7, t8, t9⟩

theorem UpToSlots.tr {a b c : Heap} (x : a.UpToSlots b) (y : b.UpToSlots c) : a.UpToSlots c := x.trans y

section
variable {X : Cx}
/-- the exception leaves the block and goes on in the def -/
theorem fell_out {Ex : XK} {pn : List (Addr × Obj)} {σ : L2.St} {H3 : Hp} {s3 s' : Shared} {scope : Scope} {ce : Env} {fp : List Addr} {u : Value}
    (hst : X.stack = X.env :: X.outer) (hfr : X.env.frame = some X.env.locals) (cfr : ce.frame = X.env.frame) (cL : ce.locals = s3.heap.objs.size)
    (tk : Takes X fun cls d _ H => Ex cls d H) (I3 : Inv X pn σ H3 s3)
    (f3 : ∀ b ∈ fp, FpOk X pn H3 b ∧ b < s3.heap.objs.size)
    (x : Fell (X.blk s3 H3 scope ce fp) Ex u s') : notedBy (model X.prog X.w) X.A ce (CompFails (model X.prog X.w) X.A X.xe ce) u s' := by
  obtain ⟨a, B, sI, pb, σb, Hb, cls, d, rfl, Ib, nb, up, fl, na, eo, ag, hE⟩ := x
  have fl : HandSPX.FlyingZ B X.stack a (Zc cls d) s'.heap := fl
  have nb : ∀ b o, sI.heap.get? b = some o → b ∉ frs X.stack → B.get? b = some o := nb
  -- the ground without the block's names
  obtain ⟨B', b1, b2⟩ := restrict B fun b => decide (b ≠ ce.locals)
  have sub : ∀ b o, B'.get? b = some o → B.get? b = some o := fun b o e => by
    by_cases q : b = ce.locals
    · have z := b2 b (by simp [q]); rw [z] at e; cases e
    · exact (b1 b (by simp [q])).symm.trans e
  have nBC : B'.get? ce.locals = none := b2 _ (by simp)
  have fl' := flyingZ_less fl sub
  -- back in the def's context, the block's names hidden
  have I7 : Inv X pn σ Hb sI := I3.call' (ch := fp) Ib.os Ib.base Ib.hok Ib.bare fun b hb => ⟨(f3 b hb).1.2.2.2.1, (f3 b hb).1.2.1, (f3 b hb).1.2.2.2.2.1, (f3 b hb).1.2.2.2.2.2⟩
  have nC : Hb ce.locals = none := Ib.free
  have fC : FpOk X pn Hb ce.locals := I3.fpOk (Nat.le_of_eq cL.symm) nC
  obtain ⟨G, g1, g2⟩ := restrict sI.heap fun b => decide (b ≠ ce.locals)
  obtain ⟨h0, h1, h2, h3, h4, h5⟩ := fC
  have I8 : Inv X pn σ Hb { sI with heap := G, toks := sI.toks } := I7.turned (fun b o hb e => (g1 b (by simp [hb])).trans e) h0 h1 h3 h4 h5
  have subG : ∀ b o, G.get? b = some o → b ≠ ce.locals ∧ sI.heap.get? b = some o := fun b o e => by
    by_cases q : b = ce.locals
    · have z := g2 b (by simp [q]); rw [z] at e; cases e
    · exact ⟨q, (g1 b (by simp [q])).symm.trans e⟩
  obtain ⟨m0, hn0, _⟩ := Ib.loc
  have hn0 : sI.heap.Ns ce.locals m0 := hn0
  have frA : X.A.frames = some (X.env :: X.outer) := by rw [I3.ok.frames, hst]
  rw [hst] at fl'
  show wpAny _ _ (noteFrame (.ref a) ce) _ _ s'
  rw [PySem.noteFrame_env _ cfr]
  refine HandSPX.looks_onZ Zc.steady frA hfr fl' fun k1 held1 upk => ?_
  have up1 : sI.heap.UpToSlots k1 := up.trans upk
  have hn1 : k1.Ns ce.locals m0 := hn0.upToSlots up1
  refine ⟨m0, hn1, fun k2 m2 hn2 sb => ?_⟩
  have held2 := heldZ_but held1 nBC hn1 hn2 sb
  obtain ⟨q1, q2, q3, oe, vs, T, oT, ts, t1, t2, t3, t4, t5⟩ := id held2
  unfold PySem.passOn
  refine wpAny_bind (wpAny_field t1 t3 t4 ?_)
  rw [if_neg (show ¬ ((Value.ref T == Value.none) = true) from by simp)]
  have fin : wpAny (model X.prog X.w) X.A (setFlight (.ref a) ce.frame) (fun _ s4 => wpAny (model X.prog X.w) X.A (throw (.ref a) : Sem Value) (fun _ _ => False) X.xe s4) X.xe { s' with heap := k2 } := by
    rw [cfr, hfr]
    refine HandSPX.setFlight_onZ held2 fun k3 held3 up3 => wpAny_throw (tk _ _ ?_)
    refine ⟨a, B', { sI with heap := G, toks := sI.toks }, pn, σ, Hb, cls, d, rfl, I8, fun b o e hb => ?_, fun b o e hnf => ?_, .inr (.inr (by rw [hst]; exact held3)), na, eo, ag, hE⟩
    · obtain ⟨z1, z2⟩ := subG b o e
      exact (b1 b (by simp [z1])).trans (nb b o z2 hb)
    · obtain ⟨z1, z2⟩ := subG b o e
      obtain ⟨sl, e1⟩ := up1 b o z2 hnf
      obtain ⟨sl', e2⟩ := up3 b _ ((sb.2 b z1).trans e1) hnf
      exact ⟨sl', e2⟩
  first
    | exact wpAny_bind (wpAny_pure (wpAny_bind fin))
    | exact wpAny_bind fin
end
section
variable {X : Cx}
/-- the reading of a comprehension whose element may raise what Ex wants -/
theorem lcx_core {Ex : XK} {pins : List (Addr × Obj)} {s : Shared} {σ : L2.St} {H : Hp} {Q : VK} {elt tg iter : Expr} {scope : Scope} {own : List (Str × Nat)} {pos pos' : Pos} {wi : TI} {g : TG} {te : TE} {use : Option (Value → Sem Unit)} {Qf : Value → Shared → Prop}
    (hc : X.calm = true) (hN : X.N.Nodup) (hst : X.stack = X.env :: X.outer) (hfr : X.env.frame = some X.env.locals) (tk : Takes X fun cls d _ H => Ex cls d H) (I : Inv X pins σ H s) (hi : PI X tg iter wi) (ok : BlkOk X.N X.env.scope scope own)
    (hg : ∀ (s : Shared) (H : Hp) (C : Addr) (cl : List (Str × Addr)) (fp : List Addr), PG (X.blk s H scope (compEnvC scope cl C X.env) fp) tg g)
    (he : ∀ (s : Shared) (H : Hp) (C : Addr) (cl : List (Str × Addr)) (fp : List Addr), PE ((X.blk s H scope (compEnvC scope cl C X.env) fp).wish (Fell (X.blk s H scope (compEnvC scope cl C X.env) fp) Ex)) elt te)
    (hs : ∀ x, foldedSetIterable iter X.env x = pure x) (h : tLc wi g tYes te (own.map (·.2)) σ H Q)
    (hRR : ∀ D ce s' m H', Inv X pins σ H' s' → Q (.ref D) H' → s'.heap.Ns ce.locals m → FpOk X pins H' ce.locals → compEnds (model X.prog X.w) X.A X.xe use Qf (.ref D) ce (.ok .next) s') :
    wpAny (model X.prog X.w) X.A (comprehension (.ListComp elt [⟨tg, iter, [], 0⟩] scope pos) scope X.env pos' (newList []) false (eval iter X.env) use) Qf X.xe s := by
  have frees : ∀ y ∈ scope.names, y.2 = .free → ∃ c, X.env.cells.lookup y.1 = some c := fun y hy e => (ok.free y hy e).elim (fun k => I.ok.has _ (.inl k)) fun k => I.ok.has _ (.inr k)
  refine comprehension_at (use := use) rfl hs (closure_ok frees) ok.kind (fun y hy e => (ok.uniq y hy).trans (congrArg some e)) (thn (hi.run pins s σ H _ I h) fun xv s1 hx => thn hx fun itv s2 h2 => ?_)
  obtain ⟨it, fp, tn, J, H2, eit, I2, T, st2, f2, q⟩ := h2
  subst eit
  refine wpAny_newObj_type (newEnv_comp ?_) (Nat.zero_le _)
  generalize hD : s2.heap.objs.size = D
  have freshD : H2 D = none := I2.hok.fresh (Nat.le_of_eq hD)
  obtain ⟨W, ⟨m0, w0⟩, turn⟩ := q D freshD
  generalize hs3 : ({ s2 with heap := s2.heap.push { cls := .type "list", data := .seq ([] : List Value).toArray } } : Shared) = s3
  have e3 : s3.heap = s2.heap.push { cls := .type "list", data := .seq ([] : List Value).toArray } := by rw [← hs3]
  have kept3 : ∀ b o, s2.heap.get? b = some o → s3.heap.get? b = some o := fun b o e => by rw [e3]; exact Heap.get?_push_of_some _ e
  have I3 : Inv X pins σ (upd H2 D (.lst [])) s3 := by
    subst hs3
    exact I2.laid (t' := s2.toks) kept3 (Nat.le_of_eq hD) ⟨Nat.zero_le _, [], 0, .nil, by rw [← hD]; exact Heap.get?_push_size _ rfl⟩
  have lt2 : ∀ b ∈ fp, b < s2.heap.objs.size := fun b hb => let ⟨o, e, _⟩ := T.obj _ _ st2 b hb; Heap.lt_size e
  have f3 : ∀ b ∈ fp, FpOk X pins (upd H2 D (.lst [])) b ∧ b < s3.heap.objs.size := fun b hb =>
    ⟨⟨(upd_ne (by rw [← hD]; exact Nat.ne_of_lt (lt2 b hb))).trans (f2 b hb).1, (f2 b hb).2⟩, by rw [e3, Heap.size_push]; exact Nat.lt_succ_of_lt (lt2 b hb)⟩
  have st3 : tn 0 s3.heap := T.keep _ _ _ st2 fun b _ o e => kept3 b o e
  have I4 := block_start I3 ok hN f3
  have pg := hg s3 (upd H2 D (.lst [])) s3.heap.objs.size (cellsFrom (s3.heap.objs.size + 1) scope.names (cloFrom X.env.cells scope.names [])) fp
  have pe := he s3 (upd H2 D (.lst [])) s3.heap.objs.size (cellsFrom (s3.heap.objs.size + 1) scope.names (cloFrom X.env.cells scope.names [])) fp
  show codeAny _ _ (.compStart (.ListComp elt [⟨tg, iter, [], 0⟩] scope pos) 0 (.ref it) (.ref D) (compEnvC scope (cellsFrom (s3.heap.objs.size + 1) scope.names (cloFrom X.env.cells scope.names [])) s3.heap.objs.size X.env))
    (compEnds (model X.prog X.w) X.A X.xe use Qf (.ref D) (compEnvC scope (cellsFrom (s3.heap.objs.size + 1) scope.names (cloFrom X.env.cells scope.names [])) s3.heap.objs.size X.env)) { s3 with heap := pushCells (s3.heap.push { cls := .type "dict", data := .dict #[] }) scope.names }
  have nfp : ∀ b ∈ fp, (upd H2 D (.lst [])) b = none := fun b hb => (f3 b hb).1.1
  have cfr : (compEnvC scope (cellsFrom (s3.heap.objs.size + 1) scope.names (cloFrom X.env.cells scope.names [])) s3.heap.objs.size X.env).frame = X.env.frame := rfl
  have cL : (compEnvC scope (cellsFrom (s3.heap.objs.size + 1) scope.names (cloFrom X.env.cells scope.names [])) s3.heap.objs.size X.env).locals = s3.heap.objs.size := rfl
  generalize compEnvC scope (cellsFrom (s3.heap.objs.size + 1) scope.names (cloFrom X.env.cells scope.names [])) s3.heap.objs.size X.env = ce at I4 pg pe cfr cL ⊢
  generalize upd H2 D (.lst []) = H3 at I3 I4 pg pe w0 nfp f3
  generalize hs4 : ({ s3 with heap := pushCells (s3.heap.push { cls := .type "dict", data := .dict #[] }) scope.names } : Shared) = s4 at I4 ⊢
  have st4 : tn 0 s4.heap := T.keep _ _ _ st3 fun b _ o e => by subst hs4; exact pushCells_keeps _ _ _ _ (Heap.get?_push_of_some _ e)
  have static : ∀ {σ' : L2.St} {H' : Hp} {s' : Shared}, Inv (X.blk s3 H3 scope ce fp) [] σ' H' s' → (∀ b ∈ fp, H' b = none) → ∀ b ∈ fp, FpOk (X.blk s3 H3 scope ce fp) [] H' b := fun {σ' H' s'} I' n b hb =>
    ⟨n b hb, (I'.ok.exf b hb).1, I'.ok.exfs b hb, .inl hb, fun x c e => (I'.ok.exf b hb).2 x c e, fun p hp => by cases hp⟩
  have loop : codeAny (model X.prog X.w) X.A (.compLoop (.ListComp elt [⟨tg, iter, [], 0⟩] scope pos) 0 (.ref it) (.ref D) ce) (compEnds (model X.prog X.w) X.A X.xe use Qf (.ref D) ce) s4 := by
    refine compLoop_any (fun n s' => ∃ i H', Inv (X.blk s3 H3 scope ce fp) [] (wipe σ (own.map (·.2))) H' s' ∧ tn i s'.heap ∧ (∀ b ∈ fp, H' b = none) ∧ W i n H') ?_ m0 ⟨0, H3, I4, st4, nfp, w0⟩
    rintro n s5 ⟨i, H5, I5, st5, n5, w5⟩
    rcases turn i n H5 w5 with ⟨stop, qq⟩ | ⟨go, Nx, hNx, step⟩
    · refine thnF (T.done (X.blk s3 H3 scope ce fp) rfl rfl rfl hc i [] s5 _ H5 (fun _ _ => False) I5 (static I5 n5) st5 stop) fun r s6 ⟨er, I6⟩ => ?_
      subst er
      have I7 : Inv X pins σ H5 s6 := I3.call' (ch := fp) I6.os I6.base I6.hok I6.bare fun b hb => ⟨(f3 b hb).1.2.2.2.1, (f3 b hb).1.2.1, (f3 b hb).1.2.2.2.2.1, (f3 b hb).1.2.2.2.2.2⟩
      have nC : H5 ce.locals = none := I6.free
      obtain ⟨m, hn, _⟩ := I6.loc
      exact hRR D ce s6 m H5 I7 qq hn (I3.fpOk (Nat.le_of_eq cL.symm) nC)
    · refine thnF (T.item (X.blk s3 H3 scope ce fp) rfl rfl rfl hc i [] s5 _ H5 (fun _ _ => False) I5 (static I5 n5) st5 go) fun r s6 ⟨u, er, h6⟩ => ?_
      subst er
      refine thnF h6 fun _ s7 ⟨x, H7, I7, r7, y7, st7, n7⟩ => ?_
      have I7' := I7.pinned (static I7 n7) (T.obj _ _ st7)
      refine thnF (pg.run _ s7 _ H7 x u _ I7' r7 (step x H7 y7)) fun _ s8 ⟨σ8, H8, I8, hw8, q8⟩ => ?_
      have q8 : te σ8 H8 fun y H4 => ∃ acc, H4 D = some (.lst acc) ∧ acc.length < sizeLine ∧ Nx (upd H4 D (.lst (acc ++ [y]))) := by simpa [tYes] using q8
      have fin : ∀ {s' : Shared} {H' : Hp}, Inv (X.blk s3 H3 scope ce fp) ([] ++ pinsAt fp s7.heap) σ8 H' s' → Nx H' → ∃ m, m < n ∧ ∃ i H', Inv (X.blk s3 H3 scope ce fp) [] (wipe σ (own.map (·.2))) H' s' ∧ tn i s'.heap ∧ (∀ b ∈ fp, H' b = none) ∧ W i m H' := fun {s' H'} I' nx => by
        obtain ⟨m', hm, w'⟩ := hNx H' nx
        have pinned : ∀ b ∈ fp, ∀ o, s7.heap.get? b = some o → s'.heap.get? b = some o ∧ H' b = none := fun b hb o e =>
          let z := I'.pin (b, o) (List.mem_append_right _ (List.mem_append_right _ (mem_pinsAt hb e)))
          ⟨z.1, z.2.1⟩
        have len8 : (wipe σ (own.map (·.2))).length = σ8.length := by rw [← hw8, wipe_length]
        refine ⟨m', hm, i + 1, H', (I'.unpinned (pins := [])).weak len8 (fun j v e => ?_), T.keep _ _ _ st7 fun b hb o e => (pinned b hb o e).1, fun b hb => ?_, w'⟩
        · rw [← hw8] at e
          exact (wipe_some e).1
        · obtain ⟨o, e, _⟩ := T.obj _ _ st7 b hb
          exact (pinned b hb o e).2
      refine wpAny_tests_nil ?_
      simp only [if_true]
      refine wpAny_mono (pe.run _ s8 σ8 H8 _ (I8.wish _) q8) (fun z s10 ⟨yv, H10, I10, r10, acc, hD10, hz10, nx⟩ => ?_) fun u' s' fe => fell_out hst hfr cfr cL tk I3 f3 fe
      exact app_ok (X := X.blk s3 H3 scope ce fp) I10.unwish hD10 hz10 r10 fun s11 I11 => fin I11 nx
  exact codeAny_compStart_list loop (T.self X.A 0 _ _ _ st4 loop)
/-- as a value -/
theorem pe_lcx {Ex : XK} {elt tg iter : Expr} {scope : Scope} {own : List (Str × Nat)} {pos : Pos} {wi : TI} {g : TG} {te : TE} (hst : X.stack = X.env :: X.outer) (hfr : X.env.frame = some X.env.locals) (tk : Takes X fun cls d _ H => Ex cls d H) (hc : X.calm = true) (hN : X.N.Nodup) (hi : PI X tg iter wi) (ok : BlkOk X.N X.env.scope scope own)
    (hg : ∀ (s : Shared) (H : Hp) (C : Addr) (cl : List (Str × Addr)) (fp : List Addr), PG (X.blk s H scope (compEnvC scope cl C X.env) fp) tg g)
    (he : ∀ (s : Shared) (H : Hp) (C : Addr) (cl : List (Str × Addr)) (fp : List Addr), PE ((X.blk s H scope (compEnvC scope cl C X.env) fp).wish (Fell (X.blk s H scope (compEnvC scope cl C X.env) fp) Ex)) elt te)
    (hs : ∀ x, foldedSetIterable iter X.env x = pure x := by intro _; rfl) : PE X (.ListComp elt [⟨tg, iter, [], 0⟩] scope pos) (tLc wi g tYes te (own.map (·.2))) := by
  refine ⟨fun pins s σ H Q I h => ?_⟩
  rw [eval_ListComp]
  refine lcx_core (use := none) hc hN hst hfr tk I hi ok hg he hs h fun D ce s' m H' I' q hn ⟨f0, f1, f2, f3, f4, f5⟩ => ⟨m, hn, fun h2 sb => ?_⟩
  exact ⟨.ref D, H', I'.turned (t' := s'.toks) (fun b o hb e => (sb.2 b hb).trans e) f0 f1 f3 f4 f5, rfl, q⟩
/-- y = [..], y a local -/
theorem ps_setLcx {Ex : XK} {i : Nat} {y : Str} {py : Pos} {elt tg iter : Expr} {scope : Scope} {own : List (Str × Nat)} {pos spos : Pos} {wi : TI} {g : TG} {te : TE} (hst : X.stack = X.env :: X.outer) (hfr : X.env.frame = some X.env.locals) (tk : Takes X fun cls d _ H => Ex cls d H) (hc : X.calm = true) (hN : X.N.Nodup)
    (hy : X.N[i]? = some y) (hyl : X.env.scope.names.lookup y = some .local) (hsw : swapsWith (.ListComp elt [⟨tg, iter, [], 0⟩] scope pos) (some (.Name y py)) spos.line X.env = pure true) (hi : PI X tg iter wi) (ok : BlkOk X.N X.env.scope scope own)
    (hg : ∀ (s : Shared) (H : Hp) (C : Addr) (cl : List (Str × Addr)) (fp : List Addr), PG (X.blk s H scope (compEnvC scope cl C X.env) fp) tg g)
    (he : ∀ (s : Shared) (H : Hp) (C : Addr) (cl : List (Str × Addr)) (fp : List Addr), PE ((X.blk s H scope (compEnvC scope cl C X.env) fp).wish (Fell (X.blk s H scope (compEnvC scope cl C X.env) fp) Ex)) elt te)
    (hs : ∀ x, foldedSetIterable iter X.env x = pure x := by intro _; rfl) : PS X (.Assign [.Name y py] (.ListComp elt [⟨tg, iter, [], 0⟩] scope pos) spos) (tAsg (tLc wi g tYes te (own.map (·.2))) (gName i)) := by
  refine ⟨fun pins s σ H D I h => ?_⟩
  rw [exec_Assign_Name_used _ _ _ _ hsw]
  refine wpAny_bind (wpAny_standAt (wpAny_bind ?_))
  show wpAny _ X.A (do let _ ← comprehension (.ListComp elt [⟨tg, iter, [], 0⟩] scope pos) scope X.env (firstIterPos [⟨tg, iter, [], 0⟩] pos) (newList []) false (eval iter X.env) (some (assign (.Name y py) X.env))) _ _ s
  have h' : tLc wi g tYes te (own.map (·.2)) σ H (fun x H1 => gName i x σ H1 D.nx) := h
  refine wpAny_bind (thn (lcx_core (Qf := fun _ s' => SP X pins D .next s') (use := some (assign (.Name y py) X.env)) hc hN hst hfr tk I hi ok hg he hs h' fun L ce s' m H' I' q hn ⟨f0, f1, f2, f3, f4, f5⟩ => ?_) fun _ s' hq => wpAny_pure (wpAny_pure hq))
  refine wpAny_assign_Name (store_ok2 (v := V.ref L) I' hN hy (.inl hyl) rfl (fun s2 I2 ⟨a, sb, ha⟩ => ?_) (.inr hyl))
  have apart : ce.locals ≠ a := ha.elim (fun z => by rw [z]; exact f1) fun z e => f4 y a z e.symm
  exact ⟨m, hn.sameBut sb apart, fun h3 sb3 => ⟨_, H', I2.turned (t' := s2.toks) (fun b o hb e => (sb3.2 b hb).trans e) f0 f1 f3 f4 f5, q⟩⟩
end
end Rj

set_option Elab.async false
set_option linter.all false
set_option maxRecDepth 100000
set_option maxHeartbeats 4000000
namespace Bs
open PySem L2
abbrev veB : List Value := [.type "ValueError", .type "Exception", .type "BaseException", .type "object"]
/-- the class InvalidShape at C -/
structure ShpC (K : PySem.W.Frag) (mg : Str → Option Value) (C : Addr) : Prop where
  gC : mg "InvalidShape" = some (.ref C)
  kC : PySem.W.keepIn K (.ref C) = true
  xC : PySem.W.excIn K C veB "ValueError.__new__" = true
  bC : PySem.W.subIn K (.ref C) (.type "BaseException") = some true
  tC : PySem.W.typeIn K (.ref C) = some (.type "type")
/-- a module's int -/
def GInt (mg : Str → Option Value) (x : Str) (i : Int) : Prop := ∃ t, mg x = some (.int i t)
def GStr (mg : Str → Option Value) (x : Str) (z : Str) : Prop := ∃ t, mg x = some (.str z t)
theorem pe_gint {X : Cx} {x : Str} {i : Int} {pos : Pos} (h : GInt X.mg x i) (hg : Gl X x) (hd : (x == ("__debug__" : Str)) = false := by decide) : PE X (.Name x pos) (tC (.int i)) := by
  obtain ⟨t, e⟩ := h
  exact pe_glob hg e ⟨t, rfl⟩ hd
theorem pe_gstr {X : Cx} {x : Str} {z : Str} {pos : Pos} (h : GStr X.mg x z) (hg : Gl X x) (hd : (x == ("__debug__" : Str)) = false := by decide) : PE X (.Name x pos) (tC (.str z)) := by
  obtain ⟨t, e⟩ := h
  exact pe_glob hg e ⟨t, rfl⟩ hd
/-- require: nothing, or the error -/
def spRequire (C : Addr) : Sp := fun vs H Q E => ∃ b z, vs = [.bl b, .str z] ∧ (b = true → Q .non H) ∧ (b = false → E (.ref C) none H)
/-- is_integer, of an int -/
def spIsInt : Sp := fun vs H Q _ => ∃ i lo hi : Int, vs = [.int i, .int lo, .int hi] ∧ Q (.bl (decide (lo ≤ i ∧ i ≤ hi))) H
section
variable {P : Program} {w : World} {K : PySem.W.Frag} {mg : Str → Option Value} {base : Heap} {f C : Addr} {fd : FuncData}
theorem scRequire : FnScope ["holds", "words"] ["holds", "words"] (defScope sRequire) := ⟨rfl, rfl, rfl, by decide +kernel, rfl, by decide +kernel, by decide +kernel⟩
theorem ok_require (F : Fun K "require" "require" sRequire f fd) (T : ShpC K mg C) : FnOk P w K mg base (L2.CX P w) 1 f fd ["holds", "words"] (spRequire C) := by
  refine F.okX scRequire (fun vs H Q E h => ?_) (fun cdv A outer s H vs Q E hr h => ?_)
  · obtain ⟨b, z, rfl, _⟩ := h
    rfl
  · obtain ⟨b, z, rfl, q1, q2⟩ := h
    refine ⟨_, pss_one (ps_if (pt_not (pt_val (pv 0))) (pss_one (ps_raise rfl (takes_of rfl rfl rfl rfl) (SkE.pmk_own1 PySem.F.excBase_ValueError T.xC T.gC T.kC (raises_own T.bC T.tC) rfl (pv 1)))) pss_nil), ?_⟩
    refine ⟨_, rfl, _, rfl, ?_⟩
    cases b with
    | true => exact iteF (q1 rfl)
    | false => exact iteT ⟨_, rfl, q2 rfl⟩
theorem scIsInt : FnScope ["value", "low", "high"] ["value", "low", "high"] (defScope sIsInteger) := ⟨rfl, rfl, rfl, by decide +kernel, rfl, by decide +kernel, by decide +kernel⟩
theorem ok_isint (F : Fun K "is_integer" "is_integer" sIsInteger f fd) (mi : mg "isinstance" = none) (mint : mg "int" = none) (mb : mg "bool" = none) : FnOk P w K mg base CX0 1 f fd ["value", "low", "high"] spIsInt := by
  refine F.ok scIsInt (fun vs H Q E h => ?_) (fun cdv A outer s H vs Q E hr h => ?_)
  · obtain ⟨i, lo, hi, rfl, _⟩ := h
    rfl
  · obtain ⟨i, lo, hi, rfl, q⟩ := h
    refine ⟨_, pss_one (ps_ret (pe_and (pe_callB call_isi (by rfl) mi (by decide +kernel) (pa_cons (pv 0) (pa_cons (pe_bltn (v := .ty "int") (by rfl) mint (by decide +kernel) rfl) pa_nil)))
      (pe_and (pe_not (pe_callB call_isi (by rfl) mi (by decide +kernel) (pa_cons (pv 0) (pa_cons (pe_bltn (v := .ty "bool") (by rfl) mb (by decide +kernel) rfl) pa_nil)))) (pe_one (pe_chain op_le op_le (pv 1) (pv 0) (pv 2)))))), ?_⟩
    refine ⟨_, rfl, _, _, _, _, true, rfl, .ty _, .base (.int _), kit_ty (by decide +kernel), _, rfl, iteT ?_⟩
    refine ⟨_, rfl, _, _, _, _, false, rfl, .ty _, .base (.int _), kit_ty (by decide +kernel), _, rfl, _, rfl, iteT ?_⟩
    refine ⟨_, rfl, _, rfl, _, _, rfl, rfl, _, rfl, ?_⟩
    by_cases c : lo ≤ i
    · rw [if_pos (decide_eq_true c)]
      refine ⟨_, rfl, _, _, rfl, rfl, ?_⟩
      show Q (.bl (decide (i ≤ hi))) H
      rw [show decide (i ≤ hi) = decide (lo ≤ i ∧ i ≤ hi) by simp [c]]
      exact q
    · rw [if_neg (by simpa using c)]
      rw [show decide (lo ≤ i ∧ i ≤ hi) = false by simp [c]] at q
      exact q
end
end Bs

set_option Elab.async false
set_option linter.all false
set_option maxRecDepth 100000
set_option maxHeartbeats 4000000
namespace Bs
open PySem L2
def spIsName : Sp := fun vs H Q _ => ∃ z : Str, vs = [.str z] ∧ z.length ≤ sizeLine ∧ ∀ H', Same H H' → Q (.bl (isName z)) H'
/-- is_row of a list or tuple -/
def spIsRow : Sp := fun vs H Q _ => ∃ (p : Addr) (xs : List V) (lo hi : Int), vs = [.ref p, .int lo, .int hi] ∧ RowAt false H p xs ∧ ∀ H', Same H H' → Q (.bl (decide (lo ≤ (xs.length : Int) ∧ (xs.length : Int) ≤ hi))) H'
theorem same_new {H : Hp} {p : Addr} (h : H p = none) (o : HO) : Same H (upd H p o) := fun b u q => by rw [upd_ne (ne_of_none q h)]; exact q
theorem same_set {H H' : Hp} {p : Addr} {o : HO} (s : Same H H') (h : H p = none) : Same H (upd H' p o) := fun b u q => by rw [upd_ne (ne_of_none q h)]; exact s b u q
theorem yes_go {te : TE} {σ : L2.St} {H : Hp} {R : V → Hp → Prop} {N : Hp → Prop} (h : te σ H R) : tYes σ H fun b H3 => if b = true then te σ H3 R else N H3 := by
  show if true = true then te σ H R else N H
  rw [if_pos rfl]
  exact h
theorem sizeLine_big : 16777216 = sizeLine := by decide
theorem le_line {n : Nat} (h : n ≤ 16777216) : n ≤ sizeLine := by rw [← sizeLine_big]; exact h
theorem nameOk_len {l : List Nat} (h : ¬ (1 ≤ l.length ∧ l.length ≤ 12)) : nameOk l = false := by
  cases l with
  | nil => rfl
  | cons c r =>
    have : ¬ r.length < 12 := fun q => h ⟨by simp, q⟩
    rw [nameOk, decide_eq_false this]; rfl
section
variable {P : Program} {w : World} {K : PySem.W.Frag} {mg : Str → Option Value} {base : Heap} {f C : Addr} {fd : FuncData}
theorem scIsName : FnScope ["text", "one"] ["text"] (defScope sIsName) := ⟨rfl, rfl, rfl, by decide +kernel, rfl, by decide +kernel, by decide +kernel⟩
theorem ok_isname (F : Fun K "is_name" "is_name" sIsName f fd) (mi : mg "isinstance" = none) (ms : mg "str" = none) (ml : mg "len" = none) (ma : mg "all" = none) (gL : GStr mg "LETTERS" letters) (gD : GStr mg "DIGITS" digits) (gN : GInt mg "LONGEST_NAME" 12) :
    FnOk P w K mg base CX0 1 f fd ["text"] spIsName := by
  refine F.ok scIsName (fun vs H Q E h => ?_) (fun cdv A outer s H vs Q E hr h => ?_)
  · obtain ⟨z, rfl, _⟩ := h
    rfl
  · obtain ⟨z, rfl, hz, q⟩ := h
    refine ⟨_, pss_cons (ps_if (PW.pt (pw_or (pt_not (pt_val (pe_callB call_isi (by rfl) mi (by decide +kernel) (pa_cons (pv 0) (pa_cons (pe_bltn (v := .ty "str") (by rfl) ms (by decide +kernel) rfl) pa_nil)))))
        (pw_or1 (pt_not (pt_chain op_le op_le pe_int (pe_callB call_len_str (by rfl) ml boot_len (pa_cons (pv 0) pa_nil)) (pe_gint gN rfl)))))) (pss_one (ps_ret pe_bl)) pss_nil)
      (pss_one (ps_ret (pe_and (pe_cmpR op_in_sign (pe_item_str (pv 0) pe_int (fun _ _ => rfl)) (pe_gstr gL rfl) rfl)
        (pe_one (pe_callB (cr_all rfl) (by rfl) ma (by decide +kernel) (pa_cons (pe_lc (own := [("one", 1)]) (g := gName 1) (tt := tYes) rfl scIsName.nd (pi_str (pv 0)) (blkOk_by (own := [("one", 1)]) (N := ["text", "one"]) (sc := defScope sIsName) (by decide +kernel))
          (fun _ _ _ _ _ => pg_name (i := 1) scIsName.nd rfl (Or.inl rfl)) (fun _ _ _ _ _ => pts_nil)
          (fun _ _ _ _ _ => pe_or (pe_cmpR op_in_sign (pv 1) (pe_gstr gL rfl) rfl) (pe_one (pe_cmpR op_in_sign (pv 1) (pe_gstr gD rfl) rfl)))) pa_nil)))))), ?_⟩
    refine ⟨_, rfl, _, _, _, _, true, rfl, .ty _, .base (.str _), kit_ty (by decide +kernel), _, rfl, ?_⟩
    refine iteF ?_
    refine ⟨_, rfl, z, rfl, hz, _, _, rfl, rfl, _, rfl, ?_⟩
    have hl : z.length = z.cps.toList.length := by simp [Str.length]
    have bad : ¬ (1 ≤ (z.length : Int) ∧ (z.length : Int) ≤ 12) → isName z = false := fun h => nameOk_len fun ⟨h1, h2⟩ => h (by rw [hl]; omega)
    have out : isName z = false → Q (.bl false) H := fun e => by have z := q H (Same.refl H); rw [e] at z; exact z
    refine ite2 (fun c => ?_) (fun c => ?_)
    · have c : 1 ≤ (z.length : Int) := of_decide_eq_true c
      refine ⟨_, _, rfl, rfl, _, rfl, ?_⟩
      refine ite2 (fun d => ?_) (fun d => ?_)
      · have d : ¬ (z.length : Int) ≤ 12 := by simpa using d
        exact out (bad fun h => d h.2)
      · have d : (z.length : Int) ≤ 12 := by simpa using d
        obtain ⟨a, r, hzr⟩ : ∃ a r, z.cps.toList = a :: r := by
          cases e : z.cps.toList with
          | nil => rw [hl, e] at c; simp at c
          | cons a r => exact ⟨a, r, rfl⟩
        have h0 : z.cps[0]? = some a := by rw [← Array.getElem?_toList, hzr]; rfl
        have hr12 : r.length < 12 := by rw [hl, hzr] at d; simp at d; omega
        have hN : isName z = (isLetter a && (a :: r).all isSign) := by
          show nameOk z.cps.toList = _
          rw [hzr, nameOk, decide_eq_true hr12]; rfl
        refine ⟨_, rfl, z, 0, a, rfl, rfl, by decide, by decide, by omega, h0, a, letters, rfl, rfl, _, rfl, ?_⟩
        refine ite2 (fun e => ?_) (fun e => ?_)
        · have e : isLetter a = true := e
          refine ⟨_, rfl, z, rfl, fun D hD => lc_it (walk_str (z := z)) (fun i H' => Same H H' ∧ H' D = some (.lst ((((a :: r).take i).map isSign).map V.bl))) ⟨same_new hD _, upd_same⟩ (fun _ _ _ _ => trivial) ?_ ?_⟩
          · rintro i x H1 H2 hi ⟨sm, hD1⟩ ⟨rfl, ch, hch, rfl⟩
            have hch' : (a :: r)[i]? = some ch := by rw [← hzr, Array.getElem?_toList]; exact hch
            have step : (a :: r).take (i + 1) = (a :: r).take i ++ [ch] := by rw [List.take_add_one, hch']; rfl
            have fin : ∀ b, b = isSign ch → Same H (upd H2 D (.lst ((((a :: r).take i).map isSign).map V.bl ++ [V.bl b]))) ∧ (upd H2 D (.lst ((((a :: r).take i).map isSign).map V.bl ++ [V.bl b]))) D = some (.lst ((((a :: r).take (i + 1)).map isSign).map V.bl)) := fun b eb => by
              refine ⟨same_set sm hD, ?_⟩
              rw [upd_same, step, eb, List.map_append, List.map_append]
              rfl
            have size : ((((a :: r).take i).map isSign).map V.bl).length < sizeLine := small1000 (by rw [List.length_map, List.length_map, List.length_take]; simp; omega)
            refine ⟨rfl, yes_go ?_⟩
            refine ⟨_, rfl, ch, letters, rfl, rfl, _, rfl, ?_⟩
            refine ite2 (fun g => ?_) (fun g => ?_)
            · exact ⟨_, hD1, size, fin true (by have g : isLetter ch = true := g; rw [isSign, g]; rfl)⟩
            · refine ⟨_, rfl, ch, digits, rfl, rfl, _, hD1, size, fin _ ?_⟩
              have g : isLetter ch = false := by simpa [isLetter] using g
              rw [isSign, g]; rfl
          · rintro H1 ⟨sm, hD1⟩
            have hn : z.cps.size = (a :: r).length := by rw [← hzr]; simp
            rw [hn, List.take_length] at hD1
            refine ⟨D, _, rfl, SqL.of hD1, ?_⟩
            have k := q H1 sm
            rw [hN, e] at k
            rw [List.all_map]
            exact k
        · have e : isLetter a = false := by simpa [isLetter] using e
          exact out (by rw [hN, e]; rfl)
    · have c : ¬ 1 ≤ (z.length : Int) := by simpa using c
      exact ⟨false, rfl, iteT (out (bad fun h => c h.1))⟩
theorem scIsRow : FnScope ["rows", "least", "most"] ["rows", "least", "most"] (defScope sIsRow) := ⟨rfl, rfl, rfl, by decide +kernel, rfl, by decide +kernel, by decide +kernel⟩
theorem ok_isrow (F : Fun K "is_row" "is_row" sIsRow f fd) (mi : mg "isinstance" = none) (ml : mg "len" = none) (mlist : mg "list" = none) (mtup : mg "tuple" = none) :
    FnOk P w K mg base CX0 1 f fd ["rows", "least", "most"] spIsRow := by
  refine F.ok scIsRow (fun vs H Q E h => ?_) (fun cdv A outer s H vs Q E hr h => ?_)
  · obtain ⟨p, xs, lo, hi, rfl, _⟩ := h
    rfl
  · obtain ⟨p, xs, lo, hi, rfl, hp, q⟩ := h
    refine ⟨_, pss_one (ps_ret (pe_and (pe_callB call_isiT (by rfl) mi (by decide +kernel) (pa_cons (pv 0) (pa_cons (pe_tup (pa_cons (pe_bltn (v := .ty "list") (by rfl) mlist (by decide +kernel) rfl) (pa_cons (pe_bltn (v := .ty "tuple") (by rfl) mtup (by decide +kernel) rfl) pa_nil))) pa_nil)))
      (pe_one (pe_chain op_le op_le (pv 1) (pe_callB call_len (by rfl) ml boot_len (pa_cons (pv 0) pa_nil)) (pv 2))))), ?_⟩
    refine ⟨_, rfl, (by show 2 ≤ sizeLine; decide), fun t ht => ?_⟩
    have s0 := same_new ht (.tup [.ty "list", .ty "tuple"])
    have h2 : RowAt false (upd H t (.tup [.ty "list", .ty "tuple"])) p xs := hp.same s0
    have cl : Paired ClsV [V.ty "list", V.ty "tuple"] [Value.type "list", Value.type "tuple"] := .cons (.ty _) (.cons (.ty _) .nil)
    obtain ⟨ty, hty, hk, hl⟩ : ∃ ty, TyX K (upd H t (.tup [.ty "list", .ty "tuple"])) (.ref p) ty ∧ PySem.W.kitAny K ty [Value.type "list", Value.type "tuple"] = some true ∧ LenV K (.ref p) (upd H t (.tup [.ty "list", .ty "tuple"])) xs.length := by
      rcases h2 with h2 | ⟨_, h2⟩
      · exact ⟨_, .base (.tup h2), kitAny_cons (kit_ty (b := "list") (r := false) (by decide +kernel)) (fun _ => kitAny_cons (kit_ty (r := true) (by decide +kernel)) (fun z => by cases z) (fun _ => rfl)) (fun z => by cases z), .inr ⟨_, SqT.of h2, rfl⟩⟩
      · exact ⟨_, .base (.lst h2), kitAny_cons (kit_ty (r := true) (by decide +kernel)) (fun z => by cases z) (fun _ => rfl), .inl ⟨_, SqL.of h2, rfl⟩⟩
    have z := q _ s0
    refine ⟨_, t, _, ty, _, true, rfl, upd_same, cl, hty, hk, _, rfl, iteT ?_⟩
    refine ⟨_, rfl, _, rfl, V.ref p, xs.length, rfl, hl, _, _, rfl, rfl, _, rfl, ite2 (fun c => ?_) (fun c => ?_)⟩
    · have c : lo ≤ (xs.length : Int) := of_decide_eq_true c
      refine ⟨_, rfl, _, _, rfl, rfl, ?_⟩
      show Q (.bl (decide ((xs.length : Int) ≤ hi))) _
      rw [show decide ((xs.length : Int) ≤ hi) = decide (lo ≤ (xs.length : Int) ∧ (xs.length : Int) ≤ hi) by simp [c]]
      exact z
    · have c : ¬ lo ≤ (xs.length : Int) := by simpa using c
      rw [show decide (lo ≤ (xs.length : Int) ∧ (xs.length : Int) ≤ hi) = false by simp [c]] at z
      exact z
end
end Bs

set_option Elab.async false
set_option linter.all false
set_option maxRecDepth 100000
set_option maxHeartbeats 4000000
namespace Bs
open PySem L2
/-! ### calls in short -/
structure Cal (P : Program) (w : World) (K : PySem.W.Frag) (mg : Str → Option Value) (base : Heap) (CX : CXT) (k : Nat) (x : Str) (ps : List Str) (sp : Sp) : Prop where
  ex : ∃ (f : Addr) (fd : FuncData), mg x = some (.ref f) ∧ PySem.W.keepIn K (.ref f) = true ∧ Binds K fd ps [] ∧ FnOk P w K mg base CX k f fd ps sp
def tCl (sp : Sp) (E : XK) (t : TA) : TE := fun σ H Q => t σ H fun vs H1 => sp vs H1 Q E
theorem tCall_nil {sp : Sp} {E : XK} {t : TA} : tCall sp [] E t = tCl sp E t := by
  funext σ H Q
  show t σ H (fun vs H1 => sp (vs ++ []) H1 Q E) = _
  congr
  funext vs H1
  rw [List.append_nil]
/-- x(e, ..), x a def of the text -/
theorem pe_cal {X : Cx} {CX : CXT} {k : Nat} {x : Str} {ps : List Str} {sp : Sp} {E : XK} {e : Expr} {es : List Expr} {t : TA} {p pos : Pos} (G : Cal X.prog X.w X.K X.mg X.base CX k x ps sp) (hr : Room k X.A) (hx : Passes CX X E) (ha : PA X (e :: es) t) (hg : Gl X x := by rfl)
    (hdb : (x == ("__debug__" : Str)) = false := by decide) (he : starEach (e :: es) X.env = (false, eval e X.env) :: starEach es X.env := by rfl) (hpl : (backTo pos (starEach es X.env)).any (·.1) = false := by rfl) :
    PE X (.Call (.Name x p) (e :: es) [] pos) (tCl sp E t) := by
  obtain ⟨f, fd, h1, h2, h3, h4⟩ := G.ex
  rw [← tCall_nil]
  exact pe_call h4 hr hg h1 h2 h3 .nil hx ha hdb he hpl
/-- x in a list or a tuple -/
def RowR (K : PySem.W.Frag) (a : Addr) (R : L2.It → Hp → Prop) (H : Hp) : Prop := ((∃ xs, SqL K H a xs) ∧ R (Itl K a) H) ∨ ((∃ xs, SqT K H a xs) ∧ R (Itt K a) H)
def iRow (K : PySem.W.Frag) (tl : TE) : TI := fun σ H R => tl σ H fun x H1 => ∃ a, x = .ref a ∧ RowR K a R H1
theorem pi_row {X : Cx} {tg l : Expr} {tl : TE} (hl : PE X l tl) : PI X tg l (iRow X.K tl) := by
  refine ⟨fun pins s σ H R I h => thn (hl.run pins s σ H _ I h) fun v s1 ⟨x, H1, I1, r1, a, ex, q1⟩ => ?_⟩
  subst ex
  cases r1
  rcases q1 with ⟨⟨xs, hq⟩, q⟩ | ⟨⟨xs, hq⟩, q⟩
  · obtain ⟨its, rv, p, hz⟩ := I1.list hq
    exact wpAny_pyIter_list p.isList (pi_one (tk := s1.toks) I1 _ (turn_list a _) ⟨_, Heap.get?_push_size _ rfl, rfl, rfl⟩ q)
  · obtain ⟨its, rv, p, hz⟩ := I1.tuple hq
    exact PySem.wpAny_pyIter_tuple (show s1.heap.IsTuple a its.toArray from p) (pi_one (tk := s1.toks) I1 _ (turn_tuple a _) ⟨_, Heap.get?_push_size _ rfl, rfl, rfl⟩ q)
theorem row_go {K : PySem.W.Frag} {H : Hp} {p : Addr} {xs : List V} {R : L2.It → Hp → Prop} (hp : RowAt false H p xs) (h : ∀ J, Walk J xs.length (fun H' => Same H H') (YAt xs) → R J H) : RowR K p R H := by
  rcases hp with hp | ⟨_, hp⟩
  · exact .inr ⟨⟨xs, SqT.of hp⟩, h _ (walk_tup.mono (fun H' s => SqT.of (s _ _ hp)) fun _ _ _ _ _ _ y => y)⟩
  · exact .inl ⟨⟨xs, SqL.of hp⟩, h _ (walk_list.mono (fun H' s => SqL.of (s _ _ hp)) fun _ _ _ _ _ _ y => y)⟩
theorem row_go2 {K : PySem.W.Frag} {H0 H : Hp} {p : Addr} {xs : List V} {R : L2.It → Hp → Prop} (hp : RowAt false H0 p xs) (s0 : Same H0 H) (h : ∀ J, Walk J xs.length (fun H' => Same H0 H') (YAt xs) → R J H) : RowR K p R H := by
  rcases hp with hp | ⟨_, hp⟩
  · exact .inr ⟨⟨xs, SqT.of (s0 _ _ hp)⟩, h _ (walk_tup.mono (fun H' s => SqT.of (s _ _ hp)) fun _ _ _ _ _ _ y => y)⟩
  · exact .inl ⟨⟨xs, SqL.of (s0 _ _ hp)⟩, h _ (walk_list.mono (fun H' s => SqL.of (s _ _ hp)) fun _ _ _ _ _ _ y => y)⟩

/-! ### what is small enough: names; amounts are numbers -/
mutual
def It.tame : It → Prop
  | .byt n amt => n.length ≤ 1000 ∧ ∀ z, amt = .inr z → z.length ≤ 1000 ∧ (reprText z).length ≤ 1000
  | .rep n amt b => n.length ≤ 1000 ∧ (∀ z, amt = .inr z → z.length ≤ 1000 ∧ (reprText z).length ≤ 1000) ∧ b.tame
  | .eit n bs => n.length ≤ 1000 ∧ bs.tame
  | .swi n _ bs => n.length ≤ 1000 ∧ True ∧ bs.tame
  | x => x.name.length ≤ 1000
def Its.tame : Its → Prop
  | .nil => True
  | .cons x r => x.tame ∧ r.tame
def Blks.tame : Blks → Prop
  | .nil => True
  | .cons _ b r => b.tame ∧ r.tame
end
theorem It.tame_name : ∀ {x : It}, x.tame → x.name.length ≤ 1000
  | .num .., h => by simpa only [It.tame] using h
  | .byt .., h => by simp only [It.tame] at h; exact h.1
  | .txt .., h => by simpa only [It.tame] using h
  | .rep .., h => by simp only [It.tame] at h; exact h.1
  | .eit .., h => by simp only [It.tame] at h; exact h.1
  | .swi .., h => by simp only [It.tame] at h; exact h.1
  | .chk .., h => by simpa only [It.tame] using h
  | .pad .., h => by simpa only [It.tame] using h
  | .odd .., h => by simpa only [It.tame] using h
theorem At_get {fz : Bool} {H : Hp} : ∀ {x : Its} {l : List V} {i : Nat} {v : V}, x.At fz H l → l[i]? = some v → ∃ y : It, y.At fz H v ∧ (x.tame → y.tame) ∧ (∀ d, x.ok d = true → y.ok d = true)
  | .nil, l, i, v, h, e => by simp only [Its.At] at h; subst h; simp at e
  | .cons y r, l, i, v, h, e => by
    simp only [Its.At] at h
    obtain ⟨v0, l', rfl, h1, h2⟩ := h
    cases i with
    | zero =>
      simp at e
      subst e
      exact ⟨y, h1, fun t => by simp only [Its.tame] at t; exact t.1, fun d t => by simp only [Its.ok, Bool.and_eq_true] at t; exact t.1⟩
    | succ i =>
      obtain ⟨z, a, b, c⟩ := At_get (i := i) h2 (by simpa using e)
      exact ⟨z, a, fun t => b (by simp only [Its.tame] at t; exact t.2), fun d t => c d (by simp only [Its.ok, Bool.and_eq_true] at t; exact t.2)⟩
/-- the first i items, the rest -/
def Its.take : Nat → Its → Its
  | 0, _ => .nil
  | _ + 1, .nil => .nil
  | i + 1, .cons x r => .cons x (r.take i)
def Its.get : Its → Nat → Option It
  | .nil, _ => none
  | .cons x _, 0 => some x
  | .cons _ r, i + 1 => r.get i
theorem At_item {fz : Bool} {H : Hp} : ∀ {x : Its} {l : List V} {i : Nat} {v : V}, x.At fz H l → l[i]? = some v → ∃ y, x.get i = some y ∧ y.At fz H v
  | .nil, l, i, v, h, e => by simp only [Its.At] at h; subst h; simp at e
  | .cons y r, l, i, v, h, e => by
    simp only [Its.At] at h
    obtain ⟨v0, l', rfl, h1, h2⟩ := h
    cases i with
    | zero => simp at e; subst e; exact ⟨y, rfl, h1⟩
    | succ i => exact At_item (i := i) h2 (by simpa using e)
theorem get_tame : ∀ {x : Its} {i : Nat} {y : It}, x.tame → x.get i = some y → y.tame
  | .nil, _, _, _, e => by simp [Its.get] at e
  | .cons x r, 0, y, t, e => by simp [Its.get] at e; subst e; simp only [Its.tame] at t; exact t.1
  | .cons x r, i + 1, y, t, e => by simp only [Its.tame] at t; exact get_tame t.2 e
theorem get_ok : ∀ {x : Its} {i : Nat} {y : It} {d : Int}, x.get i = some y → y.ok d = false → x.ok d = false
  | .nil, _, _, _, e, _ => by simp [Its.get] at e
  | .cons x r, 0, y, d, e, f => by simp [Its.get] at e; subst e; simp [Its.ok, f]
  | .cons x r, i + 1, y, d, e, f => by simp [Its.ok, get_ok (x := r) e f]
theorem take_at {fz : Bool} {H H' : Hp} (s : Same H H') : ∀ {x : Its} {i : Nat} {l : List V} {y : It} {v : V}, (x.take i).At fz H l → x.get i = some y → y.At fz H' v → (x.take (i + 1)).At fz H' (l ++ [v])
  | .nil, _, _, _, _, _, e, _ => by simp [Its.get] at e
  | .cons x r, 0, l, y, v, h, e, g => by
    simp only [Its.take, Its.At] at h
    simp [Its.get] at e
    subst h e
    simp only [Its.take, Its.At]
    exact ⟨v, [], rfl, g, by simp [Its.At]⟩
  | .cons x r, i + 1, l, y, v, h, e, g => by
    simp only [Its.take, Its.At] at h
    obtain ⟨v0, l', rfl, h1, h2⟩ := h
    show (Its.cons x (r.take (i + 1))).At fz H' (v0 :: l' ++ [v])
    simp only [Its.At]
    exact ⟨v0, l' ++ [v], rfl, h1.same s, take_at s h2 e g⟩
theorem get_lt : ∀ {x : Its} {i : Nat} {y : It}, x.get i = some y → i < x.len
  | .nil, _, _, e => by simp [Its.get] at e
  | .cons x r, 0, _, _ => by simp [Its.len]
  | .cons x r, i + 1, _, e => by simp [Its.len]; exact get_lt (x := r) e
theorem take_all : ∀ (x : Its), x.take x.len = x
  | .nil => rfl
  | .cons x r => by simp [Its.len, Its.take, take_all r]
theorem all_ok : ∀ {x : Its} {d : Int}, (∀ i y, x.get i = some y → y.ok d = true) → x.ok d = true
  | .nil, _, _ => by simp [Its.ok]
  | .cons x r, d, h => by simp [Its.ok, h 0 x rfl, all_ok (x := r) fun i y e => h (i + 1) y e]

/-! ### the copies -/
def spCopItem (C : Addr) (n : Nat) : Sp := fun vs H Q E => ∃ (v : V) (x : It) (d : Int), vs = [v, .int d] ∧ d + n = 3 ∧ x.At false H v ∧ x.tame ∧
  (x.ok d = true → ∀ v' H', Same H H' → x.At true H' v' → Q v' H') ∧ (x.ok d = false → ∀ H', Same H H' → E (.ref C) none H')
def spCopList (C : Addr) (n : Nat) : Sp := fun vs H Q E => ∃ (a : Addr) (x : Its) (xs : List V) (d : Int), vs = [.ref a, .int d] ∧ d + n = 3 ∧ RowAt false H a xs ∧ x.At false H xs ∧ x.tame ∧
  ((decide (x.len ≤ 12) && x.ok d) = true → ∀ p ys H', Same H H' → H' p = some (.tup ys) → x.At true H' ys → Q (.ref p) H') ∧ ((decide (x.len ≤ 12) && x.ok d) = false → ∀ H', Same H H' → E (.ref C) none H')
section
variable {P : Program} {w : World} {K : PySem.W.Frag} {mg : Str → Option Value} {base : Heap} {f C : Addr} {fd : FuncData}
theorem scCopList : FnScope ["items", "depth", "item"] ["items", "depth"] (defScope sCopList) := ⟨rfl, rfl, rfl, by decide +kernel, rfl, by decide +kernel, by decide +kernel⟩
theorem ok_coplist {n k : Nat} (F : Fun K "copied_list" "copied_list" sCopList f fd) (hk : 2 ≤ k) (gR : Cal P w K mg base (L2.CX P w) 1 "require" ["holds", "words"] (spRequire C)) (gI : Cal P w K mg base CX0 1 "is_row" ["rows", "least", "most"] spIsRow) (gL : GInt mg "LONGEST_LIST" 12)
    (mt : mg "tuple" = none) (gC : Cal P w K mg base (L2.CX P w) k "copied_item" ["item", "depth"] (spCopItem C n)) : FnOk P w K mg base (L2.CX P w) (k + 1) f fd ["items", "depth"] (spCopList C n) := by
  refine F.okX scCopList (fun vs H Q E h => ?_) (fun cdv A outer s H vs Q E hr h => ?_)
  · obtain ⟨a, x, xs, d, rfl, _⟩ := h
    rfl
  · obtain ⟨a, x, xs, d, rfl, hd, hrow, hat, ht, q1, q2⟩ := h
    have hr1 : Room 1 _ := hr.mono (by omega)
    have tk : Takes (cxOf (L2.CX P w) P w K mg base ["items", "depth", "item"] "copied_list" (defScope sCopList) f cdv A outer s H E) (fun cls d _ H => E cls d H) := takes_of rfl rfl rfl rfl
    have hx := passes_call tk (E := E) fun _ _ _ _ h => h
    refine ⟨_, pss_cons (ps_expr (pe_cal gR hr1 hx (pa_cons (pe_cal gI hr1 pass0 (pa_cons (pv 0) (pa_cons pe_int (pa_cons (pe_gint gL rfl) pa_nil)))) (pa_cons (pe_joined (.cons pe_str (.cons (pe_fmt (pe_gint gL rfl)) (.cons pe_str .nil)))) pa_nil))))
      (pss_one (ps_ret (pe_tupleOf rfl mt (Rj.pe_lcx (Ex := E) (own := [("item", 2)]) (g := gName 2) rfl rfl tk rfl scCopList.nd (pi_row (pv 0)) (blkOk_by (own := [("item", 2)]) (N := ["items", "depth", "item"]) (sc := defScope sCopList) (by decide +kernel))
        (fun _ _ _ _ _ => pg_name (i := 2) scCopList.nd rfl (Or.inl rfl)) (fun _ _ _ _ _ => pe_cal gC hr Rj.fell_passes (pa_cons (pv 2) (pa_cons (pv 1) pa_nil))))))), ?_⟩
    refine ⟨_, rfl, _, _, _, _, rfl, hrow, fun H1 s1 => ?_⟩
    refine ⟨_, rfl, by decide +kernel, .inr ⟨12, rfl, by decide +kernel, _, rfl, by decide +kernel, _, rfl, by decide +kernel, ?_⟩⟩
    have el := hat.len
    refine ⟨_, _, rfl, fun e => ?_, fun e => ?_⟩
    · have e : x.len ≤ 12 := by have := of_decide_eq_true e; rw [el] at this; omega
      rw [decide_eq_true e, Bool.true_and] at q1 q2
      have hrow1 := hrow.same s1
      refine ⟨_, rfl, _, rfl, ?_⟩
      refine row_go hrow1 (fun J wk => ?_)
      intro D hD
      refine lc_it wk (fun i H' => Same H1 H' ∧ ∃ acc, H' D = some (.lst acc) ∧ acc.length = i ∧ (x.take i).At true H' acc ∧ ∀ j < i, ∀ y, x.get j = some y → y.ok d = true)
        ⟨same_new hD _, [], upd_same, rfl, by simp [Its.take, Its.At], fun j hj => absurd hj (Nat.not_lt_zero j)⟩ (fun _ _ _ h => h.1) ?_ ?_
      · rintro i v H2 H3 hi ⟨s2, acc, hacc, hlen, hat2, hok⟩ ⟨e3, hv⟩
        subst e3
        obtain ⟨y, gy, ay⟩ := At_item (hat.same (s1.trans s2)) hv
        refine ⟨rfl, yes_go ?_⟩
        refine ⟨_, rfl, _, rfl, v, y, d, rfl, hd, ay, get_tame ht gy, fun oky v' H4 s4 a4 => ?_, fun no H4 s4 => q2 (get_ok gy no) H4 (s1.trans (s2.trans s4))⟩
        refine ⟨acc, s4 _ _ hacc, small1000 (by omega), same_set (s2.trans s4) hD, acc ++ [v'], upd_same, by simp [hlen], ?_, fun j hj z gz => ?_⟩
        · exact (take_at s4 hat2 gy a4).kp (.wr (s4 _ _ hacc))
        · by_cases hji : j = i
          · subst hji
            rw [gy] at gz
            cases gz
            exact oky
          · exact hok j (by omega) z gz
      · rintro H2 ⟨s2, acc, hacc, hlen, hat2, hok⟩
        refine .inl ⟨D, acc, rfl, SqL.of hacc, fun p hp => ?_⟩
        have okx : x.ok d = true := all_ok fun i y g => hok i (by rw [el]; exact get_lt g) y g
        rw [el, take_all] at hat2
        exact q1 okx p acc _ (s1.trans (same_set s2 (s2.free hp))) upd_same (hat2.same (same_new hp _))
    · have e : ¬ x.len ≤ 12 := fun z => by have := of_decide_eq_false e; rw [el] at this; omega
      rw [decide_eq_false e, Bool.false_and] at q2
      exact q2 rfl H1 s1
end
end Bs

set_option Elab.async false
set_option linter.all false
set_option maxRecDepth 100000
set_option maxHeartbeats 4000000
namespace Bs
open PySem L2
def Blks.take : Nat → Blks → Blks
  | 0, _ => .nil
  | _ + 1, .nil => .nil
  | i + 1, .cons v b r => .cons v b (r.take i)
def Blks.get : Blks → Nat → Option (Int × Its)
  | .nil, _ => none
  | .cons v b _, 0 => some (v, b)
  | .cons _ _ r, i + 1 => r.get i
theorem AtE_item {fz : Bool} {H : Hp} : ∀ {x : Blks} {l : List V} {i : Nat} {v : V}, x.AtE fz H l → l[i]? = some v → ∃ c b q xs, x.get i = some (c, b) ∧ v = .ref q ∧ RowAt fz H q xs ∧ b.At fz H xs
  | .nil, l, i, v, h, e => by simp only [Blks.AtE] at h; subst h; simp at e
  | .cons c b r, l, i, v, h, e => by
    simp only [Blks.AtE] at h
    obtain ⟨q, xs, l', rfl, h1, h2, h3⟩ := h
    cases i with
    | zero => simp at e; subst e; exact ⟨c, b, q, xs, rfl, rfl, h1, h2⟩
    | succ i => exact AtE_item (i := i) h3 (by simpa using e)
theorem AtS_item {fz : Bool} {H : Hp} : ∀ {x : Blks} {l : List V} {i : Nat} {v : V}, x.AtS fz H l → l[i]? = some v → ∃ c b p q xs, x.get i = some (c, b) ∧ v = .ref p ∧ H p = some (.tup [.int c, .ref q]) ∧ RowAt fz H q xs ∧ b.At fz H xs
  | .nil, l, i, v, h, e => by simp only [Blks.AtS] at h; subst h; simp at e
  | .cons c b r, l, i, v, h, e => by
    simp only [Blks.AtS] at h
    obtain ⟨p, q, xs, l', rfl, h0, h1, h2, h3⟩ := h
    cases i with
    | zero => simp at e; subst e; exact ⟨c, b, p, q, xs, rfl, rfl, h0, h1, h2⟩
    | succ i => exact AtS_item (i := i) h3 (by simpa using e)
theorem getB_tame : ∀ {x : Blks} {i : Nat} {c : Int} {b : Its}, x.tame → x.get i = some (c, b) → b.tame
  | .nil, _, _, _, _, e => by simp [Blks.get] at e
  | .cons v b r, 0, c, y, t, e => by simp [Blks.get] at e; simp only [Blks.tame] at t; rw [← e.2]; exact t.1
  | .cons v b r, i + 1, c, y, t, e => by simp only [Blks.tame] at t; exact getB_tame t.2 e
theorem getB_ok : ∀ {x : Blks} {i : Nat} {c : Int} {b : Its} {d : Int}, x.get i = some (c, b) → (decide (b.len ≤ 12) && b.ok d) = false → x.ok d = false
  | .nil, _, _, _, _, e, _ => by simp [Blks.get] at e
  | .cons v b r, 0, c, y, d, e, f => by simp only [Blks.get, Option.some.injEq, Prod.mk.injEq] at e; obtain ⟨rfl, rfl⟩ := e; rw [Blks.ok, f]; rfl
  | .cons v b r, i + 1, c, y, d, e, f => by rw [Blks.ok, getB_ok (x := r) e f]; simp
theorem getB_lt : ∀ {x : Blks} {i : Nat} {y : Int × Its}, x.get i = some y → i < x.len
  | .nil, _, _, e => by simp [Blks.get] at e
  | .cons _ _ r, 0, _, _ => by simp [Blks.len]
  | .cons _ _ r, i + 1, _, e => by simp [Blks.len]; exact getB_lt (x := r) e
theorem takeB_all : ∀ (x : Blks), x.take x.len = x
  | .nil => rfl
  | .cons v b r => by simp [Blks.len, Blks.take, takeB_all r]
theorem allB_ok : ∀ {x : Blks} {d : Int}, (∀ i c b, x.get i = some (c, b) → (decide (b.len ≤ 12) && b.ok d) = true) → x.ok d = true
  | .nil, _, _ => by simp [Blks.ok]
  | .cons v b r, d, h => by rw [Blks.ok, h 0 v b rfl, allB_ok (x := r) fun i c y e => h (i + 1) c y e]; rfl
theorem takeE_at {fz : Bool} {H H' : Hp} (s : Same H H') {q : Addr} {xs : List V} : ∀ {x : Blks} {i : Nat} {l : List V} {c : Int} {b : Its}, (x.take i).AtE fz H l → x.get i = some (c, b) → RowAt fz H' q xs → b.At fz H' xs → (x.take (i + 1)).AtE fz H' (l ++ [.ref q])
  | .nil, _, _, _, _, _, e, _, _ => by simp [Blks.get] at e
  | .cons v x r, 0, l, c, b, h, e, g, k => by
    simp only [Blks.take, Blks.AtE] at h
    simp only [Blks.get, Option.some.injEq, Prod.mk.injEq] at e
    obtain ⟨rfl, rfl⟩ := e
    subst h
    simp only [Blks.take, Blks.AtE]
    exact ⟨q, xs, [], rfl, g, k, by simp [Blks.AtE]⟩
  | .cons v x r, i + 1, l, c, b, h, e, g, k => by
    simp only [Blks.take, Blks.AtE] at h
    obtain ⟨q0, xs0, l', rfl, h1, h2, h3⟩ := h
    show (Blks.cons v x (r.take (i + 1))).AtE fz H' (.ref q0 :: l' ++ [.ref q])
    simp only [Blks.AtE]
    exact ⟨q0, xs0, l' ++ [.ref q], rfl, h1.same s, h2.same s, takeE_at s h3 e g k⟩
theorem takeS_at {fz : Bool} {H H' : Hp} (s : Same H H') {p q : Addr} {xs : List V} : ∀ {x : Blks} {i : Nat} {l : List V} {c : Int} {b : Its}, (x.take i).AtS fz H l → x.get i = some (c, b) → H' p = some (.tup [.int c, .ref q]) → RowAt fz H' q xs → b.At fz H' xs → (x.take (i + 1)).AtS fz H' (l ++ [.ref p])
  | .nil, _, _, _, _, _, e, _, _, _ => by simp [Blks.get] at e
  | .cons v x r, 0, l, c, b, h, e, z, g, k => by
    simp only [Blks.take, Blks.AtS] at h
    simp only [Blks.get, Option.some.injEq, Prod.mk.injEq] at e
    obtain ⟨rfl, rfl⟩ := e
    subst h
    simp only [Blks.take, Blks.AtS]
    exact ⟨p, q, xs, [], rfl, z, g, k, by simp [Blks.AtS]⟩
  | .cons v x r, i + 1, l, c, b, h, e, z, g, k => by
    simp only [Blks.take, Blks.AtS] at h
    obtain ⟨p0, q0, xs0, l', rfl, h0, h1, h2, h3⟩ := h
    show (Blks.cons v x (r.take (i + 1))).AtS fz H' (.ref p0 :: l' ++ [.ref p])
    simp only [Blks.AtS]
    exact ⟨p0, q0, xs0, l' ++ [.ref p], rfl, s _ _ h0, h1.same s, h2.same s, takeS_at s h3 e z g k⟩

def spCopChoices (C : Addr) (n : Nat) : Sp := fun vs H Q E => ∃ (a : Addr) (x : Blks) (xs : List V) (d : Int), vs = [.ref a, .int d] ∧ d + n = 3 ∧ RowAt false H a xs ∧ x.AtE false H xs ∧ x.tame ∧
  ((decide (2 ≤ x.len ∧ x.len ≤ 4) && x.ok d) = true → ∀ p ys H', Same H H' → H' p = some (.tup ys) → x.AtE true H' ys → Q (.ref p) H') ∧ ((decide (2 ≤ x.len ∧ x.len ≤ 4) && x.ok d) = false → ∀ H', Same H H' → E (.ref C) none H')
def spCopCases (C : Addr) (n : Nat) : Sp := fun vs H Q E => ∃ (a : Addr) (x : Blks) (xs : List V) (d : Int), vs = [.ref a, .int d] ∧ d + n = 3 ∧ RowAt false H a xs ∧ x.AtS false H xs ∧ x.tame ∧
  ((decide (1 ≤ x.len ∧ x.len ≤ 8) && x.ok d) = true → ∀ p ys H', Same H H' → H' p = some (.tup ys) → x.AtS true H' ys → Q (.ref p) H') ∧ ((decide (1 ≤ x.len ∧ x.len ≤ 8) && x.ok d) = false → ∀ H', Same H H' → E (.ref C) none H')
section
variable {P : Program} {w : World} {K : PySem.W.Frag} {mg : Str → Option Value} {base : Heap} {f C : Addr} {fd : FuncData}
theorem scCopChoices : FnScope ["choices", "depth", "choice"] ["choices", "depth"] (defScope sCopChoices) := ⟨rfl, rfl, rfl, by decide +kernel, rfl, by decide +kernel, by decide +kernel⟩
theorem ok_copchoices {n k : Nat} (F : Fun K "copied_choices" "copied_choices" sCopChoices f fd) (hk : 2 ≤ k) (gR : Cal P w K mg base (L2.CX P w) 1 "require" ["holds", "words"] (spRequire C)) (gI : Cal P w K mg base CX0 1 "is_row" ["rows", "least", "most"] spIsRow)
    (mt : mg "tuple" = none) (gC : Cal P w K mg base (L2.CX P w) k "copied_list" ["items", "depth"] (spCopList C n)) : FnOk P w K mg base (L2.CX P w) (k + 1) f fd ["choices", "depth"] (spCopChoices C n) := by
  refine F.okX scCopChoices (fun vs H Q E h => ?_) (fun cdv A outer s H vs Q E hr h => ?_)
  · obtain ⟨a, x, xs, d, rfl, _⟩ := h
    rfl
  · obtain ⟨a, x, xs, d, rfl, hd, hrow, hat, ht, q1, q2⟩ := h
    have hr1 : Room 1 _ := hr.mono (by omega)
    have tk : Takes (cxOf (L2.CX P w) P w K mg base ["choices", "depth", "choice"] "copied_choices" (defScope sCopChoices) f cdv A outer s H E) (fun cls d _ H => E cls d H) := takes_of rfl rfl rfl rfl
    have hx := passes_call tk (E := E) fun _ _ _ _ h => h
    refine ⟨_, pss_cons (ps_expr (pe_cal gR hr1 hx (pa_cons (pe_cal gI hr1 pass0 (pa_cons (pv 0) (pa_cons pe_int (pa_cons pe_int pa_nil)))) (pa_cons pe_str pa_nil))))
      (pss_one (ps_ret (pe_tupleOf rfl mt (Rj.pe_lcx (Ex := E) (own := [("choice", 2)]) (g := gName 2) rfl rfl tk rfl scCopChoices.nd (pi_row (pv 0)) (blkOk_by (own := [("choice", 2)]) (N := ["choices", "depth", "choice"]) (sc := defScope sCopChoices) (by decide +kernel))
        (fun _ _ _ _ _ => pg_name (i := 2) scCopChoices.nd rfl (Or.inl rfl)) (fun _ _ _ _ _ => pe_cal gC hr Rj.fell_passes (pa_cons (pv 2) (pa_cons (pv 1) pa_nil))))))), ?_⟩
    refine ⟨_, rfl, _, _, _, _, rfl, hrow, fun H1 s1 => ?_⟩
    have el := hat.len
    have ed : decide (2 ≤ (xs.length : Int) ∧ (xs.length : Int) ≤ 4) = decide (2 ≤ x.len ∧ x.len ≤ 4) := by
      rw [el]; exact decide_eq_decide.mpr ⟨fun ⟨a, b⟩ => ⟨by omega, by omega⟩, fun ⟨a, b⟩ => ⟨by omega, by omega⟩⟩
    refine ⟨_, _, rfl, fun e => ?_, fun e => ?_⟩
    · rw [ed] at e
      have e4 := (of_decide_eq_true e).2
      rw [e, Bool.true_and] at q1 q2
      have hrow1 := hrow.same s1
      refine ⟨_, rfl, _, rfl, ?_⟩
      refine row_go hrow1 (fun J wk => ?_)
      intro D hD
      refine lc_it wk (fun i H' => Same H1 H' ∧ ∃ acc, H' D = some (.lst acc) ∧ acc.length = i ∧ (x.take i).AtE true H' acc ∧ ∀ j < i, ∀ c b, x.get j = some (c, b) → (decide (b.len ≤ 12) && b.ok d) = true)
        ⟨same_new hD _, [], upd_same, rfl, by simp [Blks.take, Blks.AtE], fun j hj => absurd hj (Nat.not_lt_zero j)⟩ (fun _ _ _ h => h.1) ?_ ?_
      · rintro i v H2 H3 hi ⟨s2, acc, hacc, hlen, hat2, hok⟩ ⟨e3, hv⟩
        subst e3
        obtain ⟨c, b, p, zs, gb, rfl, hrw, hb⟩ := AtE_item (hat.same (s1.trans s2)) hv
        refine ⟨rfl, yes_go ?_⟩
        refine ⟨_, rfl, _, rfl, p, b, zs, d, rfl, hd, hrw, hb, getB_tame ht gb, fun okb p' ys H4 s4 h4 a4 => ?_, fun no H4 s4 => q2 (getB_ok gb no) H4 (s1.trans (s2.trans s4))⟩
        refine ⟨acc, s4 _ _ hacc, small1000 (by omega), same_set (s2.trans s4) hD, acc ++ [.ref p'], upd_same, by simp [hlen], ?_, fun j hj c' b' gz => ?_⟩
        · exact (takeE_at s4 hat2 gb (.inl h4) a4).kp (.wr (s4 _ _ hacc))
        · by_cases hji : j = i
          · subst hji
            rw [gb] at gz
            cases gz
            exact okb
          · exact hok j (by omega) c' b' gz
      · rintro H2 ⟨s2, acc, hacc, hlen, hat2, hok⟩
        refine .inl ⟨D, acc, rfl, SqL.of hacc, fun p hp => ?_⟩
        have okx : x.ok d = true := allB_ok fun i c b g => hok i (by rw [el]; exact getB_lt g) c b g
        rw [el, takeB_all] at hat2
        exact q1 okx p acc _ (s1.trans (same_set s2 (s2.free hp))) upd_same (hat2.same (same_new hp _))
    · rw [ed] at e
      rw [e, Bool.false_and] at q2
      exact q2 rfl H1 s1
theorem scCopCases : FnScope ["cases", "depth", "found", "case"] ["cases", "depth"] (defScope sCopCases) := ⟨rfl, rfl, rfl, by decide +kernel, rfl, by decide +kernel, by decide +kernel⟩
theorem ok_copcases {n k : Nat} (F : Fun K "copied_cases" "copied_cases" sCopCases f fd) (hk : 2 ≤ k) (gR : Cal P w K mg base (L2.CX P w) 1 "require" ["holds", "words"] (spRequire C)) (gI : Cal P w K mg base CX0 1 "is_row" ["rows", "least", "most"] spIsRow)
    (mt : mg "tuple" = none) (mi : mg "isinstance" = none) (ml : mg "len" = none) (gC : Cal P w K mg base (L2.CX P w) k "copied_list" ["items", "depth"] (spCopList C n)) : FnOk P w K mg base (L2.CX P w) (k + 1) f fd ["cases", "depth"] (spCopCases C n) := by
  refine F.okX scCopCases (fun vs H Q E h => ?_) (fun cdv A outer s H vs Q E hr h => ?_)
  · obtain ⟨a, x, xs, d, rfl, _⟩ := h
    rfl
  · obtain ⟨a, x, xs, d, rfl, hd, hrow, hat, ht, q1, q2⟩ := h
    have hr1 : Room 1 _ := hr.mono (by omega)
    have tk : Takes (cxOf (L2.CX P w) P w K mg base ["cases", "depth", "found", "case"] "copied_cases" (defScope sCopCases) f cdv A outer s H E) (fun cls d _ H => E cls d H) := takes_of rfl rfl rfl rfl
    have hx := passes_call tk (E := E) fun _ _ _ _ h => h
    refine ⟨_, pss_cons (ps_expr (pe_cal gR hr1 hx (pa_cons (pe_cal gI hr1 pass0 (pa_cons (pv 0) (pa_cons pe_int (pa_cons pe_int pa_nil)))) (pa_cons pe_str pa_nil))))
      (pss_cons (ps_set (i := 2) scCopCases.nd rfl (.inl rfl) (pe_lst pa_nil))
      (pss_cons (ps_for (passes_of rfl) rfl (pi_row (pv 0)) (pg_name (i := 3) scCopCases.nd rfl (.inl rfl))
        (pss_cons (ps_expr (pe_cal gR hr1 hx (pa_cons (pe_and (pe_callB call_isi (by rfl) mi (by decide +kernel) (pa_cons (pv 3) (pa_cons (pe_bltn (v := .ty "tuple") (by rfl) mt (by decide +kernel) rfl) pa_nil)))
            (pe_one (pe_cmpR op_eq (pe_callB call_len (by rfl) ml boot_len (pa_cons (pv 3) pa_nil)) pe_int (nomark _)))) (pa_cons pe_str pa_nil))))
        (pss_one (ps_expr (pe_bm PySem.F.plainAttrs_list PySem.F.slot_list_append PySem.F.type_list_append mt_append (pv 2)
          (pa_cons (pe_tup (pa_cons (pe_ix ix_tup (pv 3) pe_int (fun _ _ => rfl)) (pa_cons (pe_cal gC hr hx (pa_cons (pe_ix ix_tup (pv 3) pe_int (fun _ _ => rfl)) (pa_cons (pv 1) pa_nil))) pa_nil))) pa_nil))))))
      (pss_one (ps_ret (pe_tupleOf rfl mt (pv 2)))))), ?_⟩
    refine ⟨_, rfl, _, _, _, _, rfl, hrow, fun H1 s1 => ?_⟩
    have el := hat.len
    have ed : decide (1 ≤ (xs.length : Int) ∧ (xs.length : Int) ≤ 8) = decide (1 ≤ x.len ∧ x.len ≤ 8) := by
      rw [el]; exact decide_eq_decide.mpr ⟨fun ⟨a, b⟩ => ⟨by omega, by omega⟩, fun ⟨a, b⟩ => ⟨by omega, by omega⟩⟩
    refine ⟨_, _, rfl, fun e => ?_, fun e => ?_⟩
    · rw [ed] at e
      have e8 := (of_decide_eq_true e).2
      rw [e, Bool.true_and] at q1 q2
      refine ⟨Nat.zero_le _, fun D hD => ?_⟩
      refine ⟨_, rfl, _, rfl, ?_⟩
      refine row_go2 (hrow.same s1) (same_new hD _) (fun J wk => ?_)
      refine for_it wk (fun i σ H' => ∃ cv, σ = [some (.ref a), some (.int d), some (.ref D), cv] ∧ Same H1 H' ∧ ∃ acc, H' D = some (.lst acc) ∧ acc.length = i ∧ (x.take i).AtS true H' acc ∧ ∀ j < i, ∀ c b, x.get j = some (c, b) → (decide (b.len ≤ 12) && b.ok d) = true)
        ⟨none, rfl, same_new hD _, [], upd_same, rfl, by simp [Blks.take, Blks.AtS], fun j hj => absurd hj (Nat.not_lt_zero j)⟩ (fun _ _ _ _ h => by obtain ⟨_, _, z, _⟩ := h; exact z) ?_ ?_
      · rintro i v σ H2 H3 hi ⟨cv, rfl, s2, acc, hacc, hlen, hat2, hok⟩ ⟨e3, hv⟩
        subst e3
        obtain ⟨c, b, p, q, zs, gb, rfl, hp, hrw, hb⟩ := AtS_item (hat.same (s1.trans s2)) hv
        refine ⟨_, rfl, _, _, _, _, true, rfl, .ty _, .base (.tup hp), kit_ty (by decide +kernel), _, rfl, iteT ?_⟩
        refine ⟨_, rfl, _, _, rfl, .inr ⟨_, SqT.of hp, rfl⟩, rfl, ?_⟩
        refine ⟨true, _, rfl, fun _ => ?_, fun z => by cases z⟩
        refine ⟨_, rfl, .inl ⟨rfl, _, SqL.of hacc⟩, ?_⟩
        refine ⟨_, rfl, p, _, 0, _, rfl, rfl, SqT.of hp, atI_nat (j := 0) rfl, ?_⟩
        refine ⟨_, rfl, p, _, 1, _, rfl, rfl, SqT.of hp, atI_nat (j := 1) rfl, ?_⟩
        refine ⟨_, rfl, q, b, zs, d, rfl, hd, hrw, hb, getB_tame ht gb, fun okb p' ys H4 s4 h4 a4 => ?_, fun no H4 s4 => q2 (getB_ok gb no) H4 (s1.trans (s2.trans s4))⟩
        refine ⟨by show 2 ≤ sizeLine; decide, fun t ht4 => ?_⟩
        have s5 : Same H4 (upd H4 t (.tup [.int c, .ref p'])) := same_new ht4 _
        have hacc5 := s5 _ _ (s4 _ _ hacc)
        refine ⟨D, acc, .ref t, rfl, rfl, hacc5, small1000 (by omega), ?_⟩
        refine ⟨_, rfl, same_set (s2.trans (s4.trans s5)) hD, acc ++ [.ref t], upd_same, by simp [hlen], ?_, fun j hj c' b' gz => ?_⟩
        · exact (takeS_at (s4.trans s5) hat2 gb upd_same (.inl (s5 _ _ h4)) (a4.same s5)).kp (.wr hacc5)
        · by_cases hji : j = i
          · subst hji
            rw [gb] at gz
            cases gz
            exact okb
          · exact hok j (by omega) c' b' gz
      · rintro σ H2 ⟨cv, rfl, s2, acc, hacc, hlen, hat2, hok⟩
        refine ⟨_, rfl, .inl ⟨D, acc, rfl, SqL.of hacc, fun p hp => ?_⟩⟩
        have okx : x.ok d = true := allB_ok fun i c b g => hok i (by rw [el]; exact getB_lt g) c b g
        rw [el, takeB_all] at hat2
        exact q1 okx p acc _ (s1.trans (same_set s2 (s2.free hp))) upd_same (hat2.same (same_new hp _))
    · rw [ed] at e
      rw [e, Bool.false_and] at q2
      exact q2 rfl H1 s1
end
end Bs

set_option Elab.async false
set_option linter.all false
set_option maxRecDepth 100000
set_option maxHeartbeats 4000000
namespace Bs
open PySem L2
def It.kind : It → Str
  | .num .. => "number" | .byt .. => "bytes" | .txt .. => "text" | .rep .. => "repeat" | .eit .. => "either" | .swi .. => "switch" | .chk .. => "check" | .pad .. => "pad" | .odd k _ _ => k
def It.parts : It → Nat
  | .num .. => 6 | .byt .. => 3 | .txt .. => 4 | .rep .. => 4 | .eit .. => 3 | .swi .. => 4 | .chk .. => 3 | .pad .. => 4 | .odd _ _ m => m
def It.blocky : It → Bool
  | .rep .. => true | .eit .. => true | .swi .. => true | _ => false
def It.isOdd : It → Bool
  | .odd .. => true | _ => false
theorem ok_odd {x : It} {d : Int} (h : x.isOdd = true) : x.ok d = false := by
  cases x <;> first | (cases h; done) | simp [It.ok]
theorem odd_of {x : It} {d : Int} (h : x.ok d = true) : x.isOdd = false := by
  cases e : x.isOdd with
  | false => rfl
  | true => rw [ok_odd e] at h; cases h
/-- PARTS and WITH_BLOCKS -/
structure Kinds (K : PySem.W.Frag) (w : World) (mg : Str → Option Value) : Prop where
  p : ∃ d es n, mg "PARTS" = some (.ref d) ∧ KDict K w d es n ∧ (∀ x : It, x.isOdd = false → ∃ t, PySem.W.nsIn K d x.kind = some (some (.int (x.parts : Nat) t))) ∧ ∀ z ∈ oddWords, PySem.W.nsIn K d z = some none
  b : ∃ a, mg "WITH_BLOCKS" = some (.ref a) ∧ ∀ H, SqT K H a [.str "repeat", .str "either", .str "switch"]
theorem At_head {fz : Bool} {H : Hp} : ∀ {x : It} {v : V}, x.At fz H v → x.isOdd = false → ∃ p rest, v = .ref p ∧ H p = some (.tup (.str x.kind :: .str x.name :: rest)) ∧ rest.length + 2 = x.parts
  | .num .., _, h, _ => by simp only [It.At] at h; obtain ⟨p, e, h⟩ := h; exact ⟨p, _, e, h, rfl⟩
  | .byt .., _, h, _ => by simp only [It.At] at h; obtain ⟨p, e, h⟩ := h; exact ⟨p, _, e, h, rfl⟩
  | .txt .., _, h, _ => by simp only [It.At] at h; obtain ⟨p, e, h⟩ := h; exact ⟨p, _, e, h, rfl⟩
  | .chk .., _, h, _ => by simp only [It.At] at h; obtain ⟨p, e, h⟩ := h; exact ⟨p, _, e, h, rfl⟩
  | .pad .., _, h, _ => by simp only [It.At] at h; obtain ⟨p, e, h⟩ := h; exact ⟨p, _, e, h, rfl⟩
  | .odd .., _, _, h => by cases h
  | .rep .., _, h, _ => by simp only [It.At] at h; obtain ⟨p, q, xs, e, h, _⟩ := h; exact ⟨p, _, e, h, rfl⟩
  | .eit .., _, h, _ => by simp only [It.At] at h; obtain ⟨p, q, xs, e, h, _⟩ := h; exact ⟨p, _, e, h, rfl⟩
  | .swi .., _, h, _ => by simp only [It.At] at h; obtain ⟨p, q, xs, e, h, _⟩ := h; exact ⟨p, _, e, h, rfl⟩
theorem At_head1 {fz : Bool} {H : Hp} {x : It} {v : V} (h : x.At fz H v) : ∃ p rest, v = .ref p ∧ H p = some (.tup (.str x.kind :: rest)) ∧ rest.length + 1 = x.parts := by
  cases e : x.isOdd with
  | false =>
    obtain ⟨p, r, e1, e2, e3⟩ := At_head h e
    exact ⟨p, _, e1, e2, by rw [List.length_cons]; exact e3⟩
  | true =>
    cases x with
    | odd k n m => simp only [It.At] at h; obtain ⟨p, r, e1, h1, q, _⟩ := h; exact ⟨p, r, e1, h1, q⟩
    | _ => cases e
theorem blocky_in (x : It) (h : x.isOdd = false) : inV (.str x.kind) [.str "repeat", .str "either", .str "switch"] = x.blocky := by cases x <;> first | (cases h; done) | (simp only [It.kind, It.blocky]; decide +kernel)
theorem ok_name {x : It} {d : Int} (h : isName x.name = false) : x.ok d = false := by
  cases x <;> simp only [It.name] at h <;> simp [It.ok, It.name, h]
theorem ok_deep {x : It} {d : Int} (h : ¬ d ≤ (if x.blocky = true then 2 else 3)) : x.ok d = false := by
  cases x <;> simp [It.blocky] at h <;> simp [It.ok] <;> intros <;> omega
theorem deep_go {c : Bool} {σ : L2.St} {H : Hp} {R : V → Hp → Prop} (h : R (.int (if c = true then 2 else 3)) H) : if c = true then tOp (rI0 fun i j => V.int (i - j)) (tC (.int 3)) (tC (.int 1)) σ H R else tC (.int 3) σ H R := by
  cases c with
  | true => exact iteT ⟨_, _, rfl, rfl, h⟩
  | false => exact iteF h
theorem kne {a b : Str} (h : a ≠ b) : ¬ V.str a = V.str b := fun z => h (V.str.inj z)
/-- the copies one deeper, where there is one -/
def spSub (sp : Nat → Sp) : Nat → Sp
  | 0 => fun _ _ _ _ => False
  | n + 1 => sp n
section
variable {P : Program} {w : World} {K : PySem.W.Frag} {mg : Str → Option Value} {base : Heap} {f C : Addr} {fd : FuncData}
theorem scCopItem : FnScope ["item", "depth", "kind", "deepest"] ["item", "depth"] (defScope sCopItem) := ⟨rfl, rfl, rfl, by decide +kernel, rfl, by decide +kernel, by decide +kernel⟩
theorem ok_copitem {n0 k : Nat} (F : Fun K "copied_item" "copied_item" sCopItem f fd) (hk : 1 ≤ k) (T : Kinds K w mg) (gR : Cal P w K mg base (L2.CX P w) 1 "require" ["holds", "words"] (spRequire C)) (gN : Cal P w K mg base CX0 1 "is_name" ["text"] spIsName)
    (mt : mg "tuple" = none) (mi : mg "isinstance" = none) (ml : mg "len" = none) (ms : mg "str" = none) (gD : GInt mg "DEEPEST" 3) (gL : Cal P w K mg base (L2.CX P w) k "copied_list" ["items", "depth"] (spSub (spCopList C) n0))
    (gCh : Cal P w K mg base (L2.CX P w) k "copied_choices" ["choices", "depth"] (spSub (spCopChoices C) n0)) (gCa : Cal P w K mg base (L2.CX P w) k "copied_cases" ["cases", "depth"] (spSub (spCopCases C) n0)) : FnOk P w K mg base (L2.CX P w) (k + 1) f fd ["item", "depth"] (spCopItem C n0) := by
  refine F.okX scCopItem (fun vs H Q E h => ?_) (fun cdv A outer s H vs Q E hr h => ?_)
  · obtain ⟨v, x, d, rfl, _⟩ := h
    rfl
  · obtain ⟨v, x, d, rfl, hd, hat, ht, q1, q2⟩ := h
    obtain ⟨p, rest, rfl, hp, hlen⟩ := At_head1 hat
    obtain ⟨dP, es, nn, gP, D, hP⟩ := T.p
    obtain ⟨aB, gB, hB⟩ := T.b
    obtain ⟨hP, hW⟩ := hP
    have hr1 : Room 1 _ := hr.mono (by omega)
    have tk : Takes (cxOf (L2.CX P w) P w K mg base ["item", "depth", "kind", "deepest"] "copied_item" (defScope sCopItem) f cdv A outer s H E) (fun cls d _ H => E cls d H) := takes_of rfl rfl rfl rfl
    have hx := passes_call tk (E := E) fun _ _ _ _ h => h
    refine ⟨_, pss_cons (ps_expr (pe_cal gR hr1 hx (pa_cons (pe_and (pe_callB call_isi (by rfl) mi (by decide +kernel) (pa_cons (pv 0) (pa_cons (pe_bltn (v := .ty "tuple") (by rfl) mt (by decide +kernel) rfl) pa_nil)))
          (pe_one (pe_cmpR op_gt (pe_callB call_len (by rfl) ml boot_len (pa_cons (pv 0) pa_nil)) pe_int (nomark _)))) (pa_cons pe_str pa_nil))))
      (pss_cons (ps_set (i := 2) scCopItem.nd rfl (.inl rfl) (pe_ix ix_tup (pv 0) pe_int (fun _ _ => rfl)))
      (pss_cons (ps_expr (pe_cal gR hr1 hx (pa_cons (pe_and (pe_callB call_isi (by rfl) mi (by decide +kernel) (pa_cons (pv 2) (pa_cons (pe_bltn (v := .ty "str") (by rfl) ms (by decide +kernel) rfl) pa_nil)))
          (pe_one (pe_cmpR (op_in_kd D) (pv 2) (pe_glob (v := .ref dP) (by rfl) gP rfl) (by rfl)))) (pa_cons pe_str pa_nil))))
      (pss_cons (ps_expr (pe_cal gR hr1 hx (pa_cons (pe_cmpR op_eq (pe_callB call_len (by rfl) ml boot_len (pa_cons (pv 0) pa_nil)) (pe_ix ix_kdict (pe_glob (v := .ref dP) (by rfl) gP rfl) (pv 2) (fun _ _ => rfl)) (nomark _))
          (pa_cons (pe_joined (.cons pe_str (.cons (pe_fmt (pv 2)) (.cons pe_str .nil)))) pa_nil))))
      (pss_cons (ps_expr (pe_cal gR hr1 hx (pa_cons (pe_cal gN hr1 pass0 (pa_cons (pe_ix ix_tup (pv 0) pe_int (fun _ _ => rfl)) pa_nil)) (pa_cons pe_str pa_nil))))
      (pss_cons (ps_set (i := 3) scCopItem.nd rfl (.inl rfl) (pe_ifExp (pt_cmpR op_in_seq (pv 2) (pe_glob (v := .ref aB) (by rfl) gB rfl) (by rfl)) (pe_op op_sub (pe_gint gD rfl) pe_int) (pe_gint gD rfl)))
      (pss_cons (ps_expr (pe_cal gR hr1 hx (pa_cons (pe_cmpR op_le (pv 1) (pv 3) (nomark _)) (pa_cons (pe_joined (.cons pe_str (.cons (pe_fmt (pv 2)) (.cons pe_str .nil)))) pa_nil))))
      (pss_cons (ps_if (pt_cmpR op_eq (pv 2) pe_str (nomark _)) (pss_one (ps_ret (pe_op op_catT (pe_slice sl_tup (pv 0) po_none (po_some pe_int)) (pe_tup (pa_cons (pe_cal gL hr hx (pa_cons (pe_ix ix_tup (pv 0) pe_int (fun _ _ => rfl)) (pa_cons (pe_op op_add (pv 1) pe_int) pa_nil))) pa_nil))))) pss_nil)
      (pss_cons (ps_if (pt_cmpR op_eq (pv 2) pe_str (nomark _)) (pss_one (ps_ret (pe_op op_catT (pe_slice sl_tup (pv 0) po_none (po_some pe_int)) (pe_tup (pa_cons (pe_cal gCh hr hx (pa_cons (pe_ix ix_tup (pv 0) pe_int (fun _ _ => rfl)) (pa_cons (pe_op op_add (pv 1) pe_int) pa_nil))) pa_nil))))) pss_nil)
      (pss_cons (ps_if (pt_cmpR op_eq (pv 2) pe_str (nomark _)) (pss_one (ps_ret (pe_op op_catT (pe_slice sl_tup (pv 0) po_none (po_some pe_int)) (pe_tup (pa_cons (pe_cal gCa hr hx (pa_cons (pe_ix ix_tup (pv 0) pe_int (fun _ _ => rfl)) (pa_cons (pe_op op_add (pv 1) pe_int) pa_nil))) pa_nil))))) pss_nil)
      (pss_one (ps_ret (pe_tupleOf rfl mt (pv 0))))))))))))), ?_⟩
    by_cases ho : x.isOdd = true
    · have hT : SqT K H p _ := SqT.of hp
      have no := q2 (ok_odd ho)
      refine ⟨_, rfl, _, _, _, _, true, rfl, .ty _, .base (.tup hp), kit_ty (by decide +kernel), _, rfl, iteT ?_⟩
      refine ⟨_, rfl, _, _, rfl, .inr ⟨_, hT, rfl⟩, _, _, rfl, rfl, ?_⟩
      refine ⟨_, _, rfl, fun _ => ?_, fun _ => no _ (Same.refl _)⟩
      refine ⟨_, rfl, p, _, 0, _, rfl, rfl, hT, atI_nat (j := 0) rfl, ?_⟩
      refine ⟨_, rfl, _, _, _, _, true, rfl, .ty _, .base (.str _), kit_ty (by decide +kernel), _, rfl, iteT ?_⟩
      cases x with
      | odd k n m =>
        simp only [It.At] at hat
        obtain ⟨p', r, e1, h1, hm, hk⟩ := hat
        rcases hk with hk | ⟨j, hj, hne⟩
        · exact ⟨_, rfl, k, none, rfl, rfl, hW k hk, _, _, rfl, (fun z => by cases z), fun _ => no _ (Same.refl _)⟩
        · obtain ⟨y, hy, e2, e3⟩ : ∃ y : It, y.isOdd = false ∧ y.kind = k ∧ y.parts = j := by
            simp only [kindP, List.mem_cons, Prod.mk.injEq, List.not_mem_nil, or_false] at hj
            rcases hj with ⟨a, b⟩ | ⟨a, b⟩ | ⟨a, b⟩ | ⟨a, b⟩ | ⟨a, b⟩ | ⟨a, b⟩ | ⟨a, b⟩ | ⟨a, b⟩
            · exact ⟨.num "" 0 "" 0 0, rfl, a.symm, b.symm⟩
            · exact ⟨.byt "" (.inl 0), rfl, a.symm, b.symm⟩
            · exact ⟨.txt "" 0 0, rfl, a.symm, b.symm⟩
            · exact ⟨.rep "" (.inl 0) .nil, rfl, a.symm, b.symm⟩
            · exact ⟨.eit "" .nil, rfl, a.symm, b.symm⟩
            · exact ⟨.swi "" "" .nil, rfl, a.symm, b.symm⟩
            · exact ⟨.chk "" 0, rfl, a.symm, b.symm⟩
            · exact ⟨.pad "" 0 0, rfl, a.symm, b.symm⟩
          obtain ⟨t6, ns6⟩ := hP y hy
          have fz : (Str.empty ++ ("the kind " : Str)).length ≤ sizeLine ∧ k.length ≤ sizeLine ∧ (Str.empty ++ ("the kind " : Str) ++ k).length ≤ sizeLine ∧ (Str.empty ++ ("the kind " : Str) ++ k ++ (" has another number of parts" : Str)).length ≤ sizeLine := by
            rw [← e2]; cases y <;> first | (cases hy; done) | (simp only [It.kind]; decide +kernel)
          obtain ⟨a1, a2, a3, a4⟩ := fz
          rw [e2, e3] at ns6
          refine ⟨_, rfl, k, _, rfl, rfl, ns6, _, _, rfl, fun _ => ?_, fun z => by cases z⟩
          refine ⟨_, rfl, _, _, rfl, .inr ⟨_, hT, rfl⟩, _, rfl, dP, k, .int (j : Nat), rfl, rfl, ⟨es, nn, _, D.at_, D.lit, ns6, t6, rfl⟩, rfl, ?_⟩
          refine ⟨_, rfl, a1, _, rfl, .inl ⟨_, rfl, a2, _, rfl, a3, _, rfl, a4, _, _, rfl, fun z => ?_, fun _ => no _ (Same.refl _)⟩⟩
          have z := of_decide_eq_true z
          injection z with z
          rw [List.length_cons] at z
          have hlen : rest.length + 1 = m := hlen
          exact absurd (show j = m by omega) hne
      | _ => cases ho
    have ho : x.isOdd = false := by cases e : x.isOdd with
      | true => exact absurd e ho
      | false => rfl
    obtain ⟨p', rest', ep, hp', hlen'⟩ := At_head hat ho
    obtain rfl := V.ref.inj ep
    clear hp hlen
    obtain ⟨hp, hlen⟩ := And.intro hp' hlen'
    clear hp' hlen'
    generalize rest' = rest at hp hlen
    obtain ⟨t6, ns6⟩ := hP x ho
    have fs1 : ∀ y : Str, y = x.kind → (Str.empty ++ ("the kind " : Str)).length ≤ sizeLine ∧ y.length ≤ sizeLine ∧ (Str.empty ++ ("the kind " : Str) ++ y).length ≤ sizeLine ∧ (Str.empty ++ ("the kind " : Str) ++ y ++ (" has another number of parts" : Str)).length ≤ sizeLine := by
      rintro y rfl; cases x <;> first | (cases ho; done) | (simp only [It.kind]; decide +kernel)
    have fs2 : ∀ y : Str, y = x.kind → (Str.empty ++ ("an item of the kind " : Str)).length ≤ sizeLine ∧ y.length ≤ sizeLine ∧ (Str.empty ++ ("an item of the kind " : Str) ++ y).length ≤ sizeLine ∧ (Str.empty ++ ("an item of the kind " : Str) ++ y ++ (" stands too deep" : Str)).length ≤ sizeLine := by
      rintro y rfl; cases x <;> first | (cases ho; done) | (simp only [It.kind]; decide +kernel)
    obtain ⟨a1, a2, a3, a4⟩ := fs1 _ rfl
    obtain ⟨b1, b2, b3, b4⟩ := fs2 _ rfl
    have hT : SqT K H p _ := SqT.of hp
    -- an item is a tuple
    refine ⟨_, rfl, _, _, _, _, true, rfl, .ty _, .base (.tup hp), kit_ty (by decide +kernel), _, rfl, iteT ?_⟩
    refine ⟨_, rfl, _, _, rfl, .inr ⟨_, hT, rfl⟩, _, _, rfl, rfl, ?_⟩
    refine ⟨_, _, rfl, fun _ => ?_, fun z => absurd (show (0 : Int) < ((V.str x.kind :: V.str x.name :: rest).length : Nat) by rw [List.length_cons]; omega) (of_decide_eq_false z)⟩
    -- its kind
    refine ⟨_, rfl, p, _, 0, _, rfl, rfl, hT, atI_nat (j := 0) rfl, ?_⟩
    refine ⟨_, rfl, _, _, _, _, true, rfl, .ty _, .base (.str _), kit_ty (by decide +kernel), _, rfl, iteT ?_⟩
    refine ⟨_, rfl, x.kind, _, rfl, rfl, ns6, _, _, rfl, fun _ => ?_, fun z => by cases z⟩
    -- its parts
    refine ⟨_, rfl, _, _, rfl, .inr ⟨_, hT, rfl⟩, _, rfl, dP, x.kind, .int (x.parts : Nat), rfl, rfl, ⟨es, nn, _, D.at_, D.lit, ns6, t6, rfl⟩, rfl, ?_⟩
    refine ⟨_, rfl, a1, _, rfl, .inl ⟨_, rfl, a2, _, rfl, a3, _, rfl, a4, _, _, rfl, fun _ => ?_, fun z => absurd (show V.int ((V.str x.kind :: V.str x.name :: rest).length : Nat) = V.int (x.parts : Nat) by rw [List.length_cons, List.length_cons, ← hlen]) (of_decide_eq_false z)⟩⟩
    -- its name
    refine ⟨_, rfl, p, _, 1, _, rfl, rfl, hT, atI_nat (j := 1) rfl, x.name, rfl, Nat.le_of_lt (small1000 (It.tame_name ht)), fun H1 s1 => ?_⟩
    refine ⟨_, _, rfl, fun en => ?_, fun en => q2 (ok_name en) H1 s1⟩
    have hT1 : SqT K H1 p _ := SqT.of (s1 _ _ hp)
    refine ⟨_, rfl, aB, _, rfl, .inr (hB H1), rfl, by decide +kernel, x.blocky, congrArg V.bl (blocky_in x ho), ?_⟩
    refine deep_go ?_
    refine ⟨_, rfl, _, rfl, _, _, rfl, rfl, _, rfl, b1, _, rfl, .inl ⟨_, rfl, b2, _, rfl, b3, _, rfl, b4, _, _, rfl, fun e => ?_, fun e => q2 (ok_deep (of_decide_eq_false e)) H1 s1⟩⟩
    have e : d ≤ (if x.blocky = true then 2 else 3) := of_decide_eq_true e
    cases x with
    | odd k n m => cases ho
    | num n size order low high =>
      refine ⟨_, rfl, rfl, _, rfl, ite2 (fun z => absurd (of_decide_eq_true z) (kne (by simp only [It.kind]; decide +kernel))) (fun _ => ?_)⟩
      refine ⟨_, rfl, rfl, _, rfl, ite2 (fun z => absurd (of_decide_eq_true z) (kne (by simp only [It.kind]; decide +kernel))) (fun _ => ?_)⟩
      refine ⟨_, rfl, rfl, _, rfl, ite2 (fun z => absurd (of_decide_eq_true z) (kne (by simp only [It.kind]; decide +kernel))) (fun _ => ?_)⟩
      refine ⟨_, rfl, .inr ⟨p, _, rfl, hT1, q1 ?_ _ H1 s1 ?_⟩⟩
      · have e : d ≤ 3 := e
        have en : isName n = true := en
        simp [It.ok, It.name, en, e]
      · refine It.At.same s1 ?_
        simp only [It.At] at hat ⊢
        exact hat
    | byt n amt =>
      refine ⟨_, rfl, rfl, _, rfl, ite2 (fun z => absurd (of_decide_eq_true z) (kne (by simp only [It.kind]; decide +kernel))) (fun _ => ?_)⟩
      refine ⟨_, rfl, rfl, _, rfl, ite2 (fun z => absurd (of_decide_eq_true z) (kne (by simp only [It.kind]; decide +kernel))) (fun _ => ?_)⟩
      refine ⟨_, rfl, rfl, _, rfl, ite2 (fun z => absurd (of_decide_eq_true z) (kne (by simp only [It.kind]; decide +kernel))) (fun _ => ?_)⟩
      refine ⟨_, rfl, .inr ⟨p, _, rfl, hT1, q1 ?_ _ H1 s1 ?_⟩⟩
      · have e : d ≤ 3 := e
        have en : isName n = true := en
        simp [It.ok, It.name, en, e]
      · refine It.At.same s1 ?_
        simp only [It.At] at hat ⊢
        exact hat
    | txt n stop most =>
      refine ⟨_, rfl, rfl, _, rfl, ite2 (fun z => absurd (of_decide_eq_true z) (kne (by simp only [It.kind]; decide +kernel))) (fun _ => ?_)⟩
      refine ⟨_, rfl, rfl, _, rfl, ite2 (fun z => absurd (of_decide_eq_true z) (kne (by simp only [It.kind]; decide +kernel))) (fun _ => ?_)⟩
      refine ⟨_, rfl, rfl, _, rfl, ite2 (fun z => absurd (of_decide_eq_true z) (kne (by simp only [It.kind]; decide +kernel))) (fun _ => ?_)⟩
      refine ⟨_, rfl, .inr ⟨p, _, rfl, hT1, q1 ?_ _ H1 s1 ?_⟩⟩
      · have e : d ≤ 3 := e
        have en : isName n = true := en
        simp [It.ok, It.name, en, e]
      · refine It.At.same s1 ?_
        simp only [It.At] at hat ⊢
        exact hat
    | chk n m =>
      refine ⟨_, rfl, rfl, _, rfl, ite2 (fun z => absurd (of_decide_eq_true z) (kne (by simp only [It.kind]; decide +kernel))) (fun _ => ?_)⟩
      refine ⟨_, rfl, rfl, _, rfl, ite2 (fun z => absurd (of_decide_eq_true z) (kne (by simp only [It.kind]; decide +kernel))) (fun _ => ?_)⟩
      refine ⟨_, rfl, rfl, _, rfl, ite2 (fun z => absurd (of_decide_eq_true z) (kne (by simp only [It.kind]; decide +kernel))) (fun _ => ?_)⟩
      refine ⟨_, rfl, .inr ⟨p, _, rfl, hT1, q1 ?_ _ H1 s1 ?_⟩⟩
      · have e : d ≤ 3 := e
        have en : isName n = true := en
        simp [It.ok, It.name, en, e]
      · refine It.At.same s1 ?_
        simp only [It.At] at hat ⊢
        exact hat
    | pad n m b =>
      refine ⟨_, rfl, rfl, _, rfl, ite2 (fun z => absurd (of_decide_eq_true z) (kne (by simp only [It.kind]; decide +kernel))) (fun _ => ?_)⟩
      refine ⟨_, rfl, rfl, _, rfl, ite2 (fun z => absurd (of_decide_eq_true z) (kne (by simp only [It.kind]; decide +kernel))) (fun _ => ?_)⟩
      refine ⟨_, rfl, rfl, _, rfl, ite2 (fun z => absurd (of_decide_eq_true z) (kne (by simp only [It.kind]; decide +kernel))) (fun _ => ?_)⟩
      refine ⟨_, rfl, .inr ⟨p, _, rfl, hT1, q1 ?_ _ H1 s1 ?_⟩⟩
      · have e : d ≤ 3 := e
        have en : isName n = true := en
        simp [It.ok, It.name, en, e]
      · refine It.At.same s1 ?_
        simp only [It.At] at hat ⊢
        exact hat
    | rep n amt b =>
      have e : d ≤ 2 := e
      have en : isName n = true := en
      simp only [It.At] at hat
      obtain ⟨p', q, xs, e1, h1, hrow, hb⟩ := hat
      cases e1
      simp only [It.tame] at ht
      refine ⟨_, rfl, rfl, _, rfl, ite2 (fun _ => ?_) (fun z => (z (decide_eq_true rfl)).elim)⟩
      cases n0 with
      | zero => exfalso; omega
      | succ m =>
        have g1 : H1 p = _ := s1 _ _ h1
        refine ⟨_, rfl, 3, rfl, p, _, rfl, SqT.of g1, by simp only [List.length_cons, List.length_nil]; decide, fun p1 hp1 => ?_⟩
        have s2 := same_new hp1 (.tup (cutV [.str "repeat", .str n, kV amt, .ref q] none (some 3)))
        have g2 := s2 _ _ g1
        refine ⟨_, rfl, p, _, 3, _, rfl, rfl, SqT.of g2, atI_nat (j := 3) rfl, ?_⟩
        refine ⟨_, rfl, d, 1, rfl, rfl, ?_⟩
        have s12 := s1.trans s2
        refine ⟨q, _, xs, d + 1, rfl, by omega, hrow.same s12, hb.same s12, ht.2.2, fun ok p2 ys H2 s3 h2 a2 => ?_, fun no H2 s3 => q2 (by simp only [It.ok]; rw [no]; simp) H2 (s12.trans s3)⟩
        refine ⟨by show 1 ≤ sizeLine; decide, fun t ht4 => ?_⟩
        have s4 := same_new ht4 (.tup [.ref p2])
        refine ⟨p1, t, [.str "repeat", .str n, kV amt], [.ref p2], rfl, rfl, SqT.of (s4 _ _ (s3 _ _ upd_same)), SqT.of upd_same, by simp, by show 4 ≤ sizeLine; decide, fun z => absurd z (by simp), fun _ p3 hp3 => ?_⟩
        refine q1 (by simp only [It.ok]; rw [ok]; simp [en, e]) (.ref p3) _ (s12.trans (s3.trans (s4.trans (same_new hp3 _)))) ?_
        simp only [It.At]
        exact ⟨p3, p2, ys, rfl, upd_same, .inl ((s4.trans (same_new hp3 _)) _ _ h2), a2.same (s4.trans (same_new hp3 _))⟩
    | eit n bs =>
      have e : d ≤ 2 := e
      have en : isName n = true := en
      simp only [It.At] at hat
      obtain ⟨p', q, xs, e1, h1, hrow, hb⟩ := hat
      cases e1
      simp only [It.tame] at ht
      refine ⟨_, rfl, rfl, _, rfl, ite2 (fun z => absurd (of_decide_eq_true z) (kne (by simp only [It.kind]; decide +kernel))) (fun _ => ?_)⟩
      refine ⟨_, rfl, rfl, _, rfl, ite2 (fun _ => ?_) (fun z => (z (decide_eq_true rfl)).elim)⟩
      cases n0 with
      | zero => exfalso; omega
      | succ m =>
        have g1 : H1 p = _ := s1 _ _ h1
        refine ⟨_, rfl, 2, rfl, p, _, rfl, SqT.of g1, by simp only [List.length_cons, List.length_nil]; decide, fun p1 hp1 => ?_⟩
        have s2 := same_new hp1 (.tup (cutV [.str "either", .str n, .ref q] none (some 2)))
        have g2 := s2 _ _ g1
        refine ⟨_, rfl, p, _, 2, _, rfl, rfl, SqT.of g2, atI_nat (j := 2) rfl, ?_⟩
        refine ⟨_, rfl, d, 1, rfl, rfl, ?_⟩
        have s12 := s1.trans s2
        refine ⟨q, _, xs, d + 1, rfl, by omega, hrow.same s12, hb.same s12, ht.2, fun ok p2 ys H2 s3 h2 a2 => ?_, fun no H2 s3 => q2 (by simp only [It.ok]; rw [no]; simp) H2 (s12.trans s3)⟩
        refine ⟨by show 1 ≤ sizeLine; decide, fun t ht4 => ?_⟩
        have s4 := same_new ht4 (.tup [.ref p2])
        refine ⟨p1, t, [.str "either", .str n], [.ref p2], rfl, rfl, SqT.of (s4 _ _ (s3 _ _ upd_same)), SqT.of upd_same, by simp, by show 3 ≤ sizeLine; decide, fun z => absurd z (by simp), fun _ p3 hp3 => ?_⟩
        refine q1 (by simp only [It.ok]; rw [ok]; simp [en, e]) (.ref p3) _ (s12.trans (s3.trans (s4.trans (same_new hp3 _)))) ?_
        simp only [It.At]
        exact ⟨p3, p2, ys, rfl, upd_same, .inl ((s4.trans (same_new hp3 _)) _ _ h2), a2.same (s4.trans (same_new hp3 _))⟩
    | swi n tag bs =>
      have e : d ≤ 2 := e
      have en : isName n = true := en
      simp only [It.At] at hat
      obtain ⟨p', q, xs, e1, h1, hrow, hb⟩ := hat
      cases e1
      simp only [It.tame] at ht
      refine ⟨_, rfl, rfl, _, rfl, ite2 (fun z => absurd (of_decide_eq_true z) (kne (by simp only [It.kind]; decide +kernel))) (fun _ => ?_)⟩
      refine ⟨_, rfl, rfl, _, rfl, ite2 (fun z => absurd (of_decide_eq_true z) (kne (by simp only [It.kind]; decide +kernel))) (fun _ => ?_)⟩
      refine ⟨_, rfl, rfl, _, rfl, ite2 (fun _ => ?_) (fun z => (z (decide_eq_true rfl)).elim)⟩
      cases n0 with
      | zero => exfalso; omega
      | succ m =>
        have g1 : H1 p = _ := s1 _ _ h1
        refine ⟨_, rfl, 3, rfl, p, _, rfl, SqT.of g1, by simp only [List.length_cons, List.length_nil]; decide, fun p1 hp1 => ?_⟩
        have s2 := same_new hp1 (.tup (cutV [.str "switch", .str n, .str tag, .ref q] none (some 3)))
        have g2 := s2 _ _ g1
        refine ⟨_, rfl, p, _, 3, _, rfl, rfl, SqT.of g2, atI_nat (j := 3) rfl, ?_⟩
        refine ⟨_, rfl, d, 1, rfl, rfl, ?_⟩
        have s12 := s1.trans s2
        refine ⟨q, _, xs, d + 1, rfl, by omega, hrow.same s12, hb.same s12, ht.2.2, fun ok p2 ys H2 s3 h2 a2 => ?_, fun no H2 s3 => q2 (by simp only [It.ok]; rw [no]; simp) H2 (s12.trans s3)⟩
        refine ⟨by show 1 ≤ sizeLine; decide, fun t ht4 => ?_⟩
        have s4 := same_new ht4 (.tup [.ref p2])
        refine ⟨p1, t, [.str "switch", .str n, .str tag], [.ref p2], rfl, rfl, SqT.of (s4 _ _ (s3 _ _ upd_same)), SqT.of upd_same, by simp, by show 4 ≤ sizeLine; decide, fun z => absurd z (by simp), fun _ p3 hp3 => ?_⟩
        refine q1 (by simp only [It.ok]; rw [ok]; simp [en, e]) (.ref p3) _ (s12.trans (s3.trans (s4.trans (same_new hp3 _)))) ?_
        simp only [It.At]
        exact ⟨p3, p2, ys, rfl, upd_same, .inl ((s4.trans (same_new hp3 _)) _ _ h2), a2.same (s4.trans (same_new hp3 _))⟩
end
end Bs

set_option Elab.async false
set_option linter.all false
set_option maxRecDepth 100000
set_option maxHeartbeats 4000000
namespace Bs
open PySem L2
/-! ### lengths of items -/
/-- the numbers that are visible: a dict of pairs -/
def VisAt (H : Hp) (d : Addr) (f : Env) (m : Nat) : Prop := ∃ kvs : List (Key × V), H d = some (.dK kvs) ∧ kvs.length ≤ m ∧ ∀ z : Str, match f z with
  | some p => ∃ a, valV kvs (.inr z) = some (.ref a) ∧ H a = some (.tup [.int p.1, .int p.2]) ∧ 0 ≤ p.1 ∧ p.1 ≤ p.2
  | none => valV kvs (.inr z) = none
theorem VisAt.same {H H' : Hp} {d : Addr} {f : Env} {m : Nat} (s : Same H H') (h : VisAt H d f m) : VisAt H' d f m := by
  obtain ⟨kvs, h1, h2, h3⟩ := h
  refine ⟨kvs, s _ _ h1, h2, fun z => ?_⟩
  have q := h3 z
  cases e : f z with
  | none => rw [e] at q; exact q
  | some p => rw [e] at q; obtain ⟨a, q1, q2, q3⟩ := q; exact ⟨a, q1, s _ _ q2, q3⟩
/-- a pair of ints comes out, or the error -/
def Told (C : Addr) (r : Option (Int × Int)) (H : Hp) (Q : VK) (E : XK) : Prop :=
  (∀ l, r = some l → ∀ p H', Same H H' → H' p = some (.tup [.int l.1, .int l.2]) → Q (.ref p) H') ∧ (r = none → ∀ H', Same H H' → E (.ref C) none H')
theorem Told.same {C : Addr} {r : Option (Int × Int)} {H H1 : Hp} {Q : VK} {E : XK} (s : Same H H1) (h : Told C r H Q E) : Told C r H1 Q E :=
  ⟨fun l e p H' s' => h.1 l e p H' (s.trans s'), fun e H' s' => h.2 e H' (s.trans s')⟩
def spAmount (C : Addr) : Sp := fun vs H Q E => ∃ (amt : Key) (most : Int) (dv : Addr) (g : Env) (m : Nat), vs = [kV amt, .ref dv, .int most] ∧ (most = 64 ∨ most = 16) ∧ VisAt H dv g m ∧ (∀ z, amt = .inr z → z.length ≤ 1000 ∧ (reprText z).length ≤ 1000) ∧ Told C (amount g most amt) H Q E
/-- KIND_lengths(item, visible), of an item at depth d -/
def spLens (C : Addr) (k : Str) (n : Nat) : Sp := fun vs H Q E => ∃ (v : V) (dv : Addr) (x : It) (f : Env) (m : Nat) (d : Int), vs = [v, .ref dv] ∧ x.kind = k ∧ d + n = 3 ∧ x.ok d = true ∧ x.tame ∧ x.At true H v ∧ VisAt H dv f m ∧ m + 12 * n ≤ 100 ∧ Told C (x.lens f) H Q E
theorem seq_asg0 {te : TE} {g : TG} {u : TS} {D : Ends} {σ : L2.St} {H : Hp} (h : te σ H fun x H1 => g x σ H1 (u D)) : tSeq (tAsg te g) u D σ H := h
section
variable {P : Program} {w : World} {K : PySem.W.Frag} {mg : Str → Option Value} {base : Heap} {f C : Addr} {fd : FuncData}
theorem slen0 (x y : Str) : (x ++ y).length = x.length + y.length := by
  have h : ∀ z : Str, z.length = z.cps.toList.length := fun z => by simp [Str.length]
  have a : (x ++ y).cps.toList = x.cps.toList ++ y.cps.toList := by
    show (x.cps ++ y.cps).toList = _
    simp
  rw [h, h, h, a, List.length_append]
theorem scAmount : FnScope ["amount", "visible", "most", "low", "high"] ["amount", "visible", "most"] (defScope sAmount) := ⟨rfl, rfl, rfl, by decide +kernel, rfl, by decide +kernel, by decide +kernel⟩
theorem ok_amount (F : Fun K "amount_bounds" "amount_bounds" sAmount f fd) (gR : Cal P w K mg base (L2.CX P w) 1 "require" ["holds", "words"] (spRequire C)) (gI : Cal P w K mg base CX0 1 "is_integer" ["value", "low", "high"] spIsInt) (mi : mg "isinstance" = none) (ms : mg "str" = none) :
    FnOk P w K mg base (L2.CX P w) 2 f fd ["amount", "visible", "most"] (spAmount C) := by
  refine F.okX scAmount (fun vs H Q E h => ?_) (fun cdv A outer s H vs Q E hr h => ?_)
  · obtain ⟨amt, most, dv, g, m, rfl, _⟩ := h
    rfl
  · obtain ⟨amt, most, dv, g, m, rfl, hm, hv, hr0, q1, q2⟩ := h
    have tk : Takes (cxOf (L2.CX P w) P w K mg base ["amount", "visible", "most", "low", "high"] "amount_bounds" (defScope sAmount) f cdv A outer s H E) (fun cls d _ H => E cls d H) := takes_of rfl rfl rfl rfl
    have hx := passes_call tk (E := E) fun _ _ _ _ h => h
    have hu := hu_of hr
    refine ⟨_, pss_cons (ps_if (pt_val (pe_callB call_isi (by rfl) mi (by decide +kernel) (pa_cons (pv 0) (pa_cons (pe_bltn (v := .ty "str") (by rfl) ms (by decide +kernel) rfl) pa_nil))))
        (pss_cons (ps_expr (pe_cal gR hr hx (pa_cons (pe_cmp (pc_din hu (pv 0) (pv 1)) (by rfl)) (pa_cons (pe_joined (.cons pe_str (.cons (pe_fmtR (pv 0)) .nil))) pa_nil))))
        (pss_cons (ps_asg (pe_dget hu (pv 1) (pv 0) (fun _ _ => rfl)) (pg_tup rfl (pgs_cons (pg_name (i := 3) scAmount.nd rfl (Or.inl rfl)) (pgs_cons (pg_name (i := 4) scAmount.nd rfl (Or.inl rfl)) pgs_nil))))
        (pss_cons (ps_expr (pe_cal gR hr hx (pa_cons (pe_cmpR op_le (pv 4) (pv 2) (nomark _)) (pa_cons (pe_joined (.cons pe_str (.cons (pe_fmtR (pv 0)) (.cons pe_str (.cons (pe_fmt (pv 2)) .nil))))) pa_nil))))
        (pss_one (ps_ret (pe_tup (pa_cons (pv 3) (pa_cons (pv 4) pa_nil)))))))) pss_nil)
      (pss_cons (ps_expr (pe_cal gR hr hx (pa_cons (pe_cal gI hr pass0 (pa_cons (pv 0) (pa_cons pe_int (pa_cons (pv 2) pa_nil)))) (pa_cons (pe_joined (.cons pe_str (.cons (pe_fmt (pv 2)) .nil))) pa_nil))))
      (pss_one (ps_ret (pe_tup (pa_cons (pv 0) (pa_cons (pv 0) pa_nil)))))), ?_⟩
    have ms2 : most.natAbs.log2 < 1920 ∧ (toString most : Str).length ≤ 1000 := by rcases hm with rfl | rfl <;> decide +kernel
    cases amt with
    | inl i =>
      refine ⟨_, rfl, _, _, _, _, false, rfl, .ty _, .base (.int _), kit_ty (by decide +kernel), _, rfl, iteF ?_⟩
      have fs : most.natAbs.log2 < 1920 ∧ (Str.empty ++ ("not from 0 to " : Str) ++ toString most).length ≤ sizeLine := by rcases hm with rfl | rfl <;> decide +kernel
      refine ⟨_, rfl, _, rfl, i, 0, most, rfl, _, rfl, by decide +kernel, _, rfl, .inr ⟨most, rfl, fs.1, _, rfl, fs.2, _, _, rfl, fun e => ?_, fun e => ?_⟩⟩
      · have e := of_decide_eq_true e
        refine ⟨_, rfl, _, rfl, (by show 2 ≤ sizeLine; decide), fun p hp => ?_⟩
        exact q1 (i, i) (by simp [amount, e]) p _ (same_new hp _) upd_same
      · have e := of_decide_eq_false e
        exact q2 (by simp [amount, e]) _ (Same.refl H)
    | inr z =>
      obtain ⟨hz, hrz⟩ := hr0 z rfl
      obtain ⟨kvs, v1, v2, v3⟩ := id hv
      refine ⟨_, rfl, _, _, _, _, true, rfl, .ty _, .base (.str _), kit_ty (by decide +kernel), _, rfl, iteT ?_⟩
      refine ⟨_, rfl, _, rfl, dv, _, rfl, DGet.k (k := .inr z) v1, _, rfl, by decide +kernel, _, rfl, .inl ⟨z, rfl, le_line (by omega), _, rfl, ?_, _, _, rfl, fun e => ?_, fun e => ?_⟩⟩
      · rw [slen0, slen0]
        exact le_line (by have : (Str.empty : Str).length + ("no visible number " : Str).length ≤ 1000 := by decide +kernel
                          omega)
      rotate_left
      · have v := v3 z
        cases hg : g z with
        | none => exact q2 (by simp [amount, hg]) _ (Same.refl H)
        | some p =>
          rw [hg] at v
          obtain ⟨b, w1, _⟩ := v
          rw [w1] at e
          cases e
      have v := v3 z
      cases hg : g z with
      | none =>
        rw [hg] at v
        rw [show valV kvs (.inr z) = none from v] at e
        cases e
      | some p =>
        rw [hg] at v
        obtain ⟨b, w1, hb, _⟩ := v
        dsimp only
        refine seq_asg0 ?_
        refine ⟨_, rfl, _, rfl, dv, .ref b, rfl, (by have t := DGet.k (k := .inr z) v1; rw [w1] at t; exact t), ?_⟩
        refine ⟨b, _, rfl, SqT.of hb, rfl, _, _, rfl, _, _, rfl, rfl, ?_⟩
        have l0 : (Str.empty : Str).length = 0 := by decide +kernel
        have l1 : ("the number " : Str).length ≤ 100 := by decide +kernel
        have l2 : (" can be greater than " : Str).length ≤ 100 := by decide +kernel
        refine ⟨_, rfl, _, rfl, _, _, rfl, rfl, _, rfl, by decide +kernel, _, rfl, .inl ⟨z, rfl, le_line (by omega), _, rfl, le_line (by rw [slen0, slen0]; omega), _, rfl, le_line (by rw [slen0, slen0, slen0]; omega), _, rfl, .inr ⟨most, rfl, ms2.1, _, rfl, le_line (by rw [slen0, slen0, slen0, slen0]; omega), _, _, rfl, fun e2 => ?_, fun e2 => ?_⟩⟩⟩
        · have e2 : p.2 ≤ most := of_decide_eq_true e2
          refine ⟨_, rfl, _, rfl, (by show 2 ≤ sizeLine; decide), fun t ht => ?_⟩
          exact q1 p (by simp [amount, hg, e2]) t _ (same_new ht _) upd_same
        · have e2 : ¬ p.2 ≤ most := of_decide_eq_false e2
          exact q2 (by simp [amount, hg, e2]) _ (Same.refl H)
theorem scBytes : FnScope ["item", "visible"] ["item", "visible"] (defScope sBytes) := ⟨rfl, rfl, rfl, by decide +kernel, rfl, by decide +kernel, by decide +kernel⟩
theorem ok_bytes {n : Nat} (F : Fun K "bytes_lengths" "bytes_lengths" sBytes f fd) (gA : Cal P w K mg base (L2.CX P w) 2 "amount_bounds" ["amount", "visible", "most"] (spAmount C)) (gL : GInt mg "GREATEST_LENGTH" 64) :
    FnOk P w K mg base (L2.CX P w) 3 f fd ["item", "visible"] (spLens C "bytes" n) := by
  refine F.okX scBytes (fun vs H Q E h => ?_) (fun cdv A outer s H vs Q E hr h => ?_)
  · obtain ⟨v, dv, x, g, m, d, rfl, _⟩ := h
    rfl
  · obtain ⟨v, dv, x, g, m, d, rfl, hk, hd, ok, ht, hat, hv, hm, q⟩ := h
    have tk : Takes (cxOf (L2.CX P w) P w K mg base ["item", "visible"] "bytes_lengths" (defScope sBytes) f cdv A outer s H E) (fun cls d _ H => E cls d H) := takes_of rfl rfl rfl rfl
    have hx := passes_call tk (E := E) fun _ _ _ _ h => h
    cases x with
    | byt nm amt =>
      simp only [It.tame] at ht
      simp only [It.At] at hat
      obtain ⟨p, rfl, hp⟩ := hat
      refine ⟨_, pss_one (ps_ret (pe_cal gA hr hx (pa_cons (pe_ix ix_tup (pv 0) pe_int (fun _ _ => rfl)) (pa_cons (pv 1) (pa_cons (pe_gint gL rfl) pa_nil))))), ?_⟩
      exact ⟨_, rfl, p, _, 2, _, rfl, rfl, SqT.of hp, atI_nat (j := 2) rfl, _, rfl, amt, 64, dv, g, m, rfl, .inl rfl, hv, ht.2, q⟩
    | odd => simp [It.ok] at ok
    | _ => exact absurd hk (by simp only [It.kind]; decide +kernel)
theorem scText : FnScope ["item", "visible"] ["item", "visible"] (defScope sText) := ⟨rfl, rfl, rfl, by decide +kernel, rfl, by decide +kernel, by decide +kernel⟩
theorem ok_text {n : Nat} (F : Fun K "text_lengths" "text_lengths" sText f fd) (gR : Cal P w K mg base (L2.CX P w) 1 "require" ["holds", "words"] (spRequire C)) (gI : Cal P w K mg base CX0 1 "is_integer" ["value", "low", "high"] spIsInt) (gL : GInt mg "GREATEST_LENGTH" 64) (gB : GInt mg "GREATEST_BYTE" 255) :
    FnOk P w K mg base (L2.CX P w) 2 f fd ["item", "visible"] (spLens C "text" n) := by
  refine F.okX scText (fun vs H Q E h => ?_) (fun cdv A outer s H vs Q E hr h => ?_)
  · obtain ⟨v, dv, x, g, m, d, rfl, _⟩ := h
    rfl
  · obtain ⟨v, dv, x, g, m, d, rfl, hk, hd, ok, ht, hat, hv, hm, q1, q2⟩ := h
    have tk : Takes (cxOf (L2.CX P w) P w K mg base ["item", "visible"] "text_lengths" (defScope sText) f cdv A outer s H E) (fun cls d _ H => E cls d H) := takes_of rfl rfl rfl rfl
    have hx := passes_call tk (E := E) fun _ _ _ _ h => h
    cases x with
    | txt nm stop most =>
      simp only [It.At] at hat
      obtain ⟨p, rfl, hp⟩ := hat
      have hT : SqT K H p _ := SqT.of hp
      refine ⟨_, pss_cons (ps_expr (pe_cal gR hr hx (pa_cons (pe_cal gI hr pass0 (pa_cons (pe_ix ix_tup (pv 0) pe_int (fun _ _ => rfl)) (pa_cons pe_int (pa_cons (pe_gint gB rfl) pa_nil)))) (pa_cons pe_str pa_nil))))
        (pss_cons (ps_expr (pe_cal gR hr hx (pa_cons (pe_cal gI hr pass0 (pa_cons (pe_ix ix_tup (pv 0) pe_int (fun _ _ => rfl)) (pa_cons pe_int (pa_cons (pe_gint gL rfl) pa_nil)))) (pa_cons (pe_joined (.cons pe_str (.cons (pe_fmt (pe_gint gL rfl)) (.cons pe_str .nil)))) pa_nil))))
        (pss_one (ps_ret (pe_tup (pa_cons pe_int (pa_cons (pe_op op_add (pe_ix ix_tup (pv 0) pe_int (fun _ _ => rfl)) pe_int) pa_nil)))))), ?_⟩
      refine ⟨_, rfl, p, _, 2, _, rfl, rfl, hT, atI_nat (j := 2) rfl, stop, 0, 255, rfl, _, _, rfl, fun e => ?_, fun e => q2 (by have e := of_decide_eq_false e; simp only [It.lens]; rw [if_neg fun z => e z.1]) _ (Same.refl H)⟩
      have e := of_decide_eq_true e
      refine ⟨_, rfl, p, _, 3, _, rfl, rfl, hT, atI_nat (j := 3) rfl, most, 0, 64, rfl, ?_⟩
      refine ⟨_, rfl, by decide +kernel, .inr ⟨64, rfl, by decide +kernel, _, rfl, by decide +kernel, _, rfl, by decide +kernel, _, _, rfl, fun e2 => ?_, fun e2 => q2 (by have e2 := of_decide_eq_false e2; simp only [It.lens]; rw [if_neg fun z => e2 z.2]) _ (Same.refl H)⟩⟩
      have e2 := of_decide_eq_true e2
      refine ⟨_, rfl, p, _, 3, _, rfl, rfl, hT, atI_nat (j := 3) rfl, most, 1, rfl, rfl, (by show 2 ≤ sizeLine; decide), fun t ht4 => ?_⟩
      exact q1 (1, most + 1) (by simp only [It.lens]; rw [if_pos ⟨e, e2⟩]) t _ (same_new ht4 _) upd_same
    | odd => simp [It.ok] at ok
    | _ => exact absurd hk (by simp only [It.kind]; decide +kernel)
theorem scCheck : FnScope ["item", "visible"] ["item", "visible"] (defScope sCheck) := ⟨rfl, rfl, rfl, by decide +kernel, rfl, by decide +kernel, by decide +kernel⟩
theorem ok_check {n : Nat} (F : Fun K "check_lengths" "check_lengths" sCheck f fd) (gR : Cal P w K mg base (L2.CX P w) 1 "require" ["holds", "words"] (spRequire C)) (gI : Cal P w K mg base CX0 1 "is_integer" ["value", "low", "high"] spIsInt) (gM : GInt mg "GREATEST_MODULUS" 16) :
    FnOk P w K mg base (L2.CX P w) 2 f fd ["item", "visible"] (spLens C "check" n) := by
  refine F.okX scCheck (fun vs H Q E h => ?_) (fun cdv A outer s H vs Q E hr h => ?_)
  · obtain ⟨v, dv, x, g, m, d, rfl, _⟩ := h
    rfl
  · obtain ⟨v, dv, x, g, m, d, rfl, hk, hd, ok, ht, hat, hv, hm, q1, q2⟩ := h
    have tk : Takes (cxOf (L2.CX P w) P w K mg base ["item", "visible"] "check_lengths" (defScope sCheck) f cdv A outer s H E) (fun cls d _ H => E cls d H) := takes_of rfl rfl rfl rfl
    have hx := passes_call tk (E := E) fun _ _ _ _ h => h
    cases x with
    | chk nm mo =>
      simp only [It.At] at hat
      obtain ⟨p, rfl, hp⟩ := hat
      have hT : SqT K H p _ := SqT.of hp
      refine ⟨_, pss_cons (ps_expr (pe_cal gR hr hx (pa_cons (pe_cal gI hr pass0 (pa_cons (pe_ix ix_tup (pv 0) pe_int (fun _ _ => rfl)) (pa_cons pe_int (pa_cons (pe_gint gM rfl) pa_nil)))) (pa_cons (pe_joined (.cons pe_str (.cons (pe_fmt (pe_gint gM rfl)) .nil))) pa_nil))))
        (pss_one (ps_ret (pe_tup (pa_cons pe_int (pa_cons pe_int pa_nil))))), ?_⟩
      refine ⟨_, rfl, p, _, 2, _, rfl, rfl, hT, atI_nat (j := 2) rfl, mo, 1, 16, rfl, ?_⟩
      refine ⟨_, rfl, by decide +kernel, .inr ⟨16, rfl, by decide +kernel, _, rfl, by decide +kernel, _, _, rfl, fun e => ?_, fun e => q2 (by have e := of_decide_eq_false e; simp only [It.lens]; rw [if_neg e]) _ (Same.refl H)⟩⟩
      have e := of_decide_eq_true e
      refine ⟨(by show 2 ≤ sizeLine; decide), fun t ht4 => ?_⟩
      exact q1 (1, 1) (by simp only [It.lens]; rw [if_pos e]) t _ (same_new ht4 _) upd_same
    | odd => simp [It.ok] at ok
    | _ => exact absurd hk (by simp only [It.kind]; decide +kernel)
end
end Bs

set_option Elab.async false
set_option linter.all false
set_option maxRecDepth 100000
set_option maxHeartbeats 4000000
namespace Bs
open PySem L2
theorem two_go {c : Bool} {a b : Int} {σ : L2.St} {H : Hp} {R : V → Hp → Prop} (h : R (.int (if c = true then a else b)) H) : if c = true then tC (.int a) σ H R else tC (.int b) σ H R := by
  cases c with
  | true => exact iteT h
  | false => exact iteF h
theorem order_in (o : Str) : inV (.str o) [.str "big", .str "little"] = decide (o = "big" ∨ o = "little") := by
  rw [Bool.eq_iff_iff, decide_eq_true_iff]
  simp only [inV, List.any_cons, List.any_nil, eqV, Bool.or_false, Bool.or_eq_true]
  constructor
  · rintro (h | h)
    · exact .inl (eq_of_beq h).symm
    · exact .inr (eq_of_beq h).symm
  · rintro (h | h)
    · exact .inl (beq_iff_eq.mpr h.symm)
    · exact .inr (beq_iff_eq.mpr h.symm)
theorem int_eq {a b : Int} : decide (V.int a = V.int b) = decide (a = b) := decide_eq_decide.mpr ⟨V.int.inj, fun h => congrArg _ h⟩
section
variable {P : Program} {w : World} {K : PySem.W.Frag} {mg : Str → Option Value} {base : Heap} {f C : Addr} {fd : FuncData}
theorem scNumber : FnScope ["item", "visible", "size", "order", "low", "high", "greatest"] ["item", "visible"] (defScope sNumber) := ⟨rfl, rfl, rfl, by decide +kernel, rfl, by decide +kernel, by decide +kernel⟩
theorem ok_number {n : Nat} (F : Fun K "number_lengths" "number_lengths" sNumber f fd) (gR : Cal P w K mg base (L2.CX P w) 1 "require" ["holds", "words"] (spRequire C)) (gI : Cal P w K mg base CX0 1 "is_integer" ["value", "low", "high"] spIsInt) (gB : GInt mg "GREATEST_BYTE" 255) (gP : GInt mg "GREATEST_PAIR" 65535) :
    FnOk P w K mg base (L2.CX P w) 2 f fd ["item", "visible"] (spLens C "number" n) := by
  refine F.okX scNumber (fun vs H Q E h => ?_) (fun cdv A outer s H vs Q E hr h => ?_)
  · obtain ⟨v, dv, x, g, m, d, rfl, _⟩ := h
    rfl
  · obtain ⟨v, dv, x, g, m, d, rfl, hk, hd, ok, ht, hat, hv, hm, q1, q2⟩ := h
    have tk : Takes (cxOf (L2.CX P w) P w K mg base ["item", "visible", "size", "order", "low", "high", "greatest"] "number_lengths" (defScope sNumber) f cdv A outer s H E) (fun cls d _ H => E cls d H) := takes_of rfl rfl rfl rfl
    have hx := passes_call tk (E := E) fun _ _ _ _ h => h
    cases x with
    | num nm size order low high =>
      simp only [It.At] at hat
      obtain ⟨p, rfl, hp⟩ := hat
      have hT : SqT K H p _ := SqT.of hp
      refine ⟨_, pss_cons (ps_asg (pe_slice sl_tup (pv 0) (po_some pe_int) po_none) (pg_tup rfl (pgs_cons (pg_name (i := 2) scNumber.nd rfl (.inl rfl)) (pgs_cons (pg_name (i := 3) scNumber.nd rfl (.inl rfl)) (pgs_cons (pg_name (i := 4) scNumber.nd rfl (.inl rfl)) (pgs_cons (pg_name (i := 5) scNumber.nd rfl (.inl rfl)) pgs_nil))))))
        (pss_cons (ps_expr (pe_cal gR hr hx (pa_cons (pe_cal gI hr pass0 (pa_cons (pv 2) (pa_cons pe_int (pa_cons pe_int pa_nil)))) (pa_cons pe_str pa_nil))))
        (pss_cons (ps_expr (pe_cal gR hr hx (pa_cons (pe_cmpR op_in_seq (pv 3) (pe_tup (pa_cons pe_str (pa_cons pe_str pa_nil))) (by rfl)) (pa_cons pe_str pa_nil))))
        (pss_cons (ps_set (i := 6) scNumber.nd rfl (.inl rfl) (pe_ifExp (pt_cmpR op_eq (pv 2) pe_int (nomark _)) (pe_gint gB rfl) (pe_gint gP rfl)))
        (pss_cons (ps_expr (pe_cal gR hr hx (pa_cons (pe_cal gI hr pass0 (pa_cons (pv 5) (pa_cons pe_int (pa_cons (pv 6) pa_nil)))) (pa_cons (pe_joined (.cons pe_str (.cons (pe_fmt (pv 6)) .nil))) pa_nil))))
        (pss_cons (ps_expr (pe_cal gR hr hx (pa_cons (pe_cal gI hr pass0 (pa_cons (pv 4) (pa_cons pe_int (pa_cons (pv 5) pa_nil)))) (pa_cons pe_str pa_nil))))
        (pss_one (ps_ret (pe_tup (pa_cons (pv 2) (pa_cons (pv 2) pa_nil)))))))))), ?_⟩
      have no : numOk size order low high = false → ∀ H', Same H H' → E (.ref C) none H' := fun e => q2 (by simp only [It.lens]; rw [e]; rfl)
      refine ⟨_, rfl, 2, rfl, p, _, rfl, hT, by simp only [List.length_cons, List.length_nil]; decide, fun t ht4 => ?_⟩
      have s1 := same_new ht4 (.tup [.int size, .str order, .int low, .int high])
      refine ⟨t, [.int size, .str order, .int low, .int high], rfl, SqT.of upd_same, rfl, _, _, rfl, _, _, rfl, _, _, rfl, _, _, rfl, rfl, ?_⟩
      refine ⟨_, rfl, size, 1, 2, rfl, _, _, rfl, fun e1 => ?_, fun e1 => no (by unfold numOk; rw [e1]; rfl) _ s1⟩
      refine ⟨_, rfl, (by show 2 ≤ sizeLine; decide), fun o ho => ?_⟩
      have s2 := s1.trans (same_new ho (.tup [.str "big", .str "little"]))
      refine ⟨o, _, rfl, .inr (SqT.of upd_same), rfl, by decide +kernel, decide (order = "big" ∨ order = "little"), _, by rw [← order_in]; rfl, fun e2 => ?_, fun e2 => no (by unfold numOk; rw [e1, e2]; rfl) _ s2⟩
      refine ⟨_, rfl, rfl, _, rfl, two_go ?_⟩
      rw [int_eq]
      refine ⟨_, rfl, _, rfl, high, 0, _, rfl, ?_⟩
      have eg : (if decide (size = 1) = true then (255 : Int) else 65535) = if size = 1 then 255 else 65535 := by by_cases z : size = 1 <;> simp [z]
      rw [eg]
      have fs : (if size = 1 then (255 : Int) else 65535).natAbs.log2 < 1920 ∧ (Str.empty ++ ("a high is from 0 to " : Str) ++ toString (if size = 1 then (255 : Int) else 65535)).length ≤ sizeLine := by
        by_cases z : size = 1
        · rw [if_pos z]; decide +kernel
        · rw [if_neg z]; decide +kernel
      refine ⟨_, rfl, by decide +kernel, _, rfl, .inr ⟨_, rfl, fs.1, _, rfl, fs.2, _, _, rfl, fun e3 => ?_, fun e3 => no (by unfold numOk; rw [e1, e2, e3]; rfl) _ s2⟩⟩
      refine ⟨_, rfl, _, rfl, low, 0, high, rfl, _, _, rfl, fun e4 => ?_, fun e4 => no (by unfold numOk; rw [e1, e2, e3, e4]; rfl) _ s2⟩
      refine ⟨_, rfl, _, rfl, (by show 2 ≤ sizeLine; decide), fun r hr4 => ?_⟩
      exact q1 (size, size) (by simp only [It.lens]; unfold numOk; rw [e1, e2, e3, e4]; rfl) r _ (s2.trans (same_new hr4 _)) upd_same
    | odd => simp [It.ok] at ok
    | _ => exact absurd hk (by simp only [It.kind]; decide +kernel)
theorem scPad : FnScope ["item", "visible", "multiple"] ["item", "visible"] (defScope sPad) := ⟨rfl, rfl, rfl, by decide +kernel, rfl, by decide +kernel, by decide +kernel⟩
/-- MULTIPLES -/
def Mults (K : PySem.W.Frag) (mg : Str → Option Value) : Prop := ∃ a, mg "MULTIPLES" = some (.ref a) ∧ ∀ H, SqT K H a [.int 1, .int 2, .int 4, .int 8, .int 16]
theorem mult_in (o : Int) : inV (.int o) [.int 1, .int 2, .int 4, .int 8, .int 16] = decide (o = 1 ∨ o = 2 ∨ o = 4 ∨ o = 8 ∨ o = 16) := by
  rw [Bool.eq_iff_iff, decide_eq_true_iff]
  simp only [inV, List.any_cons, List.any_nil, eqV, Bool.or_false, Bool.or_eq_true, beq_iff_eq]
  omega
theorem ok_pad {n : Nat} (F : Fun K "pad_lengths" "pad_lengths" sPad f fd) (gR : Cal P w K mg base (L2.CX P w) 1 "require" ["holds", "words"] (spRequire C)) (gI : Cal P w K mg base CX0 1 "is_integer" ["value", "low", "high"] spIsInt) (gB : GInt mg "GREATEST_BYTE" 255) (gM : Mults K mg) :
    FnOk P w K mg base (L2.CX P w) 2 f fd ["item", "visible"] (spLens C "pad" n) := by
  refine F.okX scPad (fun vs H Q E h => ?_) (fun cdv A outer s H vs Q E hr h => ?_)
  · obtain ⟨v, dv, x, g, m, d, rfl, _⟩ := h
    rfl
  · obtain ⟨v, dv, x, g, m, d, rfl, hk, hd, ok, ht, hat, hv, hm, q1, q2⟩ := h
    obtain ⟨aM, gM1, gM2⟩ := gM
    have tk : Takes (cxOf (L2.CX P w) P w K mg base ["item", "visible", "multiple"] "pad_lengths" (defScope sPad) f cdv A outer s H E) (fun cls d _ H => E cls d H) := takes_of rfl rfl rfl rfl
    have hx := passes_call tk (E := E) fun _ _ _ _ h => h
    cases x with
    | pad nm mo b =>
      simp only [It.At] at hat
      obtain ⟨p, rfl, hp⟩ := hat
      have hT : SqT K H p _ := SqT.of hp
      refine ⟨_, pss_cons (ps_set (i := 2) scPad.nd rfl (.inl rfl) (pe_ix ix_tup (pv 0) pe_int (fun _ _ => rfl)))
        (pss_cons (ps_expr (pe_cal gR hr hx (pa_cons (pe_and (pe_cal gI hr pass0 (pa_cons (pv 2) (pa_cons pe_int (pa_cons pe_int pa_nil)))) (pe_one (pe_cmpR op_in_seq (pv 2) (pe_glob (v := .ref aM) (by rfl) gM1 rfl) (by rfl)))) (pa_cons pe_str pa_nil))))
        (pss_cons (ps_expr (pe_cal gR hr hx (pa_cons (pe_cal gI hr pass0 (pa_cons (pe_ix ix_tup (pv 0) pe_int (fun _ _ => rfl)) (pa_cons pe_int (pa_cons (pe_gint gB rfl) pa_nil)))) (pa_cons pe_str pa_nil))))
        (pss_one (ps_ret (pe_tup (pa_cons pe_int (pa_cons (pe_op op_sub (pv 2) pe_int) pa_nil))))))), ?_⟩
      refine ⟨_, rfl, p, _, 2, _, rfl, rfl, hT, atI_nat (j := 2) rfl, ?_⟩
      have no : ¬ ((mo = 1 ∨ mo = 2 ∨ mo = 4 ∨ mo = 8 ∨ mo = 16) ∧ 0 ≤ b ∧ b ≤ 255) → ∀ H', Same H H' → E (.ref C) none H' := fun e => q2 (by simp only [It.lens]; rw [if_neg e])
      refine ⟨_, rfl, mo, 1, 16, rfl, _, rfl, ?_⟩
      refine ite2 (fun e => ?_) (fun e => ⟨false, _, rfl, fun z => absurd z (by decide), fun _ => no (fun z => e (decide_eq_true (by omega))) _ (Same.refl H)⟩)
      refine ⟨_, rfl, aM, _, rfl, .inr (gM2 H), rfl, by decide +kernel, decide (mo = 1 ∨ mo = 2 ∨ mo = 4 ∨ mo = 8 ∨ mo = 16), _, by rw [← mult_in]; rfl, fun e2 => ?_, fun e2 => no (fun z => of_decide_eq_false e2 z.1) _ (Same.refl H)⟩
      refine ⟨_, rfl, p, _, 3, _, rfl, rfl, hT, atI_nat (j := 3) rfl, b, 0, 255, rfl, _, _, rfl, fun e3 => ?_, fun e3 => no (fun z => of_decide_eq_false e3 z.2) _ (Same.refl H)⟩
      refine ⟨_, rfl, mo, 1, rfl, rfl, (by show 2 ≤ sizeLine; decide), fun r hr4 => ?_⟩
      exact q1 (0, mo - 1) (by simp only [It.lens]; rw [if_pos ⟨of_decide_eq_true e2, of_decide_eq_true e3⟩]) r _ (same_new hr4 _) upd_same
    | odd => simp [It.ok] at ok
    | _ => exact absurd hk (by simp only [It.kind]; decide +kernel)
end
end Bs

set_option Elab.async false
set_option linter.all false
set_option maxRecDepth 100000
set_option maxHeartbeats 4000000
namespace Bs
open PySem L2
/-! ### a call of a slot that holds one of the rules -/
structure HeldR (X : Cx) (CX : CXT) (k : Nat) (f : Addr) (sp : Sp) : Prop where
  ex : ∃ (fd : FuncData) (ps : List Str), FnOk X.prog X.w X.K X.mg X.base CX k f fd ps sp ∧ PySem.W.keepIn X.K (.ref f) = true ∧ Binds X.K fd ps []
def tCallR (X : Cx) (CX : CXT) (k : Nat) (i : Nat) (E : XK) (t : TA) : TE := fun σ H Q => ∃ f sp, σ[i]? = some (some (.ref f)) ∧ HeldR X CX k f sp ∧ t σ H fun vs H1 => sp vs H1 Q E
theorem pe_callR {X : Cx} {CX : CXT} {k i : Nat} {E : XK} {x : Str} {p pos : Pos} {e : Expr} {es : List Expr} {t : TA} (hr : Room k X.A) (hN : X.N[i]? = some x) (hv : Vis X.env.scope x) (hx : Passes CX X E) (ha : PA X (e :: es) t)
    (hdb : (x == ("__debug__" : Str)) = false := by decide) (hcd : (x == ("__classdict__" : Str)) = false := by decide)
    (he : starEach (e :: es) X.env = (false, eval e X.env) :: starEach es X.env := by rfl) (hpl : (backTo pos (starEach es X.env)).any (·.1) = false := by rfl) : PE X (.Call (.Name x p) (e :: es) [] pos) (tCallR X CX k i E t) := by
  refine ⟨fun pins s σ H Q I ⟨f, sp, hs, hh, ht⟩ => ?_⟩
  obtain ⟨fd, ps, F, hk, hb⟩ := hh.ex
  refine (pe_callL (i := i) (dvs := []) F hr hN hv hk hb .nil hx ha hdb hcd he hpl).run pins s σ H Q I ⟨hs, ?_⟩
  have e2 : (fun (vs : List V) (H1 : Hp) => sp (vs ++ []) H1 Q E) = fun vs H1 => sp vs H1 Q E := by
    funext vs H1
    rw [List.append_nil]
  show t σ H (fun vs H1 => sp (vs ++ []) H1 Q E)
  rw [e2]
  exact ht
/-! ### list_lengths -/
def Its.drop : Nat → Its → Its
  | 0, x => x
  | _ + 1, .nil => .nil
  | i + 1, .cons _ r => r.drop i
theorem drop_get : ∀ {x : Its} {i : Nat} {y : It}, x.get i = some y → x.drop i = .cons y (x.drop (i + 1))
  | .nil, _, _, e => by simp [Its.get] at e
  | .cons x r, 0, y, e => by simp [Its.get] at e; subst e; cases r <;> rfl
  | .cons x r, i + 1, y, e => drop_get (x := r) e
theorem drop_all : ∀ (x : Its), x.drop x.len = .nil
  | .nil => rfl
  | .cons x r => drop_all r
theorem get_okd : ∀ {x : Its} {i : Nat} {y : It} {d : Int}, x.ok d = true → x.get i = some y → y.ok d = true
  | .nil, _, _, _, _, e => by simp [Its.get] at e
  | .cons x r, 0, y, d, h, e => by simp [Its.get] at e; subst e; rw [Its.ok, Bool.and_eq_true] at h; exact h.1
  | .cons x r, i + 1, y, d, h, e => by rw [Its.ok, Bool.and_eq_true] at h; exact get_okd (x := r) h.2 e
/-- the numbers behind an item -/
def It.seen (f : Env) : It → Env
  | .num n _ _ low high => f.put n (low, high)
  | _ => f
theorem lens_cons (f : Env) (x : It) (r : Its) : (Its.cons x r).lens f = match x.lens f with
    | some a => (r.lens (x.seen f)).map fun b => (a.1 + b.1, a.2 + b.2)
    | none => none := by
  cases x <;> simp only [Its.lens, It.seen] <;> (generalize It.lens f _ = u; generalize Its.lens _ r = v; cases u <;> cases v <;> rfl)
theorem num_in {g : Env} {nm order : Str} {size low high : Int} {l : Int × Int} (e : It.lens g (.num nm size order low high) = some l) : 0 ≤ low ∧ low ≤ high := by
  simp only [It.lens] at e
  by_cases c : numOk size order low high = true
  · unfold numOk at c
    rw [Bool.and_eq_true, Bool.and_eq_true, Bool.and_eq_true] at c
    exact of_decide_eq_true c.2.2.2
  · rw [if_neg c] at e; cases e
theorem vis_put {H : Hp} {d t : Addr} {f : Env} {m : Nat} {n : Str} {p : Int × Int} {kvs : List (Key × V)} (hd : H d = some (.dK kvs)) (hl : kvs.length ≤ m) (hv : ∀ z : Str, match f z with
      | some p => ∃ a, valV kvs (.inr z) = some (.ref a) ∧ H a = some (.tup [.int p.1, .int p.2]) ∧ 0 ≤ p.1 ∧ p.1 ≤ p.2
      | none => valV kvs (.inr z) = none) (ht : H t = some (.tup [.int p.1, .int p.2])) (hp : 0 ≤ p.1 ∧ p.1 ≤ p.2) : VisAt (upd H d (.dK (putK kvs (.inr n) (.ref t)))) d (f.put n p) (m + 1) := by
  have ne : ∀ a xs, H a = some (.tup xs) → a ≠ d := fun a xs e => ne_of e hd (by intro z; cases z)
  refine ⟨_, upd_same, Nat.le_trans (length_putK _ _ _) (by omega), fun z => ?_⟩
  rw [valV_put]
  by_cases hz : z = n
  · subst hz
    rw [if_pos rfl]
    show match (if z = z then some p else f z) with | some p => _ | none => _
    rw [if_pos rfl]
    exact ⟨t, rfl, by rw [upd_ne (ne _ _ ht)]; exact ht, hp⟩
  · rw [if_neg (fun e => hz (Sum.inr.inj e))]
    show match (if z = n then some p else f z) with | some p => _ | none => _
    rw [if_neg hz]
    have q := hv z
    cases e : f z with
    | none => rw [e] at q; exact q
    | some y => rw [e] at q; obtain ⟨a, q1, q2, q3⟩ := q; exact ⟨a, q1, by rw [upd_ne (ne _ _ q2)]; exact q2, q3⟩
def spLensList (C : Addr) (n : Nat) : Sp := fun vs H Q E => ∃ (a dv : Addr) (x : Its) (xs : List V) (f : Env) (m : Nat) (d : Int), vs = [.ref a, .ref dv] ∧ d + n = 3 ∧ x.ok d = true ∧ x.len ≤ 12 ∧ x.tame ∧ H a = some (.tup xs) ∧ x.At true H xs ∧ VisAt H dv f m ∧ m + 12 * (n + 1) ≤ 100 ∧
  Told C (x.lens f) H Q E
/-- RULES -/
def Rules (P : Program) (w : World) (K : PySem.W.Frag) (mg : Str → Option Value) (base : Heap) (C : Addr) (k n : Nat) : Prop := ∃ d es nn, mg "RULES" = some (.ref d) ∧ KDict K w d es nn ∧
  ∀ x : It, x.isOdd = false → ∃ f fd, PySem.W.nsIn K d x.kind = some (some (.ref f)) ∧ PySem.W.keepIn K (.ref f) = true ∧ Binds K fd ["item", "visible"] [] ∧ FnOk P w K mg base (L2.CX P w) k f fd ["item", "visible"] (spLens C x.kind n)
section
variable {P : Program} {w : World} {K : PySem.W.Frag} {mg : Str → Option Value} {base : Heap} {f C : Addr} {fd : FuncData}
theorem scListLen : FnScope ["items", "visible", "known", "least", "greatest", "item", "rule", "low", "high"] ["items", "visible"] (defScope sListLen) := ⟨rfl, rfl, rfl, by decide +kernel, rfl, by decide +kernel, by decide +kernel⟩
theorem ok_listlen {n k : Nat} (F : Fun K "list_lengths" "list_lengths" sListLen f fd) (mdict : mg "dict" = none) (R : Rules P w K mg base C k n) :
    FnOk P w K mg base (L2.CX P w) (k + 1) f fd ["items", "visible"] (spLensList C n) := by
  refine F.okX scListLen (fun vs H Q E h => ?_) (fun cdv A outer s H vs Q E hr h => ?_)
  · obtain ⟨a, dv, x, xs, g, m, d, rfl, _⟩ := h
    rfl
  · obtain ⟨a, dv, x, xs, g, m, d, rfl, hd, ok, hlen, ht, ha, hat, ⟨kvs, v1, v2, v3⟩, hm, q1, q2⟩ := h
    obtain ⟨dR, es, nn, gR, DR, hR⟩ := R
    have tk : Takes (cxOf (L2.CX P w) P w K mg base ["items", "visible", "known", "least", "greatest", "item", "rule", "low", "high"] "list_lengths" (defScope sListLen) f cdv A outer s H E) (fun cls d _ H => E cls d H) := takes_of rfl rfl rfl rfl
    have hx : Passes (L2.CX P w) (cxOf (L2.CX P w) P w K mg base ["items", "visible", "known", "least", "greatest", "item", "rule", "low", "high"] "list_lengths" (defScope sListLen) f cdv A outer s H E) E := passes_call tk (E := E) fun _ _ _ _ h => h
    have hu := hu_of hr
    refine ⟨_, pss_cons (ps_set (i := 2) scListLen.nd rfl (.inl rfl) (pe_callTy call_dictD (by rfl) mdict (by decide +kernel) (pa_cons (pv 1) pa_nil)))
      (pss_cons (ps_set (i := 3) scListLen.nd rfl (.inl rfl) pe_int)
      (pss_cons (ps_set (i := 4) scListLen.nd rfl (.inl rfl) pe_int)
      (pss_cons (ps_for (passes_of rfl) rfl (pi_row (pv 0)) (pg_name (i := 5) scListLen.nd rfl (.inl rfl))
        (pss_cons (ps_set (i := 6) scListLen.nd rfl (.inl rfl) (pe_ix ix_kdict (pe_glob (v := .ref dR) (by rfl) gR rfl) (pe_ix ix_tup (pv 5) pe_int (fun _ _ => rfl)) (fun _ _ => rfl)))
        (pss_cons (ps_asg (pe_callR (i := 6) hr rfl (.inl rfl) hx (pa_cons (pv 5) (pa_cons (pv 2) pa_nil))) (pg_tup rfl (pgs_cons (pg_name (i := 7) scListLen.nd rfl (.inl rfl)) (pgs_cons (pg_name (i := 8) scListLen.nd rfl (.inl rfl)) pgs_nil))))
        (pss_cons (ps_aug (i := 3) scListLen.nd rfl (.inl rfl) (pv 7) ip_add)
        (pss_cons (ps_aug (i := 4) scListLen.nd rfl (.inl rfl) (pv 8) ip_add)
        (pss_one (ps_if (pt_cmpR op_eq (pe_ix ix_tup (pv 5) pe_int (fun _ _ => rfl)) pe_str (nomark _))
          (pss_one (ps_dput hu (pv 2) (pe_ix ix_tup (pv 5) pe_int (fun _ _ => rfl)) (pe_tup (pa_cons (pe_ix ix_tup (pv 5) pe_int (fun _ _ => rfl)) (pa_cons (pe_ix ix_tup (pv 5) pe_int (fun _ _ => rfl)) pa_nil))) rfl)) pss_nil)))))))
      (pss_one (ps_ret (pe_tup (pa_cons (pv 3) (pa_cons (pv 4) pa_nil)))))))), ?_⟩
    refine ⟨_, rfl, dv, kvs, rfl, .of v1, fun kn hkn => ?_⟩
    have s0 := same_new hkn (.dK kvs)
    refine ⟨_, rfl, a, rfl, ?_⟩
    have el := hat.len
    refine row_go2 (H0 := H) (.inl ha) s0 (fun J wk => ?_)
    refine for_it wk (fun i σ H' => ∃ L G i5 i6 i7 i8, σ = [some (.ref a), some (.ref dv), some (.ref kn), some (.int L), some (.int G), i5, i6, i7, i8] ∧ Same H H' ∧ ∃ gi, VisAt H' kn gi (m + i) ∧ x.lens g = ((x.drop i).lens gi).map fun p => (L + p.1, G + p.2))
      ⟨0, 0, none, none, none, none, rfl, s0, g, ⟨kvs, upd_same, v2, fun z => ?_⟩, ?_⟩ (fun _ _ _ _ h => by obtain ⟨_, _, _, _, _, _, _, z, _⟩ := h; exact z) ?_ ?_
    · have q := v3 z
      cases e : g z with
      | none => rw [e] at q; exact q
      | some p => rw [e] at q; obtain ⟨b, q1, q2, q3⟩ := q; exact ⟨b, q1, s0 _ _ q2, q3⟩
    · show x.lens g = (x.lens g).map _
      cases x.lens g with
      | none => rfl
      | some p => simp
    · rintro i v σ H2 H3 hi ⟨L, G, i5, i6, i7, i8, rfl, s2, gi, vis, el2⟩ ⟨e3, hv⟩
      subst e3
      obtain ⟨y, gy, ay⟩ := At_item (hat.same s2) hv
      have ho : y.isOdd = false := by
        cases e : y.isOdd with
        | false => rfl
        | true => have q := ok_odd (d := d) e; rw [get_okd ok gy] at q; cases q
      obtain ⟨p, rest, rfl, hp, hrest⟩ := At_head ay ho
      obtain ⟨fR, fdR, r1, r2, r3, r4⟩ := hR y ho
      rw [drop_get gy, lens_cons] at el2
      have hTy : SqT K H3 p _ := SqT.of hp
      refine ⟨_, rfl, p, _, 0, _, rfl, rfl, hTy, atI_nat (j := 0) rfl, dR, y.kind, .ref fR, rfl, rfl, ⟨es, nn, _, DR.at_, DR.lit, r1, rfl⟩, ?_⟩
      refine ⟨fR, spLens C y.kind n, rfl, ⟨fdR, _, r4, r2, r3⟩, ?_⟩
      refine ⟨_, rfl, _, rfl, .ref p, kn, y, gi, m + i, d, rfl, rfl, hd, get_okd ok gy, get_tame ht gy, ay, vis, by omega, fun l el3 pl H4 s4 h4 => ?_, fun en H4 s4 => q2 (by rw [el2, en]; rfl) H4 (s2.trans s4)⟩
      rw [el3] at el2
      refine ⟨pl, _, rfl, SqT.of h4, rfl, _, _, rfl, _, _, rfl, rfl, ?_⟩
      refine ⟨_, rfl, _, rfl, _, _, rfl, rfl, ?_⟩
      refine ⟨_, rfl, _, rfl, _, _, rfl, rfl, ?_⟩
      have hTy4 : SqT K H4 p _ := SqT.of (s4 _ _ hp)
      refine ⟨_, rfl, p, _, 0, _, rfl, rfl, hTy4, atI_nat (j := 0) rfl, rfl, _, rfl, ?_⟩
      have next : ∀ r, Option.map (fun q => (L + q.1, G + q.2)) (Option.map (fun b : Int × Int => (l.1 + b.1, l.2 + b.2)) r) = Option.map (fun q => (L + l.1 + q.1, G + l.2 + q.2)) r := fun r => by
        cases r with
        | none => rfl
        | some b => simp [Int.add_assoc]
      refine ite2 (fun e => ?_) (fun e => ?_)
      · cases y with
        | num nm size order low high =>
          simp only [It.At] at ay
          obtain ⟨p', e5, hp5⟩ := ay
          cases e5
          have hp4 := s4 _ _ hp5
          obtain ⟨kv2, w1, w2, w3⟩ := vis.same s4
          refine ⟨_, rfl, p, _, 4, _, rfl, rfl, SqT.of hp4, atI_nat (j := 4) rfl, _, rfl, p, _, 5, _, rfl, rfl, SqT.of hp4, atI_nat (j := 5) rfl, (by show 2 ≤ sizeLine; decide), fun t ht4 => ?_⟩
          have s5 := same_new ht4 (.tup [.int low, .int high])
          have w15 := s5 _ _ w1
          refine ⟨_, rfl, _, rfl, p, _, 1, _, rfl, rfl, SqT.of (s5 _ _ hp4), atI_nat (j := 1) rfl, kn, _, rfl, DPut.k (k := .inr nm) w15 (small1000 (by omega)), ?_⟩
          have v5 := (VisAt.same s5 ⟨kv2, w1, w2, w3⟩)
          refine ⟨_, _, _, _, _, _, rfl, same_set (s2.trans (s4.trans s5)) hkn, gi.put nm (low, high), ?_, ?_⟩
          · refine vis_put w15 w2 (fun z => ?_) upd_same (num_in el3)
            have q := w3 z
            cases e9 : gi z with
            | none => rw [e9] at q; exact q
            | some y => rw [e9] at q; obtain ⟨b, q1, q2, q3⟩ := q; exact ⟨b, q1, s5 _ _ q2, q3⟩
          · rw [el2]
            exact next _
        | odd => cases ho
        | _ => exact absurd (of_decide_eq_true e) (kne (by simp only [It.kind]; decide +kernel))
      · have ns : y.seen gi = gi := by
          cases y with
          | num => exact absurd (decide_eq_true rfl) e
          | _ => rfl
        refine ⟨_, _, _, _, _, _, rfl, s2.trans s4, gi, ?_, ?_⟩
        · obtain ⟨kv2, w1, w2, w3⟩ := vis.same s4
          exact ⟨kv2, w1, by omega, w3⟩
        · rw [el2, ns]
          exact next _
    · rintro σ H2 ⟨L, G, i5, i6, i7, i8, rfl, s2, gi, vis, el2⟩
      rw [el, drop_all] at el2
      refine ⟨_, rfl, _, rfl, (by show 2 ≤ sizeLine; decide), fun t ht4 => ?_⟩
      exact q1 (L, G) (by rw [el2]; simp [Its.lens]) t _ (s2.trans (same_new ht4 _)) upd_same
end
end Bs

set_option Elab.async false
set_option linter.all false
set_option maxRecDepth 100000
set_option maxHeartbeats 4000000
namespace Bs
open PySem L2
/-! ### lengths of repeats, eithers, switches -/
def Blks.drop : Nat → Blks → Blks
  | 0, x => x
  | _ + 1, .nil => .nil
  | i + 1, .cons _ _ r => r.drop i
theorem dropB_get : ∀ {x : Blks} {i : Nat} {v : Int} {b : Its}, x.get i = some (v, b) → x.drop i = .cons v b (x.drop (i + 1))
  | .nil, _, _, _, e => by simp [Blks.get] at e
  | .cons v b r, 0, _, _, e => by simp only [Blks.get, Option.some.injEq, Prod.mk.injEq] at e; obtain ⟨rfl, rfl⟩ := e; cases r <;> rfl
  | .cons v b r, i + 1, _, _, e => dropB_get (x := r) e
theorem dropB_all : ∀ (x : Blks), x.drop x.len = .nil
  | .nil => rfl
  | .cons v b r => dropB_all r
theorem getB_okd : ∀ {x : Blks} {i : Nat} {c : Int} {b : Its} {d : Int}, x.ok d = true → x.get i = some (c, b) → b.len ≤ 12 ∧ b.ok d = true
  | .nil, _, _, _, _, _, e => by simp [Blks.get] at e
  | .cons v b r, 0, c, y, d, h, e => by
    simp only [Blks.get, Option.some.injEq, Prod.mk.injEq] at e
    obtain ⟨rfl, rfl⟩ := e
    rw [Blks.ok, Bool.and_eq_true, Bool.and_eq_true] at h
    exact ⟨of_decide_eq_true h.1.1, h.1.2⟩
  | .cons v b r, i + 1, c, y, d, h, e => by rw [Blks.ok, Bool.and_eq_true] at h; exact getB_okd (x := r) h.2 e
theorem lensB_cons (f : Env) (v : Int) (b : Its) (r : Blks) : (Blks.cons v b r).lens f = match b.lens f with
    | some a => (r.lens f).map (a :: ·)
    | none => none := by
  rw [Blks.lens]
  generalize b.lens f = u
  generalize r.lens f = w
  cases u <;> cases w <;> rfl
theorem lensB_len : ∀ {x : Blks} {f : Env} {r : List (Int × Int)}, x.lens f = some r → r.length = x.len
  | .nil, f, r, e => by simp [Blks.lens] at e; subst e; rfl
  | .cons v b y, f, r, e => by
    rw [lensB_cons] at e
    cases h : b.lens f with
    | none => rw [h] at e; cases e
    | some a =>
      rw [h] at e
      cases h2 : y.lens f with
      | none => rw [h2] at e; cases e
      | some l => rw [h2] at e; cases e; simp [Blks.len, lensB_len h2]
/-- pairs of ints in tuples -/
abbrev PairsAt (H : Hp) : List V → List (Int × Int) → Prop := Paired fun v p => ∃ a, v = .ref a ∧ H a = some (.tup [.int p.1, .int p.2])
theorem PairsAt.kp {H H' : Hp} (s : ∀ b xs, H b = some (.tup xs) → H' b = some (.tup xs)) : ∀ {l : List V} {r : List (Int × Int)}, PairsAt H l r → PairsAt H' l r
  | _, _, .nil => .nil
  | _, _, .cons ⟨a, e, h⟩ t => .cons ⟨a, e, s _ _ h⟩ (PairsAt.kp s t)
theorem PairsAt.app {H : Hp} {v : V} {p : Int × Int} (h : ∃ a, v = .ref a ∧ H a = some (.tup [.int p.1, .int p.2])) : ∀ {l : List V} {r : List (Int × Int)}, PairsAt H l r → PairsAt H (l ++ [v]) (r ++ [p])
  | _, _, .nil => .cons h .nil
  | _, _, .cons q t => .cons q (PairsAt.app h t)
theorem PairsAt.len {H : Hp} : ∀ {l : List V} {r : List (Int × Int)}, PairsAt H l r → l.length = r.length
  | _, _, .nil => rfl
  | _, _, .cons _ t => by simp [PairsAt.len t]
theorem PairsAt.get {H : Hp} : ∀ {l : List V} {r : List (Int × Int)} {i : Nat} {v : V}, PairsAt H l r → l[i]? = some v → ∃ p a, r[i]? = some p ∧ v = .ref a ∧ H a = some (.tup [.int p.1, .int p.2])
  | _, _, _, _, .nil, e => by simp at e
  | _, _, 0, _, .cons ⟨a, e0, h⟩ _, e => by simp at e; subst e; exact ⟨_, a, by simp, e0, h⟩
  | _, _, i + 1, _, .cons _ t, e => by obtain ⟨p, a, h⟩ := PairsAt.get (i := i) t (by simpa using e); exact ⟨p, a, by simpa using h.1, h.2⟩
theorem g_nx {i : Nat} {v : V} {σ : L2.St} {H : Hp} {N : L2.St → Hp → Prop} (h : N (σ.set i (some v)) H) : gName i v σ H N := h
theorem seq_asg {te : TE} {g : TG} {u : TS} {D : Ends} {σ : L2.St} {H : Hp} (h : te σ H fun x H1 => g x σ H1 (u D)) : tSeq (tAsg te g) u D σ H := h
theorem ret_cb {r : List V → Hp → VK → Prop} {te : TE} {u : TA} {D : Ends} {σ : L2.St} {H : Hp} (h : te σ H fun x H1 => r [x] H1 fun y H2 => u σ H2 fun vs H3 => (y :: vs).length ≤ sizeLine ∧ ∀ p, H3 p = none → D.rt (.ref p) (upd H3 p (.tup (y :: vs)))) :
    tRet (tTup (tCons (tCB r (tCons te tNil)) u)) D σ H := h
theorem cons_cb {r : List V → Hp → VK → Prop} {te : TE} {σ : L2.St} {H : Hp} {Q : List V → Hp → Prop} (h : te σ H fun x H1 => r [x] H1 fun y H2 => Q [y] H2) : tCons (tCB r (tCons te tNil)) tNil σ H Q := h
theorem take_more {α : Type} {l : List α} {i : Nat} {x : α} (h : l[i]? = some x) : l.take (i + 1) = l.take i ++ [x] := by
  rw [List.take_add_one, h]; rfl
/-- [x for x, y in told], told a list of pairs in slot 2 -/
theorem proj_lc {K : PySem.W.Frag} {a b c j : Nat} {vs : List Nat} {σ : L2.St} {H : Hp} {Q : VK} {T : Addr} {acc : List V} {rs : List (Int × Int)} (pr : Int × Int → Int) (h2 : σ[j]? = some (some (.ref T))) (hT : H T = some (.lst acc)) (hp : PairsAt H acc rs) (hl : rs.length ≤ 100)
    (hw : ∀ v w, wipe (((wipe σ vs).set a (some v)).set b (some w)) vs = wipe σ vs) (hc : ∀ p : Int × Int, (((wipe σ vs).set a (some (.int p.1))).set b (some (.int p.2)))[c]? = some (some (.int (pr p))))
    (q : ∀ D H', Same H H' → H' D = some (.lst ((rs.map pr).map V.int)) → Q (.ref D) H') : tLc (iList K (tVar j)) (gTup K 2 (gCons (gName a) (gCons (gName b) gNil))) tYes (tVar c) vs σ H Q := by
  refine ⟨_, h2, T, rfl, ⟨acc, SqL.of hT⟩, fun D hD => lc_list (K := K) (a := T) (xs := acc) (fun i H' => Same H H' ∧ H' D = some (.lst (((rs.take i).map pr).map V.int))) ⟨same_new hD _, upd_same⟩ (fun i H' _ h => SqL.of (h.1 _ _ hT)) ?_ ?_⟩
  · rintro i v H2 hi ⟨s2, h2⟩
    obtain ⟨p, t, e1, rfl, ht⟩ := hp.get hi
    refine ⟨t, _, rfl, SqT.of (s2 _ _ ht), rfl, _, _, rfl, _, _, rfl, rfl, hw _ _, yes_go ⟨_, hc p, _, h2, small1000 (by rw [List.length_map, List.length_map, List.length_take]; omega), same_set s2 hD, ?_⟩⟩
    rw [upd_same, take_more e1, List.map_append, List.map_append]
    rfl
  · rintro H2 ⟨s2, h2⟩
    rw [hp.len, List.take_length] at h2
    exact q D H2 s2 h2
/-- [x for x, y in told if x == 0] -/
theorem zero_lc {K : PySem.W.Frag} {a b j : Nat} {vs : List Nat} {σ : L2.St} {H : Hp} {Q : VK} {T : Addr} {acc : List V} {rs : List (Int × Int)} (h2 : σ[j]? = some (some (.ref T))) (hT : H T = some (.lst acc)) (hp : PairsAt H acc rs) (hl : rs.length ≤ 100)
    (hw : ∀ v w, wipe (((wipe σ vs).set a (some v)).set b (some w)) vs = wipe σ vs) (hc : ∀ p : Int × Int, (((wipe σ vs).set a (some (.int p.1))).set b (some (.int p.2)))[a]? = some (some (.int p.1)))
    (q : ∀ D H', Same H H' → H' D = some (.lst (((rs.filter fun p => decide (p.1 = 0)).map (·.1)).map V.int)) → Q (.ref D) H') : tLc (iList K (tVar j)) (gTup K 2 (gCons (gName a) (gCons (gName b) gNil))) (tTest (tOp rEq (tVar a) (tC (.int 0)))) (tVar a) vs σ H Q := by
  refine ⟨_, h2, T, rfl, ⟨acc, SqL.of hT⟩, fun D hD => lc_list (K := K) (a := T) (xs := acc) (fun i H' => Same H H' ∧ H' D = some (.lst ((((rs.take i).filter fun p => decide (p.1 = 0)).map (·.1)).map V.int))) ⟨same_new hD _, upd_same⟩ (fun i H' _ h => SqL.of (h.1 _ _ hT)) ?_ ?_⟩
  · rintro i v H2 hi ⟨s2, h2⟩
    obtain ⟨p, t, e1, rfl, ht⟩ := hp.get hi
    refine ⟨t, _, rfl, SqT.of (s2 _ _ ht), rfl, _, _, rfl, _, _, rfl, rfl, hw _ _, _, hc p, rfl, _, rfl, ?_⟩
    rw [int_eq]
    by_cases z : p.1 = 0
    · rw [decide_eq_true z]
      refine iteT ⟨_, hc p, _, h2, small1000 (Nat.le_trans (by rw [List.length_map, List.length_map]; exact List.length_filter_le _ _) (by rw [List.length_take]; omega)), same_set s2 hD, ?_⟩
      rw [upd_same, take_more e1, List.filter_append, List.map_append, List.map_append]
      simp [z]
    · rw [decide_eq_false z]
      refine iteF ⟨s2, ?_⟩
      rw [h2, take_more e1, List.filter_append]
      simp [z]
  · rintro H2 ⟨s2, h2⟩
    rw [hp.len, List.take_length] at h2
    exact q D H2 s2 h2
theorem spread_of {r : List (Int × Int)} {a b : Int} (h1 : a ∈ r.map (·.1)) (h2 : ∀ y ∈ r.map (·.1), a ≤ y) (h3 : b ∈ r.map (·.2)) (h4 : ∀ y ∈ r.map (·.2), y ≤ b) : spread r = some (a, b) := by
  unfold spread
  rw [List.min?_eq_some_iff.mpr ⟨h1, h2⟩, List.max?_eq_some_iff.mpr ⟨h3, h4⟩]
section
variable {P : Program} {w : World} {K : PySem.W.Frag} {mg : Str → Option Value} {base : Heap} {f C : Addr} {fd : FuncData}
theorem scRepeat : FnScope ["item", "visible", "fewest", "most", "least", "greatest"] ["item", "visible"] (defScope sRepeat) := ⟨rfl, rfl, rfl, by decide +kernel, rfl, by decide +kernel, by decide +kernel⟩
theorem amount_in {H : Hp} {dv : Addr} {g : Env} {m : Nat} {most : Int} {amt : Key} {l : Int × Int} (hv : VisAt H dv g m) (h16 : most ≤ 1000) (e : amount g most amt = some l) : 0 ≤ l.1 ∧ l.1 ≤ most ∧ 0 ≤ l.2 ∧ l.2 ≤ most := by
  cases amt with
  | inl i =>
    simp only [amount] at e
    by_cases z : 0 ≤ i ∧ i ≤ most
    · rw [if_pos z] at e
      obtain rfl := Option.some.inj e
      exact ⟨z.1, z.2, z.1, z.2⟩
    · rw [if_neg z] at e; cases e
  | inr z =>
    simp only [amount] at e
    obtain ⟨kvs, _, _, v3⟩ := hv
    have v := v3 z
    cases hg : g z with
    | none => rw [hg] at e; cases e
    | some p =>
      rw [hg] at e v
      obtain ⟨a, _, _, p1, p2⟩ := v
      simp only at e
      by_cases c : p.2 ≤ most
      · rw [if_pos c] at e
        obtain rfl := Option.some.inj e
        exact ⟨p1, by omega, by omega, c⟩
      · rw [if_neg c] at e; cases e
theorem ok_repeat {n k : Nat} (hk : 2 ≤ k) (F : Fun K "repeat_lengths" "repeat_lengths" sRepeat f fd) (gR : Cal P w K mg base (L2.CX P w) 1 "require" ["holds", "words"] (spRequire C)) (gA : Cal P w K mg base (L2.CX P w) 2 "amount_bounds" ["amount", "visible", "most"] (spAmount C))
    (gN : GInt mg "GREATEST_COUNT" 16) (gL : Cal P w K mg base (L2.CX P w) k "list_lengths" ["items", "visible"] (spSub (spLensList C) n)) : FnOk P w K mg base (L2.CX P w) (k + 1) f fd ["item", "visible"] (spLens C "repeat" n) := by
  refine F.okX scRepeat (fun vs H Q E h => ?_) (fun cdv A outer s H vs Q E hr h => ?_)
  · obtain ⟨v, dv, x, g, m, d, rfl, _⟩ := h
    rfl
  · obtain ⟨v, dv, x, g, m, d, rfl, hk2, hd, ok, ht, hat, hv, hm, q1, q2⟩ := h
    have tk : Takes (cxOf (L2.CX P w) P w K mg base ["item", "visible", "fewest", "most", "least", "greatest"] "repeat_lengths" (defScope sRepeat) f cdv A outer s H E) (fun cls d _ H => E cls d H) := takes_of rfl rfl rfl rfl
    have hx := passes_call tk (E := E) fun _ _ _ _ h => h
    cases x with
    | rep nm amt b =>
      simp only [It.tame] at ht
      obtain ⟨_, hta, htb⟩ := ht
      simp only [It.At] at hat
      obtain ⟨p, q, xs, rfl, hp, hrow, hb⟩ := hat
      have hp : H p = some (.tup [.str "repeat", .str nm, kV amt, .ref q]) := hp
      have hq : H q = some (.tup xs) := hrow.elim id fun z => by cases z.1
      rw [It.ok, Bool.and_eq_true, Bool.and_eq_true, Bool.and_eq_true] at ok
      have d2 : d ≤ 2 := of_decide_eq_true ok.2.1
      have okb := ok.2.2.2
      have l12 : b.len ≤ 12 := of_decide_eq_true ok.2.2.1
      cases n with
      | zero => exfalso; omega
      | succ n =>
        refine ⟨_, pss_cons (ps_asg (pe_cal gA (hr.mono hk) hx (pa_cons (pe_ix ix_tup (pv 0) pe_int (fun _ _ => rfl)) (pa_cons (pv 1) (pa_cons (pe_gint gN rfl) pa_nil)))) (pg_tup rfl (pgs_cons (pg_name (i := 2) scRepeat.nd rfl (.inl rfl)) (pgs_cons (pg_name (i := 3) scRepeat.nd rfl (.inl rfl)) pgs_nil))))
          (pss_cons (ps_asg (pe_cal gL hr hx (pa_cons (pe_ix ix_tup (pv 0) pe_int (fun _ _ => rfl)) (pa_cons (pv 1) pa_nil))) (pg_tup rfl (pgs_cons (pg_name (i := 4) scRepeat.nd rfl (.inl rfl)) (pgs_cons (pg_name (i := 5) scRepeat.nd rfl (.inl rfl)) pgs_nil))))
          (pss_cons (ps_expr (pe_cal gR (hr.mono (by omega)) hx (pa_cons (pe_cmpR op_ge (pv 4) pe_int (nomark _)) (pa_cons pe_str pa_nil))))
          (pss_one (ps_ret (pe_tup (pa_cons (pe_op op_mul (pv 2) (pv 4)) (pa_cons (pe_op op_mul (pv 3) (pv 5)) pa_nil))))))), ?_⟩
        refine ⟨_, rfl, p, _, 2, _, rfl, rfl, SqT.of hp, atI_nat (j := 2) rfl, _, rfl, amt, 16, dv, g, m, rfl, .inr rfl, hv, hta, fun l e1 t H1 s1 h1 => ?_, fun e1 H1 s1 => q2 (by simp only [It.lens]; rw [e1]) H1 s1⟩
        have hi : 0 ≤ l.1 ∧ l.1 ≤ 16 ∧ 0 ≤ l.2 ∧ l.2 ≤ 16 := amount_in hv (by decide) e1
        refine ⟨t, _, rfl, SqT.of h1, rfl, _, _, rfl, _, _, rfl, rfl, ?_⟩
        refine ⟨_, rfl, p, _, 3, _, rfl, rfl, SqT.of (s1 _ _ hp), atI_nat (j := 3) rfl, _, rfl, q, dv, b, xs, g, m, d + 1, rfl, by omega, okb, l12, htb, s1 _ _ hq, hb.same s1, hv.same s1, by omega, fun l2 e2 t2 H2 s2 h2 => ?_, fun e2 H2 s2 => q2 (by simp only [It.lens]; rw [e1, e2]) H2 (s1.trans s2)⟩
        refine ⟨t2, _, rfl, SqT.of h2, rfl, _, _, rfl, _, _, rfl, rfl, ?_⟩
        refine ⟨_, rfl, _, _, rfl, rfl, _, _, rfl, fun e3 => ?_, fun e3 => q2 (by simp only [It.lens]; rw [e1, e2]; simp only; rw [if_neg (of_decide_eq_false e3)]) H2 (s1.trans s2)⟩
        have e3 : 1 ≤ l2.1 := of_decide_eq_true e3
        refine ⟨_, rfl, _, rfl, l.1, l2.1, rfl, rfl, .inl ⟨by omega, by omega⟩, _, rfl, _, rfl, l.2, l2.2, rfl, rfl, .inl ⟨by omega, by omega⟩, (by show 2 ≤ sizeLine; decide), fun t3 ht3 => ?_⟩
        exact q1 (l.1 * l2.1, l.2 * l2.2) (by simp only [It.lens]; rw [e1, e2]; simp only; rw [if_pos e3]) t3 _ (s1.trans (s2.trans (same_new ht3 _))) upd_same
    | odd => simp [It.ok] at ok
    | _ => exact absurd hk2 (by simp only [It.kind]; decide +kernel)
theorem scEither : FnScope ["item", "visible", "told", "block", "empty", "least", "_", "greatest"] ["item", "visible"] (defScope sEither) := ⟨rfl, rfl, rfl, by decide +kernel, rfl, by decide +kernel, by decide +kernel⟩
theorem ok_either {n k : Nat} (hk : 2 ≤ k) (F : Fun K "either_lengths" "either_lengths" sEither f fd) (gR : Cal P w K mg base (L2.CX P w) 1 "require" ["holds", "words"] (spRequire C)) (ml : mg "len" = none) (mmin : mg "min" = none) (mmax : mg "max" = none)
    (gL : Cal P w K mg base (L2.CX P w) k "list_lengths" ["items", "visible"] (spSub (spLensList C) n)) : FnOk P w K mg base (L2.CX P w) (k + 1) f fd ["item", "visible"] (spLens C "either" n) := by
  refine F.okX scEither (fun vs H Q E h => ?_) (fun cdv A outer s H vs Q E hr h => ?_)
  · obtain ⟨v, dv, x, g, m, d, rfl, _⟩ := h
    rfl
  · obtain ⟨v, dv, x, g, m, d, rfl, hk2, hd, ok, ht, hat, hv, hm, q1, q2⟩ := h
    have tk : Takes (cxOf (L2.CX P w) P w K mg base ["item", "visible", "told", "block", "empty", "least", "_", "greatest"] "either_lengths" (defScope sEither) f cdv A outer s H E) (fun cls d _ H => E cls d H) := takes_of rfl rfl rfl rfl
    have hx := passes_call tk (E := E) fun _ _ _ _ h => h
    cases x with
    | eit nm bs =>
      simp only [It.tame] at ht
      simp only [It.At] at hat
      obtain ⟨p, q, xs, rfl, hp, hrow, hb⟩ := hat
      have hq : H q = some (.tup xs) := hrow.elim id fun z => by cases z.1
      rw [It.ok, Bool.and_eq_true, Bool.and_eq_true, Bool.and_eq_true] at ok
      have d2 : d ≤ 2 := of_decide_eq_true ok.2.1
      have okb := ok.2.2.2
      have l24 : 2 ≤ bs.len ∧ bs.len ≤ 4 := of_decide_eq_true ok.2.2.1
      have el := hb.len
      cases n with
      | zero => exfalso; omega
      | succ n =>
        refine ⟨_, pss_cons (Rj.ps_setLcx (Ex := E) (i := 2) (own := [("block", 3)]) (g := gName 3) rfl rfl tk rfl scEither.nd rfl rfl (sw_true rfl rfl rfl (by decide +kernel)) (pi_row (pe_ix ix_tup (pv 0) pe_int (fun _ _ => rfl)))
            (blkOk_by (own := [("block", 3)]) (N := ["item", "visible", "told", "block", "empty", "least", "_", "greatest"]) (sc := defScope sEither) (by decide +kernel)) (fun _ _ _ _ _ => pg_name (i := 3) scEither.nd rfl (Or.inl rfl)) (fun _ _ _ _ _ => pe_cal gL hr Rj.fell_passes (pa_cons (pv 3) (pa_cons (pv 1) pa_nil))))
          (pss_cons (ps_setLc (i := 4) (own := [("least", 5), ("_", 6)]) (g := gTup K 2 (gCons (gName 5) (gCons (gName 6) gNil))) rfl scEither.nd rfl rfl (sw_true rfl rfl rfl (by decide +kernel)) (pi_list (pv 2))
            (blkOk_by (own := [("least", 5), ("_", 6)]) (N := ["item", "visible", "told", "block", "empty", "least", "_", "greatest"]) (sc := defScope sEither) (by decide +kernel)) (fun _ _ _ _ _ => pg_tup rfl (pgs_cons (pg_name (i := 5) scEither.nd rfl (Or.inl rfl)) (pgs_cons (pg_name (i := 6) scEither.nd rfl (Or.inl rfl)) pgs_nil)))
            (fun _ _ _ _ _ => pts_one (pt_cmpR op_eq (pv 5) pe_int (nomark _))) (fun _ _ _ _ _ => pv 5))
          (pss_cons (ps_expr (pe_cal gR (hr.mono (by omega)) hx (pa_cons (pe_cmpR op_le (pe_callB call_len (by rfl) ml boot_len (pa_cons (pv 4) pa_nil)) pe_int (nomark _)) (pa_cons pe_str pa_nil))))
          (pss_one (ps_ret (pe_tup (pa_cons (pe_callB (cr_min rfl) (by rfl) mmin (by decide +kernel) (pa_cons (pe_lc (own := [("least", 5), ("_", 6)]) (g := gTup K 2 (gCons (gName 5) (gCons (gName 6) gNil))) (tt := tYes) rfl scEither.nd (pi_list (pv 2))
            (blkOk_by (own := [("least", 5), ("_", 6)]) (N := ["item", "visible", "told", "block", "empty", "least", "_", "greatest"]) (sc := defScope sEither) (by decide +kernel)) (fun _ _ _ _ _ => pg_tup rfl (pgs_cons (pg_name (i := 5) scEither.nd rfl (Or.inl rfl)) (pgs_cons (pg_name (i := 6) scEither.nd rfl (Or.inl rfl)) pgs_nil)))
            (fun _ _ _ _ _ => pts_nil) (fun _ _ _ _ _ => pv 5)) pa_nil))
            (pa_cons (pe_callB (cr_max rfl) (by rfl) mmax (by decide +kernel) (pa_cons (pe_lc (own := [("_", 6), ("greatest", 7)]) (g := gTup K 2 (gCons (gName 6) (gCons (gName 7) gNil))) (tt := tYes) rfl scEither.nd (pi_list (pv 2))
            (blkOk_by (own := [("_", 6), ("greatest", 7)]) (N := ["item", "visible", "told", "block", "empty", "least", "_", "greatest"]) (sc := defScope sEither) (by decide +kernel)) (fun _ _ _ _ _ => pg_tup rfl (pgs_cons (pg_name (i := 6) scEither.nd rfl (Or.inl rfl)) (pgs_cons (pg_name (i := 7) scEither.nd rfl (Or.inl rfl)) pgs_nil)))
            (fun _ _ _ _ _ => pts_nil) (fun _ _ _ _ _ => pv 7)) pa_nil)) pa_nil))))))), ?_⟩
        refine ⟨_, rfl, p, _, 2, _, rfl, rfl, SqT.of hp, atI_nat (j := 2) rfl, q, rfl, ?_⟩
        refine row_go (H := H) (.inl hq) (fun J wk => ?_)
        intro D hD
        refine lc_it wk (fun i H' => Same H H' ∧ ∃ acc rs, H' D = some (.lst acc) ∧ PairsAt H' acc rs ∧ rs.length = i ∧ bs.lens g = ((bs.drop i).lens g).map (rs ++ ·))
          ⟨same_new hD _, [], [], upd_same, .nil, rfl, by show bs.lens g = (bs.lens g).map _; cases bs.lens g <;> rfl⟩ (fun _ _ _ h => h.1) ?_ ?_
        · rintro i v H2 H3 hi ⟨s2, acc, rs, hacc, hpa, hrs, el2⟩ ⟨e3, hv3⟩
          subst e3
          obtain ⟨c, b, qb, zs, gb, rfl, hrw, hbb⟩ := AtE_item (hb.same s2) hv3
          have hqb : H3 qb = some (.tup zs) := hrw.elim id fun z => by cases z.1
          rw [dropB_get gb, lensB_cons] at el2
          obtain ⟨b12, bok⟩ := getB_okd okb gb
          refine ⟨rfl, yes_go ?_⟩
          refine ⟨_, rfl, _, rfl, qb, dv, b, zs, g, m, d + 1, rfl, by omega, bok, b12, getB_tame ht.2 gb, hqb, hbb, hv.same s2, by omega, fun l e2 t2 H4 s4 h4 => ?_, fun e2 H4 s4 => q2 (by simp only [It.lens]; rw [el2, e2]; rfl) H4 (s2.trans s4)⟩
          have hacc4 := s4 _ _ hacc
          have ka : ∀ b xs, H4 b = some (.tup xs) → upd H4 D (.lst (acc ++ [.ref t2])) b = some (.tup xs) := fun b xs e => by rw [upd_ne (ne_of e hacc4 (by intro z; cases z))]; exact e
          refine ⟨acc, hacc4, small1000 (by rw [hpa.len]; omega), same_set (s2.trans s4) hD, acc ++ [.ref t2], rs ++ [l], upd_same, (PairsAt.app ⟨t2, rfl, h4⟩ (hpa.kp fun b xs h => s4 _ _ h)).kp ka, by simp [hrs], ?_⟩
          rw [el2, e2]
          cases (bs.drop (i + 1)).lens g <;> simp
        · rintro H2 ⟨s2, acc, rs, hacc, hpa, hrs, el2⟩
          rw [el, dropB_all] at el2
          have el2 : bs.lens g = some rs := by rw [el2]; simp [Blks.lens]
          have rl : rs.length ≤ 100 := by omega
          have hpos : 0 < rs.length := by rw [lensB_len el2]; omega
          refine g_nx ?_
          dsimp only
          refine seq_asg ?_
          refine zero_lc (j := 2) (a := 5) (b := 6) (vs := [5, 6]) (σ := [some (.ref p), some (.ref dv), some (.ref D), none, none, none, none, none]) rfl hacc hpa rl (fun _ _ => rfl) (fun _ => rfl) (fun D2 H3 s3 h3 => ?_)
          have ez : (((rs.filter fun p => decide (p.1 = 0)).map (·.1)).map V.int).length = (rs.filter fun p => decide (p.1 = 0)).length := by rw [List.length_map, List.length_map]
          refine ⟨_, rfl, V.ref D2, _, rfl, .inl ⟨_, SqL.of h3, rfl⟩, _, _, rfl, rfl, _, _, rfl, fun e => ?_, fun e => q2 (by simp only [It.lens]; rw [el2]; simp only; rw [if_neg (fun z => of_decide_eq_false e (by rw [ez]; omega))]) H3 (s2.trans s3)⟩
          have e : (rs.filter fun p => decide (p.1 = 0)).length ≤ 1 := by have e := of_decide_eq_true e; rw [ez] at e; omega
          have hacc3 := s3 _ _ hacc
          dsimp only
          refine ret_cb ?_
          refine proj_lc (j := 2) (a := 5) (b := 6) (c := 5) (vs := [5, 6]) (σ := [some (.ref p), some (.ref dv), some (.ref D), none, some (.ref D2), none, none, none]) (·.1) rfl hacc3 (hpa.kp fun b xs h => s3 _ _ h) rl (fun _ _ => rfl) (fun _ => rfl) (fun D3 H4 s4 h4 => ?_)
          refine ⟨D3, _, rfl, SqL.of h4, by rw [List.length_map]; exact hpos, fun mn hmn hle => ?_⟩
          have s34 := s3.trans s4
          dsimp only
          refine cons_cb ?_
          refine proj_lc (j := 2) (a := 6) (b := 7) (c := 7) (vs := [6, 7]) (σ := [some (.ref p), some (.ref dv), some (.ref D), none, some (.ref D2), none, none, none]) (·.2) rfl (s4 _ _ hacc3) (hpa.kp fun b xs h => s34 _ _ h) rl (fun _ _ => rfl) (fun _ => rfl) (fun D5 H5 s5 h5 => ?_)
          refine ⟨D5, _, rfl, SqL.of h5, by rw [List.length_map]; exact hpos, fun mx hmx hge => ?_⟩
          refine ⟨(by show 2 ≤ sizeLine; decide), fun t ht4 => ?_⟩
          exact q1 (mn, mx) (by simp only [It.lens]; rw [el2]; simp only; rw [if_pos e]; exact spread_of hmn hle hmx hge) t _ (s2.trans (s34.trans (s5.trans (same_new ht4 _)))) upd_same
    | odd => simp [It.ok] at ok
    | _ => exact absurd hk2 (by simp only [It.kind]; decide +kernel)
end
end Bs

set_option Elab.async false
set_option linter.all false
set_option maxRecDepth 100000
set_option maxHeartbeats 4000000
/-! len(set(xs)), xs a list of ints, some of them alike -/
namespace RZ
open PySem PySem.Spec PyProof.Rows L2
/-- how many different ones -/
def many (ns : List Int) : Nat := (PyProof.Rows.firstMet (fun i => ns.getD i 0) ns.length).length
theorem fm_le (f : Nat → Int) : ∀ i, (PyProof.Rows.firstMet f i).length ≤ i
  | 0 => by simp [PyProof.Rows.firstMet]
  | i + 1 => by
    have := fm_le f i
    rw [PyProof.Rows.firstMet_succ]
    unfold PyProof.Rows.step_dedup
    split
    · omega
    · rw [List.length_append, List.length_singleton]; omega
theorem fm_take {ns : List Int} : ∀ i, i ≤ ns.length → (PyProof.Rows.firstMet (fun i => ns.getD i 0) i).length = i → PyProof.Rows.firstMet (fun i => ns.getD i 0) i = ns.take i ∧ (ns.take i).Nodup
  | 0, _, _ => by simp [PyProof.Rows.firstMet]
  | i + 1, hi, h => by
    have hlt : i < ns.length := hi
    have e1 : ns.getD i 0 = ns[i] := by rw [List.getD_eq_getElem?_getD, List.getElem?_eq_getElem hlt] <;> rfl
    have et : ns.take (i + 1) = ns.take i ++ [ns[i]] := by rw [List.take_succ, List.getElem?_eq_getElem hlt]; rfl
    rw [PyProof.Rows.firstMet_succ] at h ⊢
    unfold PyProof.Rows.step_dedup at h ⊢
    by_cases c : (PyProof.Rows.firstMet (fun i => ns.getD i 0) i).any (· == ns.getD i 0) = true
    · rw [if_pos c] at h
      have := fm_le (fun i => ns.getD i 0) i
      omega
    · rw [if_neg c] at h ⊢
      rw [List.length_append, List.length_singleton] at h
      obtain ⟨h1, h2⟩ := fm_take i (Nat.le_of_lt hlt) (by omega)
      rw [h1, e1] at c ⊢
      refine ⟨et.symm, ?_⟩
      rw [et, List.nodup_append]
      refine ⟨h2, by simp, fun x hx y hy => ?_⟩
      have hy : y = ns[i] := by simpa using hy
      rintro rfl
      exact c (List.any_eq_true.mpr ⟨x, hx, by rw [hy]; exact beq_self_eq_true _⟩)
theorem many_nodup {ns : List Int} : many ns = ns.length ↔ ns.Nodup := by
  constructor
  · intro h
    have := (fm_take ns.length (Nat.le_refl _) h).2
    rwa [List.take_length] at this
  · intro h
    unfold many
    rw [firstMet_nodup h ns.length (Nat.le_refl _), List.take_length]
def tLenSetD (K : PySem.W.Frag) (ta : TE) : TE := fun σ H Q => ta σ H fun x H1 => ∃ (l : Addr) (ns : List Int), x = .ref l ∧ SqL K H1 l (ns.map V.int) ∧ ns.length ≤ 4000 ∧ Q (.int (many ns : Nat)) H1
theorem pe_lenSetD {X : Cx} {a : Expr} {ta : TE} {p p2 q pos : Pos} (hg : Gl X "len") (hm : X.mg "len" = none) (hg2 : Gl X "set") (hm2 : X.mg "set" = none) (ha : PE X a ta) (hc : X.calm = true := by rfl)
    (na : starEach [a] X.env = (false, eval a X.env) :: starEach [] X.env := by rfl) : PE X (.Call (.Name "len" p) [.Call (.Name "set" p2) [a] [] q] [] pos) (tLenSetD X.K ta) := by
  refine ⟨fun pins s σ H Q I h => ?_⟩
  refine Call_ (ld_blt I hg hm boot_len ?_)
  refine PyProof.Rows.callWith_builtin1 (PyProof.Rows.args_cons ?_ rfl) rfl rfl
  refine Call_ (ld_blt I hg2 hm2 boot_set ?_)
  refine PyProof.Rows.callWith_type1 (PyProof.Rows.args_cons (thn (ha.run pins s σ H _ I h) fun v s1 ⟨x, H1, I1, r1, q1⟩ => PyProof.Rows.args_nil ?_) na) na rfl
  obtain ⟨l, ns, rfl, hq, hl, q1⟩ := q1
  cases r1
  obtain ⟨its, r, pl, hz⟩ := I1.list hq
  have hlen : its.toArray.size = ns.length := by rw [List.size_toArray, ← r.length, List.length_map]
  refine call_set_list (I1.ok.hd hc) pl.isList (by simpa using intsAre_vals r) (by rw [hlen]; unfold scanBound; omega) fun h' tk hS hk => ?_
  refine PyProof.Rows.args_nil ?_
  rw [hlen] at hS
  obtain ⟨o, es, ep, t, ho, hex, hd, _, _, _, hf, hn⟩ := hS
  have I2 : Inv X pins σ H1 { s1 with heap := h', toks := tk } := I1.kept fun b o e => hk b o (Heap.lt_size e) e
  have := fm_le (fun i => ns.getD i 0) ns.length
  exact call_len_set ho hex hd hf (by rw [hn]; omega) ⟨.int (many ns : Nat), H1, I2.tok _, ⟨_, by rw [hn]; rfl⟩, q1⟩
end RZ

set_option Elab.async false
set_option linter.all false
set_option maxRecDepth 100000
set_option maxHeartbeats 4000000
namespace Bs
open PySem L2
theorem vals_get : ∀ {x : Blks} {i : Nat} {c : Int} {b : Its}, x.get i = some (c, b) → x.vals[i]? = some c
  | .nil, _, _, _, e => by simp [Blks.get] at e
  | .cons v b r, 0, _, _, e => by simp only [Blks.get, Option.some.injEq, Prod.mk.injEq] at e; obtain ⟨rfl, rfl⟩ := e; rfl
  | .cons v b r, i + 1, _, _, e => vals_get (x := r) e
theorem vals_len : ∀ (x : Blks), x.vals.length = x.len
  | .nil => rfl
  | .cons v b r => by simp [Blks.vals, Blks.len, vals_len r]
section
variable {P : Program} {w : World} {K : PySem.W.Frag} {mg : Str → Option Value} {base : Heap} {f C : Addr} {fd : FuncData}
abbrev nSwitch : List Str := ["item", "visible", "tag", "values", "value", "_", "told", "block", "least", "greatest"]
theorem scSwitch : FnScope nSwitch ["item", "visible"] (defScope sSwitch) := ⟨rfl, rfl, rfl, by decide +kernel, rfl, by decide +kernel, by decide +kernel⟩
theorem ok_switch {n k : Nat} (hk : 2 ≤ k) (F : Fun K "switch_lengths" "switch_lengths" sSwitch f fd) (gR : Cal P w K mg base (L2.CX P w) 1 "require" ["holds", "words"] (spRequire C)) (gI : Cal P w K mg base CX0 1 "is_integer" ["value", "low", "high"] spIsInt) (gP : GInt mg "GREATEST_PAIR" 65535)
    (ml : mg "len" = none) (mmin : mg "min" = none) (mmax : mg "max" = none) (mset : mg "set" = none) (mi : mg "isinstance" = none) (ms : mg "str" = none)
    (gL : Cal P w K mg base (L2.CX P w) k "list_lengths" ["items", "visible"] (spSub (spLensList C) n)) : FnOk P w K mg base (L2.CX P w) (k + 1) f fd ["item", "visible"] (spLens C "switch" n) := by
  refine F.okX scSwitch (fun vs H Q E h => ?_) (fun cdv A outer s H vs Q E hr h => ?_)
  · obtain ⟨v, dv, x, g, m, d, rfl, _⟩ := h
    rfl
  · obtain ⟨v, dv, x, g, m, d, rfl, hk2, hd, ok, ht, hat, hv, hm, q1, q2⟩ := h
    have tk : Takes (cxOf (L2.CX P w) P w K mg base nSwitch "switch_lengths" (defScope sSwitch) f cdv A outer s H E) (fun cls d _ H => E cls d H) := takes_of rfl rfl rfl rfl
    have hx := passes_call tk (E := E) fun _ _ _ _ h => h
    have hu := hu_of hr
    have hr1 : Room 1 _ := hr.mono (by omega)
    cases x with
    | swi nm tag bs =>
      simp only [It.tame] at ht
      simp only [It.At] at hat
      obtain ⟨p, q, xs, rfl, hp, hrow, hb⟩ := hat
      have hq : H q = some (.tup xs) := hrow.elim id fun z => by cases z.1
      rw [It.ok, Bool.and_eq_true, Bool.and_eq_true, Bool.and_eq_true] at ok
      have d2 : d ≤ 2 := of_decide_eq_true ok.2.1
      have okb := ok.2.2.2
      have l18 : 1 ≤ bs.len ∧ bs.len ≤ 8 := of_decide_eq_true ok.2.2.1
      have el := hb.len
      cases n with
      | zero => exfalso; omega
      | succ n =>
        refine ⟨_, pss_cons (ps_set (i := 2) scSwitch.nd rfl (.inl rfl) (pe_ix ix_tup (pv 0) pe_int (fun _ _ => rfl)))
          (pss_cons (ps_expr (pe_cal gR hr1 hx (pa_cons (pe_and (pe_callB call_isi (by rfl) mi (by decide +kernel) (pa_cons (pv 2) (pa_cons (pe_bltn (v := .ty "str") (by rfl) ms (by decide +kernel) rfl) pa_nil))) (pe_one (pe_cmp (pc_din hu (pv 2) (pv 1)) (by rfl)))) (pa_cons pe_str pa_nil))))
          (pss_cons (ps_setLc (i := 3) (own := [("value", 4), ("_", 5)]) (g := gTup K 2 (gCons (gName 4) (gCons (gName 5) gNil))) (tt := tYes) rfl scSwitch.nd rfl rfl (sw_true rfl rfl rfl (by decide +kernel)) (pi_tup (pe_ix ix_tup (pv 0) pe_int (fun _ _ => rfl)))
            (blkOk_by (own := [("value", 4), ("_", 5)]) (N := nSwitch) (sc := defScope sSwitch) (by decide +kernel)) (fun _ _ _ _ _ => pg_tup rfl (pgs_cons (pg_name (i := 4) scSwitch.nd rfl (Or.inl rfl)) (pgs_cons (pg_name (i := 5) scSwitch.nd rfl (Or.inl rfl)) pgs_nil)))
            (fun _ _ _ _ _ => pts_nil) (fun _ _ _ _ _ => pv 4))
          (pss_cons (ps_for (passes_of rfl) rfl (pi_list (pv 3)) (pg_name (i := 4) scSwitch.nd rfl (.inl rfl)) (pss_one (ps_expr (pe_cal gR hr1 hx (pa_cons (pe_cal gI hr1 pass0 (pa_cons (pv 4) (pa_cons pe_int (pa_cons (pe_gint gP rfl) pa_nil)))) (pa_cons (pe_joined (.cons pe_str (.cons (pe_fmt (pe_gint gP rfl)) .nil))) pa_nil))))))
          (pss_cons (ps_expr (pe_cal gR hr1 hx (pa_cons (pe_cmpR op_eq (RZ.pe_lenSetD (by rfl) ml (by rfl) mset (pv 3)) (pe_callB call_len (by rfl) ml boot_len (pa_cons (pv 3) pa_nil)) (nomark _)) (pa_cons pe_str pa_nil))))
          (pss_cons (Rj.ps_setLcx (Ex := E) (i := 6) (own := [("_", 5), ("block", 7)]) (g := gTup K 2 (gCons (gName 5) (gCons (gName 7) gNil))) rfl rfl tk rfl scSwitch.nd rfl rfl (sw_true rfl rfl rfl (by decide +kernel)) (pi_tup (pe_ix ix_tup (pv 0) pe_int (fun _ _ => rfl)))
            (blkOk_by (own := [("_", 5), ("block", 7)]) (N := nSwitch) (sc := defScope sSwitch) (by decide +kernel)) (fun _ _ _ _ _ => pg_tup rfl (pgs_cons (pg_name (i := 5) scSwitch.nd rfl (Or.inl rfl)) (pgs_cons (pg_name (i := 7) scSwitch.nd rfl (Or.inl rfl)) pgs_nil))) (fun _ _ _ _ _ => pe_cal gL hr Rj.fell_passes (pa_cons (pv 7) (pa_cons (pv 1) pa_nil))))
          (pss_one (ps_ret (pe_tup (pa_cons (pe_callB (cr_min rfl) (by rfl) mmin (by decide +kernel) (pa_cons (pe_lc (own := [("least", 8), ("_", 5)]) (g := gTup K 2 (gCons (gName 8) (gCons (gName 5) gNil))) (tt := tYes) rfl scSwitch.nd (pi_list (pv 6))
            (blkOk_by (own := [("least", 8), ("_", 5)]) (N := nSwitch) (sc := defScope sSwitch) (by decide +kernel)) (fun _ _ _ _ _ => pg_tup rfl (pgs_cons (pg_name (i := 8) scSwitch.nd rfl (Or.inl rfl)) (pgs_cons (pg_name (i := 5) scSwitch.nd rfl (Or.inl rfl)) pgs_nil)))
            (fun _ _ _ _ _ => pts_nil) (fun _ _ _ _ _ => pv 8)) pa_nil))
            (pa_cons (pe_callB (cr_max rfl) (by rfl) mmax (by decide +kernel) (pa_cons (pe_lc (own := [("_", 5), ("greatest", 9)]) (g := gTup K 2 (gCons (gName 5) (gCons (gName 9) gNil))) (tt := tYes) rfl scSwitch.nd (pi_list (pv 6))
            (blkOk_by (own := [("_", 5), ("greatest", 9)]) (N := nSwitch) (sc := defScope sSwitch) (by decide +kernel)) (fun _ _ _ _ _ => pg_tup rfl (pgs_cons (pg_name (i := 5) scSwitch.nd rfl (Or.inl rfl)) (pgs_cons (pg_name (i := 9) scSwitch.nd rfl (Or.inl rfl)) pgs_nil)))
            (fun _ _ _ _ _ => pts_nil) (fun _ _ _ _ _ => pv 9)) pa_nil)) pa_nil)))))))))), ?_⟩
        have no : ¬ ((g tag).isSome = true ∧ (∀ v ∈ bs.vals, 0 ≤ v ∧ v ≤ 65535) ∧ bs.vals.Nodup) → ∀ H', Same H H' → E (.ref C) none H' := fun e => q2 (by simp only [It.lens]; rw [if_neg e])
        obtain ⟨kvs, v1, v2, v3⟩ := id hv
        have et : (valV kvs (.inr tag)).isSome = (g tag).isSome := by
          have z := v3 tag
          revert z
          cases g tag with
          | none => intro z; rw [show valV kvs (.inr tag) = none from z]; rfl
          | some y => rintro ⟨b, z1, _⟩; rw [z1]; rfl
        refine ⟨_, rfl, p, _, 2, _, rfl, rfl, SqT.of hp, atI_nat (j := 2) rfl, ?_⟩
        refine ⟨_, rfl, _, _, _, _, true, rfl, .ty _, .base (.str _), kit_ty (by decide +kernel), _, rfl, iteT ?_⟩
        refine ⟨_, rfl, _, rfl, dv, _, rfl, DGet.k (k := .inr tag) v1, _, _, rfl, fun e => ?_, fun e => no (fun z => by rw [et, z.1] at e; cases e) _ (Same.refl H)⟩
        rw [et] at e
        dsimp only
        refine seq_asg ?_
        refine ⟨_, rfl, p, _, 3, _, rfl, rfl, SqT.of hp, atI_nat (j := 3) rfl, q, rfl, ⟨_, SqT.of hq⟩, fun D hD => lc_tup (K := K) (a := q) (xs := xs) (fun i H' => Same H H' ∧ H' D = some (.lst ((bs.vals.take i).map V.int))) ⟨same_new hD _, upd_same⟩ (fun i H' _ z => SqT.of (z.1 _ _ hq)) ?_ ?_⟩
        · rintro i v H2 hi ⟨s2, h2⟩
          obtain ⟨c, b, pc, qb, zs, gb, rfl, hpc, _⟩ := AtS_item (hb.same s2) hi
          refine ⟨pc, _, rfl, SqT.of hpc, rfl, _, _, rfl, _, _, rfl, rfl, rfl, yes_go ⟨_, rfl, _, h2, small1000 (by rw [List.length_map, List.length_take, vals_len]; omega), same_set s2 hD, ?_⟩⟩
          rw [upd_same, take_more (vals_get gb), List.map_append]
          rfl
        rintro H2 ⟨s2, h2⟩
        have evl : xs.length = bs.vals.length := by rw [vals_len, el]
        rw [evl, List.take_length] at h2
        -- each value
        refine ⟨_, rfl, D, rfl, ⟨_, SqL.of h2⟩, for_list (K := K) (a := D) (xs := bs.vals.map V.int) (fun i σ H' => ∃ s4, σ = [some (.ref p), some (.ref dv), some (.str tag), some (.ref D), s4, none, none, none, none, none] ∧ H' = H2 ∧ ∀ v ∈ bs.vals.take i, 0 ≤ v ∧ v ≤ 65535)
          ⟨none, rfl, rfl, fun _ z => by simp at z⟩ (fun i σ H' _ z => by obtain ⟨_, _, z, _⟩ := z; rw [z]; exact SqL.of h2) ?_ ?_⟩
        · rintro i y σ H3 hi ⟨s4, rfl, rfl, hall⟩
          obtain ⟨z, hz, rfl⟩ : ∃ z, bs.vals[i]? = some z ∧ y = V.int z := by
            rw [List.getElem?_map] at hi
            cases e9 : bs.vals[i]? with
            | none => rw [e9] at hi; cases hi
            | some z => rw [e9] at hi; exact ⟨z, rfl, (Option.some.inj hi).symm⟩
          refine ⟨_, rfl, z, 0, 65535, rfl, ?_⟩
          refine ⟨_, rfl, by decide +kernel, .inr ⟨65535, rfl, by decide +kernel, _, rfl, by decide +kernel, _, _, rfl, fun e2 => ?_, fun e2 => no (fun w => of_decide_eq_false e2 (w.2.1 z (List.mem_of_getElem? hz))) _ s2⟩⟩
          refine ⟨_, rfl, rfl, fun v hv => ?_⟩
          rw [take_more hz, List.mem_append] at hv
          rcases hv with hv | hv
          · exact hall v hv
          · have : v = z := by simpa using hv
            rw [this]
            exact of_decide_eq_true e2
        rintro σ H3 ⟨s4, rfl, rfl, hall⟩
        rw [List.length_map, List.take_length] at hall
        -- all different
        refine ⟨_, rfl, D, bs.vals, rfl, SqL.of h2, by rw [vals_len]; omega, _, rfl, V.ref D, _, rfl, .inl ⟨_, SqL.of h2, rfl⟩, rfl, _, _, rfl, fun e9 => ?_, fun e2 => no (fun w => of_decide_eq_false e2 (by rw [List.length_map, RZ.many_nodup.mpr w.2.2])) _ s2⟩
        have hnd9 : bs.vals.Nodup := RZ.many_nodup.mp (by have e := V.int.inj (of_decide_eq_true e9); rw [List.length_map] at e; omega)
        dsimp only
        refine seq_asg ?_
        refine ⟨_, rfl, p, _, 3, _, rfl, rfl, SqT.of (s2 _ _ hp), atI_nat (j := 3) rfl, q, rfl, ⟨_, SqT.of (s2 _ _ hq)⟩, fun D6 hD6 => lc_tup (K := K) (a := q) (xs := xs) (fun i H' => Same H3 H' ∧ ∃ acc rs, H' D6 = some (.lst acc) ∧ PairsAt H' acc rs ∧ rs.length = i ∧ bs.lens g = ((bs.drop i).lens g).map (rs ++ ·))
          ⟨same_new hD6 _, [], [], upd_same, .nil, rfl, by show bs.lens g = (bs.lens g).map _; cases bs.lens g <;> rfl⟩ (fun i H' _ z => SqT.of ((s2.trans z.1) _ _ hq)) ?_ ?_⟩
        · rintro i v H4 hi ⟨s4', acc, rs, hacc, hpa, hrs, el2⟩
          have s24 := s2.trans s4'
          obtain ⟨c, b, pc, qb, zs, gb, rfl, hpc, hrw, hbb⟩ := AtS_item (hb.same s24) hi
          have hqb : H4 qb = some (.tup zs) := hrw.elim id fun z => by cases z.1
          rw [dropB_get gb, lensB_cons] at el2
          obtain ⟨b12, bok⟩ := getB_okd okb gb
          have hlt := getB_lt gb
          refine ⟨pc, _, rfl, SqT.of hpc, rfl, _, _, rfl, _, _, rfl, rfl, rfl, yes_go ?_⟩
          refine ⟨_, rfl, _, rfl, qb, dv, b, zs, g, m, d + 1, rfl, by omega, bok, b12, getB_tame ht.2.2 gb, hqb, hbb, hv.same s24, by omega, fun l e2 t2 H5 s5 h5 => ?_, fun e2 H5 s5 => q2 (by simp only [It.lens]; rw [el2, e2]; simp) H5 (s24.trans s5)⟩
          have hacc4 := s5 _ _ hacc
          have ka : ∀ b xs, H5 b = some (.tup xs) → upd H5 D6 (.lst (acc ++ [.ref t2])) b = some (.tup xs) := fun b xs e => by rw [upd_ne (ne_of e hacc4 (by intro z; cases z))]; exact e
          refine ⟨acc, hacc4, small1000 (by rw [hpa.len]; omega), same_set (s4'.trans s5) hD6, acc ++ [.ref t2], rs ++ [l], upd_same, (PairsAt.app ⟨t2, rfl, h5⟩ (hpa.kp fun b xs h => s5 _ _ h)).kp ka, by simp [hrs], ?_⟩
          rw [el2, e2]
          cases (bs.drop (i + 1)).lens g <;> simp
        rintro H4 ⟨s4', acc, rs, hacc, hpa, hrs, el2⟩
        rw [el, dropB_all] at el2
        have el2 : bs.lens g = some rs := by rw [el2]; simp [Blks.lens]
        have rl : rs.length ≤ 100 := by omega
        have hpos : 0 < rs.length := by rw [lensB_len el2]; omega
        refine g_nx ?_
        refine ret_cb ?_
        refine proj_lc (j := 6) (a := 8) (b := 5) (c := 8) (vs := [8, 5]) (σ := [some (.ref p), some (.ref dv), some (.str tag), some (.ref D), s4, none, some (.ref D6), none, none, none]) (·.1) rfl hacc hpa rl (fun _ _ => rfl) (fun _ => rfl) (fun D3 H5 s5 h5 => ?_)
        refine ⟨D3, _, rfl, SqL.of h5, by rw [List.length_map]; exact hpos, fun mn hmn hle => ?_⟩
        dsimp only
        refine cons_cb ?_
        refine proj_lc (j := 6) (a := 5) (b := 9) (c := 9) (vs := [5, 9]) (σ := [some (.ref p), some (.ref dv), some (.str tag), some (.ref D), s4, none, some (.ref D6), none, none, none]) (·.2) rfl (s5 _ _ hacc) (hpa.kp fun b xs h => s5 _ _ h) rl (fun _ _ => rfl) (fun _ => rfl) (fun D7 H6 s6 h6 => ?_)
        refine ⟨D7, _, rfl, SqL.of h6, by rw [List.length_map]; exact hpos, fun mx hmx hge => ?_⟩
        refine ⟨(by show 2 ≤ sizeLine; decide), fun t ht4 => ?_⟩
        exact q1 (mn, mx) (by simp only [It.lens]; rw [if_pos ⟨e, hall, hnd9⟩, el2]; exact spread_of hmn hle hmx hge) t _ (s2.trans (s4'.trans (s5.trans (s6.trans (same_new ht4 _))))) upd_same
    | odd => simp [It.ok] at ok
    | _ => exact absurd hk2 (by simp only [It.kind]; decide +kernel)
end
end Bs

set_option Elab.async false
set_option linter.all false
set_option maxRecDepth 100000
set_option maxHeartbeats 4000000
namespace Bs
open PySem L2
/-! ### the items in their order -/
def Blks.list : Blks → List Its
  | .nil => []
  | .cons _ b r => b :: r.list
def It.blocks : It → List Its
  | .rep _ _ b => [b]
  | .eit _ bs => bs.list
  | .swi _ _ bs => bs.list
  | _ => []
theorem walkB_list : ∀ (bs : Blks) (d : Int), bs.walk d = bs.list.flatMap (·.walk d)
  | .nil, d => by simp [Blks.walk, Blks.list]
  | .cons v b r, d => by simp [Blks.walk, Blks.list, walkB_list r]
theorem walk_it (x : It) (d : Int) : x.walk d = (d, x) :: x.blocks.flatMap (·.walk (d + 1)) := by
  cases x <;> simp [It.walk, It.blocks, walkB_list]
theorem walk_take : ∀ {x : Its} {i : Nat} {y : It} {d : Int}, x.get i = some y → (x.take (i + 1)).walk d = (x.take i).walk d ++ y.walk d
  | .nil, _, _, _, e => by simp [Its.get] at e
  | .cons x r, 0, y, d, e => by simp [Its.get] at e; subst e; simp [Its.take, Its.walk]
  | .cons x r, i + 1, y, d, e => by
    show (Its.cons x (r.take (i + 1))).walk d = (Its.cons x (r.take i)).walk d ++ y.walk d
    simp only [Its.walk, walk_take (x := r) e, List.append_assoc]
theorem walk_len {x : Its} {i : Nat} {y : It} {d : Int} (h : x.get i = some y) : ((x.take i).walk d).length + (y.walk d).length ≤ (x.walk d).length := by
  have : ∀ {x : Its} {i : Nat}, ((x.take i).walk d).length ≤ (x.walk d).length := by
    intro x
    induction x using Its.rec (motive_1 := fun _ => True) (motive_3 := fun _ => True) <;> (try trivial)
    · intro i; cases i <;> simp [Its.take, Its.walk]
    · rename_i x r _ ih
      intro i
      cases i with
      | zero => simp [Its.take, Its.walk]
      | succ i => simp only [Its.take, Its.walk, List.length_append]; have := ih (i := i); omega
  have h2 := this (x := x) (i := i + 1)
  rw [walk_take h, List.length_append] at h2
  exact h2
/-- rows of items, frozen -/
abbrev RowsAt (H : Hp) : List V → List Its → Prop := Paired fun v b => ∃ q xs, v = .ref q ∧ H q = some (.tup xs) ∧ b.At true H xs
theorem RowsAt.kp {H H' : Hp} (s : Kp true H H') : ∀ {l : List V} {r : List Its}, RowsAt H l r → RowsAt H' l r
  | _, _, .nil => .nil
  | _, _, .cons ⟨q, xs, e, h, g⟩ t => .cons ⟨q, xs, e, s.t _ _ h, g.kp s⟩ (RowsAt.kp s t)
theorem RowsAt.len {H : Hp} : ∀ {l : List V} {r : List Its}, RowsAt H l r → l.length = r.length
  | _, _, .nil => rfl
  | _, _, .cons _ t => by simp [RowsAt.len t]
theorem RowsAt.get {H : Hp} : ∀ {l : List V} {r : List Its} {i : Nat} {v : V}, RowsAt H l r → l[i]? = some v → ∃ b q xs, r[i]? = some b ∧ v = .ref q ∧ H q = some (.tup xs) ∧ b.At true H xs
  | _, _, _, _, .nil, e => by simp at e
  | _, _, 0, _, .cons ⟨q, xs, e0, h, g⟩ _, e => by simp at e; subst e; exact ⟨_, q, xs, by simp, e0, h, g⟩
  | _, _, i + 1, _, .cons _ t, e => by obtain ⟨b, q, xs, h⟩ := RowsAt.get (i := i) t (by simpa using e); exact ⟨b, q, xs, by simpa using h.1, h.2⟩
theorem rows_E {H : Hp} : ∀ {bs : Blks} {l : List V}, bs.AtE true H l → RowsAt H l bs.list
  | .nil, _, h => by simp only [Blks.AtE] at h; subst h; exact .nil
  | .cons v b r, _, h => by
    simp only [Blks.AtE] at h
    obtain ⟨q, xs, l', rfl, h1, h2, h3⟩ := h
    exact .cons ⟨q, xs, rfl, (h1.elim id fun z => by cases z.1), h2⟩ (rows_E h3)
theorem listB_get : ∀ {x : Blks} {i : Nat} {c : Int} {b : Its}, x.get i = some (c, b) → x.list[i]? = some b
  | .nil, _, _, _, e => by simp [Blks.get] at e
  | .cons v b r, 0, _, _, e => by simp only [Blks.get, Option.some.injEq, Prod.mk.injEq] at e; obtain ⟨rfl, rfl⟩ := e; rfl
  | .cons v b r, i + 1, _, _, e => listB_get (x := r) e
theorem listB_len : ∀ (x : Blks), x.list.length = x.len
  | .nil => rfl
  | .cons v b r => by simp [Blks.list, Blks.len, listB_len r]
theorem RowsAt.app {H : Hp} {v : V} {p : Its} (h : ∃ q xs, v = .ref q ∧ H q = some (.tup xs) ∧ p.At true H xs) : ∀ {l : List V} {r : List Its}, RowsAt H l r → RowsAt H (l ++ [v]) (r ++ [p])
  | _, _, .nil => .cons h .nil
  | _, _, .cons q t => .cons q (RowsAt.app h t)
def spBlocks : Sp := fun vs H Q _ => ∃ (v : V) (x : It), vs = [v] ∧ x.isOdd = false ∧ x.At true H v ∧ x.blocks.length ≤ 100 ∧ ∀ r zs H', Same H H' → H' r = some (.tup zs) → RowsAt H' zs x.blocks → Q (.ref r) H'
section
variable {P : Program} {w : World} {K : PySem.W.Frag} {mg : Str → Option Value} {base : Heap} {f C : Addr} {fd : FuncData}
theorem scBlocksOf : FnScope ["item", "_", "block"] ["item"] (defScope sBlocksOf) := ⟨rfl, rfl, rfl, by decide +kernel, rfl, by decide +kernel, by decide +kernel⟩
theorem ok_blocks (F : Fun K "blocks_of" "blocks_of" sBlocksOf f fd) (mt : mg "tuple" = none) : FnOk P w K mg base CX0 1 f fd ["item"] spBlocks := by
  refine F.ok scBlocksOf (fun vs H Q E h => ?_) (fun cdv A outer s H vs Q E hr h => ?_)
  · obtain ⟨v, x, rfl, _⟩ := h
    rfl
  · obtain ⟨v, x, rfl, ho, hat, hb, q⟩ := h
    obtain ⟨p, rest, rfl, hp, hlen⟩ := At_head hat ho
    have hT : SqT K H p _ := SqT.of hp
    refine ⟨_, pss_cons (ps_if (pt_cmpR op_eq (pe_ix ix_tup (pv 0) pe_int (fun _ _ => rfl)) pe_str (nomark _)) (pss_one (ps_ret (pe_tup (pa_cons (pe_ix ix_tup (pv 0) pe_int (fun _ _ => rfl)) pa_nil)))) pss_nil)
      (pss_cons (ps_if (pt_cmpR op_eq (pe_ix ix_tup (pv 0) pe_int (fun _ _ => rfl)) pe_str (nomark _)) (pss_one (ps_ret (pe_ix ix_tup (pv 0) pe_int (fun _ _ => rfl)))) pss_nil)
      (pss_cons (ps_if (pt_cmpR op_eq (pe_ix ix_tup (pv 0) pe_int (fun _ _ => rfl)) pe_str (nomark _)) (pss_one (ps_ret (pe_tupleOf rfl mt (pe_lc (own := [("_", 1), ("block", 2)]) (g := gTup K 2 (gCons (gName 1) (gCons (gName 2) gNil))) (tt := tYes) rfl scBlocksOf.nd (pi_tup (pe_ix ix_tup (pv 0) pe_int (fun _ _ => rfl)))
            (blkOk_by (own := [("_", 1), ("block", 2)]) (N := ["item", "_", "block"]) (sc := defScope sBlocksOf) (by decide +kernel)) (fun _ _ _ _ _ => pg_tup rfl (pgs_cons (pg_name (i := 1) scBlocksOf.nd rfl (Or.inl rfl)) (pgs_cons (pg_name (i := 2) scBlocksOf.nd rfl (Or.inl rfl)) pgs_nil)))
            (fun _ _ _ _ _ => pts_nil) (fun _ _ _ _ _ => pv 2))))) pss_nil)
      (pss_one (ps_ret (pe_tup pa_nil))))), ?_⟩
    refine ⟨_, rfl, p, _, 0, _, rfl, rfl, hT, atI_nat (j := 0) rfl, rfl, _, rfl, ?_⟩
    cases x with
    | odd => cases ho
    | rep n amt b =>
      simp only [It.At] at hat
      obtain ⟨p', q2, xs, e1, h1, hrow, hbb⟩ := hat
      cases e1
      refine ite2 (fun _ => ?_) (fun z => (z (decide_eq_true rfl)).elim)
      refine ⟨_, rfl, p, _, 3, _, rfl, rfl, SqT.of h1, atI_nat (j := 3) rfl, (by show 1 ≤ sizeLine; decide), fun t ht4 => ?_⟩
      have s1 := same_new ht4 (.tup [.ref q2])
      exact q t _ _ s1 upd_same (.cons ⟨q2, xs, rfl, s1 _ _ (hrow.elim id fun z => by cases z.1), hbb.same s1⟩ .nil)
    | eit n bs =>
      simp only [It.At] at hat
      obtain ⟨p', q2, xs, e1, h1, hrow, hbb⟩ := hat
      cases e1
      refine ite2 (fun z => absurd (of_decide_eq_true z) (kne (by simp only [It.kind]; decide +kernel))) (fun _ => ?_)
      refine ⟨_, rfl, p, _, 0, _, rfl, rfl, hT, atI_nat (j := 0) rfl, rfl, _, rfl, ite2 (fun _ => ?_) (fun z => (z (decide_eq_true rfl)).elim)⟩
      refine ⟨_, rfl, p, _, 2, _, rfl, rfl, SqT.of h1, atI_nat (j := 2) rfl, ?_⟩
      exact q q2 xs H (Same.refl H) (hrow.elim id fun z => by cases z.1) (rows_E hbb)
    | swi n tag bs =>
      simp only [It.At] at hat
      obtain ⟨p', q2, xs, e1, h1, hrow, hbb⟩ := hat
      cases e1
      have hq : H q2 = some (.tup xs) := hrow.elim id fun z => by cases z.1
      refine ite2 (fun z => absurd (of_decide_eq_true z) (kne (by simp only [It.kind]; decide +kernel))) (fun _ => ?_)
      refine ⟨_, rfl, p, _, 0, _, rfl, rfl, hT, atI_nat (j := 0) rfl, rfl, _, rfl, ite2 (fun z => absurd (of_decide_eq_true z) (kne (by simp only [It.kind]; decide +kernel))) (fun _ => ?_)⟩
      refine ⟨_, rfl, p, _, 0, _, rfl, rfl, hT, atI_nat (j := 0) rfl, rfl, _, rfl, ite2 (fun _ => ?_) (fun z => (z (decide_eq_true rfl)).elim)⟩
      have el := hbb.len
      have hb : bs.list.length ≤ 100 := hb
      refine ⟨_, rfl, p, _, 3, _, rfl, rfl, SqT.of h1, atI_nat (j := 3) rfl, q2, rfl, ⟨_, SqT.of hq⟩, fun D hD => lc_tup (K := K) (a := q2) (xs := xs) (fun i H' => Same H H' ∧ ∃ acc, H' D = some (.lst acc) ∧ RowsAt H' acc (bs.list.take i)) ⟨same_new hD _, [], upd_same, .nil⟩ (fun i H' _ z => SqT.of (z.1 _ _ hq)) ?_ ?_⟩
      · rintro i v H2 hi ⟨s2, acc, hacc, hra⟩
        obtain ⟨c, b, pc, qb, zs, gb, rfl, hpc, hrw, hb2⟩ := AtS_item (hbb.same s2) hi
        refine ⟨pc, _, rfl, SqT.of hpc, rfl, _, _, rfl, _, _, rfl, rfl, rfl, yes_go ⟨_, rfl, acc, hacc, small1000 (by rw [hra.len, List.length_take]; omega), same_set s2 hD, acc ++ [.ref qb], upd_same, ?_⟩⟩
        rw [take_more (listB_get gb)]
        exact (RowsAt.app ⟨qb, zs, rfl, (hrw.elim id fun z => by cases z.1), hb2⟩ hra).kp (.wr hacc)
      · rintro H2 ⟨s2, acc, hacc, hra⟩
        rw [el, ← listB_len, List.take_length] at hra
        refine .inl ⟨D, acc, rfl, SqL.of hacc, fun r hr2 => ?_⟩
        have s3 := same_new hr2 (.tup acc)
        exact q r acc _ (s2.trans s3) upd_same (hra.kp (.of s3))
    | _ =>
      refine ite2 (fun z => absurd (of_decide_eq_true z) (kne (by simp only [It.kind]; decide +kernel))) (fun _ => ?_)
      refine ⟨_, rfl, p, _, 0, _, rfl, rfl, hT, atI_nat (j := 0) rfl, rfl, _, rfl, ite2 (fun z => absurd (of_decide_eq_true z) (kne (by simp only [It.kind]; decide +kernel))) (fun _ => ?_)⟩
      refine ⟨_, rfl, p, _, 0, _, rfl, rfl, hT, atI_nat (j := 0) rfl, rfl, _, rfl, ite2 (fun z => absurd (of_decide_eq_true z) (kne (by simp only [It.kind]; decide +kernel))) (fun _ => ?_)⟩
      refine ⟨(by show 0 ≤ sizeLine; decide), fun r hr2 => ?_⟩
      exact q r [] _ (same_new hr2 _) upd_same .nil
/-- the rows of listed -/
abbrev WalkAt (H : Hp) : List V → List (Int × It) → Prop := Paired fun v p => ∃ t u, v = .ref t ∧ H t = some (.tup [.int p.1, u]) ∧ p.2.At true H u
theorem WalkAt.kp {H H' : Hp} (s : Kp true H H') : ∀ {l : List V} {r : List (Int × It)}, WalkAt H l r → WalkAt H' l r
  | _, _, .nil => .nil
  | _, _, .cons ⟨t, u, e, h, g⟩ r => .cons ⟨t, u, e, s.t _ _ h, g.kp s⟩ (WalkAt.kp s r)
theorem WalkAt.len {H : Hp} : ∀ {l : List V} {r : List (Int × It)}, WalkAt H l r → l.length = r.length
  | _, _, .nil => rfl
  | _, _, .cons _ t => by simp [WalkAt.len t]
theorem WalkAt.cat {H : Hp} : ∀ {l m : List V} {r q : List (Int × It)}, WalkAt H l r → WalkAt H m q → WalkAt H (l ++ m) (r ++ q)
  | _, _, _, _, .nil, h => h
  | _, _, _, _, .cons a t, h => .cons a (WalkAt.cat t h)
def spListed (n : Nat) : Sp := fun vs H Q _ => ∃ (a : Addr) (x : Its) (xs : List V) (d : Int), vs = [.ref a, .int d] ∧ d + n = 3 ∧ x.ok d = true ∧ H a = some (.tup xs) ∧ x.At true H xs ∧ (x.walk d).length ≤ 1000 ∧
  ∀ r rows H', Same H H' → H' r = some (.lst rows) → WalkAt H' rows (x.walk d) → Q (.ref r) H'
theorem bl_ok : ∀ {bs : Blks} {d : Int}, bs.ok d = true → ∀ b ∈ bs.list, b.ok d = true
  | .nil, _, _, _, h => by simp [Blks.list] at h
  | .cons v b r, d, h, c, hc => by
    rw [Blks.ok, Bool.and_eq_true, Bool.and_eq_true] at h
    rcases List.mem_cons.mp hc with e | hc
    · rw [e]; exact h.1.2
    · exact bl_ok h.2 c hc
theorem blocks_ok {x : It} {d : Int} (h : x.ok d = true) : x.blocks.length ≤ 8 ∧ ∀ b ∈ x.blocks, d ≤ 2 ∧ b.ok (d + 1) = true := by
  cases x with
  | rep n a b =>
    rw [It.ok, Bool.and_eq_true, Bool.and_eq_true, Bool.and_eq_true] at h
    refine ⟨by simp [It.blocks], fun c hc => ?_⟩
    have : c = b := by simpa [It.blocks] using hc
    rw [this]
    exact ⟨of_decide_eq_true h.2.1, h.2.2.2⟩
  | eit n bs =>
    rw [It.ok, Bool.and_eq_true, Bool.and_eq_true, Bool.and_eq_true] at h
    have := of_decide_eq_true h.2.2.1
    exact ⟨by show bs.list.length ≤ 8; rw [listB_len]; omega, fun c hc => ⟨of_decide_eq_true h.2.1, bl_ok h.2.2.2 c hc⟩⟩
  | swi n t bs =>
    rw [It.ok, Bool.and_eq_true, Bool.and_eq_true, Bool.and_eq_true] at h
    have := of_decide_eq_true h.2.2.1
    exact ⟨by show bs.list.length ≤ 8; rw [listB_len]; omega, fun c hc => ⟨of_decide_eq_true h.2.1, bl_ok h.2.2.2 c hc⟩⟩
  | _ => exact ⟨by simp [It.blocks], fun c hc => by simp [It.blocks] at hc⟩
theorem scListed : FnScope ["items", "depth", "found", "item", "block"] ["items", "depth"] (defScope sListed) := ⟨rfl, rfl, rfl, by decide +kernel, rfl, by decide +kernel, by decide +kernel⟩
theorem flat_len {l : List Its} {j : Nat} {b : Its} {d : Int} (h : l[j]? = some b) : ((l.take j).flatMap (·.walk d)).length + (b.walk d).length ≤ (l.flatMap (·.walk d)).length := by
  have e : l = l.take j ++ b :: l.drop (j + 1) := by
    have hj : j < l.length := (List.getElem?_eq_some_iff.mp h).1
    have hb : l[j] = b := (List.getElem?_eq_some_iff.mp h).2
    rw [← hb, ← List.drop_eq_getElem_cons hj, List.take_append_drop]
  have e2 : (l.flatMap (·.walk d)).length = ((l.take j ++ b :: l.drop (j + 1)).flatMap (·.walk d)).length := by rw [← e]
  rw [e2]
  simp only [List.flatMap_append, List.flatMap_cons, List.length_append]
  omega
theorem ok_listed {n k : Nat} (hk : 1 ≤ k) (F : Fun K "listed" "listed" sListed f fd) (gB : Cal P w K mg base CX0 1 "blocks_of" ["item"] spBlocks) (gS : Cal P w K mg base CX0 k "listed" ["items", "depth"] (spSub spListed n)) :
    FnOk P w K mg base CX0 (k + 1) f fd ["items", "depth"] (spListed n) := by
  refine F.ok scListed (fun vs H Q E h => ?_) (fun cdv A outer s H vs Q E hr h => ?_)
  · obtain ⟨a, x, xs, d, rfl, _⟩ := h
    rfl
  · obtain ⟨a, x, xs, d, rfl, hd, ok, ha, hat, hw, q⟩ := h
    refine ⟨_, pss_cons (ps_set (i := 2) scListed.nd rfl (.inl rfl) (pe_lst pa_nil))
      (pss_cons (ps_for PassesOwn.never rfl (pi_tup (pv 0)) (pg_name (i := 3) scListed.nd rfl (.inl rfl))
        (pss_cons (ps_expr (pe_bm PySem.F.plainAttrs_list PySem.F.slot_list_append PySem.F.type_list_append mt_append (pv 2) (pa_cons (pe_tup (pa_cons (pv 1) (pa_cons (pv 3) pa_nil))) pa_nil)))
        (pss_one (ps_for PassesOwn.never rfl (pi_tup (pe_cal gB (hr.mono hk) pass0 (pa_cons (pv 3) pa_nil))) (pg_name (i := 4) scListed.nd rfl (.inl rfl))
          (pss_one (ps_expr (pe_bm PySem.F.plainAttrs_list PySem.F.slot_list_extend PySem.F.type_list_extend mt_extend (pv 2) (pa_cons (pe_cal gS hr pass0 (pa_cons (pv 4) (pa_cons (pe_op op_add (pv 1) pe_int) pa_nil))) pa_nil))))))))
      (pss_one (ps_ret (pv 2)))), ?_⟩
    refine ⟨(by show 0 ≤ sizeLine; decide), fun D hD => ?_⟩
    have s0 := same_new hD (.lst [])
    have el := hat.len
    refine ⟨_, rfl, a, rfl, ⟨_, SqT.of (s0 _ _ ha)⟩, for_tup (K := K) (a := a) (xs := xs) (fun i σ H' => ∃ i3 i4, σ = [some (.ref a), some (.int d), some (.ref D), i3, i4] ∧ Same H H' ∧ ∃ acc, H' D = some (.lst acc) ∧ WalkAt H' acc ((x.take i).walk d))
      ⟨none, none, rfl, s0, [], upd_same, by simp [Its.take, Its.walk]; exact .nil⟩ (fun i σ H' _ z => by obtain ⟨_, _, _, z, _⟩ := z; exact SqT.of (z _ _ ha)) ?_ ?_⟩
    · rintro i v σ H2 hi ⟨i3, i4, rfl, s2, acc, hacc, hwa⟩
      obtain ⟨y, gy, ay⟩ := At_item (hat.same s2) hi
      obtain ⟨b8, bok⟩ := blocks_ok (get_okd ok gy)
      have wl := walk_len (d := d) gy
      have wy := walk_it y d
      have hal := hwa.len
      refine ⟨_, rfl, .inl ⟨rfl, _, SqL.of hacc⟩, _, rfl, _, rfl, (by show 2 ≤ sizeLine; decide), fun t ht4 => ?_⟩
      have s3 := same_new ht4 (.tup [.int d, v])
      have hacc3 := s3 _ _ hacc
      refine ⟨D, acc, .ref t, rfl, rfl, hacc3, small1000 (by omega), ?_⟩
      have k3 : Kp true H2 (upd (upd H2 t (.tup [.int d, v])) D (.lst (acc ++ [.ref t]))) := (Kp.of s3).trans (.wr hacc3)
      have hS3 : Same H (upd (upd H2 t (.tup [.int d, v])) D (.lst (acc ++ [.ref t]))) := same_set (s2.trans s3) hD
      have hw3 : WalkAt (upd (upd H2 t (.tup [.int d, v])) D (.lst (acc ++ [.ref t]))) (acc ++ [.ref t]) ((x.take i).walk d ++ [(d, y)]) := by
        refine (hwa.kp k3).cat (.cons ⟨t, v, rfl, ?_, ay.kp k3⟩ .nil)
        rw [upd_ne (ne_of upd_same hacc3 (by intro z; cases z)), upd_same]
      generalize hH3 : upd (upd H2 t (.tup [.int d, v])) D (.lst (acc ++ [.ref t])) = H3 at k3 hS3 hw3
      have hD3 : H3 D = some (.lst (acc ++ [.ref t])) := by rw [← hH3]; exact upd_same
      refine ⟨_, rfl, v, y, rfl, odd_of (get_okd ok gy), ay.kp k3, by omega, fun r zs H4 s4 hr4 hrows => ?_⟩
      refine ⟨r, rfl, ⟨_, SqT.of hr4⟩, for_tup (K := K) (a := r) (xs := zs) (fun j σ H' => ∃ i4, σ = [some (.ref a), some (.int d), some (.ref D), some v, i4] ∧ Same H H' ∧ H' r = some (.tup zs) ∧ RowsAt H' zs y.blocks ∧ ∃ acc', H' D = some (.lst acc') ∧ WalkAt H' acc' ((x.take i).walk d ++ [(d, y)] ++ (y.blocks.take j).flatMap (·.walk (d + 1))))
        ⟨_, rfl, hS3.trans s4, hr4, hrows, _, s4 _ _ hD3, by simpa using hw3.kp (.of s4)⟩ (fun j σ H' _ z => by obtain ⟨_, _, _, z, _⟩ := z; exact SqT.of z) ?_ ?_⟩
      · rintro j z σ H5 hj ⟨i4, rfl, s5, hr5, hrows5, acc', hacc', hwa'⟩
        obtain ⟨b, qb, xb, gb, rfl, hqb, hbb⟩ := hrows5.get hj
        obtain ⟨d2, bk⟩ := bok b (List.mem_of_getElem? gb)
        have fl := flat_len (d := d + 1) gb
        have yl : (y.walk d).length = 1 + (y.blocks.flatMap (·.walk (d + 1))).length := by rw [wy, List.length_cons]; omega
        have hal' := hwa'.len
        rw [List.length_append, List.length_append, List.length_singleton] at hal'
        cases n with
        | zero => exfalso; omega
        | succ m =>
          refine ⟨_, rfl, .inl ⟨rfl, _, SqL.of hacc'⟩, _, rfl, _, rfl, d, 1, rfl, rfl, qb, b, xb, d + 1, rfl, by omega, bk, hqb, hbb, by omega, fun r6 rows H6 s6 h6 w6 => ?_⟩
          have hacc6 := s6 _ _ hacc'
          refine ⟨D, r6, acc', rows, rfl, rfl, hacc6, h6, le_line (by rw [w6.len]; omega), ?_⟩
          have k6 : Kp true H6 (upd H6 D (.lst (acc' ++ rows))) := .wr hacc6
          refine ⟨_, rfl, same_set (s5.trans s6) hD, k6.t _ _ (s6 _ _ hr5), (hrows5.kp (.of s6)).kp k6, acc' ++ rows, upd_same, ?_⟩
          rw [take_more gb, List.flatMap_append, ← List.append_assoc]
          simp only [List.flatMap_cons, List.flatMap_nil, List.append_nil]
          exact ((hwa'.kp (.of s6)).cat w6).kp k6
      · rintro σ H5 ⟨i4, rfl, s5, hr5, hrows5, acc', hacc', hwa'⟩
        rw [hrows5.len, List.take_length] at hwa'
        refine ⟨_, _, rfl, s5, acc', hacc', ?_⟩
        rw [walk_take gy, wy]
        simpa using hwa'
    · rintro σ H2 ⟨i3, i4, rfl, s2, acc, hacc, hwa⟩
      rw [el, take_all] at hwa
      exact ⟨_, rfl, q D acc H2 s2 hacc hwa⟩
end
end Bs

set_option Elab.async false
set_option linter.all false
set_option maxRecDepth 100000
set_option maxHeartbeats 8000000
/-! len(set(t)), t a tuple of texts, any number below 4000 -/
namespace Bs
open PySem PySem.Spec PyProof.Rows L2
/-- how many different ones stand among the first i -/
def met (xs : List Str) : Nat → Nat
  | 0 => 0
  | i + 1 => if (xs.take i).any (· == xs.getD i Str.empty) = true then met xs i else met xs i + 1
theorem met_le (xs : List Str) : ∀ i, met xs i ≤ i
  | 0 => Nat.le_refl 0
  | i + 1 => by
    unfold met
    have := met_le xs i
    split <;> omega
theorem met_nodup {xs : List Str} : ∀ i, i ≤ xs.length → (met xs i = i ↔ (xs.take i).Nodup)
  | 0, _ => by simp [met]
  | i + 1, hi => by
    have ih := met_nodup (xs := xs) i (by omega)
    have hx : xs[i]? = some (xs.getD i Str.empty) := by rw [List.getD_eq_getElem?_getD, List.getElem?_eq_getElem (by omega)]; rfl
    have et : xs.take (i + 1) = xs.take i ++ [xs.getD i Str.empty] := by rw [List.take_add_one, hx]; rfl
    have le := met_le xs i
    rw [et, List.nodup_append]
    unfold met
    by_cases c : (xs.take i).any (· == xs.getD i Str.empty) = true
    · rw [if_pos c]
      constructor
      · intro e; omega
      · rintro ⟨_, _, k⟩
        obtain ⟨y, hy, ey⟩ := List.any_eq_true.mp c
        have ey : y = xs.getD i Str.empty := eq_of_beq ey
        exact absurd ey (k y hy _ (by simp))
    · rw [if_neg c]
      constructor
      · intro e
        refine ⟨ih.mp (by omega), by simp, fun a ha b hb => ?_⟩
        have hb : b = xs.getD i Str.empty := by simpa using hb
        rintro rfl
        exact c (List.any_eq_true.mpr ⟨a, ha, by rw [hb]; exact beq_self_eq_true _⟩)
      · rintro ⟨k, _, _⟩
        rw [ih.mpr k]
section
variable {prog : Program} {w : World} {A : Around} {R : Result → Shared → Prop} {I : Addr} {fp wr : List Addr} {G : Array GenState → Array GenState → Prop} {n : Nat} {P : Nat → Value → Prop} {St : Nat → Shared → Prop}
theorem loop_strs (W : WalksS prog w A.in1 I fp wr G n P St) (S : Addr) (hSf : S ∉ fp) (xs : List Str) (hsz : xs.length = n) (hb : n + 1 < scanBound) (hval : ∀ i v, P i v → ∃ t, v = .str (xs.getD i Str.empty) t) :
    ∀ (k i : Nat) (s : Shared), n = i + k → St i s → s.heap.SetOf (PySem.strKind prog w) S (fun z => (xs.take i).any (· == z)) (met xs i) →
      (∀ s', Moved (S :: wr) G s s' → s'.heap.SetOf (PySem.strKind prog w) S (fun z => (xs.take n).any (· == z)) (met xs n) → R (.ok (.ret .none)) s') →
      codeAny (model prog w) A (.builtin "set.update.loop" ⟨[.ref S, .ref I], []⟩) R s := by
  have nw : S ∉ wr := fun h => hSf (W.sub _ h)
  have more : ∀ b ∈ wr, b ∈ S :: wr := fun b hb => List.mem_cons_of_mem _ hb
  have stays : ∀ {s s' : Shared} {f : Str → Bool} {c : Nat}, Moved wr G s s' → s.heap.SetOf (PySem.strKind prog w) S f c → s'.heap.SetOf (PySem.strKind prog w) S f c := fun {s s' f c} hm ⟨o, es, ep, t, ho, r⟩ => ⟨o, es, ep, t, hm.heap S _ nw ho, r⟩
  intro k
  induction k with
  | zero =>
    intro i s hk hst hS hR
    have e : i = n := by omega
    subst e
    refine codeAny_builtin PyProof.Rows.F.entry_set_update_loop ?_
    rw [Around.under_plainId PyProof.Rows.F.plain_set_update_loop _]
    refine wpAny_bind (W.done s _ _ hst fun s1 hm => wpAny_pure (hR s1 (hm.mono more) (stays hm hS)))
  | succ k ih =>
    intro i s hk hst hS hR
    have lt : i < n := by omega
    refine codeAny_builtin PyProof.Rows.F.entry_set_update_loop ?_
    rw [Around.under_plainId PyProof.Rows.F.plain_set_update_loop _]
    refine wpAny_bind (W.item i s _ _ lt hst fun v s1 hP hst1 hm => ?_)
    obtain ⟨t, rfl⟩ := hval i v hP
    have hS1 := stays hm hS
    generalize hx : xs.getD i Str.empty = x at *
    show wpAny _ A.in1 (holding [Value.str x t] (setAdd S (.str x t)) >>= _) _ _ s1
    refine wpAny_bind (wpAny_holding ?_)
    unfold setAdd
    refine wpAny_holding (wpAny_bind ((PySem.strKind prog w).pyHash (k := x) (strKind_is _ _ _ _) ?_))
    have le := met_le xs i
    refine wpAny_setAddHashed_of (knd := PySem.strKind prog w) (s := { s1 with toks := s1.toks + 1 }) (strKind_is _ _ _ _) rfl hS1 (by omega) fun h2 sb hS2 => ?_
    have hi : xs[i]? = some x := by rw [← hx, List.getD_eq_getElem?_getD, List.getElem?_eq_getElem (by omega)]; rfl
    have hS3 : h2.SetOf (PySem.strKind prog w) S (fun z => (xs.take (i + 1)).any (· == z)) (met xs (i + 1)) := by
      refine SetOf_congr hS2 (fun z => ?_) ?_
      · rw [List.take_add_one, hi]
        show ((xs.take i).any (· == z) || decide (z = x)) = (xs.take i ++ [x]).any (· == z)
        rw [List.any_append]
        congr 1
        by_cases e : z = x
        · subst e; simp
        · have : (x == z) = false := by simpa using fun h : x = z => e h.symm
          simp [e, this]
      · show _ = (if (xs.take i).any (· == xs.getD i Str.empty) = true then met xs i else met xs i + 1)
        rw [hx]
    refine wpAny_pure ⟨plainId_quiet PyProof.Rows.F.plain_set_update_loop _, ih (i + 1) _ (by omega) (W.frame _ s1 _ _ hst1 (Nat.le_succ _) fun b hb o e => ?_) hS3 fun s2 hm2 hS2 => ?_⟩
    · exact (sb.2 b fun q => hSf (q ▸ hb)).trans e
    · exact hR s2 (Moved.trans W.gtrans ((hm.mono more).then_heap (Nat.le_succ _) fun b o hb e => (sb.2 b fun q => hb (q ▸ List.mem_cons_self)).trans e) hm2) hS2
end
section
variable {prog : Program} {w : World} {A : Around} {E : Value → Shared → Prop} {s : Shared}
abbrev newSet (lg : Bool) : Obj := { cls := .type "set", dict := none, data := .set #[] 0 (.fresh 0 0 lg) }
theorem set_of_texts {l : Addr} {items : Array Value} {xs : List Str} {Q : Value → Shared → Prop} (hh : A.handled = none) (ht : s.heap.IsTuple l items) (hx : PyProof.Rows.StrsAre items.toList xs) (hb : xs.length + 1 < scanBound)
    (hq : ∀ (g : Heap) (tk : Nat), g.SetOf (PySem.strKind prog w) s.heap.objs.size (fun z => (xs.take items.size).any (· == z)) (met xs items.size) → (∀ b o, b < s.heap.objs.size → s.heap.get? b = some o → g.get? b = some o) → Q (.ref s.heap.objs.size) { s with heap := g, toks := tk }) :
    wpAny (model prog w) A (call (.type "set") [.ref l]) Q E s := by
  obtain ⟨c0, t0, m0⟩ := PySem.F.called_set.mro
  have m1 := PySem.F.called_set.made
  have m2 := PySem.F.called_set.sub
  refine wpAny_call (codeAny_of_tree ?_)
  show wpAny _ _ (callAny (.type "set") _) _ _ _
  refine wpAny_pure ⟨Code.quiet_builtin _ (by decide +kernel), codeAny_builtin PySem.F.entry_type_call ?_⟩
  rw [Around.under_plain (weight_type_call_type "set" [.ref l] []) rfl]
  have m3 := PySem.F.called_set.notType
  have m4 := PySem.F.called_set.canCreate
  have m5 := PySem.F.typeCall_set_1 (.ref l)
  repeat (any_goals (first | assumption | wp_step))
  refine codeAny_mono (code_set_new_1 (.ref l) (E := E) (Q₁ := fun u s1 => ∃ lg : Bool, u = .ref s.heap.objs.size ∧ s1 = { s with heap := s.heap.push (newSet lg) }) fun lg => ⟨lg, rfl, rfl⟩) fun r s1 back => ?_
  cases r with
  | error e => exact back
  | ok fl =>
    cases fl with
    | ret u =>
      obtain ⟨lg, rfl, rfl⟩ := back
      have atS : (s.heap.push (newSet lg)).get? s.heap.objs.size = some (newSet lg) := Heap.get?_push_size _ rfl
      have isS : Shared.TypeIs { s with heap := s.heap.push (newSet lg) } (.ref s.heap.objs.size) "set" := ⟨_, atS, rfl⟩
      have n1 := PySem.F.called_set.init.lookup
      have n2 := PySem.F.called_set.init.bind (.ref s.heap.objs.size)
      repeat (any_goals (first | assumption | wp_step))
      refine codeAny_mono (codeAny_call_builtin (R := wants (fun r s2 => r = .none ∧ ∃ g tk, s2 = { s with heap := g, toks := tk } ∧ g.SetOf (PySem.strKind prog w) s.heap.objs.size (fun z => (xs.take items.size).any (· == z)) (met xs items.size) ∧
          (∀ b o, b < s.heap.objs.size → s.heap.get? b = some o → g.get? b = some o)) E) PySem.F.called_set.init.plain PySem.F.entry_set_init (check_set_init_1 isS ?_)) fun r2 s2 back2 => ?_
      · obtain ⟨⟨oc, od, odt, osl⟩, ho, hc, nl, hd⟩ := ht
        simp only at hc hd
        subst hc hd
        have ho2 : (s.heap.push (newSet lg)).get? l = some { cls := .type "tuple", dict := od, data := .seq items nl, slots := osl } := Heap.get?_push_of_some _ ho
        have u1 := PySem.F.sub_tuple_set
        have u2 := PySem.F.sub_tuple_frozenset
        have u3 : (Value.type "tuple" == Value.type "dict") = false := by decide
        have isT : (s.heap.push (newSet lg)).IsTuple l items := ⟨_, ho2, rfl, nl, rfl⟩
        unfold Builtin.«set.__init__» noKeywords Builtin.Frozenset.updateFrom
        generalize eP : pyIter = PI
        wp_walk
        subst eP
        refine wpAny_pyIter_tuple isT (wpAny_bind (wpAny_runValue ?_))
        have lt : l < s.heap.objs.size := Heap.lt_size ho
        have sz1 : (s.heap.push (newSet lg)).objs.size = s.heap.objs.size + 1 := Heap.size_push ..
        have a3 : A.in1.in1.in1.handled = none := by simp [hh]
        have neI : l ≠ (s.heap.push (newSet lg)).objs.size := Nat.ne_of_lt (by rw [sz1]; exact Nat.lt_succ_of_lt lt)
        have nS : s.heap.objs.size ∉ [(s.heap.push (newSet lg)).objs.size, l] := by
          rw [sz1]
          simp only [List.mem_cons, List.not_mem_nil, or_false, not_or]
          exact And.intro (Nat.ne_of_lt (Nat.lt_succ_self _)) (Nat.ne_of_gt lt)
        have len : xs.length = items.size := by rw [← StrsAre.len_eq hx, Array.length_toList]
        refine loop_strs ((Walks.tuple a3 _ l neI items).toS) s.heap.objs.size nS xs len (by rw [← len]; exact hb) (fun i v hv => SS.strs_at hx i v (by rw [Array.getElem?_toList]; exact hv)) items.size 0 _ (by omega) ⟨⟨_, Heap.get?_push_size _ rfl, rfl, rfl⟩, (isT.push _)⟩ ?start ?fin
        case start =>
          have z : ((s.heap.push (newSet lg)).push { cls := .type "tuple_iterator", data := .fields #[.ref l, .int 0 0] }).get? s.heap.objs.size = some (newSet lg) := Heap.get?_push_of_some _ atS
          exact PyProof.Rows.SetOf_congr ((PyProof.Rows.setObjOf_fresh (knd := PySem.strKind prog w) lg).setOf z (by unfold scanBound; omega)) (fun _ => rfl) rfl
        case fin =>
          rintro ⟨g, g2, d2, tk, o2⟩ hm hS
          obtain rfl : g2 = s.gens := hm.gens
          obtain rfl : d2 = s.drawn := hm.drawn
          obtain rfl : o2 = s.os := hm.os
          refine wpAny_pure (wpAny_pure ⟨rfl, g, tk, rfl, hS, fun b o hb2 e => hm.heap b o ?_ (Heap.get?_push_of_some _ (Heap.get?_push_of_some _ e))⟩)
          rw [sz1]
          simp only [List.mem_cons, List.not_mem_nil, or_false, not_or]
          exact And.intro (Nat.ne_of_lt hb2) (Nat.ne_of_lt (Nat.lt_succ_of_lt hb2))
      · cases r2 with
        | error e => exact back2
        | ok fl2 =>
          cases fl2 with
          | ret r =>
            obtain ⟨rfl, g, tk, rfl, k1, k2⟩ := back2
            repeat (any_goals (first | assumption | wp_step))
            exact hq _ _ k1 k2
          | _ => exact back2.elim
    | _ => exact back.elim
end
def tSetLen (K : PySem.W.Frag) (ta : TE) : TE := fun σ H Q => ta σ H fun x H1 => ∃ (l : Addr) (xs : List Str), x = .ref l ∧ SqT K H1 l (xs.map V.str) ∧ xs.length ≤ 4000 ∧ Q (.int (met xs xs.length : Nat)) H1
theorem pe_setLen {X : Cx} {a : Expr} {ta : TE} {p p2 q pos : Pos} (hc : X.calm = true) (hg : Gl X "len") (hm : X.mg "len" = none) (hg2 : Gl X "set") (hm2 : X.mg "set" = none) (ha : PE X a ta)
    (na : starEach [a] X.env = (false, eval a X.env) :: starEach [] X.env := by rfl) : PE X (.Call (.Name "len" p) [.Call (.Name "set" p2) [a] [] q] [] pos) (tSetLen X.K ta) := by
  refine ⟨fun pins s σ H Q I h => Call_ (ld_blt I hg hm boot_len (PyProof.Rows.callWith_builtin1 (PyProof.Rows.args_cons ?_ rfl) rfl rfl))⟩
  refine Call_ (ld_blt I hg2 hm2 boot_set (PyProof.Rows.callWith_type1 (PyProof.Rows.args_cons (thn (ha.run pins s σ H _ I h) fun v s1 ⟨x, H1, I1, r1, q1⟩ => PyProof.Rows.args_nil ?_) na) na rfl))
  obtain ⟨l, xs, rfl, ht, hz, q1⟩ := q1
  cases r1
  obtain ⟨its, r, pl, _⟩ := I1.tuple ht
  have len : its.toArray.size = xs.length := by rw [List.size_toArray, ← r.length, List.length_map]
  refine set_of_texts (I1.ok.hd hc) pl (by simpa using strsAre_of r) (by unfold scanBound; omega) fun g tk hS hk => PyProof.Rows.args_nil ?_
  rw [len] at hS
  obtain ⟨o, es, ep, t, ho, hex, hd, _, _, hbnd, hf, hn⟩ := hS
  have I2 : Inv X pins σ H1 { s1 with heap := g, toks := tk } := I1.kept fun b o e => hk b o (Heap.lt_size e) e
  have := met_le xs xs.length
  exact call_len_set ho hex hd hf (by rw [hn]; omega) ⟨.int (met xs xs.length : Nat), H1, I2.tok _, ⟨_, by rw [hn]⟩, q1⟩
end Bs

set_option Elab.async false
set_option linter.all false
set_option maxRecDepth 100000
set_option maxHeartbeats 4000000
namespace Bs
open PySem L2
/-! ### Shape -/
def gFld (K : PySem.W.Frag) (ta : TE) (f : Str) : TG := fun v σ H Q => ta σ H fun x H2 => ∃ a C dx fs, x = .ref a ∧ H2 a = some (.ins C dx fs) ∧ Cls K C ∧ NoAttr K C f ∧ fs.length < 1000 ∧ Q σ (upd H2 a (.ins C dx (putF f v fs)))
theorem pg_fld {X : Cx} {o : Expr} {f : Str} {pos : Pos} {ta : TE} (ha : PE X o ta) : PG X (.Attribute o f pos) (gFld X.K ta f) := by
  refine ⟨fun pins s σ H v u Q I r h => PySem.W.kas_attr (thn (ha.run pins s σ H _ I h) fun ov s2 ⟨x, H2, I2, rx, a, C, dx, fs, ex, ea, c, n, l, q⟩ => ?_)⟩
  subst ex
  obtain rfl : ov = Value.ref a := rx
  exact setattr_ok I2 ea c n l r fun s3 I3 => ⟨σ, _, I3, q⟩
theorem putF_len (f : Str) (v : V) : ∀ fs : List (Str × V), (putF f v fs).length ≤ fs.length + 1
  | [] => by simp [putF]
  | (g, x) :: r => by
    unfold putF
    split
    · simp
    · have := putF_len f v r
      simp only [List.length_cons]
      omega
/-- all but o is as it was -/
def Off (o : Addr) (H H' : Hp) : Prop := ∀ b u, b ≠ o → H b = some u → H' b = some u
theorem Off.refl (o : Addr) (H : Hp) : Off o H H := fun _ _ _ h => h
theorem Off.trans {o : Addr} {H H1 H2 : Hp} (a : Off o H H1) (b : Off o H1 H2) : Off o H H2 := fun c u n h => b c u n (a c u n h)
theorem Off.of {o : Addr} {H H' : Hp} (s : Same H H') : Off o H H' := fun b u _ h => s b u h
theorem Off.wr {o : Addr} {H : Hp} {u : HO} : Off o H (upd H o u) := fun b v n h => by rw [upd_ne n]; exact h
theorem Off.kp {o : Addr} {fz : Bool} {H H' : Hp} {C dx : Addr} {fs : List (Str × V)} (h : H o = some (.ins C dx fs)) (f : Off o H H') : Kp fz H H' :=
  ⟨fun b xs e => f b _ (ne_of e h (by intro z; cases z)) e, fun _ b xs e => f b _ (ne_of e h (by intro z; cases z)) e⟩
structure ShapeC (K : PySem.W.Frag) (C : Addr) : Prop where
  cl : Cls K C
  n1 : NoAttr K C "parts"
  n2 : NoAttr K C "_rows"
  n3 : NoAttr K C "names"
  n4 : NoAttr K C "_least"
  n5 : NoAttr K C "_greatest"
  n6 : NoAttr K C "_row_of"
/-- the shape in the making: o its instance, p its parts -/
structure Mk0 (o CS dx p : Addr) (x : Its) (ys : List V) (H0 H : Hp) (fs : List (Str × V)) : Prop where
  off : Off o H0 H
  ho : H o = some (.ins CS dx fs)
  hp : H p = some (.tup ys)
  at' : x.At true H ys
theorem Mk0.same {o CS dx p : Addr} {x : Its} {ys : List V} {H0 H H' : Hp} {fs : List (Str × V)} (m : Mk0 o CS dx p x ys H0 H fs) (s : Same H H') : Mk0 o CS dx p x ys H0 H' fs :=
  ⟨m.off.trans (.of s), s _ _ m.ho, s _ _ m.hp, m.at'.same s⟩
theorem Mk0.put {o CS dx p : Addr} {x : Its} {ys : List V} {H0 H : Hp} {fs gs : List (Str × V)} (m : Mk0 o CS dx p x ys H0 H fs) : Mk0 o CS dx p x ys H0 (upd H o (.ins CS dx gs)) gs :=
  ⟨m.off.trans .wr, upd_same, by rw [upd_ne (ne_of m.hp m.ho (by intro z; cases z))]; exact m.hp, m.at'.kp (Off.kp m.ho .wr)⟩
theorem WalkAt.get {H : Hp} : ∀ {l : List V} {r : List (Int × It)} {i : Nat} {v : V}, WalkAt H l r → l[i]? = some v → ∃ d y t u, r[i]? = some (d, y) ∧ v = .ref t ∧ H t = some (.tup [.int d, u]) ∧ y.At true H u
  | _, _, _, _, .nil, e => by simp at e
  | _, _, 0, _, .cons (b := (d, y)) ⟨t, u, e0, h, g⟩ _, e => by simp at e; subst e; exact ⟨d, y, t, u, by simp, e0, h, g⟩
  | _, _, i + 1, _, .cons _ t, e => by obtain ⟨d, y, t, u, h⟩ := WalkAt.get (i := i) t (by simpa using e); exact ⟨d, y, t, u, by simpa using h.1, h.2⟩
/-- the fields of a made shape -/
structure ShapeFs (x : Its) (H : Hp) (fs : List (Str × V)) : Prop where
  parts : ∃ p ys, fs.lookup ("parts" : Str) = some (.ref p) ∧ H p = some (.tup ys) ∧ x.At true H ys
  rows : ∃ r rows, fs.lookup ("_rows" : Str) = some (.ref r) ∧ H r = some (.tup rows) ∧ WalkAt H rows (x.walk 0)
  names : ∃ r, fs.lookup ("names" : Str) = some (.ref r) ∧ H r = some (.tup (x.names.map V.str))
  lens : ∃ l, x.lens (fun _ => none) = some l ∧ fs.lookup ("_least" : Str) = some (.int l.1) ∧ fs.lookup ("_greatest" : Str) = some (.int l.2)
theorem ShapeFs.kp {x : Its} {H H' : Hp} {fs : List (Str × V)} (s : ShapeFs x H fs) (k : Kp true H H') : ShapeFs x H' fs := by
  obtain ⟨⟨p, ys, p1, p2, p3⟩, ⟨r, rows, r1, r2, r3⟩, ⟨n, n1, n2⟩, l⟩ := s
  exact ⟨⟨p, ys, p1, k.t _ _ p2, p3.kp k⟩, ⟨r, rows, r1, k.t _ _ r2, r3.kp k⟩, ⟨n, n1, k.t _ _ n2⟩, l⟩
/-- the rows by their names -/
def RowV (H : Hp) (w : List (Int × It)) (z : Str) (v : V) : Prop := ∃ t d y u, v = .ref t ∧ H t = some (.tup [.int d, u]) ∧ y.At true H u ∧ (d, y) ∈ w ∧ y.name = z
theorem RowV.kp {H H' : Hp} {w w' : List (Int × It)} {z : Str} {v : V} (k : Kp true H H') (sub : ∀ p ∈ w, p ∈ w') (h : RowV H w z v) : RowV H' w' z v := by
  obtain ⟨t, d, y, u, e, h1, h2, h3, h4⟩ := h
  exact ⟨t, d, y, u, e, k.t _ _ h1, h2.kp k, sub _ h3, h4⟩
def RowK (H : Hp) (w : List (Int × It)) (kvs : List (Key × V)) : Prop := ∀ z, (z ∈ w.map (·.2.name) → ∃ v, valV kvs (.inr z) = some v ∧ RowV H w z v) ∧ (z ∉ w.map (·.2.name) → valV kvs (.inr z) = none)
/-- a shape has no other fields -/
def fldN : List Str := ["parts", "_rows", "names", "_least", "_greatest", "_row_of"]
def Only6 (fs : List (Str × V)) : Prop := ∀ g, g ∉ fldN → fs.lookup g = none
theorem only_nil : Only6 [] := fun _ _ => rfl
theorem only_put {f : Str} {v : V} {fs : List (Str × V)} (hf : f ∈ fldN) (h : Only6 fs) : Only6 (putF f v fs) := fun g hg => by
  have ne : ¬ g = f := fun e => hg (by rw [e]; exact hf)
  rw [lookup_putF, if_neg ne]
  exact h g hg
def RowOf (x : Its) (H : Hp) (fs : List (Str × V)) : Prop := Only6 fs ∧ ∃ D kvs, fs.lookup ("_row_of" : Str) = some (.ref D) ∧ H D = some (.dK kvs) ∧ RowK H (x.walk 0) kvs
theorem RowK.kp {H H' : Hp} {w : List (Int × It)} {kvs : List (Key × V)} (k : Kp true H H') (h : RowK H w kvs) : RowK H' w kvs := fun z => ⟨fun m => by obtain ⟨v, e, r⟩ := (h z).1 m; exact ⟨v, e, r.kp k fun _ h => h⟩, (h z).2⟩
theorem RowOf.same {x : Its} {H H' : Hp} {fs : List (Str × V)} (s : Same H H') (h : RowOf x H fs) : RowOf x H' fs := by
  obtain ⟨n, D, kvs, e1, e2, e3⟩ := h
  exact ⟨n, D, kvs, e1, s _ _ e2, e3.kp (.of s)⟩
theorem RowK.put {H : Hp} {w : List (Int × It)} {kvs : List (Key × V)} {d : Int} {y : It} {t : Addr} {u : V} (h : RowK H w kvs) (ht : H t = some (.tup [.int d, u])) (ha : y.At true H u) : RowK H (w ++ [(d, y)]) (putK kvs (.inr y.name) (.ref t)) := fun z => by
  rw [valV_put, List.map_append]
  by_cases e : z = y.name
  · rw [if_pos (by rw [e])]
    refine ⟨fun _ => ⟨_, rfl, t, d, y, u, rfl, ht, ha, by simp, e.symm⟩, fun n => absurd (by simp [e]) n⟩
  · rw [if_neg (fun q => e (Sum.inr.inj q))]
    refine ⟨fun m => ?_, fun n => (h z).2 fun q => n (by simp [q])⟩
    have m : z ∈ w.map (·.2.name) := by
      rcases List.mem_append.mp m with m | m
      · exact m
      · simp at m; exact absurd m e
    obtain ⟨v, e1, r⟩ := (h z).1 m
    exact ⟨v, e1, r.kp (.of (Same.refl H)) fun _ q => List.mem_append_left _ q⟩
mutual
theorem It.walk_odd : ∀ (x : It) (d e : Int), x.ok d = true → ∀ p ∈ x.walk e, p.2.isOdd = false
  | .num .., d, e, h, p, hp => by simp only [It.walk, List.mem_singleton] at hp; subst hp; rfl
  | .byt .., d, e, h, p, hp => by simp only [It.walk, List.mem_singleton] at hp; subst hp; rfl
  | .txt .., d, e, h, p, hp => by simp only [It.walk, List.mem_singleton] at hp; subst hp; rfl
  | .chk .., d, e, h, p, hp => by simp only [It.walk, List.mem_singleton] at hp; subst hp; rfl
  | .pad .., d, e, h, p, hp => by simp only [It.walk, List.mem_singleton] at hp; subst hp; rfl
  | .odd .., d, e, h, p, hp => by simp [It.ok] at h
  | .rep n a b, d, e, h, p, hp => by
    rw [It.ok, Bool.and_eq_true, Bool.and_eq_true, Bool.and_eq_true] at h
    simp only [It.walk, List.mem_cons] at hp
    rcases hp with rfl | hp
    · rfl
    · exact Its.walk_odd b (d + 1) (e + 1) h.2.2.2 p hp
  | .eit n bs, d, e, h, p, hp => by
    rw [It.ok, Bool.and_eq_true, Bool.and_eq_true, Bool.and_eq_true] at h
    simp only [It.walk, List.mem_cons] at hp
    rcases hp with rfl | hp
    · rfl
    · exact Blks.walk_odd bs (d + 1) (e + 1) h.2.2.2 p hp
  | .swi n t bs, d, e, h, p, hp => by
    rw [It.ok, Bool.and_eq_true, Bool.and_eq_true, Bool.and_eq_true] at h
    simp only [It.walk, List.mem_cons] at hp
    rcases hp with rfl | hp
    · rfl
    · exact Blks.walk_odd bs (d + 1) (e + 1) h.2.2.2 p hp
theorem Its.walk_odd : ∀ (x : Its) (d e : Int), x.ok d = true → ∀ p ∈ x.walk e, p.2.isOdd = false
  | .nil, d, e, h, p, hp => by simp [Its.walk] at hp
  | .cons x r, d, e, h, p, hp => by
    rw [Its.ok, Bool.and_eq_true] at h
    simp only [Its.walk, List.mem_append] at hp
    rcases hp with hp | hp
    · exact It.walk_odd x d e h.1 p hp
    · exact Its.walk_odd r d e h.2 p hp
theorem Blks.walk_odd : ∀ (x : Blks) (d e : Int), x.ok d = true → ∀ p ∈ x.walk e, p.2.isOdd = false
  | .nil, d, e, h, p, hp => by simp [Blks.walk] at hp
  | .cons v b r, d, e, h, p, hp => by
    rw [Blks.ok, Bool.and_eq_true, Bool.and_eq_true] at h
    simp only [Blks.walk, List.mem_append] at hp
    rcases hp with hp | hp
    · exact Its.walk_odd b d e h.1.2 p hp
    · exact Blks.walk_odd r d e h.2 p hp
end
def spInit (CE CS : Addr) : Sp := fun vs H Q E => ∃ (o a dx : Addr) (x : Its) (xs : List V), vs = [.ref o, .ref a] ∧ H o = some (.ins CS dx []) ∧ RowAt false H a xs ∧ x.At false H xs ∧ x.tame ∧ (x.walk 0).length ≤ 1000 ∧
  (x.shape = true → ∀ H' fs, Off o H H' → H' o = some (.ins CS dx fs) → ShapeFs x H' fs → RowOf x H' fs → Q .non H') ∧ (x.shape = false → ∀ H', Off o H H' → E (.ref CE) none H')
section
variable {P : Program} {w : World} {K : PySem.W.Frag} {mg : Str → Option Value} {base : Heap} {f C CS : Addr} {fd : FuncData}
abbrev nInit : List Str := ["self", "items", "_", "item", "checks", "row"]
theorem scInit : FnScope nInit ["self", "items"] (defScope sInit) := ⟨rfl, rfl, rfl, by decide +kernel, rfl, by decide +kernel, by decide +kernel⟩
theorem ok_init {k : Nat} (hk : 2 ≤ k) (F : Fun K "__init__" "Shape.__init__" sInit f fd) (T : ShapeC K CS) (gR : Cal P w K mg base (L2.CX P w) 1 "require" ["holds", "words"] (spRequire C)) (gC : Cal P w K mg base (L2.CX P w) k "copied_list" ["items", "depth"] (spCopList C 3))
    (gW : Cal P w K mg base CX0 k "listed" ["items", "depth"] (spListed 3)) (gL : Cal P w K mg base (L2.CX P w) k "list_lengths" ["items", "visible"] (spLensList C 3)) (ml : mg "len" = none) (mt : mg "tuple" = none) (mset : mg "set" = none) (gM : GInt mg "MOST_ITEMS" 30) :
    FnOk P w K mg base (L2.CX P w) (k + 1) f fd ["self", "items"] (spInit C CS) := by
  refine F.okX scInit (fun vs H Q E h => ?_) (fun cdv A outer s H vs Q E hr h => ?_)
  · obtain ⟨o, a, dx, x, xs, rfl, _⟩ := h
    rfl
  · obtain ⟨o, a, dx, x, xs, rfl, ho, hrow, hat, ht, hw, q1, q2⟩ := h
    have tk : Takes (cxOf (L2.CX P w) P w K mg base nInit "Shape.__init__" (defScope sInit) f cdv A outer s H E) (fun cls d _ H => E cls d H) := takes_of rfl rfl rfl rfl
    have hx := passes_call tk (E := E) fun _ _ _ _ h => h
    have hr1 : Room 1 _ := hr.mono (by omega)
    refine ⟨_, pss_cons (ps_fld (pv 0) (pe_cal gC hr hx (pa_cons (pv 1) (pa_cons pe_int pa_nil))) rfl)
      (pss_cons (ps_expr (pe_cal gR hr1 hx (pa_cons (pe_cmpR op_ge (pe_callB call_len (by rfl) ml boot_len (pa_cons (pe_fld (pv 0) rfl) pa_nil)) pe_int (nomark _)) (pa_cons pe_str pa_nil))))
      (pss_cons (ps_fld (pv 0) (pe_tupleOf (by rfl) mt (pe_cal gW hr pass0 (pa_cons (pe_fld (pv 0) rfl) (pa_cons pe_int pa_nil)))) rfl)
      (pss_cons (ps_fld (pv 0) (pe_tupleOf (by rfl) mt (pe_lc (own := [("_", 2), ("item", 3)]) (g := gTup K 2 (gCons (gName 2) (gCons (gName 3) gNil))) (tt := tYes) rfl scInit.nd (pi_tup (pe_fld (pv 0) rfl))
            (blkOk_by (own := [("_", 2), ("item", 3)]) (N := nInit) (sc := defScope sInit) (by decide +kernel)) (fun _ _ _ _ _ => pg_tup rfl (pgs_cons (pg_name (i := 2) scInit.nd rfl (Or.inl rfl)) (pgs_cons (pg_name (i := 3) scInit.nd rfl (Or.inl rfl)) pgs_nil)))
            (fun _ _ _ _ _ => pts_nil) (fun _ _ _ _ _ => pe_ix (r := rIxT K) ix_tup (pv 3) pe_int (fun _ _ => rfl)))) rfl)
      (pss_cons (ps_expr (pe_cal gR hr1 hx (pa_cons (pe_cmpR op_le (pe_callB call_len (by rfl) ml boot_len (pa_cons (pe_fld (pv 0) rfl) pa_nil)) (pe_gint gM rfl) (nomark _)) (pa_cons (pe_joined (.cons pe_str (.cons (pe_fmt (pe_gint gM rfl)) (.cons pe_str .nil)))) pa_nil))))
      (pss_cons (ps_expr (pe_cal gR hr1 hx (pa_cons (pe_cmpR op_eq (pe_setLen rfl (by rfl) ml (by rfl) mset (pe_fld (pv 0) rfl)) (pe_callB call_len (by rfl) ml boot_len (pa_cons (pe_fld (pv 0) rfl) pa_nil)) (nomark _)) (pa_cons pe_str pa_nil))))
      (pss_cons (ps_setLc (i := 4) (own := [("_", 2), ("item", 3)]) (g := gTup K 2 (gCons (gName 2) (gCons (gName 3) gNil))) rfl scInit.nd rfl rfl (sw_true rfl rfl rfl (by decide +kernel)) (pi_tup (pe_fld (pv 0) rfl))
            (blkOk_by (own := [("_", 2), ("item", 3)]) (N := nInit) (sc := defScope sInit) (by decide +kernel)) (fun _ _ _ _ _ => pg_tup rfl (pgs_cons (pg_name (i := 2) scInit.nd rfl (Or.inl rfl)) (pgs_cons (pg_name (i := 3) scInit.nd rfl (Or.inl rfl)) pgs_nil)))
            (fun _ _ _ _ _ => pts_one (pt_cmpR op_eq (pe_ix (r := rIxT K) ix_tup (pv 3) pe_int (fun _ _ => rfl)) pe_str (nomark _))) (fun _ _ _ _ _ => pv 3))
      (pss_cons (ps_expr (pe_cal gR hr1 hx (pa_cons (pe_cmpR op_le (pe_callB call_len (by rfl) ml boot_len (pa_cons (pv 4) pa_nil)) pe_int (nomark _)) (pa_cons pe_str pa_nil))))
      (pss_cons (ps_asg (pe_cal gL hr hx (pa_cons (pe_fld (pv 0) rfl) (pa_cons pe_dnewK pa_nil))) (pg_tup rfl (pgs_cons (pg_fld (pv 0)) (pgs_cons (pg_fld (pv 0)) pgs_nil))))
      (pss_one (ps_fld (pv 0) (pe_dc (own := [("row", 5)]) (g := gName 5) (tt := tYes) rfl scInit.nd (pi_tup (pe_fld (pv 0) rfl)) (blkOk_by (own := [("row", 5)]) (N := nInit) (sc := defScope sInit) (by decide +kernel))
            (fun _ _ _ _ _ => pg_name (i := 5) scInit.nd rfl (Or.inl rfl)) (fun _ _ _ _ _ => pts_nil) (fun _ _ _ _ _ => pe_ix (r := rIxT K) ix_tup (pe_ix (r := rIxT K) ix_tup (pv 5) pe_int (fun _ _ => rfl)) pe_int (fun _ _ => rfl)) (fun _ _ _ _ _ => pv 5)) rfl)))))))))), ?_⟩
    unfold Its.shape at q1 q2
    refine ⟨_, rfl, a, x, xs, 0, rfl, rfl, hrow, hat, ht, fun c1 p ys H1 s1 hp hy => ?_, fun c1 H1 s1 => q2 (by rw [c1, Bool.false_and]) H1 (.of s1)⟩
    have hx12 : x.len ≤ 12 := of_decide_eq_true (Bool.and_eq_true _ _ ▸ c1).1
    have hok : x.ok 0 = true := (Bool.and_eq_true _ _ ▸ c1).2
    rw [c1, Bool.true_and] at q1 q2
    have hl := hy.len
    have m1 : Mk0 o CS dx p x ys H H1 [] := ⟨.of s1, s1 _ _ ho, hp, hy⟩
    refine ⟨_, rfl, o, CS, dx, [], rfl, m1.ho, T.cl, T.n1, by simp, ?_⟩
    have m2 := m1.put (gs := putF "parts" (.ref p) [])
    have lk2 : (putF "parts" (.ref p) []).lookup ("parts" : Str) = some (.ref p) := by rw [lookup_putF, if_pos rfl]
    generalize upd H1 o _ = H2 at m2 ⊢
    refine ⟨_, rfl, o, CS, dx, _, _, rfl, m2.ho, T.cl, T.n1, lk2, _, _, rfl, .inr ⟨_, SqT.of m2.hp, rfl⟩, _, _, rfl, rfl, ?_⟩
    refine ⟨_, _, rfl, fun e => ?_, fun e => ?_⟩
    rotate_left
    · have e := of_decide_eq_false e
      exact q2 (by rw [decide_eq_false (by omega), Bool.false_and]) _ m2.off
    have e := of_decide_eq_true e
    rw [decide_eq_true (by omega), Bool.true_and] at q1 q2
    refine ⟨_, rfl, o, CS, dx, _, _, rfl, m2.ho, T.cl, T.n1, lk2, p, x, ys, 0, rfl, rfl, hok, m2.hp, m2.at', hw, fun r rows H3 s3 hr3 wa3 => ?_⟩
    refine .inl ⟨r, rows, rfl, SqL.of hr3, fun r2 hr2 => ?_⟩
    have s4 := same_new hr2 (.tup rows)
    have m4 := m2.same (s3.trans s4)
    have wa4 := wa3.kp (.of s4)
    have h4 : upd H3 r2 (.tup rows) r2 = some (.tup rows) := upd_same
    generalize upd H3 r2 _ = H4 at m4 wa4 h4 ⊢
    refine ⟨_, rfl, o, CS, dx, _, rfl, m4.ho, T.cl, T.n2, by simp [putF], ?_⟩
    have m5 := m4.put (gs := putF "_rows" (.ref r2) (putF "parts" (.ref p) []))
    have k5 : Kp true H4 (upd H4 o (.ins CS dx (putF "_rows" (.ref r2) (putF "parts" (.ref p) [])))) := Off.kp m4.ho .wr
    have wa5 := wa4.kp k5
    have h5 := k5.t _ _ h4
    have lk5 : (putF "_rows" (.ref r2) (putF "parts" (.ref p) [])).lookup ("_rows" : Str) = some (.ref r2) := by rw [lookup_putF, if_pos rfl]
    generalize upd H4 o _ = H5 at m5 wa5 h5 ⊢
    have rl := wa5.len
    refine ⟨_, rfl, o, CS, dx, _, _, rfl, m5.ho, T.cl, T.n2, lk5, r2, rfl, ⟨_, SqT.of h5⟩, fun D hD => lc_tup (K := K) (a := r2) (xs := rows) (fun i H' => Same H5 H' ∧ H' D = some (.lst (((x.walk 0).take i).map fun z => V.str z.2.name))) ⟨same_new hD _, upd_same⟩ (fun i H' _ z => SqT.of (z.1 _ _ h5)) ?_ ?_⟩
    · rintro i v H6 hi ⟨s6, hacc⟩
      obtain ⟨d, y, t, u, gy, rfl, ht6, ay⟩ := (wa5.kp (.of s6)).get hi
      obtain ⟨pu, rest, rfl, hpu, _⟩ := At_head ay (x.walk_odd 0 0 hok (d, y) (List.mem_of_getElem? gy))
      refine ⟨t, _, rfl, SqT.of ht6, rfl, _, _, rfl, _, _, rfl, rfl, rfl, yes_go ⟨_, rfl, pu, _, 1, _, rfl, rfl, SqT.of hpu, atI_nat (j := 1) rfl, _, hacc, small1000 (by rw [List.length_map, List.length_take]; omega), same_set s6 hD, ?_⟩⟩
      rw [upd_same, take_more gy, List.map_append]
      rfl
    rintro H6 ⟨s6, hacc⟩
    rw [rl, List.take_length] at hacc
    refine .inl ⟨D, _, rfl, SqL.of hacc, fun nt hnt => ?_⟩
    have hmap : ((x.walk 0).map fun z => V.str z.2.name) = x.names.map V.str := by rw [Its.names, List.map_map]; rfl
    rw [hmap] at hacc ⊢
    have nl : x.names.length = (x.walk 0).length := by rw [Its.names, List.length_map]
    have s7 := same_new hnt (.tup (x.names.map V.str))
    have m7 := m5.same (s6.trans s7)
    have wa7 := wa5.kp (.of (s6.trans s7))
    have h7 := (s6.trans s7) _ _ h5
    have n7 : upd H6 nt (.tup (x.names.map V.str)) nt = some (.tup (x.names.map V.str)) := upd_same
    generalize upd H6 nt _ = H7 at m7 wa7 h7 n7 ⊢
    refine ⟨_, rfl, o, CS, dx, _, rfl, m7.ho, T.cl, T.n3, Nat.lt_of_le_of_lt (Nat.le_trans (putF_len _ _ _) (Nat.succ_le_succ (putF_len _ _ _))) (by decide), ?_⟩
    generalize hfs8 : putF ("names" : Str) (.ref nt) (putF "_rows" (.ref r2) (putF "parts" (.ref p) [])) = fs8
    have m8 := m7.put (gs := fs8)
    have k8 : Kp true H7 (upd H7 o (.ins CS dx fs8)) := Off.kp m7.ho .wr
    have wa8 := wa7.kp k8
    have h8 := k8.t _ _ h7
    have n8 := k8.t _ _ n7
    have lkP : fs8.lookup ("parts" : Str) = some (.ref p) := by rw [← hfs8, lookup_putF, if_neg (by decide +kernel), lookup_putF, if_neg (by decide +kernel), lk2]
    have lkR : fs8.lookup ("_rows" : Str) = some (.ref r2) := by rw [← hfs8, lookup_putF, if_neg (by decide +kernel), lk5]
    have lkN : fs8.lookup ("names" : Str) = some (.ref nt) := by rw [← hfs8, lookup_putF, if_pos rfl]
    have no8 : Only6 fs8 := by rw [← hfs8]; exact only_put (by decide +kernel) (only_put (by decide +kernel) (only_put (by decide +kernel) only_nil))
    have fl8 : fs8.length ≤ 3 := by rw [← hfs8]; exact Nat.le_trans (putF_len _ _ _) (Nat.succ_le_succ (Nat.le_trans (putF_len _ _ _) (Nat.succ_le_succ (putF_len _ _ _))))
    generalize upd H7 o _ = H8 at m8 wa8 h8 n8 ⊢
    -- at most 30
    refine ⟨_, rfl, o, CS, dx, _, _, rfl, m8.ho, T.cl, T.n2, lkR, _, _, rfl, .inr ⟨_, SqT.of h8, rfl⟩, _, _, rfl, rfl, _, rfl, by decide +kernel, .inr ⟨30, rfl, by decide +kernel, _, rfl, by decide +kernel, _, rfl, by decide +kernel, ?_⟩⟩
    refine ⟨_, _, rfl, fun e => ?_, fun e => ?_⟩
    rotate_left
    · have e := of_decide_eq_false e
      exact q2 (by rw [decide_eq_false (by omega), Bool.false_and]) _ m8.off
    have e := of_decide_eq_true e
    have h30 : (x.walk 0).length ≤ 30 := by omega
    rw [decide_eq_true h30, Bool.true_and] at q1 q2
    -- no name twice
    refine ⟨_, rfl, o, CS, dx, _, _, rfl, m8.ho, T.cl, T.n3, lkN, nt, x.names, rfl, SqT.of n8, by omega, _, rfl, o, CS, dx, _, _, rfl, m8.ho, T.cl, T.n3, lkN, _, _, rfl, .inr ⟨_, SqT.of n8, rfl⟩, rfl, ?_⟩
    rw [int_eq, List.length_map]
    have mn := met_nodup (xs := x.names) x.names.length (Nat.le_refl _)
    rw [List.take_length] at mn
    refine ⟨_, _, rfl, fun e => ?_, fun e => ?_⟩
    rotate_left
    · have e := of_decide_eq_false e
      exact q2 (by rw [decide_eq_false (fun z => e (by rw [mn.mpr z])), Bool.false_and]) _ m8.off
    have e := of_decide_eq_true e
    have hnd : x.names.Nodup := mn.mp (by omega)
    rw [decide_eq_true hnd, Bool.true_and] at q1 q2
    have rl8 := wa8.len
    -- the checks
    refine ⟨_, rfl, o, CS, dx, _, _, rfl, m8.ho, T.cl, T.n2, lkR, r2, rfl, ⟨_, SqT.of h8⟩, fun D2 hD2 => lc_tup (K := K) (a := r2) (xs := rows) (fun i H' => Same H8 H' ∧ ∃ acc, H' D2 = some (.lst acc) ∧ acc.length = (((x.walk 0).take i).filter (·.2.isChk)).length) ⟨same_new hD2 _, [], upd_same, rfl⟩ (fun i H' _ z => SqT.of (z.1 _ _ h8)) ?_ ?_⟩
    · rintro i v H9 hi ⟨s9, acc, hacc, hlen⟩
      obtain ⟨d, y, t, u, gy, rfl, ht9, ay⟩ := (wa8.kp (.of s9)).get hi
      obtain ⟨pu, rest, rfl, hpu, _⟩ := At_head ay (x.walk_odd 0 0 hok (d, y) (List.mem_of_getElem? gy))
      refine ⟨t, _, rfl, SqT.of ht9, rfl, _, _, rfl, _, _, rfl, rfl, rfl, _, rfl, pu, _, 0, _, rfl, rfl, SqT.of hpu, atI_nat (j := 0) rfl, rfl, _, rfl, ?_⟩
      have fl : (((x.walk 0).take (i + 1)).filter (·.2.isChk)).length = (((x.walk 0).take i).filter (·.2.isChk)).length + if y.isChk = true then 1 else 0 := by
        rw [take_more gy, List.filter_append, List.length_append]
        cases hy2 : y.isChk <;> simp [hy2]
      have le9 : (((x.walk 0).take i).filter (·.2.isChk)).length ≤ 30 := Nat.le_trans (List.length_filter_le _ _) (by rw [List.length_take]; omega)
      have ho : y.isOdd = false := x.walk_odd 0 0 hok (d, y) (List.mem_of_getElem? gy)
      have ek : decide (V.str y.kind = V.str "check") = y.isChk := by
        cases y with
        | odd => cases ho
        | chk => exact decide_eq_true rfl
        | _ => exact decide_eq_false (kne (by simp only [It.kind]; decide +kernel))
      show (fun b H3 => if b = true then _ else _) (decide (V.str y.kind = V.str "check")) H9
      rw [ek]
      cases hc : y.isChk with
      | true =>
        rw [hc, if_pos rfl] at fl
        refine iteT ⟨_, rfl, acc, hacc, small1000 (by omega), same_set s9 hD2, _, upd_same, ?_⟩
        rw [List.length_append, List.length_singleton, hlen, fl]
      | false =>
        rw [hc, if_neg (by decide)] at fl
        exact iteF ⟨s9, acc, hacc, by omega⟩
    rintro H9 ⟨s9, acc, hacc, hlen⟩
    rw [rl8, List.take_length] at hlen
    have m9 := m8.same s9
    have wa9 := wa8.kp (.of s9)
    have h9 := s9 _ _ h8
    have n9 := s9 _ _ n8
    -- at most one
    refine ⟨_, rfl, _, _, rfl, .inl ⟨acc, SqL.of hacc, rfl⟩, _, _, rfl, rfl, ?_⟩
    refine ⟨_, _, rfl, fun e => ?_, fun e => ?_⟩
    rotate_left
    · have e := of_decide_eq_false e
      exact q2 (by rw [decide_eq_false (by omega), Bool.false_and]) _ m9.off
    have e := of_decide_eq_true e
    rw [decide_eq_true (by omega), Bool.true_and] at q1 q2
    -- the lengths
    refine ⟨_, rfl, o, CS, dx, _, _, rfl, m9.ho, T.cl, T.n1, lkP, fun dv hdv => ?_⟩
    have s10 := same_new hdv (.dK [])
    have m10 := m9.same s10
    refine ⟨p, dv, x, ys, fun _ => none, 0, 0, rfl, rfl, hok, hx12, ht, m10.hp, m10.at', ⟨[], upd_same, by simp, fun z => rfl⟩, by decide, fun l el lt H11 s11 hlt => ?_, fun el H11 s11 => q2 (by rw [el]; rfl) H11 (m10.same s11).off⟩
    rw [el] at q1
    have q1 := q1 rfl
    have lx := el
    have m11 := m10.same s11
    have wa11 := wa9.kp (.of (s10.trans s11))
    have h11 := (s10.trans s11) _ _ h9
    have n11 := (s10.trans s11) _ _ n9
    refine ⟨lt, _, rfl, SqT.of hlt, rfl, _, _, rfl, ?_⟩
    refine ⟨_, rfl, o, CS, dx, _, rfl, m11.ho, T.cl, T.n4, by omega, ?_⟩
    generalize hfs12 : putF ("_least" : Str) (.int l.1) fs8 = fs12
    have lkP2 : fs12.lookup ("parts" : Str) = some (.ref p) := by rw [← hfs12, lookup_putF, if_neg (by decide +kernel), lkP]
    have lkR2 : fs12.lookup ("_rows" : Str) = some (.ref r2) := by rw [← hfs12, lookup_putF, if_neg (by decide +kernel), lkR]
    have no12 : Only6 fs12 := by rw [← hfs12]; exact only_put (by decide +kernel) no8
    have fl12 : fs12.length ≤ 4 := by rw [← hfs12]; exact Nat.le_trans (putF_len _ _ _) (Nat.succ_le_succ fl8)
    have m12 := m11.put (gs := fs12)
    have k12 : Kp true H11 (upd H11 o (.ins CS dx fs12)) := Off.kp m11.ho .wr
    have wa12 := wa11.kp k12
    have h12 := k12.t _ _ h11
    have n12 := k12.t _ _ n11
    have lkN2 : fs12.lookup ("names" : Str) = some (.ref nt) := by rw [← hfs12, lookup_putF, if_neg (by decide +kernel), lkN]
    have lkL2 : fs12.lookup ("_least" : Str) = some (.int l.1) := by rw [← hfs12, lookup_putF, if_pos rfl]
    generalize upd H11 o _ = H12 at m12 wa12 h12 n12 ⊢
    refine ⟨_, _, rfl, _, rfl, o, CS, dx, _, rfl, m12.ho, T.cl, T.n5, by omega, ?_⟩
    generalize hfs13 : putF ("_greatest" : Str) (.int l.2) fs12 = fs13
    have lkP3 : fs13.lookup ("parts" : Str) = some (.ref p) := by rw [← hfs13, lookup_putF, if_neg (by decide +kernel), lkP2]
    have lkR3 : fs13.lookup ("_rows" : Str) = some (.ref r2) := by rw [← hfs13, lookup_putF, if_neg (by decide +kernel), lkR2]
    have no13 : Only6 fs13 := by rw [← hfs13]; exact only_put (by decide +kernel) no12
    have fl13 : fs13.length ≤ 5 := by rw [← hfs13]; exact Nat.le_trans (putF_len _ _ _) (Nat.succ_le_succ fl12)
    have m13 := m12.put (gs := fs13)
    have k13 : Kp true H12 (upd H12 o (.ins CS dx fs13)) := Off.kp m12.ho .wr
    have wa13 := wa12.kp k13
    have h13 := k13.t _ _ h12
    have n13 := k13.t _ _ n12
    have lkN3 : fs13.lookup ("names" : Str) = some (.ref nt) := by rw [← hfs13, lookup_putF, if_neg (by decide +kernel), lkN2]
    have lkL3 : fs13.lookup ("_least" : Str) = some (.int l.1) := by rw [← hfs13, lookup_putF, if_neg (by decide +kernel), lkL2]
    have lkG3 : fs13.lookup ("_greatest" : Str) = some (.int l.2) := by rw [← hfs13, lookup_putF, if_pos rfl]
    generalize upd H12 o _ = H13 at m13 wa13 h13 n13 ⊢
    refine ⟨rfl, ?_⟩
    have rl13 := wa13.len
    -- the rows by their names
    refine ⟨_, rfl, o, CS, dx, _, _, rfl, m13.ho, T.cl, T.n2, lkR3, r2, rfl, ⟨_, SqT.of h13⟩, fun D3 hD3 => dc_tup (K := K) (a := r2) (xs := rows) (fun i H' => Same H13 H' ∧ ∃ kvs, H' D3 = some (.dK kvs) ∧ kvs.length ≤ i ∧ RowK H' ((x.walk 0).take i) kvs) ⟨same_new hD3 _, [], upd_same, Nat.le_refl 0, fun z => ⟨fun m => by simp at m, fun _ => rfl⟩⟩ (fun i H' _ z => SqT.of (z.1 _ _ h13)) ?_ ?_⟩
    · rintro i v H14 hi ⟨s14, kvs, hkvs, hlen, hrk⟩
      have il : i < rows.length := (List.getElem?_eq_some_iff.mp hi).1
      obtain ⟨d, y, t, u, gy, rfl, ht14, ay⟩ := (wa13.kp (.of s14)).get hi
      obtain ⟨pu, rest, rfl, hpu, _⟩ := At_head ay (x.walk_odd 0 0 hok (d, y) (List.mem_of_getElem? gy))
      refine ⟨rfl, yes_go ?_⟩
      refine ⟨_, rfl, t, _, 1, _, rfl, rfl, SqT.of ht14, atI_nat (j := 1) rfl, pu, _, 1, _, rfl, rfl, SqT.of hpu, atI_nat (j := 1) rfl, _, rfl, kvs, .inr y.name, rfl, hkvs, small1000 (by omega), same_set s14 hD3, _, upd_same, ?_, ?_⟩
      · have := length_putK kvs (.inr y.name) (.ref t)
        omega
      · rw [take_more gy]
        have k14 : Kp true H14 (upd H14 D3 (.dK (putK kvs (.inr y.name) (.ref t)))) := ⟨fun b xs e => by rw [upd_ne (ne_of e hkvs (by intro z; cases z))]; exact e, fun z => by cases z⟩
        exact (hrk.kp k14).put (k14.t _ _ ht14) (ay.kp k14)
    rintro H14 ⟨s14, kvs, hkvs, _, hrk⟩
    rw [rl13, List.take_length] at hrk
    have m14 := m13.same s14
    refine ⟨_, rfl, o, CS, dx, _, rfl, m14.ho, T.cl, T.n6, by omega, ?_⟩
    have m15 := m14.put (gs := putF ("_row_of" : Str) (.ref D3) fs13)
    have k15 : Kp true H14 (upd H14 o (.ins CS dx (putF ("_row_of" : Str) (.ref D3) fs13))) := Off.kp m14.ho .wr
    exact q1 _ _ m15.off m15.ho ⟨⟨p, ys, by rw [lookup_putF, if_neg (by decide +kernel), lkP3], m15.hp, m15.at'⟩, ⟨r2, rows, by rw [lookup_putF, if_neg (by decide +kernel), lkR3], k15.t _ _ (s14 _ _ h13), (wa13.kp (.of s14)).kp k15⟩,
      ⟨nt, by rw [lookup_putF, if_neg (by decide +kernel), lkN3], k15.t _ _ (s14 _ _ n13)⟩, ⟨l, lx, by rw [lookup_putF, if_neg (by decide +kernel), lkL3], by rw [lookup_putF, if_neg (by decide +kernel), lkG3]⟩⟩ ⟨only_put (by decide +kernel) no13, D3, kvs, by rw [lookup_putF, if_pos rfl], by rw [upd_ne (ne_of hkvs m14.ho (by intro z; cases z))]; exact hkvs, hrk.kp k15⟩
end
end Bs

set_option Elab.async false
set_option linter.all false
set_option maxRecDepth 100000
set_option maxHeartbeats 4000000
namespace Bs
open PySem L2
/-! ### all items of a shape, one behind another -/
mutual
def It.flat : It → List It
  | .rep n a b => .rep n a b :: b.flat
  | .eit n bs => .eit n bs :: bs.flat
  | .swi n t bs => .swi n t bs :: bs.flat
  | x => [x]
def Its.flat : Its → List It
  | .nil => []
  | .cons x r => x.flat ++ r.flat
def Blks.flat : Blks → List It
  | .nil => []
  | .cons _ b r => b.flat ++ r.flat
end
mutual
theorem It.walk_flat : ∀ (x : It) (d : Int), (x.walk d).map (·.2) = x.flat
  | .num .., d => by simp [It.walk, It.flat]
  | .byt .., d => by simp [It.walk, It.flat]
  | .txt .., d => by simp [It.walk, It.flat]
  | .chk .., d => by simp [It.walk, It.flat]
  | .pad .., d => by simp [It.walk, It.flat]
  | .odd .., d => by simp [It.walk, It.flat]
  | .rep n a b, d => by simp [It.walk, It.flat, Its.walk_flat b]
  | .eit n bs, d => by simp [It.walk, It.flat, Blks.walk_flat bs]
  | .swi n t bs, d => by simp [It.walk, It.flat, Blks.walk_flat bs]
theorem Its.walk_flat : ∀ (x : Its) (d : Int), (x.walk d).map (·.2) = x.flat
  | .nil, d => by simp [Its.walk, Its.flat]
  | .cons x r, d => by simp [Its.walk, Its.flat, It.walk_flat x, Its.walk_flat r]
theorem Blks.walk_flat : ∀ (x : Blks) (d : Int), (x.walk d).map (·.2) = x.flat
  | .nil, d => by simp [Blks.walk, Blks.flat]
  | .cons v b r, d => by simp [Blks.walk, Blks.flat, Its.walk_flat b, Blks.walk_flat r]
end
theorem Its.names_flat (x : Its) : x.names = x.flat.map It.name := by
  rw [Its.names, ← Its.walk_flat x 0, List.map_map]; rfl
theorem Its.checks_flat (x : Its) (d : Int) : ((x.walk d).filter (·.2.isChk)).length = (x.flat.filter It.isChk).length := by
  rw [← Its.walk_flat x d, List.filter_map, List.length_map]; rfl
/-! ### one item more -/
def Its.snoc : Its → It → Its
  | .nil, y => .cons y .nil
  | .cons x r, y => .cons x (r.snoc y)
def Its.seens (f : Env) : Its → Env
  | .nil => f
  | .cons x r => r.seens (x.seen f)
theorem snoc_len : ∀ (x : Its) (y : It), (x.snoc y).len = x.len + 1
  | .nil, y => rfl
  | .cons x r, y => by simp [Its.snoc, Its.len, snoc_len r]
theorem snoc_ok : ∀ (x : Its) (y : It) (d : Int), (x.snoc y).ok d = (x.ok d && y.ok d)
  | .nil, y, d => by simp [Its.snoc, Its.ok]
  | .cons x r, y, d => by simp [Its.snoc, Its.ok, snoc_ok r, Bool.and_assoc]
theorem snoc_tame : ∀ {x : Its} {y : It}, x.tame → y.tame → (x.snoc y).tame
  | .nil, y, _, h => by simp only [Its.snoc, Its.tame]; exact ⟨h, trivial⟩
  | .cons x r, y, t, h => by simp only [Its.snoc, Its.tame] at t ⊢; exact ⟨t.1, snoc_tame t.2 h⟩
theorem snoc_flat : ∀ (x : Its) (y : It), (x.snoc y).flat = x.flat ++ y.flat
  | .nil, y => by simp [Its.snoc, Its.flat]
  | .cons x r, y => by simp [Its.snoc, Its.flat, snoc_flat r]
theorem snoc_at {fz : Bool} {H : Hp} : ∀ {x : Its} {l : List V} {y : It} {v : V}, x.At fz H l → y.At fz H v → (x.snoc y).At fz H (l ++ [v])
  | .nil, l, y, v, h, g => by
    simp only [Its.At] at h
    subst h
    simp only [Its.snoc, Its.At]
    exact ⟨v, [], rfl, g, rfl⟩
  | .cons x r, l, y, v, h, g => by
    simp only [Its.At] at h
    obtain ⟨v0, l', rfl, h1, h2⟩ := h
    simp only [Its.snoc, Its.At]
    exact ⟨v0, l' ++ [v], rfl, h1, snoc_at h2 g⟩
theorem snoc_lens : ∀ (x : Its) (y : It) (f : Env), (x.snoc y).lens f = match x.lens f with
    | some a => (y.lens (x.seens f)).map fun b => (a.1 + b.1, a.2 + b.2)
    | none => none
  | .nil, y, f => by
    show (Its.cons y .nil).lens f = _
    rw [lens_cons]
    simp only [Its.lens, Its.seens]
    cases y.lens f <;> simp
  | .cons x r, y, f => by
    show (Its.cons x (r.snoc y)).lens f = _
    rw [lens_cons, lens_cons]
    cases hx : x.lens f with
    | none => rfl
    | some a =>
      simp only
      rw [snoc_lens r y (x.seen f)]
      show _ = match Option.map _ (r.lens (x.seen f)) with | some (a : Int × Int) => Option.map (fun b : Int × Int => (a.1 + b.1, a.2 + b.2)) (y.lens (r.seens (x.seen f))) | none => none
      cases r.lens (x.seen f) with
      | none => rfl
      | some b =>
        simp only [Option.map_some]
        cases y.lens (r.seens (x.seen f)) with
        | none => rfl
        | some c => simp [Int.add_assoc]
theorem snoc_seens : ∀ (x : Its) (y : It) (f : Env), (x.snoc y).seens f = y.seen (x.seens f)
  | .nil, y, f => rfl
  | .cons x r, y, f => snoc_seens r y (x.seen f)
def Blks.snoc : Blks → Int → Its → Blks
  | .nil, v, b => .cons v b .nil
  | .cons w a r, v, b => .cons w a (r.snoc v b)
theorem snocB_len : ∀ (x : Blks) (v : Int) (b : Its), (x.snoc v b).len = x.len + 1
  | .nil, v, b => rfl
  | .cons w a r, v, b => by simp [Blks.snoc, Blks.len, snocB_len r]
theorem snocB_vals : ∀ (x : Blks) (v : Int) (b : Its), (x.snoc v b).vals = x.vals ++ [v]
  | .nil, v, b => rfl
  | .cons w a r, v, b => by simp [Blks.snoc, Blks.vals, snocB_vals r]
theorem snocB_ok : ∀ (x : Blks) (v : Int) (b : Its) (d : Int), (x.snoc v b).ok d = (x.ok d && (decide (b.len ≤ 12) && b.ok d))
  | .nil, v, b, d => by simp [Blks.snoc, Blks.ok]
  | .cons w a r, v, b, d => by simp [Blks.snoc, Blks.ok, snocB_ok r, Bool.and_assoc]
theorem snocB_tame : ∀ {x : Blks} {v : Int} {b : Its}, x.tame → b.tame → (x.snoc v b).tame
  | .nil, v, b, _, h => by simp only [Blks.snoc, Blks.tame]; exact ⟨h, trivial⟩
  | .cons w a r, v, b, t, h => by simp only [Blks.snoc, Blks.tame] at t ⊢; exact ⟨t.1, snocB_tame t.2 h⟩
theorem snocB_flat : ∀ (x : Blks) (v : Int) (b : Its), (x.snoc v b).flat = x.flat ++ b.flat
  | .nil, v, b => by simp [Blks.snoc, Blks.flat]
  | .cons w a r, v, b => by simp [Blks.snoc, Blks.flat, snocB_flat r]
theorem snocB_atE {fz : Bool} {H : Hp} {q : Addr} {xs : List V} : ∀ {x : Blks} {l : List V} {v : Int} {b : Its}, x.AtE fz H l → RowAt fz H q xs → b.At fz H xs → (x.snoc v b).AtE fz H (l ++ [.ref q])
  | .nil, l, v, b, h, g, k => by
    simp only [Blks.AtE] at h
    subst h
    simp only [Blks.snoc, Blks.AtE]
    exact ⟨q, xs, [], rfl, g, k, rfl⟩
  | .cons w a r, l, v, b, h, g, k => by
    simp only [Blks.AtE] at h
    obtain ⟨q0, xs0, l', rfl, h1, h2, h3⟩ := h
    simp only [Blks.snoc, Blks.AtE]
    exact ⟨q0, xs0, l' ++ [.ref q], rfl, h1, h2, snocB_atE h3 g k⟩
theorem snocB_atS {fz : Bool} {H : Hp} {p q : Addr} {xs : List V} : ∀ {x : Blks} {l : List V} {v : Int} {b : Its}, x.AtS fz H l → H p = some (.tup [.int v, .ref q]) → RowAt fz H q xs → b.At fz H xs → (x.snoc v b).AtS fz H (l ++ [.ref p])
  | .nil, l, v, b, h, z, g, k => by
    simp only [Blks.AtS] at h
    subst h
    simp only [Blks.snoc, Blks.AtS]
    exact ⟨p, q, xs, [], rfl, z, g, k, rfl⟩
  | .cons w a r, l, v, b, h, z, g, k => by
    simp only [Blks.AtS] at h
    obtain ⟨p0, q0, xs0, l', rfl, h0, h1, h2, h3⟩ := h
    simp only [Blks.snoc, Blks.AtS]
    exact ⟨p0, q0, xs0, l' ++ [.ref p], rfl, h0, h1, h2, snocB_atS h3 z g k⟩
theorem snocB_lens : ∀ (x : Blks) (v : Int) (b : Its) (f : Env) (r : List (Int × Int)) (l : Int × Int), x.lens f = some r → b.lens f = some l → (x.snoc v b).lens f = some (r ++ [l])
  | .nil, v, b, f, r, l, h, g => by
    simp [Blks.lens] at h
    subst h
    rw [Blks.snoc, lensB_cons, g]
    simp [Blks.lens]
  | .cons w a y, v, b, f, r, l, h, g => by
    rw [lensB_cons] at h
    rw [Blks.snoc, lensB_cons]
    cases ha : a.lens f with
    | none => rw [ha] at h; cases h
    | some c =>
      rw [ha] at h
      cases hy : y.lens f with
      | none => rw [hy] at h; cases h
      | some r2 =>
        rw [hy] at h
        obtain rfl := Option.some.inj h
        simp only [snocB_lens y v b f r2 l hy g, Option.map_some, List.cons_append]
/-! ### what is drawn -/
abbrev Num := Str × Int × Int
def Fits (as : List Num) (f : Env) : Prop := ∀ p ∈ as, f p.1 = some p.2
def EnvOk (f : Env) : Prop := ∀ z p, f z = some p → 0 ≤ p.1 ∧ p.1 ≤ p.2
/-- the names of the items fl are those that were popped and those that were given -/
structure Drn (gs : List Str) (fl : List It) (N N' : List Str) (c c' : Nat) : Prop where
  pops : ∃ ps, N = ps ++ N' ∧ (fl.map It.name).Perm (gs ++ ps)
  chk : c' = c + (fl.filter It.isChk).length
theorem Drn.nil {N : List Str} {c : Nat} : Drn [] [] N N c c := ⟨⟨[], rfl, .refl _⟩, rfl⟩
theorem Drn.app {gs hs : List Str} {fl gl : List It} {N N1 N2 : List Str} {c c1 c2 : Nat} (a : Drn gs fl N N1 c c1) (b : Drn hs gl N1 N2 c1 c2) : Drn (gs ++ hs) (fl ++ gl) N N2 c c2 := by
  obtain ⟨⟨ps, e1, p1⟩, k1⟩ := a
  obtain ⟨⟨qs, e2, p2⟩, k2⟩ := b
  refine ⟨⟨ps ++ qs, by rw [e1, e2, List.append_assoc], ?_⟩, by rw [k2, k1, List.filter_append, List.length_append]; omega⟩
  rw [List.map_append]
  refine (p1.append p2).trans ?_
  rw [List.append_assoc, List.append_assoc]
  refine List.Perm.append_left gs ?_
  rw [← List.append_assoc, ← List.append_assoc]
  exact List.Perm.append_right qs List.perm_append_comm
/-- the names that were given were popped ahead -/
theorem Drn.pop {gs hs : List Str} {fl : List It} {N N' : List Str} {c c' : Nat} (a : Drn (hs ++ gs) fl N N' c c') : Drn gs fl (hs ++ N) N' c c' := by
  obtain ⟨⟨ps, e1, p1⟩, k1⟩ := a
  refine ⟨⟨hs ++ ps, by rw [e1, List.append_assoc], p1.trans ?_⟩, k1⟩
  rw [← List.append_assoc]
  exact List.Perm.append_right ps List.perm_append_comm
theorem Drn.suf {gs : List Str} {fl : List It} {N N' : List Str} {c c' : Nat} (a : Drn gs fl N N' c c') : ∃ ps, N = ps ++ N' := by
  obtain ⟨⟨ps, e1, _⟩, _⟩ := a
  exact ⟨ps, e1⟩
/-- what is around while one draws -/
structure Sit (as : List Num) (N : List Str) (c : Nat) : Prop where
  nd : N.Nodup
  nm : ∀ z ∈ N, isName z = true
  out : ∀ p ∈ as, p.1 ∉ N
  anm : ∀ p ∈ as, isName p.1 = true
  sz : as.length + N.length ≤ 40
  c1 : c ≤ 1
theorem Sit.suf {as : List Num} {ps N : List Str} {c c' : Nat} (s : Sit as (ps ++ N) c) (h : c' ≤ 1) : Sit as N c' :=
  ⟨(List.nodup_append.mp s.nd).2.1, fun z hz => s.nm z (List.mem_append_right _ hz), fun p hp q => s.out p hp (List.mem_append_right _ q), s.anm, by have := s.sz; rw [List.length_append] at this; omega, h⟩
theorem Sit.add {as : List Num} {z : Str} {N : List Str} {c : Nat} {lo hi : Int} (s : Sit as (z :: N) c) : Sit (as ++ [(z, lo, hi)]) N c := by
  have nd := List.nodup_cons.mp s.nd
  refine ⟨nd.2, fun y hy => s.nm y (List.mem_cons_of_mem _ hy), fun p hp q => ?_, fun p hp => ?_, by have := s.sz; rw [List.length_cons] at this; rw [List.length_append, List.length_singleton]; omega, s.c1⟩
  · rcases List.mem_append.mp hp with hp | hp
    · exact s.out p hp (List.mem_cons_of_mem _ q)
    · obtain rfl := List.mem_singleton.mp hp
      exact nd.1 q
  · rcases List.mem_append.mp hp with hp | hp
    · exact s.anm p hp
    · obtain rfl := List.mem_singleton.mp hp
      exact s.nm z (List.mem_cons_self ..)
theorem fits_put {as : List Num} {f : Env} {z : Str} {lo hi : Int} (h : Fits as f) (hz : ∀ p ∈ as, p.1 ≠ z) : Fits (as ++ [(z, lo, hi)]) (f.put z (lo, hi)) := by
  intro p hp
  unfold Env.put
  rcases List.mem_append.mp hp with hp | hp
  · rw [if_neg (hz p hp)]; exact h p hp
  · obtain rfl := List.mem_singleton.mp hp
    rw [if_pos rfl]
theorem env_put {f : Env} {z : Str} {lo hi : Int} (h : EnvOk f) (h0 : 0 ≤ lo) (h1 : lo ≤ hi) : EnvOk (f.put z (lo, hi)) := by
  intro y p e
  unfold Env.put at e
  by_cases c : y = z
  · rw [if_pos c] at e; obtain rfl := Option.some.inj e; exact ⟨h0, h1⟩
  · rw [if_neg c] at e; exact h y p e
/-- one item drawn -/
structure Dr1 (d : Int) (as : List Num) (N N' : List Str) (c c' : Nat) (y : It) : Prop where
  ok : y.ok d = true
  tame : y.tame
  drn : Drn [] y.flat N N' c c'
  c1 : c' ≤ 1
  lens : ∀ f, EnvOk f → Fits as f → ∃ l, y.lens f = some l ∧ 0 ≤ l.1
/-- items drawn so far: bs are the numbers that are visible behind them -/
structure DrS (d : Int) (as bs : List Num) (k : Nat) (N N' : List Str) (c c' : Nat) (x : Its) : Prop where
  len : x.len ≤ k
  len1 : 0 < k → N ≠ [] → 1 ≤ x.len
  ok : x.ok d = true
  tame : x.tame
  drn : Drn [] x.flat N N' c c'
  sit : Sit bs N' c'
  lens : ∀ f, EnvOk f → Fits as f → ∃ l, x.lens f = some l ∧ 0 ≤ l.1 ∧ EnvOk (x.seens f) ∧ Fits bs (x.seens f)
theorem DrS.start {d : Int} {as : List Num} {N : List Str} {c : Nat} (s : Sit as N c) : DrS d as as 0 N N c c .nil :=
  ⟨Nat.le_refl 0, fun h => absurd h (Nat.lt_irrefl 0), by simp [Its.ok], by simp [Its.tame], Drn.nil, s, fun f e h => ⟨(0, 0), by simp [Its.lens], Int.le_refl 0, e, h⟩⟩
theorem DrS.skip {d : Int} {as bs : List Num} {k : Nat} {N N' : List Str} {c c' : Nat} {x : Its} (h : DrS d as bs k N N' c c' x) (e : N' = []) : DrS d as bs (k + 1) N N' c c' x := by
  refine ⟨Nat.le_succ_of_le h.len, fun _ hN => ?_, h.ok, h.tame, h.drn, h.sit, h.lens⟩
  by_cases hk : 0 < k
  · exact h.len1 hk hN
  · exfalso
    have : x.len = 0 := by have := h.len; omega
    cases x with
    | nil =>
      obtain ⟨⟨ps, e1, p1⟩, _⟩ := h.drn
      have : ps = [] := by simpa [Its.flat] using p1.symm.eq_nil
      exact hN (by rw [e1, this, e]; rfl)
    | cons y r => simp [Its.len] at this
theorem numok_in {size low high : Int} {order : Str} (c : numOk size order low high = true) : 0 ≤ low ∧ low ≤ high := by
  unfold numOk at c
  rw [Bool.and_eq_true, Bool.and_eq_true, Bool.and_eq_true] at c
  exact of_decide_eq_true c.2.2.2
/-- one item more, no number -/
theorem DrS.step {d : Int} {as bs : List Num} {k : Nat} {N N1 N2 : List Str} {c c1 c2 : Nat} {x : Its} {y : It} (h : DrS d as bs k N N1 c c1 x) (g : Dr1 d bs N1 N2 c1 c2 y) (hy : ∀ f, y.seen f = f) : DrS d as bs (k + 1) N N2 c c2 (x.snoc y) := by
  obtain ⟨ps, e⟩ := g.drn.suf
  refine ⟨by rw [snoc_len]; have := h.len; omega, fun _ _ => by rw [snoc_len]; omega, by rw [snoc_ok, h.ok, g.ok]; rfl, snoc_tame h.tame g.tame, by rw [snoc_flat]; exact h.drn.app g.drn, (e ▸ h.sit).suf g.c1, fun f ef hf => ?_⟩
  obtain ⟨l, e1, l0, o1, f1⟩ := h.lens f ef hf
  obtain ⟨l2, e2, m0⟩ := g.lens _ o1 f1
  refine ⟨(l.1 + l2.1, l.2 + l2.2), by rw [snoc_lens, e1]; simp only [e2, Option.map_some], by show 0 ≤ l.1 + l2.1; omega, ?_, ?_⟩ <;> rw [snoc_seens, hy]
  · exact o1
  · exact f1
/-- a number more -/
theorem DrS.stepN {d : Int} {as bs : List Num} {k : Nat} {N N1 N2 : List Str} {c c1 c2 : Nat} {x : Its} {n order : Str} {size lo hi : Int} (h : DrS d as bs k N N1 c c1 x) (g : Dr1 d bs N1 N2 c1 c2 (.num n size order lo hi)) : DrS d as (bs ++ [(n, lo, hi)]) (k + 1) N N2 c c2 (x.snoc (.num n size order lo hi)) := by
  obtain ⟨⟨ps, e, pp⟩, ck⟩ := id g.drn
  have eps : ps = [n] := by
    have : [n].Perm ps := by simpa [It.flat, It.name] using pp
    exact this.symm.eq_singleton
  subst eps
  have ec : c2 = c1 := by simpa [It.flat, It.isChk] using ck
  have e : N1 = n :: N2 := e
  have hs : Sit bs (n :: N2) c1 := e ▸ h.sit
  refine ⟨by rw [snoc_len]; have := h.len; omega, fun _ _ => by rw [snoc_len]; omega, by rw [snoc_ok, h.ok, g.ok]; rfl, snoc_tame h.tame g.tame, by rw [snoc_flat]; exact h.drn.app g.drn, by rw [ec]; exact hs.add, fun f ef hf => ?_⟩
  obtain ⟨l, e1, l0, o1, f1⟩ := h.lens f ef hf
  obtain ⟨l2, e2, m0⟩ := g.lens _ o1 f1
  have nin := num_in e2
  refine ⟨(l.1 + l2.1, l.2 + l2.2), by rw [snoc_lens, e1]; simp only [e2, Option.map_some], by show 0 ≤ l.1 + l2.1; omega, ?_, ?_⟩ <;> rw [snoc_seens]
  · exact env_put o1 nin.1 nin.2
  · exact fits_put f1 fun p hp q => hs.out p hp (by rw [q]; exact List.mem_cons_self ..)
/-- a block: gs is the name of its first number, if it has one -/
structure DrB (d : Int) (as : List Num) (gs N N' : List Str) (c c' : Nat) (x : Its) : Prop where
  len : x.len ≤ 12
  ok : x.ok d = true
  tame : x.tame
  drn : Drn gs x.flat N N' c c'
  c1 : c' ≤ 1
  lens : ∀ f, EnvOk f → Fits as f → ∃ l, x.lens f = some l ∧ 0 ≤ l.1 ∧ (gs ≠ [] → 1 ≤ l.1)
theorem DrS.block {d : Int} {as bs : List Num} {k : Nat} {N N' : List Str} {c c' : Nat} {x : Its} (h : DrS d as bs k N N' c c' x) (hk : k ≤ 12) : DrB d as [] N N' c c' x :=
  ⟨Nat.le_trans h.len hk, h.ok, h.tame, h.drn, h.sit.c1, fun f ef hf => by obtain ⟨l, a, b, _⟩ := h.lens f ef hf; exact ⟨l, a, b, fun z => absurd rfl z⟩⟩
theorem num_lens {n order : Str} {size lo hi : Int} (hn : numOk size order lo hi = true) (f : Env) : It.lens f (.num n size order lo hi) = some (size, size) ∧ 1 ≤ size := by
  refine ⟨by simp only [It.lens]; rw [if_pos hn], ?_⟩
  unfold numOk at hn
  rw [Bool.and_eq_true] at hn
  exact (of_decide_eq_true hn.1).1
theorem DrS.blockN {d : Int} {as bs : List Num} {k : Nat} {n order : Str} {size lo hi : Int} {N N' : List Str} {c c' : Nat} {x : Its} (hd : d ≤ 3) (hnm : isName n = true) (hln : n.length ≤ 1000) (hout : ∀ p ∈ as, p.1 ≠ n) (hn : numOk size order lo hi = true)
    (h : DrS d (as ++ [(n, lo, hi)]) bs k N N' c c' x) (hk : k ≤ 11) : DrB d as [n] N N' c c' (.cons (.num n size order lo hi) x) := by
  refine ⟨by show x.len + 1 ≤ 12; have := h.len; omega, ?_, ?_, ?_, h.sit.c1, fun f ef hf => ?_⟩
  · rw [Its.ok, h.ok, It.ok]
    · simp [It.name, hnm, hd]
    all_goals simp
  · simp only [Its.tame, It.tame]
    exact ⟨hln, h.tame⟩
  · have : Drn [n] (It.flat (.num n size order lo hi)) N N c c := ⟨⟨[], rfl, by simp [It.flat, It.name]⟩, by simp [It.flat, It.isChk]⟩
    rw [Its.flat]
    exact this.app h.drn
  · obtain ⟨e1, s1⟩ := num_lens (n := n) hn f
    have nin := numok_in hn
    obtain ⟨l, e2, l0, _⟩ := h.lens (f.put n (lo, hi)) (env_put ef nin.1 nin.2) (fits_put hf hout)
    refine ⟨(size + l.1, size + l.2), ?_, by show 0 ≤ size + l.1; omega, fun _ => by show 1 ≤ size + l.1; omega⟩
    rw [lens_cons, e1]
    simp only [It.seen, e2, Option.map_some]
end Bs

set_option Elab.async false
set_option linter.all false
set_option maxRecDepth 100000
set_option maxHeartbeats 4000000
namespace Bs
open PySem L2
/-! ### the law's defs, from the place lb on -/
abbrev lb : Nat := 45
abbrev sLawNext : Stmt := top (lb + 2)
abbrev sLawBegin : Stmt := top (lb + 3)
abbrev sLawNumber : Stmt := top (lb + 4)
abbrev sLawUse : Stmt := top (lb + 5)
abbrev sLawBlock : Stmt := top (lb + 6)
abbrev sLawNested : Stmt := top (lb + 7)
abbrev sLawItem : Stmt := top (lb + 8)
abbrev sLawItems : Stmt := top (lb + 9)
abbrev sLawBlocks : Stmt := top (lb + 10)
abbrev sLawFrozen : Stmt := top (lb + 11)
abbrev sLawWalk : Stmt := top (lb + 12)
/-! ### the law's own numbers -/
/-- small numbers -/
def Nb (ns : List Int) : Prop := ∀ n ∈ ns, 0 ≤ n ∧ n < 1009
theorem Nb.nil : Nb [] := fun _ h => by cases h
theorem Nb.snoc {ns : List Int} {i : Int} (h : Nb ns) (hi : 0 ≤ i ∧ i < 1009) : Nb (ns ++ [i]) := fun n hn => (List.mem_append.mp hn).elim (h n) fun k => by rw [List.mem_singleton.mp k]; exact hi
theorem Nb.take {ns : List Int} (h : Nb ns) (k : Nat) : Nb (ns.take k) := fun n hn => h n (List.mem_of_mem_take hn)
theorem mod_nb (x : Int) : 0 ≤ x % 1009 ∧ x % 1009 < 1009 := ⟨Int.emod_nonneg x (by decide), Int.emod_lt_of_pos x (by decide)⟩
/-- ints of any size come back, so many -/
def spRow : Sp := fun vs H Q _ => ∃ c m : Int, vs = [.int c, .int m] ∧ 0 ≤ m ∧ m ≤ 200 ∧ ∀ p (ns : List Int) H', Same H H' → H p = none → H' p = some (.lst (ns.map V.int)) → ns.length = m.toNat → Nb ns → Q (.ref p) H'
def spNums (K : PySem.W.Frag) : Sp := fun vs H Q _ => ∃ (a : Addr) (ns : List Int), vs = [.ref a, .int 160] ∧ SqL K H a (ns.map V.int) ∧ ns.length ≤ 63 ∧ ∀ p (rs : List Int) H', Same H H' → H' p = some (.lst (rs.map V.int)) → rs.length = 160 → Nb rs → Q (.ref p) H'
section
variable {P : Program} {w : World} {K : PySem.W.Frag} {mg : Str → Option Value} {base : Heap} {f C : Addr} {fd : FuncData}
abbrev nLawRow : List Str := ["cell", "many", "row", "rest", "mixed", "k"]
theorem scLawRow : FnScope nLawRow ["cell", "many"] (defScope sLawRow) := ⟨rfl, rfl, rfl, by decide +kernel, rfl, by decide +kernel, by decide +kernel⟩
theorem map_snoc (ns : List Int) (i : Int) : ns.map V.int ++ [V.int i] = (ns ++ [i]).map V.int := by rw [List.map_append]; rfl
theorem ok_lawrow (F : Fun K "_law_row" "_law_row" sLawRow f fd) (mabs : mg "abs" = none) (mint : mg "int" = none) (mr : mg "range" = none) : FnOk P w K mg base CX0 1 f fd ["cell", "many"] spRow := by
  refine F.ok scLawRow (fun vs H Q E h => ?_) (fun cdv A outer s H vs Q E hr h => ?_)
  · obtain ⟨c, m, rfl, _⟩ := h
    rfl
  · obtain ⟨c, m, rfl, h0, h1, q⟩ := h
    refine ⟨_, pss_cons (ps_set (i := 2) scLawRow.nd rfl (.inl rfl) (pe_lst pa_nil))
      (pss_cons (ps_set (i := 3) scLawRow.nd rfl (.inl rfl) (pe_callB call_abs (by rfl) mabs (by decide +kernel) (pa_cons (pv 0) pa_nil)))
      (pss_cons (ps_set (i := 4) scLawRow.nd rfl (.inl rfl) (pe_op op_mod (pe_callTy call_int1 (by rfl) mint (by decide +kernel) (pa_cons (pe_op op_add (pe_op op_mul (pv 3) pe_int) pe_int) pa_nil)) pe_int))
      (pss_cons (ps_for PassesOwn.never rfl (pi_range1 (by rfl) mr (pa_cons (pv 1) pa_nil)) (pg_name (i := 5) scLawRow.nd rfl (.inl rfl))
        (pss_cons (ps_set (i := 4) scLawRow.nd rfl (.inl rfl) (pe_op op_mod (pe_callTy call_int1 (by rfl) mint (by decide +kernel) (pa_cons (pe_op op_add (pe_op op_mul (pv 4) pe_int) (pe_op op_mul pe_int (pe_op op_add (pv 5) pe_int))) pa_nil)) pe_int))
        (pss_one (ps_if (pt_cmpR op_ge (pe_callB call_abs (by rfl) mabs (by decide +kernel) (pa_cons (pv 0) pa_nil)) (pe_op op_pow pe_int pe_int) (nomark _))
          (pss_cons (ps_expr (pe_bm PySem.F.plainAttrs_list PySem.F.slot_list_append PySem.F.type_list_append mt_append (pv 2) (pa_cons (pe_op op_mod (pe_callTy call_int1 (by rfl) mint (by decide +kernel) (pa_cons (pv 3) pa_nil)) pe_int) pa_nil)))
            (pss_one (ps_set (i := 3) scLawRow.nd rfl (.inl rfl) (pe_op op_fdiv (pv 3) pe_int))))
          (pss_one (ps_expr (pe_bm PySem.F.plainAttrs_list PySem.F.slot_list_append PySem.F.type_list_append mt_append (pv 2) (pa_cons (pe_op op_mod (pe_callTy call_int1 (by rfl) mint (by decide +kernel) (pa_cons (pe_op op_fdiv (pv 4) pe_int) pa_nil)) pe_int) pa_nil))))))))
      (pss_one (ps_ret (pv 2)))))), ?_⟩
    refine ⟨(by show 0 ≤ sizeLine; decide), fun D hD => ?_⟩
    refine ⟨_, rfl, _, rfl, _, rfl, _, _, rfl, rfl, .inr ⟨by decide, by decide⟩, _, _, rfl, rfl, .inl ⟨_, rfl, _, _, rfl, rfl, (by show (0 : Int) < 2147483647; decide), ?_⟩⟩
    refine ⟨_, rfl, m, rfl, by omega, by omega, for_range (lo := 0) (n := m.toNat) (fun i σ H' => ∃ rest mixed k5, σ = [some (.int c), some (.int m), some (.ref D), some (.int rest), some (.int mixed), k5] ∧ Same H H' ∧ ∃ ns : List Int, ns.length = i ∧ Nb ns ∧ H' D = some (.lst (ns.map V.int)))
      ⟨_, _, none, rfl, same_new hD _, [], rfl, Nb.nil, upd_same⟩ ?_ ?_⟩
    · rintro i σ H2 hi ⟨rest, mixed, k5, rfl, s2, ns, hn, hb, hD2⟩
      refine ⟨_, rfl, _, _, rfl, rfl, .inr ⟨by decide, by decide⟩, _, rfl, _, _, rfl, rfl, _, _, rfl, rfl, .inl ⟨by decide, by decide⟩, _, _, rfl, rfl, .inl ⟨_, rfl, _, _, rfl, rfl, (by show (0 : Int) < 2147483629; decide), ?_⟩⟩
      have hz : (ns.map V.int).length < sizeLine := small1000 (by rw [List.length_map]; omega)
      refine ⟨_, rfl, _, rfl, _, _, rfl, rfl, ⟨by decide, by decide, by decide⟩, _, _, rfl, rfl, _, rfl, ite2 (fun _ => ?_) (fun _ => ?_)⟩
      · refine ⟨_, rfl, .inl ⟨rfl, _, SqL.of hD2⟩, _, rfl, .inl ⟨_, rfl, _, _, rfl, rfl, (by show (0 : Int) < 1009; decide), D, _, _, rfl, rfl, hD2, hz, ?_⟩⟩
        rw [map_snoc]
        refine ⟨_, rfl, _, _, rfl, rfl, ⟨by decide, by decide⟩, ?_⟩
        exact ⟨_, _, _, rfl, same_set s2 hD, _, by rw [List.length_append, hn]; rfl, hb.snoc (mod_nb _), upd_same⟩
      · refine ⟨_, rfl, .inl ⟨rfl, _, SqL.of hD2⟩, _, rfl, _, _, rfl, rfl, ⟨by decide, by decide⟩, .inl ⟨_, rfl, _, _, rfl, rfl, (by show (0 : Int) < 1009; decide), D, _, _, rfl, rfl, hD2, hz, ?_⟩⟩
        rw [map_snoc]
        exact ⟨_, _, _, rfl, same_set s2 hD, _, by rw [List.length_append, hn]; rfl, hb.snoc (mod_nb _), upd_same⟩
    · rintro σ H2 ⟨rest, mixed, k5, rfl, s2, ns, hn, hb, hD2⟩
      exact ⟨_, rfl, q D ns H2 s2 hD hD2 hn hb⟩
theorem cut_ints (ns : List Int) (h : Nat) : cutV (ns.map V.int) none (some (h : Int)) = (ns.take h).map V.int := by
  unfold cutV
  rw [HT.sIx_none, HT.sIx_nat, List.drop_zero, Nat.sub_zero, List.map_take]
  by_cases hh : h ≤ (ns.map V.int).length
  · rw [Nat.min_eq_left hh]
  · rw [Nat.min_eq_right (by omega), List.take_length, List.take_of_length_le (by omega)]
abbrev nLawNums : List Str := ["script", "many", "cells", "each", "numbers", "cell", "number"]
theorem scLawNums : FnScope nLawNums ["script", "many"] (defScope sLawNumbers) := ⟨rfl, rfl, rfl, by decide +kernel, rfl, by decide +kernel, by decide +kernel⟩
theorem ok_lawnums {k : Nat} (hk : 1 ≤ k) (F : Fun K "_law_numbers" "_law_numbers" sLawNumbers f fd) (gR : Cal P w K mg base CX0 1 "_law_row" ["cell", "many"] spRow) (mmax : mg "max" = none) (ml : mg "len" = none) : FnOk P w K mg base CX0 2 f fd ["script", "many"] (spNums K) := by
  refine F.ok scLawNums (fun vs H Q E h => ?_) (fun cdv A outer s H vs Q E hr h => ?_)
  · obtain ⟨a, ns, rfl, _⟩ := h
    rfl
  · obtain ⟨a, ns, rfl, ha, hlen, q⟩ := h
    refine ⟨_, pss_cons (ps_set (i := 2) scLawNums.nd rfl (.inl rfl) (pe_slice sl_list (pv 0) po_none (po_some pe_int)))
      (pss_cons (ps_set (i := 3) scLawNums.nd rfl (.inl rfl) (pe_op op_add pe_int (pe_op op_fdiv (pv 1) (pe_callB (call_max2 rfl) (by rfl) mmax (by decide +kernel) (pa_cons pe_int (pa_cons (pe_callB call_len (by rfl) ml boot_len (pa_cons (pv 2) pa_nil)) pa_nil))))))
      (pss_cons (ps_set (i := 4) scLawNums.nd rfl (.inl rfl) (pe_lst pa_nil))
      (pss_cons (ps_for PassesOwn.never rfl (pi_list (pv 2)) (pg_name (i := 5) scLawNums.nd rfl (.inl rfl))
        (pss_one (ps_for PassesOwn.never rfl (pi_list (pe_cal gR (hr.mono (by decide)) pass0 (pa_cons (pv 5) (pa_cons (pv 3) pa_nil)))) (pg_name (i := 6) scLawNums.nd rfl (.inl rfl))
          (pss_one (ps_expr (pe_bm PySem.F.plainAttrs_list PySem.F.slot_list_append PySem.F.type_list_append mt_append (pv 4) (pa_cons (pv 6) pa_nil)))))))
      (pss_cons (ps_while PassesOwn.never (pt_cmpR op_lt (pe_callB call_len (by rfl) ml boot_len (pa_cons (pv 4) pa_nil)) (pv 1) (nomark _))
        (pss_one (ps_expr (pe_bm PySem.F.plainAttrs_list PySem.F.slot_list_append PySem.F.type_list_append mt_append (pv 4) (pa_cons pe_int pa_nil)))))
      (pss_one (ps_ret (pe_slice sl_list (pv 4) po_none (po_some (pv 1))))))))), ?_⟩
    refine ⟨_, rfl, 63, rfl, a, _, rfl, ha, fun pc hpc => ?_⟩
    rw [show ((63 : Int) = ((63 : Nat) : Int)) from rfl, cut_ints]
    have lc : (ns.take 63).length ≤ 63 := by rw [List.length_take]; omega
    generalize hcs : ns.take 63 = cs at lc ⊢
    have s1 := same_new hpc (.lst (cs.map V.int))
    have hc1 : upd H pc (.lst (cs.map V.int)) pc = some (.lst (cs.map V.int)) := upd_same
    generalize upd H pc _ = H1 at s1 hc1 ⊢
    refine ⟨_, rfl, _, rfl, _, _, rfl, .inl ⟨_, SqL.of hc1, rfl⟩, _, _, rfl, ?_⟩
    rw [List.length_map]
    have hmx : (1 : Int) ≤ (if (cs.length : Int) > 1 then (cs.length : Int) else 1) ∧ (if (cs.length : Int) > 1 then (cs.length : Int) else 1) ≤ 63 := by split <;> omega
    generalize hmm : (if (cs.length : Int) > 1 then (cs.length : Int) else 1) = mx at hmx
    have he : (1 : Int) ≤ 1 + 160 / mx ∧ 1 + 160 / mx ≤ 161 := by
      have h1 : (0 : Int) ≤ 160 / mx := Int.ediv_nonneg (by decide) (by omega)
      have h2 : (160 : Int) / mx ≤ 160 := Int.ediv_le_self _ (by decide)
      omega
    refine ⟨_, _, rfl, rfl, ⟨by omega, by omega⟩, _, _, rfl, rfl, ?_⟩
    refine ⟨(by show 0 ≤ sizeLine; decide), fun D hD => ?_⟩
    have zz : ∀ n : Nat, n ≤ 20000 → n < sizeLine := fun n h => Nat.lt_of_le_of_lt h (by decide)
    refine ⟨_, rfl, pc, rfl, ⟨_, SqL.of (same_new hD (.lst []) _ _ hc1)⟩, for_list (K := K) (a := pc) (xs := cs.map V.int) (fun i σ H' => ∃ i5 i6, σ = [some (.ref a), some (.int 160), some (.ref pc), some (.int (1 + 160 / mx)), some (.ref D), i5, i6] ∧ Same H1 H' ∧ ∃ ms : List Int, ms.length ≤ i * 161 ∧ Nb ms ∧ H' D = some (.lst (ms.map V.int)))
      ⟨none, none, rfl, same_new hD _, [], Nat.le_refl _, Nb.nil, upd_same⟩ (fun i σ H' _ z => by obtain ⟨_, _, _, z, _⟩ := z; exact SqL.of (z _ _ hc1)) ?_ ?_⟩
    · rintro i v σ H2 hi ⟨i5, i6, rfl, s2, ms, hm, hb, hD2⟩
      have hil : i < (cs.map V.int).length := (List.getElem?_eq_some_iff.mp hi).1
      rw [List.length_map] at hil
      obtain ⟨z, rfl⟩ : ∃ z, v = V.int z := by
        rw [List.getElem?_map] at hi
        cases e : cs[i]? with
        | none => rw [e] at hi; cases hi
        | some z => rw [e] at hi; exact ⟨z, (Option.some.inj hi).symm⟩
      refine ⟨_, rfl, _, rfl, z, _, rfl, by omega, by omega, fun pr rs H3 s3 hnew hr3 hrl hrb => ?_⟩
      refine ⟨pr, rfl, ⟨_, SqL.of hr3⟩, for_list (K := K) (a := pr) (xs := rs.map V.int) (fun j σ H' => ∃ i6, σ = [some (.ref a), some (.int 160), some (.ref pc), some (.int (1 + 160 / mx)), some (.ref D), some (.int z), i6] ∧ Same H1 H' ∧ H' pr = some (.lst (rs.map V.int)) ∧ pr ≠ D ∧ ∃ ms : List Int, ms.length ≤ i * 161 + j ∧ Nb ms ∧ H' D = some (.lst (ms.map V.int)))
        ⟨_, rfl, s2.trans s3, hr3, ?_, ms, by omega, hb, s3 _ _ hD2⟩ (fun j σ H' _ z => by obtain ⟨_, _, _, z, _⟩ := z; exact SqL.of z) ?_ ?_⟩
      · exact fun z => ne_of_none hD2 hnew z.symm
      · rintro j v σ H4 hj ⟨i6, rfl, s4, hr4, ne, ms', hm', hb', hD4⟩
        have hjl : j < (rs.map V.int).length := (List.getElem?_eq_some_iff.mp hj).1
        rw [List.length_map] at hjl
        obtain ⟨y, rfl, hy⟩ : ∃ z, v = V.int z ∧ (0 ≤ z ∧ z < 1009) := by
          rw [List.getElem?_map] at hj
          cases e : rs[j]? with
          | none => rw [e] at hj; cases hj
          | some z => rw [e] at hj; exact ⟨z, (Option.some.inj hj).symm, hrb z (List.mem_of_getElem? e)⟩
        refine ⟨_, rfl, .inl ⟨rfl, _, SqL.of hD4⟩, _, rfl, D, _, _, rfl, rfl, hD4, zz _ (by rw [List.length_map]; omega), ?_⟩
        rw [map_snoc]
        exact ⟨_, rfl, same_set s4 hD, by rw [upd_ne ne]; exact hr4, ne, _, by rw [List.length_append]; simp; omega, hb'.snoc hy, upd_same⟩
      · rintro σ H4 ⟨i6, rfl, s4, hr4, ne, ms', hm', hb', hD4⟩
        rw [List.length_map] at hm'
        exact ⟨_, _, rfl, s4, ms', by omega, hb', hD4⟩
    · rintro σ H2 ⟨i5, i6, rfl, s2, ms, hm, hb, hD2⟩
      rw [List.length_map] at hm
      refine ⟨fun m σ H' => σ = [some (.ref a), some (.int 160), some (.ref pc), some (.int (1 + 160 / mx)), some (.ref D), i5, i6] ∧ Same H1 H' ∧ ∃ ms : List Int, ms.length ≤ 10200 ∧ m = 160 - ms.length ∧ Nb ms ∧ H' D = some (.lst (ms.map V.int)), ⟨_, rfl, s2, ms, by omega, rfl, hb, hD2⟩, ?_⟩
      rintro m σ H3 ⟨rfl, s3, ms', hm', rfl, hb', hD3⟩
      refine ⟨_, rfl, _, _, rfl, .inl ⟨_, SqL.of hD3, rfl⟩, _, rfl, _, _, rfl, rfl, _, rfl, ite2 (fun e => ?_) (fun e => ?_)⟩
      · have e := of_decide_eq_true e
        rw [List.length_map] at e
        refine ⟨_, fun σ' H' z => z, ?_⟩
        refine ⟨_, rfl, .inl ⟨rfl, _, SqL.of hD3⟩, D, _, _, rfl, rfl, hD3, zz _ (by rw [List.length_map]; omega), ?_⟩
        rw [show ms'.map V.int ++ [V.int 0] = (ms' ++ [0]).map V.int from map_snoc _ _]
        exact ⟨160 - (ms' ++ [0]).length, by rw [List.length_append]; simp; omega, rfl, same_set s3 hD, _, by rw [List.length_append]; simp; omega, rfl, hb'.snoc ⟨by decide, by decide⟩, upd_same⟩
      · have e : ¬ _ := fun z => e (decide_eq_true z)
        rw [List.length_map] at e
        refine ⟨_, rfl, _, rfl, 160, rfl, D, _, rfl, SqL.of hD3, fun r hr4 => ?_⟩
        rw [show ((160 : Int) = ((160 : Nat) : Int)) from rfl, cut_ints]
        exact q r (ms'.take 160) _ (s1.trans (s3.trans (same_new hr4 _))) upd_same (by rw [List.length_take]; omega) (hb'.take _)
end
end Bs

set_option Elab.async false
set_option linter.all false
set_option maxRecDepth 100000
set_option maxHeartbeats 4000000
namespace Bs
open PySem L2
/-! ### the heap while one draws -/
structure Dr4 where
  a : Addr
  u : Addr
  nl : Addr
  ml : Addr
/-- the heap without what the drawing changes -/
def Dr4.hid (D : Dr4) (H : Hp) : Hp := fun b => if b = D.a ∨ b = D.nl ∨ b = D.ml then none else H b
def Dr4.has (D : Dr4) (b : Addr) : Prop := b = D.a ∨ b = D.u ∨ b = D.nl ∨ b = D.ml
structure DAt (D : Dr4) (H : Hp) (N : List Str) (c : Nat) : Prop where
  a : ∃ i : Int, H D.a = some (.lst [.ref D.u, .int i, .ref D.nl, .ref D.ml])
  u : ∃ ns : List Int, H D.u = some (.lst (ns.map V.int)) ∧ ns.length = 160
  nl : H D.nl = some (.lst (N.map V.str))
  ml : ∃ ms : List V, H D.ml = some (.lst ms) ∧ ms.length = c
  d1 : D.a ≠ D.nl
  d2 : D.a ≠ D.ml
  d3 : D.nl ≠ D.ml
  d4 : D.u ≠ D.a
  d5 : D.u ≠ D.nl
  d6 : D.u ≠ D.ml
theorem hid_same {D : Dr4} {H H' : Hp} (s : Same H H') : Same (D.hid H) (D.hid H') := fun b o e => by
  unfold Dr4.hid at e ⊢
  by_cases c : b = D.a ∨ b = D.nl ∨ b = D.ml
  · rw [if_pos c] at e; cases e
  · rw [if_neg c] at e ⊢; exact s b o e
theorem hid_le {D : Dr4} {H : Hp} : Same (D.hid H) H := fun b o e => by
  unfold Dr4.hid at e
  by_cases c : b = D.a ∨ b = D.nl ∨ b = D.ml
  · rw [if_pos c] at e; cases e
  · rw [if_neg c] at e; exact e
theorem hid_at {D : Dr4} {H : Hp} {b : Addr} (h : ¬ D.has b) : D.hid H b = H b := by
  unfold Dr4.hid
  rw [if_neg fun q => h (q.elim .inl fun q => .inr (.inr q))]
theorem hid_none {D : Dr4} {H : Hp} {b : Addr} (h : H b = none) : D.hid H b = none := by
  unfold Dr4.hid
  by_cases c : b = D.a ∨ b = D.nl ∨ b = D.ml
  · rw [if_pos c]
  · rw [if_neg c]; exact h
theorem hid_upd {D : Dr4} {H : Hp} {b : Addr} {o : HO} (h : ¬ D.has b) : D.hid (upd H b o) = upd (D.hid H) b o := by
  funext x
  by_cases e : x = b
  · subst e; rw [hid_at h, upd_same, upd_same]
  · rw [upd_ne e]
    unfold Dr4.hid
    rw [upd_ne e]
theorem hid_own {D : Dr4} {H : Hp} {b : Addr} {o : HO} (h : b = D.a ∨ b = D.nl ∨ b = D.ml) : D.hid (upd H b o) = D.hid H := by
  funext x
  unfold Dr4.hid
  by_cases c : x = D.a ∨ x = D.nl ∨ x = D.ml
  · rw [if_pos c, if_pos c]
  · rw [if_neg c, if_neg c, upd_ne fun e => c (by rw [e]; exact h)]
theorem DAt.fresh {D : Dr4} {H : Hp} {N : List Str} {c : Nat} (d : DAt D H N c) {p : Addr} (h : H p = none) : ¬ D.has p := by
  obtain ⟨⟨i, a⟩, ⟨ns, u, _⟩, nl, ⟨ms, ml, _⟩, _⟩ := d
  rintro (e | e | e | e) <;> subst e
  · rw [a] at h; cases h
  · rw [u] at h; cases h
  · rw [nl] at h; cases h
  · rw [ml] at h; cases h
theorem DAt.same {D : Dr4} {H H' : Hp} {N : List Str} {c : Nat} (d : DAt D H N c) (s : Same H H') : DAt D H' N c := by
  obtain ⟨⟨i, a⟩, ⟨ns, u, ul⟩, nl, ⟨ms, ml, mlen⟩, d1, d2, d3, d4, d5, d6⟩ := d
  exact ⟨⟨i, s _ _ a⟩, ⟨ns, s _ _ u, ul⟩, s _ _ nl, ⟨ms, s _ _ ml, mlen⟩, d1, d2, d3, d4, d5, d6⟩
theorem DAt.off {D : Dr4} {H : Hp} {N : List Str} {c : Nat} (d : DAt D H N c) {b : Addr} {o : HO} (h : ¬ D.has b) : DAt D (upd H b o) N c := by
  have n1 : D.a ≠ b := fun e => h (.inl e.symm)
  have n2 : D.u ≠ b := fun e => h (.inr (.inl e.symm))
  have n3 : D.nl ≠ b := fun e => h (.inr (.inr (.inl e.symm)))
  have n4 : D.ml ≠ b := fun e => h (.inr (.inr (.inr e.symm)))
  obtain ⟨⟨i, a⟩, ⟨ns, u, ul⟩, nl, ⟨ms, ml, mlen⟩, d1, d2, d3, d4, d5, d6⟩ := d
  exact ⟨⟨i, (upd_ne n1).trans a⟩, ⟨ns, (upd_ne n2).trans u, ul⟩, (upd_ne n3).trans nl, ⟨ms, (upd_ne n4).trans ml, mlen⟩, d1, d2, d3, d4, d5, d6⟩
theorem DAt.tick {D : Dr4} {H : Hp} {N : List Str} {c : Nat} (d : DAt D H N c) (i : Int) : DAt D (upd H D.a (.lst [.ref D.u, .int i, .ref D.nl, .ref D.ml])) N c := by
  obtain ⟨_, ⟨ns, u, ul⟩, nl, ⟨ms, ml, mlen⟩, d1, d2, d3, d4, d5, d6⟩ := d
  exact ⟨⟨i, upd_same⟩, ⟨ns, (upd_ne d4).trans u, ul⟩, (upd_ne d1.symm).trans nl, ⟨ms, (upd_ne d2.symm).trans ml, mlen⟩, d1, d2, d3, d4, d5, d6⟩
theorem DAt.pop {D : Dr4} {H : Hp} {z : Str} {N : List Str} {c : Nat} (d : DAt D H (z :: N) c) : DAt D (upd H D.nl (.lst (N.map V.str))) N c := by
  obtain ⟨⟨i, a⟩, ⟨ns, u, ul⟩, nl, ⟨ms, ml, mlen⟩, d1, d2, d3, d4, d5, d6⟩ := d
  exact ⟨⟨i, (upd_ne d1).trans a⟩, ⟨ns, (upd_ne d5).trans u, ul⟩, upd_same, ⟨ms, (upd_ne d3.symm).trans ml, mlen⟩, d1, d2, d3, d4, d5, d6⟩
theorem DAt.mark {D : Dr4} {H : Hp} {N : List Str} {c : Nat} (d : DAt D H N c) {ms : List V} (h : ms.length = c) (v : V) : DAt D (upd H D.ml (.lst (ms ++ [v]))) N (c + 1) := by
  obtain ⟨⟨i, a⟩, ⟨ns, u, ul⟩, nl, _, d1, d2, d3, d4, d5, d6⟩ := d
  exact ⟨⟨i, (upd_ne d2).trans a⟩, ⟨ns, (upd_ne d6).trans u, ul⟩, (upd_ne d3).trans nl, ⟨_, upd_same, by rw [List.length_append, h]; rfl⟩, d1, d2, d3, d4, d5, d6⟩
/-- a new object -/
theorem DAt.new {D : Dr4} {H : Hp} {N : List Str} {c : Nat} (d : DAt D H N c) {p : Addr} (h : H p = none) (o : HO) : DAt D (upd H p o) N c ∧ Same (D.hid H) (D.hid (upd H p o)) ∧ D.hid (upd H p o) p = some o :=
  ⟨d.off (d.fresh h), hid_same (same_new h o), by rw [hid_at (d.fresh h)]; exact upd_same⟩
theorem same_eq {H H' : Hp} (e : H' = H) : Same H H' := fun b o h => by rw [e]; exact h
/-- what is new since H -/
def neu (H H' : Hp) : Hp := fun b => match H b with
  | none => H' b
  | some _ => none
theorem neu_at {H H' : Hp} {b : Addr} (h : H b = none) : neu H H' b = H' b := by unfold neu; rw [h]
theorem neu_in {H H' : Hp} {b : Addr} {o : HO} (h : neu H H' b = some o) : H b = none ∧ H' b = some o := by
  unfold neu at h
  cases e : H b with
  | none => rw [e] at h; exact ⟨rfl, h⟩
  | some _ => rw [e] at h; cases h
theorem neu_le {H H' : Hp} : Same (neu H H') H' := fun _ _ e => (neu_in e).2
theorem neu_hid {D : Dr4} {H H' : Hp} {N : List Str} {c : Nat} (d : DAt D H N c) : Same (neu H H') (D.hid H') := fun b o e => by
  obtain ⟨e1, e2⟩ := neu_in e
  rw [hid_at (d.fresh e1)]
  exact e2
theorem neu_mono {D : Dr4} {H0 H1 H2 H3 : Hp} {N : List Str} {c : Nat} (d : DAt D H1 N c) (h : ∀ b, H1 b = none → H0 b = none) (s : Same (D.hid H2) (D.hid H3)) : Same (neu H1 H2) (neu H0 H3) := fun b o e => by
  obtain ⟨e1, e2⟩ := neu_in e
  have nb := d.fresh e1
  have := s b o (by rw [hid_at nb]; exact e2)
  rw [neu_at (h b e1)]
  rw [hid_at nb] at this
  exact this
theorem neu_own {H0 H : Hp} {b : Addr} {o : HO} (h : H0 b ≠ none) : neu H0 (upd H b o) = neu H0 H := by
  funext x
  unfold neu
  cases e : H0 x with
  | some _ => rfl
  | none => exact upd_ne fun q => h (by rw [← q]; exact e)
theorem free_of {D : Dr4} {H H' : Hp} {N : List Str} {c : Nat} (d : DAt D H' N c) (s : Same (D.hid H) (D.hid H')) {r : Addr} (h : H' r = none) : H r = none := by
  cases e : H r with
  | none => rfl
  | some o =>
    exfalso
    have k := d.fresh h
    have := s r o (by rw [hid_at k]; exact e)
    rw [hid_at k, h] at this
    cases this
/-! ### numbers ahead -/
abbrev NumsAt (G : Hp) : List V → List Num → Prop := Paired fun v p => ∃ t size order, v = .ref t ∧ G t = some (.tup [.str "number", .str p.1, .int size, .str order, .int p.2.1, .int p.2.2])
theorem NumsAt.same {G G' : Hp} (s : Same G G') : ∀ {l : List V} {r : List Num}, NumsAt G l r → NumsAt G' l r
  | _, _, .nil => .nil
  | _, _, .cons ⟨t, z, o, e, h⟩ r => .cons ⟨t, z, o, e, s _ _ h⟩ (NumsAt.same s r)
theorem NumsAt.kp {G G' : Hp} (s : Kp true G G') : ∀ {l : List V} {r : List Num}, NumsAt G l r → NumsAt G' l r
  | _, _, .nil => .nil
  | _, _, .cons ⟨t, z, o, e, h⟩ r => .cons ⟨t, z, o, e, s.t _ _ h⟩ (NumsAt.kp s r)
theorem NumsAt.len {G : Hp} : ∀ {l : List V} {r : List Num}, NumsAt G l r → l.length = r.length
  | _, _, .nil => rfl
  | _, _, .cons _ t => by simp [NumsAt.len t]
theorem NumsAt.get {G : Hp} : ∀ {l : List V} {r : List Num} {i : Nat} {v : V}, NumsAt G l r → l[i]? = some v → ∃ z lo hi t size order, r[i]? = some (z, lo, hi) ∧ v = .ref t ∧ G t = some (.tup [.str "number", .str z, .int size, .str order, .int lo, .int hi])
  | _, _, _, _, .nil, e => by simp at e
  | _, _, 0, _, .cons (b := (z, lo, hi)) ⟨t, sz, o, e0, h⟩ _, e => by simp at e; subst e; exact ⟨z, lo, hi, t, sz, o, by simp, e0, h⟩
  | _, _, i + 1, _, .cons _ t, e => by obtain ⟨z, lo, hi, tt, sz, o, h⟩ := NumsAt.get (i := i) t (by simpa using e); exact ⟨z, lo, hi, tt, sz, o, by simpa using h.1, h.2⟩
theorem NumsAt.app {G : Hp} {v : V} {p : Num} (h : ∃ t size order, v = .ref t ∧ G t = some (.tup [.str "number", .str p.1, .int size, .str order, .int p.2.1, .int p.2.2])) : ∀ {l : List V} {r : List Num}, NumsAt G l r → NumsAt G (l ++ [v]) (r ++ [p])
  | _, _, .nil => .cons h .nil
  | _, _, .cons q t => .cons q (NumsAt.app h t)
/-! ### the promises of what draws -/
def spNext : Sp := fun vs H Q _ => ∃ (D : Dr4) (N : List Str) (c : Nat) (m : Int), vs = [.ref D.a, .int m] ∧ DAt D H N c ∧ 0 < m ∧ ∀ r H', 0 ≤ r → r < m → D.hid H' = D.hid H → DAt D H' N c → Q (.int r) H'
def spNumber : Sp := fun vs H Q _ => ∃ (D : Dr4) (N : List Str) (c : Nat) (z : Str), vs = [.ref D.a, .str z] ∧ DAt D H N c ∧
  ∀ t H' size order lo hi, Same (D.hid H) (D.hid H') → DAt D H' N c → neu H H' t = some (.tup [.str "number", .str z, .int size, .str order, .int lo, .int hi]) → numOk size order lo hi = true → Q (.ref t) H'
def AmtOk (as : List Num) (most : Int) : Key → Prop
  | .inl i => 0 ≤ i ∧ i ≤ most
  | .inr z => ∃ lo hi, (z, lo, hi) ∈ as ∧ hi ≤ most
def spUse : Sp := fun vs H Q _ => ∃ (D : Dr4) (N : List Str) (c : Nat) (ah : Addr) (refs : List V) (as : List Num) (most : Int), vs = [.ref D.a, .ref ah, .int most] ∧ DAt D H N c ∧ D.hid H ah = some (.lst refs) ∧ NumsAt (D.hid H) refs as ∧ as.length ≤ 40 ∧ 4 ≤ most ∧
  ∀ amt H', Same (D.hid H) (D.hid H') → DAt D H' N c → AmtOk as most amt → Q (kV amt) H'
section
variable {P : Program} {w : World} {K : PySem.W.Frag} {mg : Str → Option Value} {base : Heap} {f : Addr} {fd : FuncData}
theorem scNext : FnScope ["draw", "many"] ["draw", "many"] (defScope sLawNext) := ⟨rfl, rfl, rfl, by decide +kernel, rfl, by decide +kernel, by decide +kernel⟩
theorem ixN_nat {n j : Nat} (h : j < n) : ixN n (j : Int) = some j := by
  unfold ixN
  rw [if_pos (by omega), if_pos (by omega)]
  simp
theorem at_mod {l : List Int} (i : Int) (h : 0 < l.length) : ∃ c : Int, atI (l.map V.int) (i % (l.length : Int)) = some (.int c) := by
  have h0 := Int.emod_nonneg i (show (l.length : Int) ≠ 0 by omega)
  have h1 := Int.emod_lt_of_pos i (show (0 : Int) < (l.length : Int) by omega)
  obtain ⟨n, e⟩ := Int.eq_ofNat_of_zero_le h0
  rw [e] at h1 ⊢
  have hn : n < l.length := by omega
  exact ⟨l[n], atI_nat (by rw [List.getElem?_map, List.getElem?_eq_getElem hn]; rfl)⟩
theorem ok_next (F : Fun K "_law_next" "_law_next" sLawNext f fd) (mint : mg "int" = none) (ml : mg "len" = none) : FnOk P w K mg base CX0 1 f fd ["draw", "many"] spNext := by
  refine F.ok scNext (fun vs H Q E h => ?_) (fun cdv A outer s H vs Q E hr h => ?_)
  · obtain ⟨D, N, c, m, rfl, _⟩ := h
    rfl
  · obtain ⟨D, N, c, m, rfl, d, hm, q⟩ := h
    refine ⟨_, pss_cons (ps_asg (pe_op op_add (pe_ix ix_list (pv 0) pe_int (fun _ _ => rfl)) pe_int) (pg_sub (pv 0) pe_int set_list))
      (pss_one (ps_ret (pe_op op_mod (pe_callTy call_int1 (by rfl) mint (by decide +kernel) (pa_cons (pe_ix ix_list (pe_ix ix_list (pv 0) pe_int (fun _ _ => rfl)) (pe_op op_mod (pe_ix ix_list (pv 0) pe_int (fun _ _ => rfl)) (pe_callB call_len (by rfl) ml boot_len (pa_cons (pe_ix ix_list (pv 0) pe_int (fun _ _ => rfl)) pa_nil))) (fun _ _ => rfl)) pa_nil)) (pv 1)))), ?_⟩
    obtain ⟨i, ha⟩ := id d.a
    refine ⟨_, rfl, D.a, _, 1, _, rfl, rfl, SqL.of ha, atI_nat (j := 1) rfl, _, _, rfl, rfl, ?_⟩
    refine ⟨_, rfl, D.a, _, 1, 1, rfl, rfl, ha, ixN_nat (n := 4) (j := 1) (by decide), ?_⟩
    have d2 := d.tick (i + 1)
    have hh := hid_own (D := D) (H := H) (b := D.a) (o := .lst [.ref D.u, .int (i + 1), .ref D.nl, .ref D.ml]) (.inl rfl)
    have ha2 : upd H D.a (.lst [.ref D.u, .int (i + 1), .ref D.nl, .ref D.ml]) D.a = some (.lst [.ref D.u, .int (i + 1), .ref D.nl, .ref D.ml]) := upd_same
    obtain ⟨ns, hu, hl⟩ := id d2.u
    obtain ⟨y, hy⟩ := at_mod (l := ns) (i + 1) (by omega)
    refine ⟨_, rfl, D.a, _, 0, _, rfl, rfl, SqL.of ha2, atI_nat (j := 0) rfl, _, rfl, D.a, _, 1, _, rfl, rfl, SqL.of ha2, atI_nat (j := 1) rfl, _, rfl, D.a, _, 0, _, rfl, rfl, SqL.of ha2, atI_nat (j := 0) rfl, V.ref D.u, _, rfl, .inl ⟨_, SqL.of hu, rfl⟩, _, _, rfl, rfl, (by rw [List.length_map]; omega), ?_⟩
    rw [List.length_map]
    refine ⟨D.u, _, _, _, rfl, rfl, SqL.of hu, hy, .inl ⟨_, rfl, _, rfl, _, _, rfl, rfl, hm, ?_⟩⟩
    exact q _ _ (Int.emod_nonneg _ (by omega)) (Int.emod_lt_of_pos _ hm) hh d2
end
end Bs

set_option Elab.async false
set_option linter.all false
set_option maxRecDepth 100000
set_option maxHeartbeats 4000000
namespace Bs
open PySem L2
theorem at_mem {xs : List V} {r : Int} (h0 : 0 ≤ r) (h1 : r < (xs.length : Int)) : ∃ v, v ∈ xs ∧ atI xs r = some v := by
  obtain ⟨n, rfl⟩ := Int.eq_ofNat_of_zero_le h0
  have hn : n < xs.length := by omega
  exact ⟨xs[n], List.getElem_mem hn, atI_nat (List.getElem?_eq_getElem hn)⟩
/-- one of some ints -/
theorem at_ints {is : List Int} {r : Int} (h0 : 0 ≤ r) (h1 : r < (is.length : Int)) : ∃ i, i ∈ is ∧ atI (is.map V.int) r = some (.int i) := by
  obtain ⟨v, hv, e⟩ := at_mem (xs := is.map V.int) h0 (by rw [List.length_map]; exact h1)
  obtain ⟨i, hi, rfl⟩ := List.mem_map.mp hv
  exact ⟨i, hi, e⟩
/-- it stands behind a step -/
theorem hid_stay {D : Dr4} {H H' : Hp} {p : Addr} {o : HO} (e : D.hid H' = D.hid H) (h : D.hid H p = some o) : H' p = some o := hid_le _ _ (by rw [e]; exact h)
theorem max_le2 (a b : Int) : a ≤ (if b > a then b else a) ∧ b ≤ (if b > a then b else a) ∧ ((if b > a then b else a) = a ∨ (if b > a then b else a) = b) := by
  by_cases c : b > a
  · rw [if_pos c]; exact ⟨by omega, by omega, .inr rfl⟩
  · rw [if_neg c]; exact ⟨by omega, by omega, .inl rfl⟩
theorem min_le2 (a b : Int) : (if b < a then b else a) ≤ a ∧ (if b < a then b else a) ≤ b ∧ ((if b < a then b else a) = a ∨ (if b < a then b else a) = b) := by
  by_cases c : b < a
  · rw [if_pos c]; exact ⟨by omega, by omega, .inr rfl⟩
  · rw [if_neg c]; exact ⟨by omega, by omega, .inl rfl⟩
section
variable {P : Program} {w : World} {K : PySem.W.Frag} {mg : Str → Option Value} {base : Heap} {f : Addr} {fd : FuncData}
theorem scNum : FnScope ["draw", "name", "size", "most", "low", "high"] ["draw", "name"] (defScope sLawNumber) := ⟨rfl, rfl, rfl, by decide +kernel, rfl, by decide +kernel, by decide +kernel⟩
theorem ok_lawnumber (F : Fun K "_law_number" "_law_number" sLawNumber f fd) (gX : Cal P w K mg base CX0 1 "_law_next" ["draw", "many"] spNext) (mmin : mg "min" = none) (mmax : mg "max" = none) : FnOk P w K mg base CX0 2 f fd ["draw", "name"] spNumber := by
  refine F.ok scNum (fun vs H Q E h => ?_) (fun cdv A outer s H vs Q E hr h => ?_)
  · obtain ⟨D, N, c, z, rfl, _⟩ := h
    rfl
  · obtain ⟨D, N, c, z, rfl, d, q⟩ := h
    refine ⟨_, pss_cons (ps_set (i := 2) scNum.nd rfl (.inl rfl) (pe_op op_add pe_int (pe_cal gX hr pass0 (pa_cons (pv 0) (pa_cons pe_int pa_nil)))))
      (pss_cons (ps_set (i := 3) scNum.nd rfl (.inl rfl) (pe_ix ix_list (pe_lst (pa_cons pe_int (pa_cons pe_int pa_nil))) (pe_op op_sub (pv 2) pe_int) (fun _ _ => rfl)))
      (pss_cons (ps_set (i := 4) scNum.nd rfl (.inl rfl) (pe_ix ix_list (pe_lst (pa_cons pe_int (pa_cons (pe_cal gX hr pass0 (pa_cons (pv 0) (pa_cons pe_int pa_nil))) (pa_cons (pe_cal gX hr pass0 (pa_cons (pv 0) (pa_cons (pe_op op_add (pv 3) pe_int) pa_nil))) pa_nil)))) (pe_cal gX hr pass0 (pa_cons (pv 0) (pa_cons pe_int pa_nil))) (fun _ _ => rfl)))
      (pss_cons (ps_set (i := 5) scNum.nd rfl (.inl rfl) (pe_ix ix_list (pe_lst (pa_cons (pv 4) (pa_cons (pv 3) (pa_cons (pe_callB (call_min2 rfl) (by rfl) mmin (by decide +kernel) (pa_cons (pv 3) (pa_cons (pe_op op_add (pv 4) (pe_cal gX hr pass0 (pa_cons (pv 0) (pa_cons pe_int pa_nil)))) pa_nil)))
        (pa_cons (pe_callB (call_min2 rfl) (by rfl) mmin (by decide +kernel) (pa_cons pe_int (pa_cons (pe_callB (call_max2 rfl) (by rfl) mmax (by decide +kernel) (pa_cons (pv 4) (pa_cons pe_int pa_nil))) pa_nil))) pa_nil))))) (pe_cal gX hr pass0 (pa_cons (pv 0) (pa_cons pe_int pa_nil))) (fun _ _ => rfl)))
      (pss_one (ps_ret (pe_tup (pa_cons pe_str (pa_cons (pv 1) (pa_cons (pv 2) (pa_cons (pe_ix ix_list (pe_lst (pa_cons pe_str (pa_cons pe_str pa_nil))) (pe_cal gX hr pass0 (pa_cons (pv 0) (pa_cons pe_int pa_nil))) (fun _ _ => rfl)) (pa_cons (pv 4) (pa_cons (pe_callB (call_max2 rfl) (by rfl) mmax (by decide +kernel) (pa_cons (pv 4) (pa_cons (pv 5) pa_nil))) pa_nil)))))))))))), ?_⟩
    refine ⟨_, rfl, D, N, c, 2, rfl, d, by decide, fun r1 H1 a0 a1 e1 d1 => ⟨_, _, rfl, rfl, ?_⟩⟩
    -- most
    refine ⟨(by show 2 ≤ sizeLine; decide), fun p hp => ?_⟩
    obtain ⟨d2, s2, _⟩ := d1.new hp (.lst [.int 255, .int 65535])
    obtain ⟨most, hmost, hat⟩ : ∃ m : Int, m = (if 1 + r1 = 1 then 255 else 65535) ∧ atI [V.int 255, V.int 65535] (1 + r1 - 1) = some (.int m) := by
      by_cases h1 : r1 = 0
      · rw [if_pos (by omega), h1]; exact ⟨_, rfl, atI_nat (j := 0) rfl⟩
      · rw [if_neg (by omega), show r1 = 1 by omega]; exact ⟨_, rfl, atI_nat (j := 1) rfl⟩
    refine ⟨_, rfl, _, _, rfl, rfl, p, _, _, _, rfl, rfl, SqL.of upd_same, hat, ?_⟩
    have S2 : Same (D.hid H) (D.hid (upd H1 p (.lst [.int 255, .int 65535]))) := by rw [← e1]; exact s2
    generalize upd H1 p (.lst [.int 255, .int 65535]) = H2 at d2 S2 ⊢
    have hm255 : 255 ≤ most := by rw [hmost]; split <;> omega
    -- low
    refine ⟨_, rfl, D, N, c, 4, rfl, d2, by decide, fun r2 H3 b0 b1 e3 d3 => ?_⟩
    refine ⟨_, rfl, _, rfl, _, _, rfl, rfl, D, N, c, most + 1, rfl, d3, by omega, fun r3 H4 c0 c1 e4 d4 => ⟨(by show 3 ≤ sizeLine; decide), fun p5 hp5 => ?_⟩⟩
    obtain ⟨d5, s5, g5⟩ := d4.new hp5 (.lst [.int 0, .int r2, .int r3])
    refine ⟨_, rfl, D, N, c, 3, rfl, d5, by decide, fun r4 H6 x0 x1 e6 d6 => ?_⟩
    have h6 := hid_stay e6 g5
    obtain ⟨low, hlow, alow⟩ := at_ints (is := [0, r2, r3]) x0 (by exact x1)
    refine ⟨p5, _, _, _, rfl, rfl, SqL.of h6, alow, ?_⟩
    have S6 : Same (D.hid H) (D.hid H6) := by
      rw [e6]; exact S2.trans ((same_eq e3).trans ((same_eq e4).trans s5))
    have hlow : 0 ≤ low ∧ low ≤ most := by
      simp only [List.mem_cons, List.not_mem_nil, or_false] at hlow
      rcases hlow with rfl | rfl | rfl <;> omega
    -- high
    refine ⟨_, rfl, _, rfl, _, rfl, _, rfl, _, rfl, D, N, c, 16, rfl, d6, by decide, fun r5 H7 y0 y1 e7 d7 => ⟨_, _, rfl, rfl, _, _, rfl, ?_⟩⟩
    refine ⟨_, rfl, _, _, rfl, _, _, rfl, (by show 4 ≤ sizeLine; decide), fun p8 hp8 => ?_⟩
    obtain ⟨d8, s8, g8⟩ := d7.new hp8 (.lst [.int low, .int most, .int (if low + r5 < most then low + r5 else most), .int (if (if (64 : Int) > low then 64 else low) < 64 then (if (64 : Int) > low then 64 else low) else 64)])
    refine ⟨_, rfl, D, N, c, 4, rfl, d8, by decide, fun r6 H9 z0 z1 e9 d9 => ?_⟩
    have h9 := hid_stay e9 g8
    obtain ⟨high, hhigh, ahigh⟩ := at_ints (is := [low, most, (if low + r5 < most then low + r5 else most), (if (if (64 : Int) > low then 64 else low) < 64 then (if (64 : Int) > low then 64 else low) else 64)]) z0 (by exact z1)
    refine ⟨p8, _, _, _, rfl, rfl, SqL.of h9, ahigh, ?_⟩
    have S9 : Same (D.hid H) (D.hid H9) := by
      rw [e9]; exact S6.trans ((same_eq e7).trans s8)
    have hhigh : high ≤ most := by
      have m1 := min_le2 most (low + r5)
      have m2 := max_le2 low 64
      have m3 := min_le2 64 (if (64 : Int) > low then 64 else low)
      simp only [List.mem_cons, List.not_mem_nil, or_false] at hhigh
      rcases hhigh with rfl | rfl | rfl | rfl <;> omega
    -- the item
    refine ⟨_, rfl, _, rfl, (by show 2 ≤ sizeLine; decide), fun p10 hp10 => ?_⟩
    obtain ⟨d10, s10, g10⟩ := d9.new hp10 (.lst [.str "big", .str "little"])
    refine ⟨_, rfl, D, N, c, 2, rfl, d10, by decide, fun r7 H11 u0 u1 e11 d11 => ?_⟩
    have h11 := hid_stay e11 g10
    obtain ⟨ov, hov, aov⟩ := at_mem (xs := [V.str "big", V.str "little"]) u0 (by exact u1)
    obtain ⟨order, rfl, hord⟩ : ∃ o : Str, ov = .str o ∧ (o = "big" ∨ o = "little") := by
      simp only [List.mem_cons, List.not_mem_nil, or_false] at hov
      rcases hov with rfl | rfl
      · exact ⟨_, rfl, .inl rfl⟩
      · exact ⟨_, rfl, .inr rfl⟩
    refine ⟨p10, _, _, _, rfl, rfl, SqL.of h11, aov, ?_⟩
    refine ⟨_, rfl, _, rfl, _, rfl, _, _, rfl, (by show 6 ≤ sizeLine; decide), fun t ht => ?_⟩
    obtain ⟨d12, s12, g12⟩ := d11.new ht (.tup [.str "number", .str z, .int (1 + r1), .str order, .int low, .int (if high > low then high else low)])
    have m4 := max_le2 low high
    refine q t _ (1 + r1) order low (if high > low then high else low) (S9.trans (s10.trans ((same_eq e11).trans s12))) d12 (by rw [neu_at (free_of d11 (S9.trans (s10.trans (same_eq e11))) ht)]; exact upd_same) ?_
    unfold numOk
    rw [Bool.and_eq_true, Bool.and_eq_true, Bool.and_eq_true]
    rw [hmost] at hhigh hlow
    refine ⟨decide_eq_true (by omega), decide_eq_true hord, decide_eq_true ⟨by omega, ?_⟩, decide_eq_true ⟨by omega, by omega⟩⟩
    rcases m4.2.2 with e | e <;> rw [e]
    · exact hlow.2
    · exact hhigh
end
end Bs

set_option Elab.async false
set_option linter.all false
set_option maxRecDepth 100000
set_option maxHeartbeats 4000000
namespace Bs
open PySem L2
section
variable {P : Program} {w : World} {K : PySem.W.Frag} {mg : Str → Option Value} {base : Heap} {f : Addr} {fd : FuncData}
abbrev nUse : List Str := ["draw", "ahead", "most", "fit", "number"]
theorem scUse : FnScope nUse ["draw", "ahead", "most"] (defScope sLawUse) := ⟨rfl, rfl, rfl, by decide +kernel, rfl, by decide +kernel, by decide +kernel⟩
theorem at_strs {zs : List Str} {r : Int} (h0 : 0 ≤ r) (h1 : r < (zs.length : Int)) : ∃ z, z ∈ zs ∧ atI (zs.map V.str) r = some (.str z) := by
  obtain ⟨v, hv, e⟩ := at_mem (xs := zs.map V.str) h0 (by rw [List.length_map]; exact h1)
  obtain ⟨i, hi, rfl⟩ := List.mem_map.mp hv
  exact ⟨i, hi, e⟩
theorem ok_use (F : Fun K "_law_use" "_law_use" sLawUse f fd) (gX : Cal P w K mg base CX0 1 "_law_next" ["draw", "many"] spNext) (ml : mg "len" = none) : FnOk P w K mg base CX0 2 f fd ["draw", "ahead", "most"] spUse := by
  refine F.ok scUse (fun vs H Q E h => ?_) (fun cdv A outer s H vs Q E hr h => ?_)
  · obtain ⟨D, N, c, ah, refs, as, most, rfl, _⟩ := h
    rfl
  · obtain ⟨D, N, c, ah, refs, as, most, rfl, d, hah, hnum, h40, h4, q⟩ := h
    refine ⟨_, pss_cons (ps_setLc (i := 3) (own := [("number", 4)]) (g := gName 4) rfl scUse.nd rfl rfl (sw_true rfl rfl rfl (by decide +kernel)) (pi_list (pv 1))
            (blkOk_by (own := [("number", 4)]) (N := nUse) (sc := defScope sLawUse) (by decide +kernel)) (fun _ _ _ _ _ => pg_name (i := 4) scUse.nd rfl (Or.inl rfl))
            (fun _ _ _ _ _ => pts_one (pt_cmpR op_le (pe_ix (r := rIxT K) ix_tup (pv 4) pe_int (fun _ _ => rfl)) (pv 2) (nomark _))) (fun _ _ _ _ _ => pe_ix (r := rIxT K) ix_tup (pv 4) pe_int (fun _ _ => rfl)))
      (pss_cons (ps_if (PW.pt (pw_and (pt_cmpR op_gt (pe_callB call_len (by rfl) ml boot_len (pa_cons (pv 3) pa_nil)) pe_int (nomark _)) (pw_and1 (pt_cmpR op_eq (pe_cal gX hr pass0 (pa_cons (pv 0) (pa_cons pe_int pa_nil))) pe_int (nomark _)))))
        (pss_one (ps_ret (pe_ix ix_list (pv 3) (pe_cal gX hr pass0 (pa_cons (pv 0) (pa_cons (pe_callB call_len (by rfl) ml boot_len (pa_cons (pv 3) pa_nil)) pa_nil))) (fun _ _ => rfl)))) pss_nil)
      (pss_one (ps_ret (pe_ix ix_list (pe_lst (pa_cons pe_int (pa_cons (pv 2) (pa_cons (pe_op op_add pe_int (pe_cal gX hr pass0 (pa_cons (pv 0) (pa_cons pe_int pa_nil)))) pa_nil)))) (pe_cal gX hr pass0 (pa_cons (pv 0) (pa_cons pe_int pa_nil))) (fun _ _ => rfl))))), ?_⟩
    have hah1 := hid_le _ _ hah
    refine ⟨_, rfl, ah, rfl, ⟨_, SqL.of hah1⟩, fun L hL => lc_list (K := K) (a := ah) (xs := refs) (fun i H' => Same H H' ∧ ∃ fs : List Str, H' L = some (.lst (fs.map V.str)) ∧ fs.length ≤ i ∧ ∀ z ∈ fs, ∃ lo hi, (z, lo, hi) ∈ as ∧ hi ≤ most)
      ⟨same_new hL _, [], upd_same, Nat.le_refl 0, fun z hz => by cases hz⟩ (fun i H' _ z => SqL.of (z.1 _ _ hah1)) ?_ ?_⟩
    · rintro i v H2 hi ⟨s2, fs, hfs, hfl, hfa⟩
      have il : i < refs.length := (List.getElem?_eq_some_iff.mp hi).1
      have rl := hnum.len
      obtain ⟨z, lo, hi', t, size, order, gz, rfl, ht⟩ := (hnum.same (hid_same s2)).get hi
      have ht2 := hid_le _ _ ht
      refine ⟨rfl, _, rfl, t, _, 5, _, rfl, rfl, SqT.of ht2, atI_nat (j := 5) rfl, _, rfl, _, _, rfl, rfl, _, rfl, ?_⟩
      refine ite2 (fun e => ?_) (fun e => ?_)
      · have e := of_decide_eq_true e
        refine ⟨_, rfl, t, _, 1, _, rfl, rfl, SqT.of ht2, atI_nat (j := 1) rfl, _, hfs, small1000 (by rw [List.length_map]; omega), same_set s2 hL, fs ++ [z], by rw [upd_same, List.map_append]; rfl, by rw [List.length_append, List.length_singleton]; omega, fun y hy => ?_⟩
        rcases List.mem_append.mp hy with hy | hy
        · exact hfa y hy
        · obtain rfl := List.mem_singleton.mp hy
          exact ⟨lo, hi', List.mem_of_getElem? gz, e⟩
      · exact ⟨s2, fs, hfs, by omega, hfa⟩
    rintro H2 ⟨s2, fs, hfs, hfl, hfa⟩
    have d2 := d.same s2
    have nL : ¬ D.has L := d.fresh hL
    have hL2 : D.hid H2 L = some (.lst (fs.map V.str)) := by rw [hid_at nL]; exact hfs
    have S2 : Same (D.hid H) (D.hid H2) := hid_same s2
    have fin : ∀ H3, D.hid H3 = D.hid H2 → DAt D H3 N c → tRet (tOp (rIxL K) (tLst (tCons (tC (.int 0)) (tCons (tVar 2) (tCons (tOp (rI0 fun i j => V.int (i + j)) (tC (.int 1)) (tCl spNext E0 (tCons (tVar 0) (tCons (tC (.int 4)) tNil)))) tNil)))) (tCl spNext E0 (tCons (tVar 0) (tCons (tC (.int 3)) tNil))))
        { nx := fun _ H' => Q V.non H', rt := Q } [some (.ref D.a), some (.ref ah), some (.int most), some (.ref L), none] H3 := fun H3 e3 d3 => by
      refine ⟨_, rfl, _, rfl, D, N, c, 4, rfl, d3, by decide, fun r4 H4 a0 a1 e4 d4 => ⟨_, _, rfl, rfl, (by show 3 ≤ sizeLine; decide), fun p5 hp5 => ?_⟩⟩
      obtain ⟨d5, s5, g5⟩ := d4.new hp5 (.lst [.int 0, .int most, .int (1 + r4)])
      refine ⟨_, rfl, D, N, c, 3, rfl, d5, by decide, fun r6 H6 x0 x1 e6 d6 => ?_⟩
      have h6 := hid_stay e6 g5
      obtain ⟨i, hi, ai⟩ := at_ints (is := [0, most, 1 + r4]) x0 (by exact x1)
      refine ⟨p5, _, _, _, rfl, rfl, SqL.of h6, ai, ?_⟩
      refine q (.inl i) H6 ?_ d6 ?_
      · rw [e6]; exact S2.trans ((same_eq e3).trans ((same_eq e4).trans s5))
      · simp only [List.mem_cons, List.not_mem_nil, or_false] at hi
        show 0 ≤ i ∧ i ≤ most
        rcases hi with rfl | rfl | rfl <;> omega
    dsimp only
    refine ⟨_, rfl, _, _, rfl, .inl ⟨_, SqL.of hfs, rfl⟩, _, _, rfl, rfl, _, rfl, ?_⟩
    rw [List.length_map]
    refine ite2 (fun e => ?_) (fun _ => ?_)
    · have e : (0 : Int) < fs.length := of_decide_eq_true e
      refine ⟨_, rfl, D, N, c, 2, rfl, d2, by decide, fun r3 H3 a0 a1 e3 d3 => ⟨rfl, _, rfl, ite2 (fun _ => ?_) (fun _ => fin H3 e3 d3)⟩⟩
      have hf3 := hid_stay e3 hL2
      refine ⟨_, rfl, _, rfl, _, rfl, _, _, rfl, .inl ⟨_, SqL.of hf3, rfl⟩, ?_⟩
      rw [List.length_map]
      refine ⟨D, N, c, _, rfl, d3, e, fun r4 H4 b0 b1 e4 d4 => ?_⟩
      obtain ⟨z, hz, az⟩ := at_strs (zs := fs) b0 b1
      refine ⟨L, _, _, _, rfl, rfl, SqL.of (hid_stay (e4.trans e3) hL2), az, ?_⟩
      exact q (.inr z) H4 (by rw [e4, e3]; exact S2) d4 (hfa z hz)
    · exact fin H2 rfl d2
end
end Bs

set_option Elab.async false
set_option linter.all false
set_option maxRecDepth 100000
set_option maxHeartbeats 4000000
namespace Bs
open PySem L2
/-! ### blocks that are drawn -/
theorem name_len {z : Str} (h : isName z = true) : 1 ≤ z.length ∧ z.length ≤ 12 := by
  have hl : z.length = z.cps.toList.length := by simp [Str.length]
  rw [hl]
  apply Decidable.byContradiction
  intro c
  have := nameOk_len c
  unfold isName at h
  rw [this] at h
  cases h
theorem name_ne {z : Str} (h : isName z = true) : z ≠ "" := fun e => by rw [e] at h; exact absurd h (by decide +kernel)
theorem sign_lt {c : Nat} (h : isSign c = true) : c < 16 ^ 8 := by
  unfold isSign isLetter isDigit at h
  rw [Bool.or_eq_true, decide_eq_true_iff, decide_eq_true_iff] at h
  have a : ∀ c ∈ letters.cps.toList, c < 16 ^ 8 := by decide +kernel
  have b : ∀ c ∈ digits.cps.toList, c < 16 ^ 8 := by decide +kernel
  exact h.elim (a c) (b c)
theorem name_repr {z : Str} (h : isName z = true) : z.length ≤ 1000 ∧ (reprText z).length ≤ 1000 := by
  have l := name_len h
  have r := StrLaws.reprText_len z fun c hc => by
    unfold isName at h
    cases e : z.cps.toList with
    | nil => rw [e] at hc; cases hc
    | cons a t =>
      rw [e] at h hc
      rw [nameOk, Bool.and_eq_true, Bool.and_eq_true, List.all_eq_true] at h
      exact sign_lt (h.2.2 c hc)
  exact ⟨by omega, by omega⟩
theorem Sit.pick {as : List Num} {fs N ps N' : List Str} {c c' : Nat} {z : Str} (s : Sit as (fs ++ N) c) (e : N = ps ++ N') (hz : z ∈ fs) (h : c' ≤ 1) : Sit as (z :: N') c' := by
  subst e
  have nd := List.nodup_append.mp s.nd
  have nd2 := List.nodup_append.mp nd.2.1
  refine ⟨List.nodup_cons.mpr ⟨fun q => nd.2.2 z hz z (List.mem_append_right _ q) rfl, nd2.2.1⟩, fun y hy => ?_, fun p hp q => ?_, s.anm, ?_, h⟩
  · rcases List.mem_cons.mp hy with rfl | hy
    · exact s.nm _ (List.mem_append_left _ hz)
    · exact s.nm y (List.mem_append_right _ (List.mem_append_right _ hy))
  · rcases List.mem_cons.mp q with e | q
    · exact s.out p hp (List.mem_append_left _ (e ▸ hz))
    · exact s.out p hp (List.mem_append_right _ (List.mem_append_right _ q))
  · have sz := s.sz
    have : 0 < fs.length := List.length_pos_of_mem hz
    rw [List.length_append, List.length_append] at sz
    rw [List.length_cons]
    omega
/-- blocks drawn so far; tl says that all but the first one begin with a number -/
structure DrE (tl : Bool) (d : Int) (as : List Num) (gs N N' : List Str) (c c' : Nat) (bs : Blks) : Prop where
  ok : bs.ok d = true
  tame : bs.tame
  drn : Drn gs bs.flat N N' c c'
  c1 : c' ≤ 1
  lens : ∀ f, EnvOk f → Fits as f → ∃ r, bs.lens f = some r ∧ (∀ p ∈ r, 0 ≤ p.1) ∧ (tl = true → ∀ p ∈ r.tail, 1 ≤ p.1)
theorem DrE.nil {tl : Bool} {d : Int} {as : List Num} {N : List Str} {c : Nat} (h : c ≤ 1) : DrE tl d as [] N N c c .nil :=
  ⟨by simp [Blks.ok], by simp [Blks.tame], Drn.nil, h, fun f _ _ => ⟨[], by simp [Blks.lens], (fun p hp => by cases hp), fun _ p hp => by cases hp⟩⟩
theorem DrE.snoc {tl : Bool} {d : Int} {as : List Num} {gs hs N N1 N2 : List Str} {c c1 c2 : Nat} {bs : Blks} {v : Int} {b : Its} (h : DrE tl d as gs N N1 c c1 bs) (g : DrB d as hs N1 N2 c1 c2 b) (k : tl = true → bs.len = 0 ∨ hs ≠ []) : DrE tl d as (gs ++ hs) N N2 c c2 (bs.snoc v b) := by
  refine ⟨by rw [snocB_ok, h.ok, g.ok, decide_eq_true g.len]; rfl, snocB_tame h.tame g.tame, by rw [snocB_flat]; exact h.drn.app g.drn, g.c1, fun f ef hf => ?_⟩
  obtain ⟨r, e1, r0, r1⟩ := h.lens f ef hf
  obtain ⟨l, e2, l0, l1⟩ := g.lens f ef hf
  refine ⟨r ++ [l], snocB_lens _ _ _ _ _ _ e1 e2, fun p hp => ?_, fun ht p hp => ?_⟩
  · rcases List.mem_append.mp hp with hp | hp
    · exact r0 p hp
    · obtain rfl := List.mem_singleton.mp hp
      exact l0
  · have rl := lensB_len e1
    cases r with
    | nil => cases hp
    | cons a r =>
      have hp : p ∈ r ++ [l] := hp
      rcases List.mem_append.mp hp with hp | hp
      · exact r1 ht p hp
      · obtain rfl := List.mem_singleton.mp hp
        exact l1 ((k ht).elim (fun z => by rw [z] at rl; cases rl) id)
theorem min_some {l : List Int} (h : l ≠ []) : ∃ a, l.min? = some a := by
  cases e : l.min? with
  | some a => exact ⟨a, rfl⟩
  | none => exact absurd (List.min?_eq_none_iff.mp e) h
theorem max_some {l : List Int} (h : l ≠ []) : ∃ a, l.max? = some a := by
  cases e : l.max? with
  | some a => exact ⟨a, rfl⟩
  | none => exact absurd (List.max?_eq_none_iff.mp e) h
theorem spread_some {r : List (Int × Int)} (h : r ≠ []) (h0 : ∀ p ∈ r, 0 ≤ p.1) : ∃ l, spread r = some l ∧ 0 ≤ l.1 := by
  obtain ⟨a, ha⟩ := min_some (l := r.map (·.1)) (by simpa using h)
  obtain ⟨b, hb⟩ := max_some (l := r.map (·.2)) (by simpa using h)
  refine ⟨(a, b), by unfold spread; rw [ha, hb], ?_⟩
  obtain ⟨p, hp, e⟩ := List.mem_map.mp (List.min?_eq_some_iff.mp ha).1
  show 0 ≤ a
  rw [← e]
  exact h0 p hp
theorem zeros_one : ∀ {r : List (Int × Int)}, (∀ p ∈ r.tail, 1 ≤ p.1) → (r.filter fun p => decide (p.1 = 0)).length ≤ 1
  | [], _ => by simp
  | p :: r, h => by
    have : r.filter (fun p => decide (p.1 = 0)) = [] := by
      rw [List.filter_eq_nil_iff]
      intro q hq
      have : 1 ≤ q.1 := h q hq
      simp
      omega
    rw [List.filter_cons, this]
    split <;> simp
theorem amt_some {as : List Num} {f : Env} {most : Int} {amt : Key} (ef : EnvOk f) (hf : Fits as f) (h : AmtOk as most amt) : ∃ l, amount f most amt = some l ∧ 0 ≤ l.1 := by
  cases amt with
  | inl i =>
    have h : 0 ≤ i ∧ i ≤ most := h
    exact ⟨(i, i), by simp only [amount]; rw [if_pos h], h.1⟩
  | inr z =>
    obtain ⟨lo, hi, hm, hh⟩ := h
    have e := hf _ hm
    have e : f z = some (lo, hi) := e
    exact ⟨(lo, hi), by simp only [amount, e]; rw [if_pos hh], (ef z _ e).1⟩
theorem amt_tame {as : List Num} {most : Int} {amt : Key} (anm : ∀ p ∈ as, isName p.1 = true) (h : AmtOk as most amt) : ∀ z, amt = .inr z → z.length ≤ 1000 ∧ (reprText z).length ≤ 1000 := by
  rintro z rfl
  obtain ⟨lo, hi, hm, _⟩ := h
  exact name_repr (anm _ hm)
/-! ### the items themselves -/
theorem Dr1.num {d : Int} {as : List Num} {n order : Str} {size lo hi : Int} {N : List Str} {c : Nat} (hd : d ≤ 3) (s : Sit as (n :: N) c) (hn : numOk size order lo hi = true) : Dr1 d as (n :: N) N c c (.num n size order lo hi) := by
  have nm := s.nm n (List.mem_cons_self ..)
  refine ⟨by simp [It.ok, It.name, nm, hd], by simp only [It.tame, It.name]; exact (name_repr nm).1, ⟨⟨[n], rfl, by simp [It.flat, It.name]⟩, by simp [It.flat, It.isChk]⟩, s.c1, fun f _ _ => ?_⟩
  obtain ⟨e, h1⟩ := num_lens (n := n) hn f
  exact ⟨_, e, by show 0 ≤ size; omega⟩
theorem Dr1.byt {d : Int} {as : List Num} {n : Str} {amt : Key} {N : List Str} {c : Nat} (hd : d ≤ 3) (s : Sit as (n :: N) c) (ha : AmtOk as 64 amt) : Dr1 d as (n :: N) N c c (.byt n amt) := by
  have nm := s.nm n (List.mem_cons_self ..)
  refine ⟨by simp [It.ok, It.name, nm, hd], by simp only [It.tame]; exact ⟨(name_repr nm).1, amt_tame s.anm ha⟩, ⟨⟨[n], rfl, by simp [It.flat, It.name]⟩, by simp [It.flat, It.isChk]⟩, s.c1, fun f ef hf => ?_⟩
  obtain ⟨l, e, h1⟩ := amt_some ef hf ha
  exact ⟨l, by simp only [It.lens]; exact e, h1⟩
theorem Dr1.txt {d : Int} {as : List Num} {n : Str} {st mo : Int} {N : List Str} {c : Nat} (hd : d ≤ 3) (s : Sit as (n :: N) c) (h1 : 0 ≤ st ∧ st ≤ 255) (h2 : 0 ≤ mo ∧ mo ≤ 64) : Dr1 d as (n :: N) N c c (.txt n st mo) := by
  have nm := s.nm n (List.mem_cons_self ..)
  exact ⟨by simp [It.ok, It.name, nm, hd], by simp only [It.tame, It.name]; exact (name_repr nm).1, ⟨⟨[n], rfl, by simp [It.flat, It.name]⟩, by simp [It.flat, It.isChk]⟩, s.c1, fun f ef hf => ⟨(1, mo + 1), by simp only [It.lens]; rw [if_pos ⟨h1, h2⟩], by show (0 : Int) ≤ 1; decide⟩⟩
theorem Dr1.chk {d : Int} {as : List Num} {n : Str} {m : Int} {N : List Str} (hd : d ≤ 3) (s : Sit as (n :: N) 0) (h1 : 1 ≤ m ∧ m ≤ 16) : Dr1 d as (n :: N) N 0 1 (.chk n m) := by
  have nm := s.nm n (List.mem_cons_self ..)
  exact ⟨by simp [It.ok, It.name, nm, hd], by simp only [It.tame, It.name]; exact (name_repr nm).1, ⟨⟨[n], rfl, by simp [It.flat, It.name]⟩, by simp only [It.flat]; rfl⟩, Nat.le_refl 1, fun f ef hf => ⟨(1, 1), by simp only [It.lens]; rw [if_pos h1], by show (0 : Int) ≤ 1; decide⟩⟩
theorem Dr1.pad {d : Int} {as : List Num} {n : Str} {m b : Int} {N : List Str} {c : Nat} (hd : d ≤ 3) (s : Sit as (n :: N) c) (h1 : m = 1 ∨ m = 2 ∨ m = 4 ∨ m = 8 ∨ m = 16) (h2 : 0 ≤ b ∧ b ≤ 255) : Dr1 d as (n :: N) N c c (.pad n m b) := by
  have nm := s.nm n (List.mem_cons_self ..)
  exact ⟨by simp [It.ok, It.name, nm, hd], by simp only [It.tame, It.name]; exact (name_repr nm).1, ⟨⟨[n], rfl, by simp [It.flat, It.name]⟩, by simp [It.flat, It.isChk]⟩, s.c1, fun f ef hf => ⟨(0, m - 1), by simp only [It.lens]; rw [if_pos ⟨h1, h2⟩], by show (0 : Int) ≤ 0; decide⟩⟩
theorem Dr1.rep {d : Int} {as : List Num} {n z : Str} {amt : Key} {b : Its} {N N' : List Str} {c c' : Nat} (hd : d ≤ 2) (nm : isName n = true) (anm : ∀ p ∈ as, isName p.1 = true) (ha : AmtOk as 16 amt) (g : DrB (d + 1) as [z] N N' c c' b) : Dr1 d as (n :: z :: N) N' c c' (.rep n amt b) := by
  refine ⟨by rw [It.ok, nm, decide_eq_true hd, decide_eq_true g.len, g.ok]; rfl, by simp only [It.tame]; exact ⟨(name_repr nm).1, amt_tame anm ha, g.tame⟩, ?_, g.c1, fun f ef hf => ?_⟩
  · have : Drn [n] [It.rep n amt b] N N c c := ⟨⟨[], rfl, by simp [It.name]⟩, by simp [It.isChk]⟩
    have := this.app g.drn
    rw [It.flat]
    exact Drn.pop (hs := [n, z]) (gs := []) this
  · obtain ⟨a, e1, a0⟩ := amt_some ef hf ha
    obtain ⟨l, e2, l0, l1⟩ := g.lens f ef hf
    have l1 := l1 (by simp)
    refine ⟨(a.1 * l.1, a.2 * l.2), by simp only [It.lens, e1, e2]; rw [if_pos l1], Int.mul_nonneg a0 l0⟩
theorem Dr1.eit {d : Int} {as : List Num} {n : Str} {fs : List Str} {bs : Blks} {N N' : List Str} {c c' : Nat} (hd : d ≤ 2) (nm : isName n = true) (hl : 2 ≤ bs.len ∧ bs.len ≤ 4) (g : DrE true (d + 1) as fs N N' c c' bs) : Dr1 d as (n :: (fs ++ N)) N' c c' (.eit n bs) := by
  refine ⟨by rw [It.ok, nm, decide_eq_true hd, decide_eq_true hl, g.ok]; rfl, by simp only [It.tame]; exact ⟨(name_repr nm).1, g.tame⟩, ?_, g.c1, fun f ef hf => ?_⟩
  · have : Drn [n] [It.eit n bs] N N c c := ⟨⟨[], rfl, by simp [It.name]⟩, by simp [It.isChk]⟩
    have := this.app g.drn
    rw [It.flat]
    exact Drn.pop (hs := n :: fs) (gs := []) (by rw [List.append_nil]; exact this)
  · obtain ⟨r, e1, r0, r1⟩ := g.lens f ef hf
    have rl := lensB_len e1
    obtain ⟨l, e2, l0⟩ := spread_some (r := r) (fun z => by rw [z] at rl; simp at rl; omega) r0
    exact ⟨l, by simp only [It.lens, e1]; rw [if_pos (zeros_one (r1 rfl))]; exact e2, l0⟩
theorem Dr1.swi {d : Int} {as : List Num} {n tag : Str} {bs : Blks} {N N' : List Str} {c c' : Nat} (hd : d ≤ 2) (nm : isName n = true) (hl : 1 ≤ bs.len ∧ bs.len ≤ 8) (ht : ∃ p ∈ as, p.1 = tag) (hv : (∀ v ∈ bs.vals, 0 ≤ v ∧ v ≤ 65535) ∧ bs.vals.Nodup) (g : DrE false (d + 1) as [] N N' c c' bs) : Dr1 d as (n :: N) N' c c' (.swi n tag bs) := by
  refine ⟨by rw [It.ok, nm, decide_eq_true hd, decide_eq_true hl, g.ok]; rfl, by simp only [It.tame]; exact ⟨(name_repr nm).1, trivial, g.tame⟩, ?_, g.c1, fun f ef hf => ?_⟩
  · have : Drn [n] [It.swi n tag bs] N N c c := ⟨⟨[], rfl, by simp [It.name]⟩, by simp [It.isChk]⟩
    have := this.app g.drn
    rw [It.flat]
    exact Drn.pop (hs := [n]) (gs := []) this
  · obtain ⟨r, e1, r0, r1⟩ := g.lens f ef hf
    have rl := lensB_len e1
    obtain ⟨l, e2, l0⟩ := spread_some (r := r) (fun z => by rw [z] at rl; simp at rl; omega) r0
    obtain ⟨p, hp, et⟩ := ht
    have : (f tag).isSome = true := by rw [← et, hf p hp]; rfl
    exact ⟨l, by simp only [It.lens]; rw [if_pos ⟨this, hv⟩, e1]; exact e2, l0⟩
/-! ### a whole shape -/
theorem drawn_shape {bs : List Num} {k : Nat} {N N' : List Str} {c' : Nat} {x : Its} (hk : k ≤ 12) (hk1 : 0 < k) (hN : N.length ≤ 30) (hN1 : N ≠ []) (hnd : N.Nodup) (h : DrS 0 [] bs k N N' 0 c' x) : x.shape = true ∧ (x.walk 0).length ≤ 30 ∧ x.names.Nodup := by
  obtain ⟨⟨ps, e, pp⟩, ck⟩ := h.drn
  have wl : (x.walk 0).length = x.flat.length := by rw [← Its.walk_flat x 0, List.length_map]
  have fl : x.flat.length = ps.length := by have := pp.length_eq; simpa using this
  have pl : ps.length ≤ 30 := by rw [e, List.length_append] at hN; omega
  have nd : x.names.Nodup := by
    rw [Its.names_flat]
    exact pp.symm.nodup (by rw [e] at hnd; exact (List.nodup_append.mp hnd).1)
  obtain ⟨l, el, _⟩ := h.lens (fun _ => none) (fun z p q => by cases q) (fun p hp => by cases hp)
  have ckl : ((x.walk 0).filter (·.2.isChk)).length ≤ 1 := by
    rw [Its.checks_flat]
    have := h.sit.c1
    omega
  refine ⟨?_, by omega, nd⟩
  unfold Its.shape
  rw [decide_eq_true (by have := h.len; omega : x.len ≤ 12), h.ok, decide_eq_true (h.len1 hk1 hN1), decide_eq_true (by omega : (x.walk 0).length ≤ 30), decide_eq_true nd, decide_eq_true ckl, el]
  rfl
end Bs

set_option Elab.async false
set_option linter.all false
set_option maxRecDepth 100000
set_option maxHeartbeats 4000000
namespace Bs
open PySem L2
/-! ### blocks and items -/
def spItems (n : Nat) : Sp := fun vs H Q _ => ∃ (D : Dr4) (N : List Str) (c : Nat) (ah : Addr) (refs : List V) (as : List Num) (d : Int) (k : Nat), vs = [.ref D.a, .ref ah, .int d, .int (k : Int)] ∧ d + n = 3 ∧ DAt D H N c ∧ D.hid H ah = some (.lst refs) ∧ NumsAt (D.hid H) refs as ∧ Sit as N c ∧ k ≤ 12 ∧
  ∀ r xs x bs H' N' c', Same (D.hid H) (D.hid H') → DAt D H' N' c' → neu H H' r = some (.lst xs) → x.At false (neu H H') xs → DrS d as bs k N N' c c' x → Q (.ref r) H'
def spBlock (n : Nat) : Sp := fun vs H Q _ => ∃ (D : Dr4) (gs N : List Str) (c : Nat) (ah : Addr) (refs : List V) (as : List Num) (d : Int) (z : Str), vs = [.ref D.a, .ref ah, .int d, .str z] ∧ d + n = 3 ∧ DAt D H N c ∧ D.hid H ah = some (.lst refs) ∧ NumsAt (D.hid H) refs as ∧ (z = "" ∧ gs = [] ∨ z ≠ "" ∧ gs = [z]) ∧ Sit as (gs ++ N) c ∧
  ∀ r xs x H' N' c', Same (D.hid H) (D.hid H') → DAt D H' N' c' → neu H H' r = some (.lst xs) → x.At false (neu H H') xs → DrB d as gs N N' c c' x → Q (.ref r) H'
def spItem (n : Nat) : Sp := fun vs H Q _ => ∃ (D : Dr4) (N : List Str) (c : Nat) (ah : Addr) (refs : List V) (as : List Num) (d : Int), vs = [.ref D.a, .ref ah, .int d] ∧ d + n = 3 ∧ DAt D H N c ∧ D.hid H ah = some (.lst refs) ∧ NumsAt (D.hid H) refs as ∧ Sit as N c ∧ N ≠ [] ∧
  ∀ v y H' N' c', Same (D.hid H) (D.hid H') → DAt D H' N' c' → y.At false (neu H H') v → Dr1 d as N N' c c' y → Q v H'
def spNested (n : Nat) : Sp := fun vs H Q _ => ∃ (D : Dr4) (N : List Str) (c : Nat) (ah : Addr) (refs : List V) (as : List Num) (d kind : Int), vs = [.ref D.a, .ref ah, .int d, .int kind] ∧ d + n = 3 ∧ d ≤ 2 ∧ DAt D H N c ∧ D.hid H ah = some (.lst refs) ∧ NumsAt (D.hid H) refs as ∧ Sit as N c ∧ 14 ≤ N.length ∧
  ∀ v y H' N' c', Same (D.hid H) (D.hid H') → DAt D H' N' c' → y.At false (neu H H') v → Dr1 d as N N' c c' y → Q v H'
section
variable {P : Program} {w : World} {K : PySem.W.Frag} {mg : Str → Option Value} {base : Heap} {f : Addr} {fd : FuncData}
abbrev nBlock : List Str := ["draw", "ahead", "depth", "name", "many", "number"]
theorem scBlock : FnScope nBlock ["draw", "ahead", "depth", "name"] (defScope sLawBlock) := ⟨rfl, rfl, rfl, by decide +kernel, rfl, by decide +kernel, by decide +kernel⟩
theorem ok_block {n k : Nat} (hk : 2 ≤ k) (F : Fun K "_law_block" "_law_block" sLawBlock f fd) (gX : Cal P w K mg base CX0 1 "_law_next" ["draw", "many"] spNext) (gN : Cal P w K mg base CX0 2 "_law_number" ["draw", "name"] spNumber) (gI : Cal P w K mg base CX0 k "_law_items" ["draw", "ahead", "depth", "many"] (spItems n)) :
    FnOk P w K mg base CX0 (k + 1) f fd ["draw", "ahead", "depth", "name"] (spBlock n) := by
  refine F.ok scBlock (fun vs H Q E h => ?_) (fun cdv A outer s H vs Q E hr h => ?_)
  · obtain ⟨D, gs, N, c, ah, refs, as, d, z, rfl, _⟩ := h
    rfl
  · obtain ⟨D, gs, N, c, ah, refs, as, d, z, rfl, hd, da, hah, hnum, hz, hs, q⟩ := h
    refine ⟨_, pss_cons (ps_set (i := 4) scBlock.nd rfl (.inl rfl) (pe_cal gX (hr.mono (by omega)) pass0 (pa_cons (pv 0) (pa_cons pe_int pa_nil))))
      (pss_cons (ps_if (pt_cmpR op_ne (pv 3) pe_str (nomark _)) (pss_cons (ps_set (i := 5) scBlock.nd rfl (.inl rfl) (pe_cal gN (hr.mono hk) pass0 (pa_cons (pv 0) (pa_cons (pv 3) pa_nil))))
          (pss_one (ps_ret (pe_op op_cat (pe_lst (pa_cons (pv 5) pa_nil)) (pe_cal gI hr pass0 (pa_cons (pv 0) (pa_cons (pe_op op_cat (pv 1) (pe_lst (pa_cons (pv 5) pa_nil))) (pa_cons (pv 2) (pa_cons (pv 4) pa_nil))))))))) pss_nil)
      (pss_one (ps_ret (pe_cal gI hr pass0 (pa_cons (pv 0) (pa_cons (pv 1) (pa_cons (pv 2) (pa_cons (pv 4) pa_nil)))))))), ?_⟩
    refine ⟨_, rfl, D, N, c, 3, rfl, da, by decide, fun r H1 r0 r1 e1 d1 => ?_⟩
    obtain ⟨m, rfl⟩ := Int.eq_ofNat_of_zero_le r0
    have hm : m ≤ 2 := by omega
    refine ⟨_, rfl, rfl, _, rfl, ?_⟩
    rcases hz with ⟨hz, rfl⟩ | ⟨hz, rfl⟩
    · rw [decide_eq_true (congrArg V.str hz)]
      refine iteF ?_
      refine ⟨_, rfl, _, rfl, _, rfl, _, rfl, D, N, c, ah, refs, as, d, m, rfl, hd, d1, by rw [e1]; exact hah, by rw [e1]; exact hnum, hs, by omega, fun r xs x bs H2 N' c' S2 d2 h2 a2 dr => ?_⟩
      have S2 : Same (D.hid H) (D.hid H2) := by rw [e1] at S2; exact S2
      have nm := neu_mono (H0 := H) d1 (fun b hb => free_of d1 (same_eq e1) hb) (Same.refl (D.hid H2))
      exact q r xs x H2 N' c' S2 d2 (nm _ _ h2) (a2.same nm) (dr.block (by omega))
    · rw [decide_eq_false (fun e => hz (V.str.inj e))]
      refine iteT ?_
      have hs : Sit as (z :: N) c := hs
      have nm := hs.nm z (List.mem_cons_self ..)
      refine ⟨_, rfl, _, rfl, D, N, c, z, rfl, d1, fun t H2 size order lo hi S2 d2 h2 hn => ?_⟩
      rw [e1] at S2
      have n2 := neu_mono (H0 := H) d1 (fun b hb => free_of d1 (same_eq e1) hb) (Same.refl (D.hid H2)) _ _ h2
      refine ⟨_, rfl, (by show 1 ≤ sizeLine; decide), fun p1 hp1 => ?_⟩
      obtain ⟨d3, s3, g3⟩ := d2.new hp1 (.lst [.ref t])
      generalize upd H2 p1 (.lst [.ref t]) = H3 at d3 s3 g3 ⊢
      have S3 := S2.trans s3
      refine ⟨_, rfl, _, rfl, _, rfl, (by show 1 ≤ sizeLine; decide), fun p2 hp2 => ?_⟩
      obtain ⟨d4, s4, g4⟩ := d3.new hp2 (.lst [.ref t])
      generalize upd H3 p2 (.lst [.ref t]) = H4 at d4 s4 g4 ⊢
      have S4 := S3.trans s4
      have rl := hnum.len
      have sz := hs.sz
      rw [List.length_cons] at sz
      refine ⟨ah, p2, refs, [.ref t], rfl, rfl, hid_le _ _ (S4 _ _ hah), hid_le _ _ g4, le_line (by rw [List.length_singleton]; omega), fun p3 hp3 => ?_⟩
      obtain ⟨d5, s5, g5⟩ := d4.new hp3 (.lst (refs ++ [.ref t]))
      generalize upd H4 p3 (.lst (refs ++ [.ref t])) = H5 at d5 s5 g5 ⊢
      have S5 := S4.trans s5
      have s25 := s3.trans (s4.trans s5)
      have h5 := s25 _ _ (neu_hid da _ _ n2)
      refine ⟨_, rfl, _, rfl, D, N, c, p3, _, as ++ [(z, lo, hi)], d, m, rfl, hd, d5, g5, NumsAt.app ⟨t, size, order, rfl, h5⟩ (hnum.same S5), hs.add, by omega, fun r xs x bs H6 N' c' S6 d6 h6 a6 dr => ?_⟩
      have lx := a6.len
      have ll := dr.len
      refine ⟨p1, r, [.ref t], xs, rfl, rfl, hid_le _ _ (S6 _ _ ((s4.trans s5) _ _ g3)), neu_le _ _ h6, le_line (by rw [List.length_singleton]; omega), fun p7 hp7 => ?_⟩
      obtain ⟨d7, s7, g7⟩ := d6.new hp7 (.lst ([.ref t] ++ xs))
      have S56 := S5.trans S6
      refine q p7 _ (.cons (.num z size order lo hi) x) _ N' c' (S56.trans s7) d7 (by rw [neu_at (free_of d6 S56 hp7)]; exact upd_same) ?_ (dr.blockN (by omega) nm (name_repr nm).1 (fun p hp e => hs.out p hp (by rw [e]; exact List.mem_cons_self ..)) hn (by omega))
      simp only [Its.At, It.At]
      exact ⟨.ref t, xs, rfl, ⟨t, rfl, neu_mono da (fun b hb => hb) (s25.trans (S6.trans s7)) _ _ n2⟩, a6.same (neu_mono d5 (fun b hb => free_of d5 S5 hb) s7)⟩
end
end Bs

set_option Elab.async false
set_option linter.all false
set_option maxRecDepth 100000
set_option maxHeartbeats 4000000
namespace Bs
open PySem L2
theorem same_wr {G H : Hp} {b : Addr} {o : HO} (s : Same G H) (h : G b = none) : Same G (upd H b o) := same_set s h
/-- a list that the frame owns is written -/
theorem own_wr {D : Dr4} {H H' : Hp} {N : List Str} {c : Nat} {b : Addr} {o : HO} (d : DAt D H' N c) (s : Same (D.hid H) (D.hid H')) (h : H b = none) (h2 : ¬ D.has b) : Same (D.hid H) (D.hid (upd H' b o)) := by
  rw [hid_upd h2]
  exact same_set s (hid_none h)
theorem isnum {y : It} (ho : y.isOdd = false) : decide (V.str y.kind = V.str "number") = (match y with | .num .. => true | _ => false) := by
  cases y with
  | num => exact decide_eq_true rfl
  | odd => cases ho
  | _ => exact decide_eq_false (kne (by simp only [It.kind]; decide +kernel))
section
variable {P : Program} {w : World} {K : PySem.W.Frag} {mg : Str → Option Value} {base : Heap} {f : Addr} {fd : FuncData}
abbrev nItems : List Str := ["draw", "ahead", "depth", "many", "items", "visible", "k", "item"]
theorem scItems : FnScope nItems ["draw", "ahead", "depth", "many"] (defScope sLawItems) := ⟨rfl, rfl, rfl, by decide +kernel, rfl, by decide +kernel, by decide +kernel⟩
theorem ok_items {n k : Nat} (F : Fun K "_law_items" "_law_items" sLawItems f fd) (gT : Cal P w K mg base CX0 k "_law_item" ["draw", "ahead", "depth"] (spItem n)) (mlist : mg "list" = none) (mr : mg "range" = none) (ml : mg "len" = none) :
    FnOk P w K mg base CX0 (k + 1) f fd ["draw", "ahead", "depth", "many"] (spItems n) := by
  refine F.ok scItems (fun vs H Q E h => ?_) (fun cdv A outer s H vs Q E hr h => ?_)
  · obtain ⟨D, N, c, ah, refs, as, d, m, rfl, _⟩ := h
    rfl
  · obtain ⟨D, N, c, ah, refs, as, d, m, rfl, hd, da, hah, hnum, hs, hm, q⟩ := h
    refine ⟨_, pss_cons (ps_set (i := 4) scItems.nd rfl (.inl rfl) (pe_lst pa_nil))
      (pss_cons (ps_set (i := 5) scItems.nd rfl (.inl rfl) (pe_callTy call_list_of (by rfl) mlist (by decide +kernel) (pa_cons (pv 1) pa_nil)))
      (pss_cons (ps_for PassesOwn.never rfl (pi_range1 (by rfl) mr (pa_cons (pv 3) pa_nil)) (pg_name (i := 6) scItems.nd rfl (.inl rfl))
        (pss_one (ps_if (pt_cmpR op_gt (pe_callB call_len (by rfl) ml boot_len (pa_cons (pe_ix ix_list (pv 0) pe_int (fun _ _ => rfl)) pa_nil)) pe_int (nomark _))
          (pss_cons (ps_set (i := 7) scItems.nd rfl (.inl rfl) (pe_cal gT hr pass0 (pa_cons (pv 0) (pa_cons (pv 5) (pa_cons (pv 2) pa_nil)))))
          (pss_cons (ps_expr (pe_bm PySem.F.plainAttrs_list PySem.F.slot_list_append PySem.F.type_list_append mt_append (pv 4) (pa_cons (pv 7) pa_nil)))
          (pss_one (ps_if (pt_cmpR op_eq (pe_ix ix_tup (pv 7) pe_int (fun _ _ => rfl)) pe_str (nomark _)) (pss_one (ps_expr (pe_bm PySem.F.plainAttrs_list PySem.F.slot_list_append PySem.F.type_list_append mt_append (pv 5) (pa_cons (pv 7) pa_nil)))) pss_nil)))) pss_nil)))
      (pss_one (ps_ret (pv 4))))), ?_⟩
    refine ⟨(by show 0 ≤ sizeLine; decide), fun L hL => ?_⟩
    obtain ⟨d1, s1, g1⟩ := da.new hL (.lst [])
    have hah1 := s1 _ _ hah
    refine ⟨_, rfl, ah, _, rfl, .inl (SqL.of (hid_le _ _ hah1)), fun W hW => ?_⟩
    obtain ⟨d2, s2, g2⟩ := d1.new hW (.lst refs)
    have nLW : W ≠ L := fun e => by rw [e, upd_same] at hW; cases hW
    have hW0 : H W = none := by rw [upd_ne nLW] at hW; exact hW
    obtain ⟨B, hB⟩ : ∃ B, B = upd (upd H L (.lst [])) W (.lst refs) := ⟨_, rfl⟩
    have dB : DAt D B N c := by rw [hB]; exact d2
    have S2 : Same (D.hid H) (D.hid B) := by rw [hB]; exact s1.trans s2
    have BL : B L = some (.lst []) := by rw [hB, upd_ne nLW.symm, upd_same]
    have BW : B W = some (.lst refs) := by rw [hB, upd_same]
    have nL : ¬ D.has L := da.fresh hL
    have nW : ¬ D.has W := da.fresh hW0
    have Bdom : ∀ b, B b = none → H b = none := fun b hb => free_of dB S2 hb
    refine ⟨_, rfl, (m : Int), rfl, by omega, by omega, for_range (lo := 0) (n := m) (fun i σ H' => ∃ i6 i7, σ = [some (.ref D.a), some (.ref ah), some (.int d), some (.int (m : Int)), some (.ref L), some (.ref W), i6, i7] ∧
        ∃ N' c' x bs xs rf, Same (D.hid H) (D.hid H') ∧ DAt D H' N' c' ∧ H' L = some (.lst xs) ∧ x.At false (neu B H') xs ∧ H' W = some (.lst rf) ∧ NumsAt (D.hid H') rf bs ∧ DrS d as bs i N N' c c' x)
      ⟨none, none, rfl, N, c, .nil, as, [], refs, by rw [← hB]; exact S2, by rw [← hB]; exact dB, by rw [← hB]; exact BL, by simp [Its.At], by rw [← hB]; exact BW, by rw [← hB]; exact hnum.same S2, DrS.start hs⟩ ?_ ?_⟩
    · rintro i σ H2 hi ⟨i6, i7, rfl, N2, c2, x, bs, xs, rf, S, d2, hL2, hat, hW2, hnu, dr⟩
      obtain ⟨ii, ha⟩ := d2.a
      refine ⟨_, rfl, D.a, _, 2, _, rfl, rfl, SqL.of ha, atI_nat (j := 2) rfl, _, _, rfl, .inl ⟨_, SqL.of d2.nl, rfl⟩, _, _, rfl, rfl, _, rfl, ?_⟩
      rw [List.length_map]
      refine ite2 (fun e => ?_) (fun e => ?_)
      · have e : (0 : Int) < N2.length := of_decide_eq_true e
        refine ⟨_, rfl, _, rfl, _, rfl, D, N2, c2, W, rf, bs, d, rfl, hd, d2, by rw [hid_at nW]; exact hW2, hnu, dr.sit, (fun z => by rw [z] at e; simp at e), fun v y H3 N3 c3 S3 d3 ay dy => ?_⟩
        have hL3 := hid_le _ _ (S3 L _ (by rw [hid_at nL]; exact hL2))
        have hW3 := hid_le _ _ (S3 W _ (by rw [hid_at nW]; exact hW2))
        have lx := hat.len
        have ll := dr.len
        refine ⟨_, rfl, .inl ⟨rfl, _, SqL.of hL3⟩, _, rfl, L, xs, v, rfl, rfl, hL3, small1000 (by omega), ?_⟩
        have S4 : Same (D.hid H) (D.hid (upd H3 L (.lst (xs ++ [v])))) := own_wr d3 (S.trans S3) hL nL
        have d4 : DAt D (upd H3 L (.lst (xs ++ [v]))) N3 c3 := d3.off nL
        have hL4 : (upd H3 L (.lst (xs ++ [v]))) L = some (.lst (xs ++ [v])) := upd_same
        have hW4 : (upd H3 L (.lst (xs ++ [v]))) W = some (.lst rf) := by rw [upd_ne nLW]; exact hW3
        have neq : neu B (upd H3 L (.lst (xs ++ [v]))) = neu B H3 := neu_own (by rw [BL]; simp)
        have B2 : ∀ b, H2 b = none → B b = none := fun b hb => by
          by_cases e1 : b = L
          · rw [e1, hL2] at hb; cases hb
          by_cases e2 : b = W
          · rw [e2, hW2] at hb; cases hb
          rw [hB, upd_ne e2, upd_ne e1]
          exact free_of d2 S hb
        have hat4 : (x.snoc y).At false (neu B (upd H3 L (.lst (xs ++ [v])))) (xs ++ [v]) := by
          rw [neq]
          exact snoc_at (hat.same (neu_mono dB (fun b hb => hb) S3)) (ay.same (neu_mono d2 B2 (Same.refl _)))
        have tk : ∀ b ys, H3 b = some (.tup ys) → (upd H3 L (.lst (xs ++ [v]))) b = some (.tup ys) := fun b ys e => by rw [upd_ne (ne_of e hL3 (by intro z; cases z))]; exact e
        have kp4 : Kp true (D.hid H2) (D.hid (upd H3 L (.lst (xs ++ [v])))) := ⟨fun b ys e => by
          rw [hid_upd nL, upd_ne (fun z => by rw [z, hid_at nL, hL2] at e; cases e)]
          exact S3 _ _ e, fun z => by cases z⟩
        have hnu4 := hnu.kp kp4
        obtain ⟨p, rest, ev, hp, _⟩ := At_head ay (odd_of dy.ok)
        have hp3 := neu_le _ _ hp
        have hp4 := tk _ _ hp3
        have hyy := ay
        generalize upd H3 L (.lst (xs ++ [v])) = H4 at S4 d4 hL4 hW4 neq hat4 hnu4 hp4 tk ⊢
        subst ev
        refine ⟨_, rfl, p, _, 0, _, rfl, rfl, SqT.of hp4, atI_nat (j := 0) rfl, rfl, _, rfl, ?_⟩
        rw [isnum (odd_of dy.ok)]
        cases y with
        | num nm size order lo hi' =>
          refine iteT ?_
          refine ⟨_, rfl, .inl ⟨rfl, _, SqL.of hW4⟩, _, rfl, W, rf, .ref p, rfl, rfl, hW4, small1000 (by have := hnu.len; have := dr.sit.sz; omega), ?_⟩
          have kp5 : Kp true (D.hid H4) (D.hid (upd H4 W (.lst (rf ++ [.ref p])))) := ⟨fun b ys e => by
            rw [hid_upd nW, upd_ne (fun z => by rw [z, hid_at nW, hW4] at e; cases e)]
            exact e, fun z => by cases z⟩
          have neq5 : neu B (upd H4 W (.lst (rf ++ [.ref p]))) = neu B H4 := neu_own (by rw [BW]; simp)
          simp only [It.At] at hyy
          obtain ⟨p', ep, hpn⟩ := hyy
          cases ep
          have hpd : D.hid (upd H4 W (.lst (rf ++ [.ref p]))) p = some (.tup [.str "number", .str nm, .int size, .str order, .int lo, .int hi']) := by
            have := tk _ _ (neu_le _ _ hpn)
            have nD : ¬ D.has p := d2.fresh (neu_in hpn).1
            refine kp5.t _ _ ?_
            rw [hid_at nD]
            exact this
          exact ⟨_, _, rfl, N3, c3, _, bs ++ [(nm, lo, hi')], _, _, own_wr d4 S4 hW0 nW, d4.off nW, by rw [upd_ne nLW.symm]; exact hL4, by rw [neq5]; exact hat4, upd_same, NumsAt.app ⟨p, size, order, rfl, hpd⟩ (hnu4.kp kp5), dr.stepN dy⟩
        | _ => exact iteF ⟨_, _, rfl, N3, c3, _, bs, _, rf, S4, d4, hL4, hat4, hW4, hnu4, dr.step dy (fun _ => rfl)⟩
      · have e : ¬ (0 : Int) < N2.length := fun z => e (decide_eq_true z)
        have eN : N2 = [] := by cases N2 with
          | nil => rfl
          | cons a r => exact absurd (by simp) e
        exact ⟨_, _, rfl, N2, c2, x, bs, xs, rf, S, d2, hL2, hat, hW2, hnu, dr.skip eN⟩
    · rintro σ H2 ⟨i6, i7, rfl, N2, c2, x, bs, xs, rf, S, d2, hL2, hat, hW2, hnu, dr⟩
      refine ⟨_, rfl, q L xs x bs H2 N2 c2 S d2 (by rw [neu_at hL]; exact hL2) (hat.same (neu_mono dB Bdom (Same.refl _))) dr⟩
end
end Bs

set_option Elab.async false
set_option linter.all false
set_option maxRecDepth 100000
set_option maxHeartbeats 4000000
namespace Bs
open PySem L2
theorem with_rest {t u : TS} {D : Ends} {σ : L2.St} {H : Hp} (Pv : L2.St → Hp → Prop) (h2 : ∀ σ' H', Pv σ' H' → u D σ' H') (h1 : (∀ σ' H', Pv σ' H' → u D σ' H') → tSeq t u D σ H) : tSeq t u D σ H := h1 h2
/-! ### draws in short -/
theorem pop_go {K : PySem.W.Frag} {D : Dr4} {H : Hp} {z : Str} {N : List Str} {c : Nat} {σ : L2.St} {R : V → Hp → Prop} (h0 : σ[0]? = some (some (.ref D.a))) (da : DAt D H (z :: N) c) (h : ∀ H', DAt D H' N c → D.hid H' = D.hid H → R (.str z) H') :
    tBM K "list" rPopAt (tOp (rIxL K) (tVar 0) (tC (.int 2))) (tCons (tC (.int 0)) tNil) σ H R := by
  obtain ⟨i, ha⟩ := da.a
  refine ⟨_, h0, D.a, _, 2, _, rfl, rfl, SqL.of ha, atI_nat (j := 2) rfl, .inl ⟨rfl, _, SqL.of da.nl⟩, D.nl, _, 0, 0, _, rfl, rfl, da.nl, by decide, by decide, by unfold seqIndex?; simp, rfl, ?_⟩
  exact h _ da.pop (hid_own (.inr (.inl rfl)))
theorem next_go {D : Dr4} {H : Hp} {N : List Str} {c : Nat} {m : Int} {E : XK} {σ : L2.St} {R : V → Hp → Prop} (h0 : σ[0]? = some (some (.ref D.a))) (da : DAt D H N c) (hm : 0 < m) (h : ∀ r H', 0 ≤ r → r < m → DAt D H' N c → D.hid H' = D.hid H → R (.int r) H') :
    tCl spNext E (tCons (tVar 0) (tCons (tC (.int m)) tNil)) σ H R :=
  ⟨_, h0, D, N, c, m, rfl, da, hm, fun r H' a b e d => h r H' a b d e⟩
/-- [..][_law_next(draw, m)], the display made -/
theorem pick_go {K : PySem.W.Frag} {D : Dr4} {H : Hp} {N : List Str} {c : Nat} {m : Int} {E : XK} {σ : L2.St} {R : V → Hp → Prop} {is : List Int} (h0 : σ[0]? = some (some (.ref D.a))) (da : DAt D H N c) (hm : (is.length : Int) = m) (hp : 0 < m)
    (h : ∀ i H', i ∈ is → DAt D H' N c → Same (D.hid H) (D.hid H') → R (.int i) H') :
    ∀ p, H p = none → tCl spNext E (tCons (tVar 0) (tCons (tC (.int m)) tNil)) σ (upd H p (.lst (is.map V.int))) fun y H2 => rIxL K (.ref p) y H2 R := fun p hp2 => by
  obtain ⟨d1, s1, g1⟩ := da.new hp2 (.lst (is.map V.int))
  refine next_go h0 d1 hp fun r H' a b d e => ?_
  obtain ⟨i, hi, ai⟩ := at_ints (is := is) a (by rw [hm]; exact b)
  exact ⟨p, _, _, _, rfl, rfl, SqL.of (hid_stay e g1), ai, h i H' hi d (by rw [e]; exact s1)⟩
section
variable {P : Program} {w : World} {K : PySem.W.Frag} {mg : Str → Option Value} {base : Heap} {f : Addr} {fd : FuncData}
abbrev nItem : List Str := ["draw", "ahead", "depth", "kind"]
theorem scItem : FnScope nItem ["draw", "ahead", "depth"] (defScope sLawItem) := ⟨rfl, rfl, rfl, by decide +kernel, rfl, by decide +kernel, by decide +kernel⟩
theorem ok_item {n k : Nat} (hk : 2 ≤ k) (F : Fun K "_law_item" "_law_item" sLawItem f fd) (gX : Cal P w K mg base CX0 1 "_law_next" ["draw", "many"] spNext) (gN : Cal P w K mg base CX0 2 "_law_number" ["draw", "name"] spNumber) (gU : Cal P w K mg base CX0 2 "_law_use" ["draw", "ahead", "most"] spUse)
    (gS : Cal P w K mg base CX0 k "_law_nested" ["draw", "ahead", "depth", "kind"] (spNested n)) (ml : mg "len" = none) :
    FnOk P w K mg base CX0 (k + 1) f fd ["draw", "ahead", "depth"] (spItem n) := by
  refine F.ok scItem (fun vs H Q E h => ?_) (fun cdv A outer s H vs Q E hr h => ?_)
  · obtain ⟨D, N, c, ah, refs, as, d, rfl, _⟩ := h
    rfl
  · obtain ⟨D, N, c, ah, refs, as, d, rfl, hd, da, hah, hnum, hs, hN, q⟩ := h
    have hr1 : Room 1 _ := hr.mono (by omega)
    have hr2 : Room 2 _ := hr.mono hk
    refine ⟨_, pss_cons (ps_set (i := 3) scItem.nd rfl (.inl rfl) (pe_cal gX hr1 pass0 (pa_cons (pv 0) (pa_cons pe_int pa_nil))))
      (pss_cons (ps_if (PW.pt (pw_or (pt_cmpR op_lt (pv 3) pe_int (nomark _)) (pw_or1 (PW.pt (pw_and (pt_cmpR op_eq (pv 3) pe_int (nomark _)) (pw_and1 (pt_cmpR op_gt (pe_callB call_len (by rfl) ml boot_len (pa_cons (pe_ix ix_list (pv 0) pe_int (fun _ _ => rfl)) pa_nil)) pe_int (nomark _))))))))
        (pss_one (ps_ret (pe_cal gN hr2 pass0 (pa_cons (pv 0) (pa_cons (pe_bm PySem.F.plainAttrs_list PySem.F.slot_list_pop PySem.F.type_list_pop mt_popAt (pe_ix ix_list (pv 0) pe_int (fun _ _ => rfl)) (pa_cons pe_int pa_nil)) pa_nil))))) pss_nil)
      (pss_cons (ps_if (pt_cmpR op_eq (pv 3) pe_int (nomark _)) (pss_one (ps_ret (pe_tup (pa_cons pe_str (pa_cons (pe_bm PySem.F.plainAttrs_list PySem.F.slot_list_pop PySem.F.type_list_pop mt_popAt (pe_ix ix_list (pv 0) pe_int (fun _ _ => rfl)) (pa_cons pe_int pa_nil))
          (pa_cons (pe_cal gU hr2 pass0 (pa_cons (pv 0) (pa_cons (pv 1) (pa_cons pe_int pa_nil)))) pa_nil)))))) pss_nil)
      (pss_cons (ps_if (pt_cmpR op_eq (pv 3) pe_int (nomark _)) (pss_one (ps_ret (pe_tup (pa_cons pe_str (pa_cons (pe_bm PySem.F.plainAttrs_list PySem.F.slot_list_pop PySem.F.type_list_pop mt_popAt (pe_ix ix_list (pv 0) pe_int (fun _ _ => rfl)) (pa_cons pe_int pa_nil))
          (pa_cons (pe_ix ix_list (pe_lst (pa_cons pe_int (pa_cons pe_int (pa_cons pe_int pa_nil)))) (pe_cal gX hr1 pass0 (pa_cons (pv 0) (pa_cons pe_int pa_nil))) (fun _ _ => rfl))
          (pa_cons (pe_ix ix_list (pe_lst (pa_cons pe_int (pa_cons pe_int (pa_cons (pe_cal gX hr1 pass0 (pa_cons (pv 0) (pa_cons pe_int pa_nil))) pa_nil)))) (pe_cal gX hr1 pass0 (pa_cons (pv 0) (pa_cons pe_int pa_nil))) (fun _ _ => rfl)) pa_nil))))))) pss_nil)
      (pss_cons (ps_if (pt_cmpR op_eq (pv 3) pe_int (nomark _)) (pss_cons (ps_expr (pe_bm PySem.F.plainAttrs_list PySem.F.slot_list_append PySem.F.type_list_append mt_append (pe_ix ix_list (pv 0) pe_int (fun _ _ => rfl)) (pa_cons pe_int pa_nil)))
          (pss_one (ps_ret (pe_tup (pa_cons pe_str (pa_cons (pe_bm PySem.F.plainAttrs_list PySem.F.slot_list_pop PySem.F.type_list_pop mt_popAt (pe_ix ix_list (pv 0) pe_int (fun _ _ => rfl)) (pa_cons pe_int pa_nil))
          (pa_cons (pe_ix ix_list (pe_lst (pa_cons pe_int (pa_cons pe_int (pa_cons (pe_op op_add pe_int (pe_cal gX hr1 pass0 (pa_cons (pv 0) (pa_cons pe_int pa_nil)))) pa_nil)))) (pe_cal gX hr1 pass0 (pa_cons (pv 0) (pa_cons pe_int pa_nil))) (fun _ _ => rfl)) pa_nil))))))) pss_nil)
      (pss_cons (ps_if (pt_cmpR op_eq (pv 3) pe_int (nomark _)) (pss_one (ps_ret (pe_tup (pa_cons pe_str (pa_cons (pe_bm PySem.F.plainAttrs_list PySem.F.slot_list_pop PySem.F.type_list_pop mt_popAt (pe_ix ix_list (pv 0) pe_int (fun _ _ => rfl)) (pa_cons pe_int pa_nil))
          (pa_cons (pe_ix ix_list (pe_lst (pa_cons pe_int (pa_cons pe_int (pa_cons pe_int (pa_cons pe_int (pa_cons pe_int pa_nil)))))) (pe_cal gX hr1 pass0 (pa_cons (pv 0) (pa_cons pe_int pa_nil))) (fun _ _ => rfl))
          (pa_cons (pe_ix ix_list (pe_lst (pa_cons pe_int (pa_cons pe_int (pa_cons (pe_cal gX hr1 pass0 (pa_cons (pv 0) (pa_cons pe_int pa_nil))) pa_nil)))) (pe_cal gX hr1 pass0 (pa_cons (pv 0) (pa_cons pe_int pa_nil))) (fun _ _ => rfl)) pa_nil))))))) pss_nil)
      (pss_cons (ps_if (PW.pt (pw_or (pt_cmpR op_eq (pv 2) pe_int (nomark _)) (pw_or1 (pt_cmpR op_lt (pe_callB call_len (by rfl) ml boot_len (pa_cons (pe_ix ix_list (pv 0) pe_int (fun _ _ => rfl)) pa_nil)) pe_int (nomark _)))))
        (pss_one (ps_ret (pe_cal gN hr2 pass0 (pa_cons (pv 0) (pa_cons (pe_bm PySem.F.plainAttrs_list PySem.F.slot_list_pop PySem.F.type_list_pop mt_popAt (pe_ix ix_list (pv 0) pe_int (fun _ _ => rfl)) (pa_cons pe_int pa_nil)) pa_nil))))) pss_nil)
      (pss_one (ps_ret (pe_cal gS hr pass0 (pa_cons (pv 0) (pa_cons (pv 1) (pa_cons (pv 2) (pa_cons (pv 3) pa_nil))))))))))))), ?_⟩
    obtain ⟨z, N1, rfl⟩ : ∃ z r, N = z :: r := by
      cases N with
      | nil => exact absurd rfl hN
      | cons z r => exact ⟨z, r, rfl⟩
    have hd3 : d ≤ 3 := by omega
    have nm := hs.nm z (List.mem_cons_self ..)
    refine next_go rfl da (by decide) fun kind H1 k0 k1 d1 e1 => ?_
    -- a number
    have num : ∀ H2 σ, σ[0]? = some (some (.ref D.a)) → DAt D H2 (z :: N1) c → D.hid H2 = D.hid H → tCl spNumber E0 (tCons (tVar 0) (tCons (tBM K "list" rPopAt (tOp (rIxL K) (tVar 0) (tC (.int 2))) (tCons (tC (.int 0)) tNil)) tNil)) σ H2 (fun x H3 => Q x H3) := fun H2 σ h0 d2 e2 => by
      refine ⟨_, h0, pop_go h0 d2 fun H3 d3 e3 => ⟨D, N1, c, z, rfl, d3, fun t H4 size order lo hi S4 d4 h4 hn => ?_⟩⟩
      have S : Same (D.hid H) (D.hid H3) := by rw [e3, e2]; exact Same.refl _
      refine q (.ref t) (.num z size order lo hi) H4 N1 c (S.trans S4) d4 ?_ (Dr1.num hd3 hs hn)
      simp only [It.At]
      exact ⟨t, rfl, neu_mono d3 (fun b hb => free_of d3 S hb) (Same.refl _) _ _ h4⟩
    have S1 : Same (D.hid H) (D.hid H1) := by rw [e1]; exact Same.refl _
    -- a tuple is made
    have mk : ∀ (y : It) (xs : List V) (H' : Hp) (N' : List Str) (c' : Nat), Same (D.hid H) (D.hid H') → DAt D H' N' c' → (∀ p G, G p = some (.tup xs) → y.At false G (.ref p)) → Dr1 d as (z :: N1) N' c c' y → ∀ p, H' p = none → Q (.ref p) (upd H' p (.tup xs)) := fun y xs H' N' c' S' d' hy dy p hp => by
      obtain ⟨d2, s2, _⟩ := d'.new hp (.tup xs)
      exact q _ y _ N' c' (S'.trans s2) d2 (hy p _ (by rw [neu_at (free_of d' S' hp)]; exact upd_same)) dy
    dsimp only
    refine with_rest (fun σ' H' => σ' = [some (.ref D.a), some (.ref ah), some (.int d), some (.int kind)] ∧ H' = H1 ∧ ¬ kind < 3 ∧ (kind = 8 → c = 0)) ?_ fun rest => ?_
    rotate_left
    · refine ⟨_, rfl, _, _, rfl, rfl, _, rfl, ?_⟩
      refine ite2 (fun _ => iteT (num H1 _ rfl d1 e1)) (fun n3 => ?_)
      have n3 : ¬ kind < 3 := fun z => n3 (decide_eq_true z)
      refine ⟨_, rfl, rfl, _, rfl, ?_⟩
      rw [int_eq]
      refine ite2 (fun k8 => ?_) (fun k8 => ?_)
      · obtain ⟨ii, ha⟩ := d1.a
        obtain ⟨ms, hm, hml⟩ := d1.ml
        refine ⟨_, rfl, D.a, _, 3, _, rfl, rfl, SqL.of ha, atI_nat (j := 3) rfl, _, _, rfl, .inl ⟨_, SqL.of hm, rfl⟩, _, _, rfl, rfl, _, rfl, ?_⟩
        rw [hml]
        refine ite2 (fun _ => num H1 _ rfl d1 e1) (fun e => rest _ _ ⟨rfl, rfl, n3, fun _ => ?_⟩)
        have e : ¬ (0 : Int) < c := fun z => e (decide_eq_true z)
        omega
      · have k8 : ¬ kind = 8 := fun z => k8 (decide_eq_true z)
        exact iteF (rest _ _ ⟨rfl, rfl, n3, fun z => absurd z k8⟩)
    rintro σ H1' ⟨rfl, rfl, n3, hc8⟩
    -- bytes
    refine ⟨_, rfl, rfl, _, rfl, ?_⟩
    rw [int_eq]
    refine ite2 (fun _ => ?_) (fun n4 => ?_)
    · refine pop_go rfl d1 fun H2 d2 e2 => ?_
      have e12 : D.hid H2 = D.hid H := by rw [e2, e1]
      refine ⟨_, rfl, _, rfl, D, N1, c, ah, refs, as, 64, rfl, d2, by rw [e12]; exact hah, by rw [e12]; exact hnum, (by have := hs.sz; omega), by decide, fun amt H3 S3 d3 ha => ?_⟩
      refine ⟨(by show 3 ≤ sizeLine; decide), mk (.byt z amt) _ H3 N1 c (by rw [e12] at S3; exact S3) d3 (fun p G hp => by simp only [It.At]; exact ⟨p, rfl, hp⟩) (Dr1.byt hd3 hs ha)⟩
    have n4 : ¬ kind = 3 := fun z => n4 (decide_eq_true z)
    -- a text
    refine ⟨_, rfl, rfl, _, rfl, ?_⟩
    rw [int_eq]
    refine ite2 (fun _ => ?_) (fun n5 => ?_)
    · refine pop_go rfl d1 fun H2 d2 e2 => ?_
      have e12 : D.hid H2 = D.hid H := by rw [e2, e1]
      refine ⟨(by show 3 ≤ sizeLine; decide), pick_go (is := [0, 255, 10]) rfl d2 rfl (by decide) fun st H3 hst d3 S3 => ?_⟩
      refine next_go rfl d3 (by decide) fun r4 H4 a0 a1 d4 e4 => ?_
      refine ⟨(by show 3 ≤ sizeLine; decide), pick_go (is := [0, 64, r4]) rfl d4 rfl (by decide) fun mo H5 hmo d5 S5 => ?_⟩
      rw [e12] at S3
      rw [e4] at S5
      refine ⟨(by show 4 ≤ sizeLine; decide), mk (.txt z st mo) _ H5 N1 c (S3.trans S5) d5 (fun p G hp => by simp only [It.At]; exact ⟨p, rfl, hp⟩) (Dr1.txt hd3 hs ?_ ?_)⟩
      · simp only [List.mem_cons, List.not_mem_nil, or_false] at hst; omega
      · simp only [List.mem_cons, List.not_mem_nil, or_false] at hmo; omega
    -- a check
    refine ⟨_, rfl, rfl, _, rfl, ?_⟩
    rw [int_eq]
    refine ite2 (fun k8 => ?_) (fun n8 => ?_)
    · obtain rfl := hc8 (of_decide_eq_true k8)
      obtain ⟨ii, ha⟩ := d1.a
      obtain ⟨ms, hm, hml⟩ := id d1.ml
      refine ⟨_, rfl, D.a, _, 3, _, rfl, rfl, SqL.of ha, atI_nat (j := 3) rfl, .inl ⟨rfl, _, SqL.of hm⟩, D.ml, ms, .int 1, rfl, rfl, hm, small1000 (by omega), ?_⟩
      have d2 := d1.mark hml (.int 1)
      have e2 : D.hid (upd H1' D.ml (.lst (ms ++ [.int 1]))) = D.hid H := by rw [hid_own (.inr (.inr rfl)), e1]
      generalize upd H1' D.ml (.lst (ms ++ [.int 1])) = H2 at d2 e2 ⊢
      refine pop_go rfl d2 fun H3 d3 e3 => ?_
      have e13 : D.hid H3 = D.hid H := by rw [e3, e2]
      refine next_go rfl d3 (by decide) fun r4 H4 a0 a1 d4 e4 => ⟨_, _, rfl, rfl, ?_⟩
      refine ⟨(by show 3 ≤ sizeLine; decide), pick_go (is := [1, 16, 1 + r4]) rfl d4 rfl (by decide) fun mo H5 hmo d5 S5 => ?_⟩
      rw [e4, e13] at S5
      refine ⟨(by show 3 ≤ sizeLine; decide), mk (.chk z mo) _ H5 N1 1 S5 d5 (fun p G hp => by simp only [It.At]; exact ⟨p, rfl, hp⟩) (Dr1.chk hd3 hs ?_)⟩
      simp only [List.mem_cons, List.not_mem_nil, or_false] at hmo; omega
    -- a pad
    refine ⟨_, rfl, rfl, _, rfl, ?_⟩
    rw [int_eq]
    refine ite2 (fun _ => ?_) (fun n9 => ?_)
    · refine pop_go rfl d1 fun H2 d2 e2 => ?_
      have e12 : D.hid H2 = D.hid H := by rw [e2, e1]
      refine ⟨(by show 5 ≤ sizeLine; decide), pick_go (is := [1, 2, 4, 8, 16]) rfl d2 rfl (by decide) fun mu H3 hmu d3 S3 => ?_⟩
      refine next_go rfl d3 (by decide) fun r4 H4 a0 a1 d4 e4 => ?_
      refine ⟨(by show 3 ≤ sizeLine; decide), pick_go (is := [0, 255, r4]) rfl d4 rfl (by decide) fun by_ H5 hby d5 S5 => ?_⟩
      rw [e12] at S3
      rw [e4] at S5
      refine ⟨(by show 4 ≤ sizeLine; decide), mk (.pad z mu by_) _ H5 N1 c (S3.trans S5) d5 (fun p G hp => by simp only [It.At]; exact ⟨p, rfl, hp⟩) (Dr1.pad hd3 hs ?_ ?_)⟩
      · simpa only [List.mem_cons, List.not_mem_nil, or_false] using hmu
      · simp only [List.mem_cons, List.not_mem_nil, or_false] at hby; omega
    -- blocks
    refine ⟨_, rfl, rfl, _, rfl, ?_⟩
    rw [int_eq]
    refine ite2 (fun _ => iteT (num H1' _ rfl d1 e1)) (fun nd => ?_)
    have nd : ¬ d = 3 := fun z => nd (decide_eq_true z)
    obtain ⟨ii, ha⟩ := d1.a
    refine ⟨_, rfl, D.a, _, 2, _, rfl, rfl, SqL.of ha, atI_nat (j := 2) rfl, _, _, rfl, .inl ⟨_, SqL.of d1.nl, rfl⟩, _, _, rfl, rfl, _, rfl, ?_⟩
    rw [List.length_map]
    refine ite2 (fun _ => num H1' _ rfl d1 e1) (fun e => ?_)
    have e : ¬ (((z :: N1).length : Nat) : Int) < 14 := fun z => e (decide_eq_true z)
    refine ⟨_, rfl, _, rfl, _, rfl, _, rfl, D, z :: N1, c, ah, refs, as, d, kind, rfl, hd, by omega, d1, by rw [e1]; exact hah, by rw [e1]; exact hnum, hs, by omega, fun v y H2 N' c' S2 d2 ay dy => ?_⟩
    exact q v y H2 N' c' (by rw [e1] at S2; exact S2) d2 (ay.same (neu_mono d1 (fun b hb => free_of d1 S1 hb) (Same.refl _))) dy
end
end Bs

set_option Elab.async false
set_option linter.all false
set_option maxRecDepth 100000
set_option maxHeartbeats 8000000
namespace Bs
open PySem L2
/-- the heap without one list -/
def cut1 (L : Addr) (G : Hp) : Hp := fun b => if b = L then none else G b
theorem cut1_le {L : Addr} {G : Hp} : Same (cut1 L G) G := fun b o e => by
  unfold cut1 at e
  by_cases c : b = L
  · rw [if_pos c] at e; cases e
  · rw [if_neg c] at e; exact e
theorem to_cut {L : Addr} {G G' : Hp} (s : Same G G') (h : G L = none) : Same G (cut1 L G') := fun b o e => by
  unfold cut1
  rw [if_neg fun c => by rw [c, h] at e; cases e]
  exact s b o e
theorem cut1_same {L : Addr} {G G' : Hp} (s : Same G G') : Same (cut1 L G) (cut1 L G') := to_cut (cut1_le.trans s) (by unfold cut1; rw [if_pos rfl])
theorem cut1_wr {L : Addr} {H0 H : Hp} {o : HO} : cut1 L (neu H0 (upd H L o)) = cut1 L (neu H0 H) := by
  funext b
  unfold cut1
  by_cases c : b = L
  · rw [if_pos c, if_pos c]
  · rw [if_neg c, if_neg c]
    unfold neu
    cases H0 b with
    | some _ => rfl
    | none => exact upd_ne c
theorem pe_pop {X : Cx} {K : PySem.W.Frag} {o e : Expr} {es : List Expr} {apos cpos : Pos} {to : TE} {t : TA} (hK : X.K = K) (ho : PE X o to) (ha : PA X (e :: es) t)
    (hbase : attributeBase o "pop" X.env (eval o X.env) = eval o X.env := by rfl)
    (hfew : ((backTo cpos (starEach (e :: es) X.env)).all (fun x => !x.1) && (backToKw cpos (keywordEach [] X.env)).all (fun x => x.1.isSome)
      && decide ((e :: es).length + ([] : List Keyword).length + (if ([] : List Keyword).isEmpty then 0 else 1) < 30)) = true := by rfl)
    (hline : (apos.endLine == cpos.line) = true := by rfl) (hs : starEach (e :: es) X.env = (false, eval e X.env) :: starEach es X.env := by rfl) (hplain : (backTo cpos (starEach es X.env)).any (·.1) = false := by rfl) :
    PE X (.Call (.Attribute o "pop" apos) (e :: es) [] cpos) (tBM K "list" rPopAt to t) := by
  subst hK
  exact pe_bm PySem.F.plainAttrs_list PySem.F.slot_list_pop PySem.F.type_list_pop mt_popAt ho ha hbase hfew hline hs hplain
theorem s5_lst {H : Hp} {L C : Addr} {xs : List V} {o : HO} (h : H L = some (.lst xs)) (n : L ≠ C) : (upd H C o) L = some (.lst xs) := by rw [upd_ne n]; exact h
theorem either_or {K : PySem.W.Frag} {ah : Addr} {kind : Int} {n : Nat} {A B : TS} {D : Ends} {σ : L2.St} {H : Hp} (h3 : σ[3]? = some (some (.int kind))) (h1 : σ[1]? = some (some (.ref ah))) (hl : LenV K (.ref ah) H n) (ha : A D σ H) (hb : n ≠ 0 → B D σ H) :
    tIfS (tOr (tTest (tOp rEq (tVar 3) (tC (.int 6)))) (tTest (tOp rEq (tCB (fun xs H Q => ∃ x n, xs = [x] ∧ LenV K x H n ∧ Q (V.int (n : Nat)) H) (tCons (tVar 1) tNil)) (tC (.int 0))))) A B D σ H := by
  refine ⟨_, h3, rfl, _, rfl, ?_⟩
  refine ite2 (fun _ => iteT ha) (fun _ => ?_)
  refine ⟨_, h1, _, n, rfl, hl, rfl, _, rfl, ?_⟩
  rw [int_eq]
  refine ite2 (fun _ => ha) (fun e => hb fun z => e (decide_eq_true (by rw [z]; rfl)))
def rInt1 : List V → Hp → VK → Prop := fun xs H Q => (∃ i, xs = [.int i] ∧ Q (.int i) H) ∨ ∃ k, xs = [.bl k] ∧ Q (.int (if k then 1 else 0)) H
/-- the values of the cases -/
theorem case_vals {first r : Int} {m : Nat} (h0 : 0 ≤ first) (h1 : first < 1000) (r0 : 0 ≤ r) (r4 : r < 4) (hm : m ≤ 8) :
    (∀ v ∈ (List.range m).map (fun k : Nat => first + 8064 * ((0 + (k : Int)) * (1 + 2 * r) % 8)), 0 ≤ v ∧ v ≤ 65535) ∧ ((List.range m).map (fun k : Nat => first + 8064 * ((0 + (k : Int)) * (1 + 2 * r) % 8))).Nodup := by
  constructor
  · intro v hv
    obtain ⟨k, _, rfl⟩ := List.mem_map.mp hv
    have a := Int.emod_nonneg ((0 + (k : Int)) * (1 + 2 * r)) (show (8 : Int) ≠ 0 by decide)
    have b := Int.emod_lt_of_pos ((0 + (k : Int)) * (1 + 2 * r)) (show (0 : Int) < 8 by decide)
    omega
  · have key : ∀ (m : Fin 9) (r : Fin 4), ((List.range m.val).map fun k : Nat => (0 + (k : Int)) * (1 + 2 * (r.val : Int)) % 8).Nodup := by decide
    obtain ⟨rn, rfl⟩ := Int.eq_ofNat_of_zero_le r0
    have q := key ⟨m, by omega⟩ ⟨rn, by omega⟩
    have e : (List.range m).map (fun k : Nat => first + 8064 * ((0 + (k : Int)) * (1 + 2 * (rn : Int)) % 8)) = ((List.range m).map fun k : Nat => (0 + (k : Int)) * (1 + 2 * (rn : Int)) % 8).map (fun i => first + 8064 * i) := by rw [List.map_map]; rfl
    rw [e]
    exact List.Pairwise.map _ (fun a b hab => by omega) q
section
variable {P : Program} {w : World} {K : PySem.W.Frag} {mg : Str → Option Value} {base : Heap} {f : Addr} {fd : FuncData}
abbrev nNested : List Str := ["draw", "ahead", "depth", "kind", "name", "first", "firsts", "choices", "step", "cases", "k"]
theorem scNested : FnScope nNested ["draw", "ahead", "depth", "kind"] (defScope sLawNested) := ⟨rfl, rfl, rfl, by decide +kernel, rfl, by decide +kernel, by decide +kernel⟩
theorem ok_nested {n k : Nat} (hk : 2 ≤ k) (F : Fun K "_law_nested" "_law_nested" sLawNested f fd) (gX : Cal P w K mg base CX0 1 "_law_next" ["draw", "many"] spNext) (gU : Cal P w K mg base CX0 2 "_law_use" ["draw", "ahead", "most"] spUse)
    (gB : Cal P w K mg base CX0 k "_law_block" ["draw", "ahead", "depth", "name"] (spSub spBlock n)) (ml : mg "len" = none) (mr : mg "range" = none) (mint : mg "int" = none) :
    FnOk P w K mg base CX0 (k + 1) f fd ["draw", "ahead", "depth", "kind"] (spNested n) := by
  refine F.ok scNested (fun vs H Q E h => ?_) (fun cdv A outer s H vs Q E hr h => ?_)
  · obtain ⟨D, N, c, ah, refs, as, d, kind, rfl, _⟩ := h
    rfl
  · obtain ⟨D, N, c, ah, refs, as, d, kind, rfl, hd, hd2, da, hah, hnum, hs, h14, q⟩ := h
    have hr1 : Room 1 _ := hr.mono (by omega)
    have hr2 : Room 2 _ := hr.mono hk
    refine ⟨_, pss_cons (ps_set (i := 4) scNested.nd rfl (.inl rfl) (pe_bm PySem.F.plainAttrs_list PySem.F.slot_list_pop PySem.F.type_list_pop mt_popAt (pe_ix ix_list (pv 0) pe_int (fun _ _ => rfl)) (pa_cons pe_int pa_nil)))
      (pss_cons (ps_if (pt_cmpR op_eq (pv 3) pe_int (nomark _))
        (pss_cons (ps_set (i := 5) scNested.nd rfl (.inr rfl) (pe_bm PySem.F.plainAttrs_list PySem.F.slot_list_pop PySem.F.type_list_pop mt_popAt (pe_ix ix_list (pv 0) pe_int (fun _ _ => rfl)) (pa_cons pe_int pa_nil)))
        (pss_one (ps_ret (pe_tup (pa_cons pe_str (pa_cons (pv 4) (pa_cons (pe_cal gU hr2 pass0 (pa_cons (pv 0) (pa_cons (pv 1) (pa_cons pe_int pa_nil)))) (pa_cons (pe_cal gB hr pass0 (pa_cons (pv 0) (pa_cons (pv 1) (pa_cons (pe_op op_add (pv 2) pe_int) (pa_cons (pv 5) pa_nil))))) pa_nil)))))))) pss_nil)
      (pss_cons (ps_if (PW.pt (pw_or (pt_cmpR op_eq (pv 3) pe_int (nomark _)) (pw_or1 (pt_cmpR op_eq (pe_callB call_len (by rfl) ml boot_len (pa_cons (pv 1) pa_nil)) pe_int (nomark _)))))
        (pss_cons (ps_setLc (i := 6) (own := [("k", 10)]) (g := gName 10) (tt := tYes) rfl scNested.nd rfl rfl (sw_true rfl rfl rfl (by decide +kernel)) (pi_range1 (by rfl) mr (pa_cons (pe_op op_add pe_int (pe_cal gX hr1 pass0 (pa_cons (pv 0) (pa_cons pe_int pa_nil)))) pa_nil))
            (blkOk_by (own := [("k", 10)]) (N := nNested) (sc := defScope sLawNested) (by decide +kernel)) (fun _ _ _ _ _ => pg_name (i := 10) scNested.nd rfl (Or.inl rfl)) (fun _ _ _ _ _ => pts_nil)
            (fun _ _ _ _ _ => pe_pop (K := K) rfl (pe_ix (r := rIxL K) ix_list (pv 0) pe_int (fun _ _ => rfl)) (pa_cons pe_int pa_nil)))
        (pss_cons (ps_set (i := 7) scNested.nd rfl (.inl rfl) (pe_lst (pa_cons (pe_cal gB hr pass0 (pa_cons (pv 0) (pa_cons (pv 1) (pa_cons (pe_op op_add (pv 2) pe_int) (pa_cons pe_str pa_nil))))) pa_nil)))
        (pss_cons (ps_for PassesOwn.never rfl (pi_list (pv 6)) (pg_name (i := 5) scNested.nd rfl (.inr rfl))
          (pss_one (ps_expr (pe_bm PySem.F.plainAttrs_list PySem.F.slot_list_append PySem.F.type_list_append mt_append (pv 7) (pa_cons (pe_cal gB hr pass0 (pa_cons (pv 0) (pa_cons (pv 1) (pa_cons (pe_op op_add (pv 2) pe_int) (pa_cons (pv 5) pa_nil))))) pa_nil)))))
        (pss_one (ps_ret (pe_tup (pa_cons pe_str (pa_cons (pv 4) (pa_cons (pv 7) pa_nil)))))))))  pss_nil)
      (pss_cons (ps_set (i := 5) scNested.nd rfl (.inr rfl) (pe_cal gX hr1 pass0 (pa_cons (pv 0) (pa_cons pe_int pa_nil))))
      (pss_cons (ps_set (i := 8) scNested.nd rfl (.inr rfl) (pe_op op_add pe_int (pe_op op_mul pe_int (pe_cal gX hr1 pass0 (pa_cons (pv 0) (pa_cons pe_int pa_nil))))))
      (pss_cons (ps_setLc (i := 9) (own := [("k", 10)]) (g := gName 10) (tt := tYes) rfl scNested.nd rfl rfl (sw_true rfl rfl rfl (by decide +kernel)) (pi_range1 (by rfl) mr (pa_cons (pe_op op_add pe_int (pe_cal gX hr1 pass0 (pa_cons (pv 0) (pa_cons pe_int pa_nil)))) pa_nil))
            (blkOk_by (own := [("k", 10)]) (N := nNested) (sc := defScope sLawNested) (by decide +kernel)) (fun _ _ _ _ _ => pg_name (i := 10) scNested.nd rfl (Or.inl rfl)) (fun _ _ _ _ _ => pts_nil)
            (fun _ _ _ _ _ => pe_tup (pa_cons (pe_op op_add (pv 5) (pe_op op_mul pe_int (pe_op op_mod (pe_callTy (r := rInt1) call_int1 (by rfl) mint (by decide +kernel) (pa_cons (pe_op op_mul (pv 10) (pv 8)) pa_nil)) pe_int)))
              (pa_cons (pe_cal gB hr pass0 (pa_cons (pv 0) (pa_cons (pv 1) (pa_cons (pe_op op_add (pv 2) pe_int) (pa_cons pe_str pa_nil))))) pa_nil))))
      (pss_one (ps_ret (pe_tup (pa_cons pe_str (pa_cons (pv 4) (pa_cons (pe_ix ix_tup (pe_ix ix_list (pv 1) (pe_cal gX hr1 pass0 (pa_cons (pv 0) (pa_cons (pe_callB call_len (by rfl) ml boot_len (pa_cons (pv 1) pa_nil)) pa_nil))) (fun _ _ => rfl)) pe_int (fun _ _ => rfl)) (pa_cons (pv 9) pa_nil)))))))))))), ?_⟩
    obtain ⟨name, N1, rfl⟩ : ∃ z r, N = z :: r := by
      cases N with
      | nil => simp at h14
      | cons z r => exact ⟨z, r, rfl⟩
    rw [List.length_cons] at h14
    have nm := hs.nm name (List.mem_cons_self ..)
    have hs1 : Sit as N1 c := Sit.suf (ps := [name]) hs hs.c1
    obtain ⟨n, rfl⟩ : ∃ m, n = m + 1 := ⟨n - 1, by omega⟩
    have hd1 : d + 1 + (n : Int) = 3 := by omega
    refine pop_go rfl da fun H1 d1 e1 => ?_
    have S1 : Same (D.hid H) (D.hid H1) := by rw [e1]; exact Same.refl _
    have mk : ∀ (y : It) (xs : List V) (H' : Hp) (N' : List Str) (c' : Nat), Same (D.hid H) (D.hid H') → DAt D H' N' c' → (∀ p G, Same (neu H H') G → G p = some (.tup xs) → y.At false G (.ref p)) → Dr1 d as (name :: N1) N' c c' y → ∀ p, H' p = none → Q (.ref p) (upd H' p (.tup xs)) := fun y xs H' N' c' S' d' hy dy p hp => by
      obtain ⟨d2, s2, _⟩ := d'.new hp (.tup xs)
      exact q _ y _ N' c' (S'.trans s2) d2 (hy p _ (neu_mono da (fun b hb => hb) s2) (by rw [neu_at (free_of d' S' hp)]; exact upd_same)) dy
    refine ⟨_, rfl, rfl, _, rfl, ?_⟩
    rw [int_eq]
    refine ite2 (fun _ => ?_) (fun _ => ?_)
    · -- a repeat
      obtain ⟨z, N2, rfl⟩ : ∃ z r, N1 = z :: r := by
        cases N1 with
        | nil => simp at h14
        | cons z r => exact ⟨z, r, rfl⟩
      refine pop_go rfl d1 fun H2 d2 e2 => ?_
      have e12 : D.hid H2 = D.hid H := by rw [e2, e1]
      refine ⟨_, rfl, _, rfl, _, rfl, D, N2, c, ah, refs, as, 16, rfl, d2, by rw [e12]; exact hah, by rw [e12]; exact hnum, (by have := hs.sz; omega), by decide, fun amt H3 S3 d3 ha => ?_⟩
      rw [e12] at S3
      have nz := hs1.nm z (List.mem_cons_self ..)
      refine ⟨_, rfl, _, rfl, _, rfl, _, _, rfl, rfl, _, rfl, D, [z], N2, c, ah, refs, as, d + 1, z, rfl, hd1, d3, S3 _ _ hah, hnum.same S3, .inr ⟨name_ne nz, rfl⟩, hs1, fun r xs x H4 N' c' S4 d4 h4 a4 dr => ?_⟩
      have nmo := neu_mono (H0 := H) d3 (fun b hb => free_of d3 S3 hb) (Same.refl (D.hid H4))
      refine ⟨(by show 4 ≤ sizeLine; decide), mk (.rep name amt x) _ H4 N' c' (S3.trans S4) d4 (fun p G sG hp => ?_) (Dr1.rep hd2 nm hs.anm ha dr)⟩
      simp only [It.At]
      exact ⟨p, r, xs, rfl, hp, .inr ⟨rfl, sG _ _ (nmo _ _ h4)⟩, (a4.same nmo).same sG⟩
    dsimp only
    refine either_or rfl rfl (.inl ⟨_, SqL.of (hid_le _ _ (by rw [e1]; exact hah)), rfl⟩) ?_ (fun hne => ?_)
    · -- an either
      refine seq_asg ?_
      refine next_go rfl d1 (by decide) fun r2 H2 a0 a1 d2 e2 => ?_
      obtain ⟨j, rfl⟩ := Int.eq_ofNat_of_zero_le a0
      have e12 : D.hid H2 = D.hid H := by rw [e2, e1]
      refine ⟨_, _, rfl, rfl, (1 + (j : Int)), rfl, by omega, by omega, fun L hL => ?_⟩
      rw [show (1 + (j : Int)).toNat = j + 1 by omega]
      have nL : ¬ D.has L := d2.fresh hL
      refine lc_range (lo := 0) (n := j + 1) (fun i H' => ∃ fs Nk, N1 = fs ++ Nk ∧ fs.length = i ∧ DAt D H' Nk c ∧ Same (D.hid H) (D.hid H') ∧ H' L = some (.lst (fs.map V.str)))
        ⟨[], N1, rfl, rfl, d2.off nL, by rw [← e12]; exact hid_same (same_new hL _), upd_same⟩ ?_ ?_
      · rintro i H3 hi ⟨fs, Nk, rfl, hfs, d3, S3, hL3⟩
        obtain ⟨z, Nr, rfl⟩ : ∃ z r, Nk = z :: r := by
          cases Nk with
          | nil => rw [List.append_nil] at h14; omega
          | cons z r => exact ⟨z, r, rfl⟩
        refine ⟨rfl, yes_go (pop_go rfl d3 fun H4 d4 e4 => ?_)⟩
        have hL4 := hid_stay e4 (by rw [hid_at nL]; exact hL3)
        refine ⟨_, hL4, small1000 (by rw [List.length_map]; omega), fs ++ [z], Nr, by simp, by rw [List.length_append, hfs]; rfl, d4.off nL, ?_, by rw [upd_same, List.map_append]; rfl⟩
        exact own_wr d4 (by rw [e4]; exact S3) (free_of d2 (same_eq e12) hL) nL
      rintro H3 ⟨fs, Nk, rfl, hfs, d3, S3, hL3⟩
      refine g_nx ?_
      have hsk : Sit as Nk c := hs1.suf hs1.c1
      have hahL : D.hid H3 ah = some (.lst refs) := S3 _ _ hah
      refine ⟨_, rfl, _, rfl, _, rfl, _, _, rfl, rfl, D, [], Nk, c, ah, refs, as, d + 1, "", rfl, hd1, d3, hahL, hnum.same S3, .inl ⟨rfl, rfl⟩, hsk, fun r0 xs0 x0 H4 N4 c4 S4 d4 h4 a4 dr4 => ?_⟩
      refine ⟨(by show 1 ≤ sizeLine; decide), fun C hC => ?_⟩
      obtain ⟨d5, s5, g5⟩ := d4.new hC (.lst [.ref r0])
      have S34 := S3.trans S4
      have nC : ¬ D.has C := d4.fresh hC
      have hC0 := free_of d4 S34 hC
      have hL4 := hid_le _ _ (S4 L _ (by rw [hid_at nL]; exact hL3))
      have nLC : L ≠ C := fun e => by rw [e, hC] at hL4; cases hL4
      have nm3 := neu_mono (H0 := H) d3 (fun b hb => free_of d3 S3 hb) s5
      have cm3 : Same (neu H3 H4) (cut1 C (neu H (upd H4 C (.lst [.ref r0])))) := to_cut nm3 (by
        unfold neu
        cases H3 C with
        | some _ => rfl
        | none => exact hC)
      have E0 : DrE true (d + 1) as [] Nk N4 c c4 (.cons 0 x0 .nil) := (DrE.nil hsk.c1).snoc (v := 0) dr4 (fun _ => .inl rfl)
      refine ⟨_, rfl, L, rfl, ⟨_, SqL.of (s5_lst hL4 nLC)⟩, for_list (K := K) (a := L) (xs := fs.map V.str) (fun i σ H' => ∃ i5, σ = [some (.ref D.a), some (.ref ah), some (.int d), some (.int kind), some (.str name), i5, some (.ref L), some (.ref C), none, none, none] ∧
          ∃ N' c' bs ls, Same (D.hid H) (D.hid H') ∧ DAt D H' N' c' ∧ H' L = some (.lst (fs.map V.str)) ∧ H' C = some (.lst ls) ∧ bs.AtE false (cut1 C (neu H H')) ls ∧ DrE true (d + 1) as (fs.take i) Nk N' c c' bs ∧ bs.len = i + 1)
        ⟨none, rfl, N4, c4, .cons 0 x0 .nil, [.ref r0], S34.trans s5, d5, s5_lst hL4 nLC, upd_same, ?_, E0, rfl⟩ (fun i σ H' _ z => by obtain ⟨_, _, _, _, _, _, _, _, z, _⟩ := z; exact SqL.of z) ?_ ?_⟩
      · simp only [Blks.AtE]
        exact ⟨r0, xs0, [], rfl, .inr ⟨rfl, cm3 _ _ h4⟩, a4.same cm3, rfl⟩
      · rintro i v σ H6 hi ⟨i5, rfl, N6, c6, bs, ls, S6, d6, hL6, hC6, at6, dr6, bl6⟩
        obtain ⟨z, hz, rfl⟩ : ∃ z, fs[i]? = some z ∧ v = V.str z := by
          rw [List.getElem?_map] at hi
          cases e9 : fs[i]? with
          | none => rw [e9] at hi; cases hi
          | some z => rw [e9] at hi; exact ⟨z, rfl, (Option.some.inj hi).symm⟩
        have zm := List.mem_of_getElem? hz
        obtain ⟨ps, eps⟩ := dr6.drn.suf
        have hsz : Sit as (z :: N6) c6 := hs1.pick eps zm dr6.c1
        have nz := hsz.nm z (List.mem_cons_self ..)
        have il : i < fs.length := (List.getElem?_eq_some_iff.mp hz).1
        refine ⟨_, rfl, .inl ⟨rfl, _, SqL.of hC6⟩, _, rfl, _, rfl, _, rfl, _, _, rfl, rfl, _, rfl, D, [z], N6, c6, ah, refs, as, d + 1, z, rfl, hd1, d6, S6 _ _ hah, hnum.same S6, .inr ⟨name_ne nz, rfl⟩, hsz, fun r xs x H7 N7 c7 S7 d7 h7 a7 dr7 => ?_⟩
        have hC7 := hid_le _ _ (S7 C _ (by rw [hid_at nC]; exact hC6))
        have hL7 := hid_le _ _ (S7 L _ (by rw [hid_at nL]; exact hL6))
        have ll := at6.len
        refine ⟨C, ls, _, rfl, rfl, hC7, small1000 (by omega), ?_⟩
        have S67 := S6.trans S7
        have cm : Same (neu H6 H7) (cut1 C (neu H H7)) := to_cut (neu_mono (H0 := H) d6 (fun b hb => free_of d6 S6 hb) (Same.refl _)) (by unfold neu; rw [hC6])
        refine ⟨_, rfl, N7, c7, bs.snoc 0 x, ls ++ [.ref r], own_wr d7 S67 hC0 nC, d7.off nC, by rw [upd_ne nLC]; exact hL7, upd_same, ?_, ?_, by rw [snocB_len, bl6]⟩
        · rw [cut1_wr]
          exact snocB_atE (at6.same (cut1_same (neu_mono da (fun b hb => hb) S7))) (.inr ⟨rfl, cm _ _ h7⟩) (a7.same cm)
        · rw [take_more hz]
          exact dr6.snoc dr7 (fun _ => .inr (by simp))
      · rintro σ H6 ⟨i5, rfl, N6, c6, bs, ls, S6, d6, hL6, hC6, at6, dr6, bl6⟩
        rw [List.length_map] at dr6 bl6
        rw [List.take_length] at dr6
        refine ⟨_, rfl, _, rfl, (by show 3 ≤ sizeLine; decide), mk (.eit name bs) _ H6 N6 c6 S6 d6 (fun p G sG hp => ?_) (Dr1.eit hd2 nm ⟨by omega, by omega⟩ dr6)⟩
        simp only [It.At]
        exact ⟨p, C, ls, rfl, hp, .inr ⟨rfl, sG _ _ (by rw [neu_at hC0]; exact hC6)⟩, (at6.same cut1_le).same sG⟩
    · -- a switch
      refine next_go rfl d1 (by decide) fun first H2 f0 f1 d2 e2 => ?_
      dsimp only
      refine seq_asg ?_
      refine next_go rfl d2 (by decide) fun r3 H3 g0 g1 d3 e3 => ⟨_, _, rfl, rfl, .inl ⟨by decide, by decide⟩, _, _, rfl, rfl, ?_⟩
      refine g_nx ?_
      dsimp only
      refine seq_asg ?_
      refine next_go rfl d3 (by decide) fun r4 H4 h0 h1 d4 e4 => ?_
      obtain ⟨j, rfl⟩ := Int.eq_ofNat_of_zero_le h0
      have e14 : D.hid H4 = D.hid H := by rw [e4, e3, e2, e1]
      refine ⟨_, _, rfl, rfl, (1 + (j : Int)), rfl, by omega, by omega, fun C hC => ?_⟩
      rw [show (1 + (j : Int)).toNat = j + 1 by omega]
      have nC : ¬ D.has C := d4.fresh hC
      have hC0 := free_of d4 (same_eq e14) hC
      refine lc_range (lo := 0) (n := j + 1) (fun i H' => ∃ N' c' bs ls, Same (D.hid H) (D.hid H') ∧ DAt D H' N' c' ∧ H' C = some (.lst ls) ∧ bs.AtS false (cut1 C (neu H H')) ls ∧ DrE false (d + 1) as [] N1 N' c c' bs ∧ bs.len = i ∧ bs.vals = (List.range i).map (fun k : Nat => first + 8064 * ((0 + (k : Int)) * (1 + 2 * r3) % 8)))
        ⟨N1, c, .nil, [], by rw [← e14]; exact hid_same (same_new hC _), d4.off nC, upd_same, by simp [Blks.AtS], DrE.nil hs1.c1, rfl, rfl⟩ ?_ ?_
      · rintro i H5 hi ⟨N5, c5, bs, ls, S5, d5, hC5, at5, dr5, bl5, bv5⟩
        obtain ⟨ps, eps⟩ := dr5.drn.suf
        have hs5 : Sit as N5 c5 := Sit.suf (ps := ps) (by rw [← eps]; exact hs1) dr5.c1
        refine ⟨rfl, yes_go ?_⟩
        refine ⟨_, rfl, _, rfl, _, rfl, _, _, rfl, rfl, .inl ⟨by omega, by omega⟩, .inl ⟨_, rfl, _, _, rfl, rfl, (by show (0 : Int) < 8; decide), _, _, rfl, rfl, .inl ⟨by decide, by decide⟩, _, _, rfl, rfl, ?_⟩⟩
        refine ⟨_, rfl, _, rfl, _, rfl, _, _, rfl, rfl, D, [], N5, c5, ah, refs, as, d + 1, "", rfl, hd1, d5, S5 _ _ hah, hnum.same S5, .inl ⟨rfl, rfl⟩, hs5, fun r xs x H6 N6 c6 S6 d6 h6 a6 dr6 => ?_⟩
        refine ⟨(by show 2 ≤ sizeLine; decide), fun t ht => ?_⟩
        obtain ⟨d7, s7, g7⟩ := d6.new ht (.tup [.int (first + 8064 * ((0 + (i : Int)) * (1 + 2 * r3) % 8)), .ref r])
        have hC6 := hid_le _ _ (S6 C _ (by rw [hid_at nC]; exact hC5))
        have ntC : t ≠ C := fun e => by rw [e, hC6] at ht; cases ht
        have hC7 : (upd H6 t (.tup [.int (first + 8064 * ((0 + (i : Int)) * (1 + 2 * r3) % 8)), .ref r])) C = some (.lst ls) := by rw [upd_ne ntC.symm]; exact hC6
        have S56 := S5.trans S6
        have ht0 := free_of d6 S56 ht
        have ht7 : neu H (upd H6 t (.tup [.int (first + 8064 * ((0 + (i : Int)) * (1 + 2 * r3) % 8)), .ref r])) t = some (.tup [.int (first + 8064 * ((0 + (i : Int)) * (1 + 2 * r3) % 8)), .ref r]) := by rw [neu_at ht0, upd_same]
        have cm : Same (neu H5 H6) (cut1 C (neu H (upd H6 t (.tup [.int (first + 8064 * ((0 + (i : Int)) * (1 + 2 * r3) % 8)), .ref r])))) := to_cut (neu_mono (H0 := H) d5 (fun b hb => free_of d5 S5 hb) s7) (by unfold neu; rw [hC5])
        have am := at5.same (cut1_same (L := C) (neu_mono (H0 := H) da (fun b hb => hb) (S6.trans s7)))
        have ll := at5.len
        have S7 := S56.trans s7
        have tt : cut1 C (neu H (upd H6 t (.tup [.int (first + 8064 * ((0 + (i : Int)) * (1 + 2 * r3) % 8)), .ref r]))) t = some (.tup [.int (first + 8064 * ((0 + (i : Int)) * (1 + 2 * r3) % 8)), .ref r]) := by unfold cut1; rw [if_neg ntC]; exact ht7
        refine ⟨ls, hC7, small1000 (by omega), N6, c6, bs.snoc (first + 8064 * ((0 + (i : Int)) * (1 + 2 * r3) % 8)) x, ls ++ [.ref t], own_wr d7 S7 hC0 nC, d7.off nC, upd_same, ?_, ?_, by rw [snocB_len, bl5], by rw [snocB_vals, bv5, List.range_succ, List.map_append]; rfl⟩
        · rw [cut1_wr]
          exact snocB_atS am tt (.inr ⟨rfl, cm _ _ h6⟩) (a6.same cm)
        · exact dr5.snoc dr6 (fun z => by cases z)
      · rintro H5 ⟨N5, c5, bs, ls, S5, d5, hC5, at5, dr5, bl5, bv5⟩
        refine g_nx ?_
        have hah5 := hid_le _ _ (S5 _ _ hah)
        refine ⟨_, rfl, _, rfl, _, rfl, _, rfl, _, _, rfl, .inl ⟨_, SqL.of hah5, rfl⟩, ?_⟩
        refine ⟨D, N5, c5, _, rfl, d5, by omega, fun r6 H6 u0 u1 e6 d6 => ?_⟩
        obtain ⟨un, rfl⟩ := Int.eq_ofNat_of_zero_le u0
        have hlt : un < refs.length := by omega
        have ge : refs[un]? = some refs[un] := List.getElem?_eq_getElem hlt
        have S6 : Same (D.hid H) (D.hid H6) := by rw [e6]; exact S5
        obtain ⟨z, lo, hi, t, size, order, gz, ev, ht⟩ := (hnum.same S6).get ge
        refine ⟨ah, _, _, _, rfl, rfl, SqL.of (hid_le _ _ (S6 _ _ hah)), atI_nat ge, ?_⟩
        rw [ev]
        refine ⟨t, _, 1, _, rfl, rfl, SqT.of (hid_le _ _ ht), atI_nat (j := 1) rfl, _, rfl, (by show 4 ≤ sizeLine; decide), ?_⟩
        have hC6 := hid_stay e6 (by rw [hid_at nC]; exact hC5)
        have cv := case_vals (m := j + 1) f0 f1 g0 g1 (by omega)
        have sm : Same (neu H H5) (neu H H6) := neu_mono da (fun b hb => hb) (same_eq e6)
        refine mk (.swi name z bs) _ H6 N5 c5 S6 d6 (fun p G sG hp => ?_) (Dr1.swi hd2 nm ⟨by omega, by omega⟩ ⟨_, List.mem_of_getElem? gz, rfl⟩ (by rw [bv5]; exact cv) dr5)
        simp only [It.At]
        exact ⟨p, C, ls, rfl, hp, .inr ⟨rfl, sG _ _ (by rw [neu_at hC0]; exact hC6)⟩, ((at5.same cut1_le).same sm).same sG⟩
end
end Bs

set_option Elab.async false
set_option linter.all false
set_option maxRecDepth 100000
set_option maxHeartbeats 8000000
namespace Bs
open PySem L2
/-! ### the names -/
theorem str_app (z y : Str) : (z ++ y).cps.toList = z.cps.toList ++ y.cps.toList := by
  show (z.cps ++ y.cps).toList = _
  simp
theorem cutS_to (z : Str) (p : Nat) : (cutS z none (some (p : Int))).cps.toList = z.cps.toList.take p := by
  have h : ∀ z : Str, z.length = z.cps.toList.length := fun z => by simp [Str.length]
  unfold cutS
  rw [HT.sIx_none, HT.sIx_nat, h, List.drop_zero, Nat.sub_zero]
  by_cases c : p ≤ z.cps.toList.length
  · rw [Nat.min_eq_left c]
  · rw [Nat.min_eq_right (by omega), List.take_length, List.take_of_length_le (by omega)]
theorem cutS_from (z : Str) (p : Nat) : (cutS z (some (p : Int)) none).cps.toList = z.cps.toList.drop p := by
  have h : ∀ z : Str, z.length = z.cps.toList.length := fun z => by simp [Str.length]
  unfold cutS
  rw [HT.sIx_none, HT.sIx_nat, h]
  by_cases c : p ≤ z.cps.toList.length
  · rw [Nat.min_eq_left c, List.take_of_length_le (by rw [List.length_drop]; omega)]
  · rw [Nat.min_eq_right (by omega)]
    rw [List.drop_of_length_le (by omega), List.drop_of_length_le (by omega)]
    simp
abbrev chs : Str := "abcdefghijklmnopqrstuvwxyz0123456789"
theorem chs_len : chs.cps.toList.length = 36 := by decide +kernel
theorem chs_sign : ∀ c ∈ chs.cps.toList, isSign c = true := by decide +kernel
theorem chs_letter : ∀ c ∈ chs.cps.toList.take 26, isLetter c = true := by decide +kernel
theorem chs_nodup : chs.cps.toList.Nodup := by decide +kernel
theorem ch_at (i : Int) (h0 : 0 ≤ i) (h1 : i < 36) : ∃ c, atI chs.cps.toList i = some c ∧ chs.cps.toList[i.toNat]? = some c ∧ isSign c = true ∧ (i < 26 → isLetter c = true) := by
  obtain ⟨n, rfl⟩ := Int.eq_ofNat_of_zero_le h0
  have hn : n < chs.cps.toList.length := by rw [chs_len]; omega
  have e : chs.cps.toList[n]? = some chs.cps.toList[n] := List.getElem?_eq_getElem hn
  refine ⟨chs.cps.toList[n], atI_nat e, e, chs_sign _ (List.getElem_mem hn), fun h => chs_letter _ ?_⟩
  refine List.mem_of_getElem? (i := n) ?_
  rw [List.getElem?_take, if_pos (by omega)]
  exact e
/-- the name of the k-th sign -/
structure IsNm (pl : List Nat) (p : Nat) (c : Nat) (z : Str) : Prop where
  e : z.cps.toList = pl.take p ++ c :: pl.drop p
theorem nm_ok {a : Nat} {r : List Nat} {p c : Nat} {z : Str} (h : IsNm (a :: r) p c z) (ha : isLetter a = true) (hr : r.all isSign = true) (hl : r.length ≤ 10) (hp : 1 ≤ p) (hc : isSign c = true) : isName z = true := by
  obtain ⟨q, rfl⟩ : ∃ q, p = q + 1 := ⟨p - 1, by omega⟩
  unfold isName
  rw [h.e, List.take_succ_cons, List.drop_succ_cons, List.cons_append, nameOk]
  have hs : isSign a = true := by rw [isSign, ha]; rfl
  have tl := List.take_append_drop q r
  have hr2 := hr
  rw [← tl, List.all_append, Bool.and_eq_true] at hr2
  rw [decide_eq_true (by rw [List.length_append, List.length_cons, List.length_take, List.length_drop]; omega), ha, List.all_cons, hs, List.all_append, hr2.1, List.all_cons, hc, hr2.2]
  rfl
theorem nm_inj {pl : List Nat} {p c c' : Nat} {z z' : Str} (h : IsNm pl p c z) (h' : IsNm pl p c' z') (e : z = z') : c = c' := by
  have e2 : pl.take p ++ c :: pl.drop p = pl.take p ++ c' :: pl.drop p := by rw [← h.e, ← h'.e, e]
  have := List.append_cancel_left e2
  injection this
/-- how long the names are -/
def nmLen (ns : List Int) : Nat := 2 + ((ns.getD 1 0) % 11).toNat
/-- the names are told by the numbers alone -/
structure Det (ns : List Int) (N : List Str) : Prop where
  h : ∃ (a : Nat) (r : List Nat) (p : Nat), chs.cps.toList[(ns.getD 0 0 % 26).toNat]? = some a ∧ r.length = (ns.getD 1 0 % 11).toNat ∧ (∀ j, j < r.length → r[j]? = chs.cps.toList[((ns.getD 2 0 + (0 + (j : Int)) * ns.getD 3 0) % 36).toNat]?) ∧ (p : Int) = 1 + ns.getD 4 0 % ((r.length + 1 : Nat) : Int) ∧
    N.length = 30 ∧ ∀ (j : Nat) (z : Str), N[j]? = some z → ∃ c, chs.cps.toList[((ns.getD 5 0 + (0 + (j : Int))) % 36).toNat]? = some c ∧ IsNm (a :: r) p c z
theorem str_ext {z y : Str} (h : z.cps.toList = y.cps.toList) : z = y := by
  obtain ⟨⟨a⟩⟩ := z
  obtain ⟨⟨b⟩⟩ := y
  simp only at h
  rw [h]
theorem Det.uniq {ns : List Int} {N M : List Str} (h : Det ns N) (g : Det ns M) : N = M := by
  obtain ⟨a, r, p, h1, h2, h3, h4, h5, h6⟩ := h.h
  obtain ⟨b, q, o, g1, g2, g3, g4, g5, g6⟩ := g.h
  rw [h1] at g1
  obtain rfl := Option.some.inj g1
  obtain rfl : r = q := by
    refine List.ext_getElem? fun j => ?_
    by_cases c : j < r.length
    · rw [h3 j c, g3 j (by omega)]
    · rw [List.getElem?_eq_none (by omega), List.getElem?_eq_none (by omega)]
  obtain rfl : p = o := by omega
  refine List.ext_getElem? fun j => ?_
  by_cases c : j < N.length
  · obtain ⟨c1, e1, n1⟩ := h6 j _ (List.getElem?_eq_getElem c)
    obtain ⟨c2, e2, n2⟩ := g6 j _ (List.getElem?_eq_getElem (show j < M.length by omega))
    rw [e1] at e2
    obtain rfl := Option.some.inj e2
    rw [List.getElem?_eq_getElem c, List.getElem?_eq_getElem (show j < M.length by omega), str_ext (n1.e.trans n2.e.symm)]
  · rw [List.getElem?_eq_none (by omega), List.getElem?_eq_none (by omega)]
def spBegin : Sp := fun vs H Q _ => ∃ (u : Addr) (ns : List Int), vs = [.ref u] ∧ H u = some (.lst (ns.map V.int)) ∧ ns.length = 160 ∧
  ∀ (D : Dr4) (N : List Str) H', Same H H' → D.u = u → DAt D H' N 0 → N.length = 30 → N.Nodup → (∀ z ∈ N, isName z = true) → (∀ z ∈ N, z.length = nmLen ns) → Det ns N → Q (.ref D.a) H'
section
variable {P : Program} {w : World} {K : PySem.W.Frag} {mg : Str → Option Value} {base : Heap} {f : Addr} {fd : FuncData}
abbrev nBegin : List Str := ["numbers", "chars", "prefix", "k", "place", "shift", "names"]
theorem scBegin : FnScope nBegin ["numbers"] (defScope sLawBegin) := ⟨rfl, rfl, rfl, by decide +kernel, rfl, by decide +kernel, by decide +kernel⟩
theorem ok_begin (F : Fun K "_law_begin" "_law_begin" sLawBegin f fd) (ml : mg "len" = none) (mr : mg "range" = none) (mint : mg "int" = none) : FnOk P w K mg base CX0 1 f fd ["numbers"] spBegin := by
  refine F.ok scBegin (fun vs H Q E h => ?_) (fun cdv A outer s H vs Q E hr h => ?_)
  · obtain ⟨u, ns, rfl, _⟩ := h
    rfl
  · obtain ⟨u, ns, rfl, hu, hlen, q⟩ := h
    refine ⟨_, pss_cons (ps_set (i := 1) scBegin.nd rfl (.inr rfl) pe_str)
      (pss_cons (ps_set (i := 2) scBegin.nd rfl (.inr rfl) (pe_ix ix_str (pv 1) (pe_op op_mod (pe_callTy (r := rInt1) call_int1 (by rfl) mint (by decide +kernel) (pa_cons (pe_ix ix_list (pv 0) pe_int (fun _ _ => rfl)) pa_nil)) pe_int) (fun _ _ => rfl)))
      (pss_cons (ps_for PassesOwn.never rfl (pi_range1 (by rfl) mr (pa_cons (pe_op op_mod (pe_callTy (r := rInt1) call_int1 (by rfl) mint (by decide +kernel) (pa_cons (pe_ix ix_list (pv 0) pe_int (fun _ _ => rfl)) pa_nil)) pe_int) pa_nil)) (pg_name (i := 3) scBegin.nd rfl (.inl rfl))
        (pss_one (ps_set (i := 2) scBegin.nd rfl (.inr rfl) (pe_op op_add_str (pv 2) (pe_ix ix_str (pv 1) (pe_op op_mod (pe_callTy (r := rInt1) call_int1 (by rfl) mint (by decide +kernel) (pa_cons (pe_op op_add (pe_ix ix_list (pv 0) pe_int (fun _ _ => rfl)) (pe_op op_mul (pv 3) (pe_ix ix_list (pv 0) pe_int (fun _ _ => rfl)))) pa_nil)) pe_int) (fun _ _ => rfl))))))
      (pss_cons (ps_set (i := 4) scBegin.nd rfl (.inr rfl) (pe_op op_add pe_int (pe_op op_mod (pe_callTy (r := rInt1) call_int1 (by rfl) mint (by decide +kernel) (pa_cons (pe_ix ix_list (pv 0) pe_int (fun _ _ => rfl)) pa_nil)) (pe_callB call_len_str (by rfl) ml boot_len (pa_cons (pv 2) pa_nil)))))
      (pss_cons (ps_set (i := 5) scBegin.nd rfl (.inr rfl) (pe_callTy (r := rInt1) call_int1 (by rfl) mint (by decide +kernel) (pa_cons (pe_ix ix_list (pv 0) pe_int (fun _ _ => rfl)) pa_nil)))
      (pss_cons (ps_setLc (i := 6) (own := [("k", 3)]) (g := gName 3) (tt := tYes) rfl scBegin.nd rfl rfl (sw_true rfl rfl rfl (by decide +kernel)) (pi_range1 (by rfl) mr (pa_cons pe_int pa_nil))
            (blkOk_by (own := [("k", 3)]) (N := nBegin) (sc := defScope sLawBegin) (by decide +kernel)) (fun _ _ _ _ _ => pg_name (i := 3) scBegin.nd rfl (Or.inl rfl)) (fun _ _ _ _ _ => pts_nil)
            (fun _ _ _ _ _ => pe_op op_add_str (pe_op op_add_str (pe_slice sl_str (pv 2) po_none (po_some (pv 4))) (pe_ix ix_str (pv 1) (pe_op op_mod (pe_callTy (r := rInt1) call_int1 (by rfl) mint (by decide +kernel) (pa_cons (pe_op op_add (pv 5) (pv 3)) pa_nil)) pe_int) (fun _ _ => rfl))) (pe_slice sl_str (pv 2) (po_some (pv 4)) po_none)))
      (pss_one (ps_ret (pe_lst (pa_cons (pv 0) (pa_cons pe_int (pa_cons (pv 6) (pa_cons (pe_lst pa_nil) pa_nil)))))))))))), ?_⟩
    have g : ∀ (j : Nat) (hj : j < 160), (ns.map V.int)[j]? = some (.int (ns[j]'(by omega))) := fun j hj => by rw [List.getElem?_map, List.getElem?_eq_getElem (by omega)]; rfl
    have gd : ∀ (j : Nat) (hj : j < 160), ns.getD j 0 = ns[j]'(by omega) := fun j hj => by rw [List.getD_eq_getElem?_getD, List.getElem?_eq_getElem (by omega)]; rfl
    have zz : ∀ n : Nat, n ≤ 2000 → n ≤ sizeLine := fun n h => Nat.le_trans h (by decide)
    have m26 := Int.emod_nonneg (ns[0]'(by omega)) (show (26 : Int) ≠ 0 by decide)
    have l26 := Int.emod_lt_of_pos (ns[0]'(by omega)) (show (0 : Int) < 26 by decide)
    obtain ⟨a, ha, had, sa, la⟩ := ch_at _ m26 (by omega)
    have la := la l26
    refine ⟨_, rfl, _, rfl, u, _, 0, _, rfl, rfl, SqL.of hu, atI_nat (j := 0) (g 0 (by decide)), .inl ⟨_, rfl, _, _, rfl, rfl, (by show (0 : Int) < 26; decide), ?_⟩⟩
    refine ⟨_, _, a, rfl, rfl, by decide +kernel, ha, ?_⟩
    refine ⟨_, rfl, u, _, 1, _, rfl, rfl, SqL.of hu, atI_nat (j := 1) (g 1 (by decide)), .inl ⟨_, rfl, _, _, rfl, rfl, (by show (0 : Int) < 11; decide), _, rfl, ?_, ?_, for_range (lo := 0) (n := (ns[1]'(by omega) % 11).toNat) (fun i σ H' => ∃ (k3 : Option V) (pz : Str) (r : List Nat), σ = [some (.ref u), some (.str chs), some (.str pz), k3, none, none, none] ∧ pz.cps.toList = a :: r ∧ r.length = i ∧ (∀ j, j < i → r[j]? = chs.cps.toList[((ns.getD 2 0 + (0 + (j : Int)) * ns.getD 3 0) % 36).toNat]?) ∧ r.all isSign = true ∧ H' = H)
      ⟨none, _, [], rfl, rfl, rfl, fun j h => absurd h (by omega), rfl, rfl⟩ ?_ ?_⟩⟩
    · have := Int.emod_nonneg (ns[1]'(by omega)) (show (11 : Int) ≠ 0 by decide); omega
    · have := Int.emod_lt_of_pos (ns[1]'(by omega)) (show (0 : Int) < 11 by decide); omega
    · rintro i σ H' hi ⟨k3, pz, r, rfl, hpz, hrl, hrd, hrs, rfl⟩
      have hi11 : i < 11 := by have := Int.emod_lt_of_pos (ns[1]'(by omega)) (show (0 : Int) < 11 by decide); omega
      obtain ⟨c, hc, hcd, sc, _⟩ := ch_at ((ns[2]'(by omega) + (0 + (i : Int)) * ns[3]'(by omega)) % 36) (Int.emod_nonneg _ (by decide)) (Int.emod_lt_of_pos _ (by decide))
      have hl : pz.length = i + 1 := by rw [show pz.length = pz.cps.toList.length by simp [Str.length], hpz, List.length_cons, hrl]
      refine ⟨_, rfl, _, rfl, _, rfl, u, _, 2, _, rfl, rfl, SqL.of hu, atI_nat (j := 2) (g 2 (by decide)), _, rfl, _, rfl, u, _, 3, _, rfl, rfl, SqL.of hu, atI_nat (j := 3) (g 3 (by decide)), _, _, rfl, rfl, .inl ⟨by omega, by omega⟩, _, _, rfl, rfl, .inl ⟨_, rfl, _, _, rfl, rfl, (by show (0 : Int) < 36; decide), _, _, c, rfl, rfl, by decide +kernel, hc, _, _, rfl, rfl, zz _ (by rw [hl]; show i + 1 + 1 ≤ 2000; omega), ?_⟩⟩
      refine ⟨_, _, r ++ [c], rfl, by rw [str_app, hpz]; rfl, by rw [List.length_append, hrl]; rfl, fun j hj => ?_, ?_, rfl⟩
      · by_cases cj : j < i
        · rw [List.getElem?_append_left (by omega)]; exact hrd j cj
        · have ej : j = i := by omega
          subst ej
          rw [List.getElem?_append_right (by omega), hrl, Nat.sub_self, gd 2 (by decide), gd 3 (by decide)]
          exact hcd.symm
      rw [List.all_append, hrs, List.all_cons, sc]
      rfl
    rintro σ H' ⟨k3, pz, r, rfl, hpz, hrl, hrd, hrs, rfl⟩
    have hr10 : r.length ≤ 10 := by have := Int.emod_lt_of_pos (ns[1]'(by omega)) (show (0 : Int) < 11 by decide); omega
    have hl : pz.length = r.length + 1 := by rw [show pz.length = pz.cps.toList.length by simp [Str.length], hpz, List.length_cons]
    refine ⟨_, rfl, u, _, 4, _, rfl, rfl, SqL.of hu, atI_nat (j := 4) (g 4 (by decide)), .inl ⟨_, rfl, _, rfl, pz, rfl, zz _ (by omega), _, _, rfl, rfl, (by show (0 : Int) < (pz.length : Int); omega), _, _, rfl, rfl, ?_⟩⟩
    obtain ⟨p0, hp0⟩ := Int.eq_ofNat_of_zero_le (Int.emod_nonneg (ns[4]'(by omega)) (show (pz.length : Int) ≠ 0 by omega))
    obtain ⟨p, hp, hp1⟩ : ∃ p : Nat, ((1 : Int) + ns[4]'(by omega) % (pz.length : Int)) = (p : Int) ∧ 1 ≤ p := ⟨1 + p0, by rw [hp0]; omega, by omega⟩
    refine ⟨_, rfl, u, _, 5, _, rfl, rfl, SqL.of hu, atI_nat (j := 5) (g 5 (by decide)), .inl ⟨_, rfl, ?_⟩⟩
    dsimp only
    refine seq_asg ?_
    have clt : ∀ q : Nat, (cutS pz none (some (q : Int))).length ≤ 11 := fun q => by
      rw [show (cutS pz none (some (q : Int))).length = (cutS pz none (some (q : Int))).cps.toList.length by simp [Str.length], cutS_to, List.length_take, hpz, List.length_cons]; omega
    have clf : ∀ q : Nat, (cutS pz (some (q : Int)) none).length ≤ 11 := fun q => by
      rw [show (cutS pz (some (q : Int)) none).length = (cutS pz (some (q : Int)) none).cps.toList.length by simp [Str.length], cutS_from, List.length_drop, hpz, List.length_cons]; omega
    refine ⟨30, rfl, by decide, by decide, fun L hL => lc_range (lo := 0) (n := 30) (fun i H1 => ∃ zs : List Str, H1 L = some (.lst (zs.map V.str)) ∧ Same H' H1 ∧ zs.length = i ∧ ∀ (j : Nat) (z : Str), zs[j]? = some z → ∃ c, chs.cps.toList[((ns[5]'(by omega) + (0 + (j : Int))) % 36).toNat]? = some c ∧ isSign c = true ∧ IsNm (a :: r) p c z)
      ⟨[], upd_same, same_new hL _, rfl, fun j z hz => by simp at hz⟩ ?_ ?_⟩
    · rintro i H1 hi ⟨zs, hzs, s1, hzl, hza⟩
      obtain ⟨c, hc, hc2, sc, _⟩ := ch_at ((ns[5]'(by omega) + (0 + (i : Int))) % 36) (Int.emod_nonneg _ (by decide)) (Int.emod_lt_of_pos _ (by decide))
      refine ⟨rfl, yes_go ?_⟩
      refine ⟨_, rfl, _, rfl, _, rfl, pz, rfl, zz _ (by omega), _, rfl, _, rfl, _, rfl, _, _, rfl, rfl, .inl ⟨_, rfl, _, _, rfl, rfl, (by show (0 : Int) < 36; decide), _, _, c, rfl, rfl, by decide +kernel, hc, _, _, rfl, rfl, ?_, _, rfl, _, rfl, _, rfl, pz, rfl, zz _ (by omega), _, _, rfl, rfl, ?_, ?_⟩⟩
      · rw [hp]; exact zz _ (by have := clt p; show _ + 1 ≤ 2000; omega)
      · rw [hp]; exact zz _ (by
          have := clt p
          have := clf p
          have e : (cutS pz none (some (p : Int)) ++ (⟨#[c]⟩ : Str)).length = (cutS pz none (some (p : Int))).length + 1 := by rw [slen0]; rfl
          show (cutS pz none (some (p : Int)) ++ (⟨#[c]⟩ : Str)).length + _ ≤ 2000
          omega)
      · rw [hp]
        refine ⟨_, hzs, small1000 (by rw [List.length_map]; omega), zs ++ [cutS pz none (some (p : Int)) ++ ⟨#[c]⟩ ++ cutS pz (some (p : Int)) none], by rw [upd_same, List.map_append]; rfl, same_set s1 hL, by rw [List.length_append, hzl]; rfl, fun j z hz => ?_⟩
        by_cases hj : j < zs.length
        · rw [List.getElem?_append_left hj] at hz
          exact hza j z hz
        · rw [List.getElem?_append_right (by omega)] at hz
          have hj0 : j - zs.length = 0 := by
            apply Decidable.byContradiction
            intro k
            rw [List.getElem?_eq_none (by rw [List.length_singleton]; omega)] at hz
            cases hz
          rw [hj0] at hz
          have hz := Option.some.inj hz
          have ej : j = i := by omega
          subst ej
          refine ⟨c, hc2, sc, ⟨?_⟩⟩
          rw [← hz, str_app, str_app, cutS_to, cutS_from, hpz]
          simp
    rintro H1 ⟨zs, hzs, s1, hzl, hza⟩
    refine g_nx ?_
    refine ⟨_, rfl, _, rfl, (by show 0 ≤ sizeLine; decide), fun M hM => ⟨(by show 4 ≤ sizeLine; decide), fun A2 hA2 => ?_⟩⟩
    have hu1 := s1 _ _ hu
    have nML : M ≠ L := fun e => by rw [e, hzs] at hM; cases hM
    have nMu : M ≠ u := fun e => by rw [e, hu1] at hM; cases hM
    have hA3 : H1 A2 = none := by
      by_cases e : A2 = M
      · rw [e, upd_same] at hA2; cases hA2
      · rw [upd_ne e] at hA2; exact hA2
    have nAM : A2 ≠ M := fun e => by rw [e, upd_same] at hA2; cases hA2
    have nAL : A2 ≠ L := fun e => by rw [e, hzs] at hA3; cases hA3
    have nAu : A2 ≠ u := fun e => by rw [e, hu1] at hA3; cases hA3
    have nLu : L ≠ u := fun e => by rw [e, hu] at hL; cases hL
    refine q ⟨A2, u, L, M⟩ zs _ (s1.trans ((same_new hM _).trans (same_new hA2 _))) rfl ⟨⟨6, upd_same⟩, ⟨ns, by rw [upd_ne nAu.symm, upd_ne nMu.symm]; exact hu1, hlen⟩, by show upd _ A2 _ L = _; rw [upd_ne nAL.symm, upd_ne nML.symm]; exact hzs, ⟨[], by show upd _ A2 _ M = _; rw [upd_ne nAM.symm, upd_same], rfl⟩, nAL, nAM, nML.symm, nAu.symm, nLu.symm, nMu.symm⟩ hzl ?_ ?_ ?_ ⟨a, r, p, by rw [gd 0 (by decide)]; exact had, by rw [gd 1 (by decide)]; exact hrl, fun j hj => hrd j (by omega), by rw [gd 4 (by decide), ← hp, hl], hzl, fun j z hz => by obtain ⟨c, e1, _, e3⟩ := hza j z hz; exact ⟨c, by rw [gd 5 (by decide)]; exact e1, e3⟩⟩
    · refine List.pairwise_iff_getElem.mpr fun i j hi hj hij e => ?_
      obtain ⟨c1, e1, _, n1⟩ := hza i _ (List.getElem?_eq_getElem hi)
      obtain ⟨c2, e2, _, n2⟩ := hza j _ (List.getElem?_eq_getElem hj)
      have ec := nm_inj n1 n2 e
      rw [ec, ← e2] at e1
      have z1 := Int.emod_nonneg (ns[5]'(by omega) + (0 + (i : Int))) (show (36 : Int) ≠ 0 by decide)
      have z2 := Int.emod_lt_of_pos (ns[5]'(by omega) + (0 + (i : Int))) (show (0 : Int) < 36 by decide)
      have z3 := Int.emod_nonneg (ns[5]'(by omega) + (0 + (j : Int))) (show (36 : Int) ≠ 0 by decide)
      have hlt : ((ns[5]'(by omega) + (0 + (i : Int))) % 36).toNat < chs.cps.toList.length := by rw [chs_len]; omega
      have := (List.getElem?_inj hlt chs_nodup).mp e1
      omega
    · intro z hz
      obtain ⟨j, hj, e⟩ := List.mem_iff_getElem.mp hz
      obtain ⟨c, _, sc, n1⟩ := hza j z (by rw [List.getElem?_eq_getElem hj, e])
      exact nm_ok n1 la hrs hr10 hp1 sc
    · intro z hz
      obtain ⟨j, hj, e⟩ := List.mem_iff_getElem.mp hz
      obtain ⟨c, _, sc, n1⟩ := hza j z (by rw [List.getElem?_eq_getElem hj, e])
      have l1 : z.length = z.cps.toList.length := by simp [Str.length]
      have e1 : ns.getD 1 0 = ns[1]'(by omega) := by rw [List.getD_eq_getElem?_getD, List.getElem?_eq_getElem (by omega)]; rfl
      rw [l1, n1.e, List.length_append, List.length_cons, List.length_take, List.length_drop, List.length_cons, nmLen, e1]
      omega
end
end Bs

set_option Elab.async false
set_option linter.all false
set_option maxRecDepth 100000
set_option maxHeartbeats 4000000
namespace Bs
open PySem L2
/-! ### the law's own blocks and walk, over items that are not frozen; G is where they stood at the beginning -/
abbrev RowsF (G : Hp) : List V → List Its → Prop := Paired fun v b => ∃ q xs, v = .ref q ∧ RowAt false G q xs ∧ b.At false G xs
theorem RowsF.len {H : Hp} : ∀ {l : List V} {r : List Its}, RowsF H l r → l.length = r.length
  | _, _, .nil => rfl
  | _, _, .cons _ t => by simp [RowsF.len t]
theorem RowsF.get {H : Hp} : ∀ {l : List V} {r : List Its} {i : Nat} {v : V}, RowsF H l r → l[i]? = some v → ∃ b q xs, r[i]? = some b ∧ v = .ref q ∧ RowAt false H q xs ∧ b.At false H xs
  | _, _, _, _, .nil, e => by simp at e
  | _, _, 0, _, .cons ⟨q, xs, e0, h, g⟩ _, e => by simp at e; subst e; exact ⟨_, q, xs, by simp, e0, h, g⟩
  | _, _, i + 1, _, .cons _ t, e => by obtain ⟨b, q, xs, h⟩ := RowsF.get (i := i) t (by simpa using e); exact ⟨b, q, xs, by simpa using h.1, h.2⟩
theorem rowsF_E {H : Hp} : ∀ {bs : Blks} {l : List V}, bs.AtE false H l → RowsF H l bs.list
  | .nil, _, h => by simp only [Blks.AtE] at h; subst h; exact .nil
  | .cons v b r, _, h => by
    simp only [Blks.AtE] at h
    obtain ⟨q, xs, l', rfl, h1, h2, h3⟩ := h
    exact .cons ⟨q, xs, rfl, h1, h2⟩ (rowsF_E h3)
theorem RowsF.app {H : Hp} {v : V} {p : Its} (h : ∃ q xs, v = .ref q ∧ RowAt false H q xs ∧ p.At false H xs) : ∀ {l : List V} {r : List Its}, RowsF H l r → RowsF H (l ++ [v]) (r ++ [p])
  | _, _, .nil => .cons h .nil
  | _, _, .cons q t => .cons q (RowsF.app h t)
def spLBlocks : Sp := fun vs H Q _ => ∃ (G : Hp) (v : V) (x : It), vs = [v] ∧ x.isOdd = false ∧ Same G H ∧ x.At false G v ∧ x.blocks.length ≤ 100 ∧ ∀ r zs H', Same H H' → H r = none → H' r = some (.lst zs) → RowsF G zs x.blocks → Q (.ref r) H'
theorem seqOf {K : PySem.W.Frag} {H : Hp} {p : Addr} {xs : List V} (h : RowAt false H p xs) : SqL K H p xs ∨ SqT K H p xs := h.elim (fun h => .inr (SqT.of h)) fun h => .inl (SqL.of h.2)
section
variable {P : Program} {w : World} {K : PySem.W.Frag} {mg : Str → Option Value} {base : Heap} {f : Addr} {fd : FuncData}
theorem scLBlocks : FnScope ["item", "case"] ["item"] (defScope sLawBlocks) := ⟨rfl, rfl, rfl, by decide +kernel, rfl, by decide +kernel, by decide +kernel⟩
theorem ok_lblocks (F : Fun K "_law_blocks" "_law_blocks" sLawBlocks f fd) (mlist : mg "list" = none) : FnOk P w K mg base CX0 1 f fd ["item"] spLBlocks := by
  refine F.ok scLBlocks (fun vs H Q E h => ?_) (fun cdv A outer s H vs Q E hr h => ?_)
  · obtain ⟨G, v, x, rfl, _⟩ := h
    rfl
  · obtain ⟨G, v, x, rfl, ho, sG, hat0, hb, q⟩ := h
    have hat := hat0.same sG
    obtain ⟨p, rest, rfl, hp, hlen⟩ := At_head hat ho
    have hT : SqT K H p _ := SqT.of hp
    refine ⟨_, pss_cons (ps_if (pt_cmpR op_eq (pe_ix ix_tup (pv 0) pe_int (fun _ _ => rfl)) pe_str (nomark _)) (pss_one (ps_ret (pe_lst (pa_cons (pe_ix ix_tup (pv 0) pe_int (fun _ _ => rfl)) pa_nil)))) pss_nil)
      (pss_cons (ps_if (pt_cmpR op_eq (pe_ix ix_tup (pv 0) pe_int (fun _ _ => rfl)) pe_str (nomark _)) (pss_one (ps_ret (pe_callTy call_list_of (by rfl) mlist (by decide +kernel) (pa_cons (pe_ix ix_tup (pv 0) pe_int (fun _ _ => rfl)) pa_nil)))) pss_nil)
      (pss_cons (ps_if (pt_cmpR op_eq (pe_ix ix_tup (pv 0) pe_int (fun _ _ => rfl)) pe_str (nomark _)) (pss_one (ps_ret (pe_lc (own := [("case", 1)]) (g := gName 1) (tt := tYes) rfl scLBlocks.nd (pi_row (pe_ix ix_tup (pv 0) pe_int (fun _ _ => rfl)))
            (blkOk_by (own := [("case", 1)]) (N := ["item", "case"]) (sc := defScope sLawBlocks) (by decide +kernel)) (fun _ _ _ _ _ => pg_name (i := 1) scLBlocks.nd rfl (Or.inl rfl))
            (fun _ _ _ _ _ => pts_nil) (fun _ _ _ _ _ => pe_ix (r := rIxT K) ix_tup (pv 1) pe_int (fun _ _ => rfl))))) pss_nil)
      (pss_one (ps_ret (pe_lst pa_nil))))), ?_⟩
    refine ⟨_, rfl, p, _, 0, _, rfl, rfl, hT, atI_nat (j := 0) rfl, rfl, _, rfl, ?_⟩
    cases x with
    | rep n amt b =>
      simp only [It.At] at hat0
      obtain ⟨p', q2, xs, e1, h1, hrow, hbb⟩ := hat0
      cases e1
      refine ite2 (fun _ => ?_) (fun z => (z (decide_eq_true rfl)).elim)
      refine ⟨_, rfl, p, _, 3, _, rfl, rfl, SqT.of (sG _ _ h1), atI_nat (j := 3) rfl, (by show 1 ≤ sizeLine; decide), fun t ht4 => ?_⟩
      exact q t _ _ (same_new ht4 _) ht4 upd_same (.cons ⟨q2, xs, rfl, hrow, hbb⟩ .nil)
    | eit n bs =>
      simp only [It.At] at hat0
      obtain ⟨p', q2, xs, e1, h1, hrow, hbb⟩ := hat0
      cases e1
      refine ite2 (fun z => absurd (of_decide_eq_true z) (kne (by simp only [It.kind]; decide +kernel))) (fun _ => ?_)
      refine ⟨_, rfl, p, _, 0, _, rfl, rfl, hT, atI_nat (j := 0) rfl, rfl, _, rfl, ite2 (fun _ => ?_) (fun z => (z (decide_eq_true rfl)).elim)⟩
      refine ⟨_, rfl, p, _, 2, _, rfl, rfl, SqT.of (sG _ _ h1), atI_nat (j := 2) rfl, q2, xs, rfl, seqOf (hrow.same sG), fun r hr2 => ?_⟩
      exact q r xs _ (same_new hr2 _) hr2 upd_same (rowsF_E hbb)
    | swi n tag bs =>
      simp only [It.At] at hat0
      obtain ⟨p', q2, xs, e1, h1, hrow, hbb⟩ := hat0
      cases e1
      refine ite2 (fun z => absurd (of_decide_eq_true z) (kne (by simp only [It.kind]; decide +kernel))) (fun _ => ?_)
      refine ⟨_, rfl, p, _, 0, _, rfl, rfl, hT, atI_nat (j := 0) rfl, rfl, _, rfl, ite2 (fun z => absurd (of_decide_eq_true z) (kne (by simp only [It.kind]; decide +kernel))) (fun _ => ?_)⟩
      refine ⟨_, rfl, p, _, 0, _, rfl, rfl, hT, atI_nat (j := 0) rfl, rfl, _, rfl, ite2 (fun _ => ?_) (fun z => (z (decide_eq_true rfl)).elim)⟩
      have el := hbb.len
      have hb : bs.list.length ≤ 100 := hb
      refine ⟨_, rfl, p, _, 3, _, rfl, rfl, SqT.of (sG _ _ h1), atI_nat (j := 3) rfl, q2, rfl, ?_⟩
      refine row_go (hrow.same sG) (fun J wk => ?_)
      intro D hD
      refine lc_it wk (fun i H' => Same H H' ∧ ∃ acc, H' D = some (.lst acc) ∧ RowsF G acc (bs.list.take i)) ⟨same_new hD _, [], upd_same, .nil⟩ (fun _ _ _ z => z.1) ?_ ?_
      · rintro i v H2 H3 hi ⟨s2, acc, hacc, hra⟩ ⟨e3, hv⟩
        subst e3
        obtain ⟨c, b, pc, qb, zs, gb, rfl, hpc, hrw, hb2⟩ := AtS_item hbb hv
        refine ⟨rfl, yes_go ⟨_, rfl, pc, _, 1, _, rfl, rfl, SqT.of (s2 _ _ (sG _ _ hpc)), atI_nat (j := 1) rfl, acc, hacc, small1000 (by rw [hra.len, List.length_take]; omega), same_set s2 hD, acc ++ [.ref qb], upd_same, ?_⟩⟩
        rw [take_more (listB_get gb)]
        exact RowsF.app ⟨qb, zs, rfl, hrw, hb2⟩ hra
      · rintro H2 ⟨s2, acc, hacc, hra⟩
        rw [el, ← listB_len, List.take_length] at hra
        exact q D acc H2 s2 hD hacc hra
    | odd => cases ho
    | _ =>
      refine ite2 (fun z => absurd (of_decide_eq_true z) (kne (by simp only [It.kind]; decide +kernel))) (fun _ => ?_)
      refine ⟨_, rfl, p, _, 0, _, rfl, rfl, hT, atI_nat (j := 0) rfl, rfl, _, rfl, ite2 (fun z => absurd (of_decide_eq_true z) (kne (by simp only [It.kind]; decide +kernel))) (fun _ => ?_)⟩
      refine ⟨_, rfl, p, _, 0, _, rfl, rfl, hT, atI_nat (j := 0) rfl, rfl, _, rfl, ite2 (fun z => absurd (of_decide_eq_true z) (kne (by simp only [It.kind]; decide +kernel))) (fun _ => ?_)⟩
      refine ⟨(by show 0 ≤ sizeLine; decide), fun r hr2 => ?_⟩
      exact q r [] _ (same_new hr2 _) hr2 upd_same .nil
/-- the rows of _law_walk -/
abbrev WalkF (G H : Hp) : List V → List (Int × It) → Prop := Paired fun v p => ∃ t u, v = .ref t ∧ H t = some (.tup [.int p.1, u]) ∧ p.2.At false G u
theorem WalkF.kp {G H H' : Hp} (s : ∀ b xs, H b = some (.tup xs) → H' b = some (.tup xs)) : ∀ {l : List V} {r : List (Int × It)}, WalkF G H l r → WalkF G H' l r
  | _, _, .nil => .nil
  | _, _, .cons ⟨t, u, e, h, g⟩ r => .cons ⟨t, u, e, s _ _ h, g⟩ (WalkF.kp s r)
theorem WalkF.len {G H : Hp} : ∀ {l : List V} {r : List (Int × It)}, WalkF G H l r → l.length = r.length
  | _, _, .nil => rfl
  | _, _, .cons _ t => by simp [WalkF.len t]
theorem WalkF.cat {G H : Hp} : ∀ {l m : List V} {r q : List (Int × It)}, WalkF G H l r → WalkF G H m q → WalkF G H (l ++ m) (r ++ q)
  | _, _, _, _, .nil, h => h
  | _, _, _, _, .cons a t, h => .cons a (WalkF.cat t h)
theorem WalkF.get {G H : Hp} : ∀ {l : List V} {r : List (Int × It)} {i : Nat} {v : V}, WalkF G H l r → l[i]? = some v → ∃ d y t u, r[i]? = some (d, y) ∧ v = .ref t ∧ H t = some (.tup [.int d, u]) ∧ y.At false G u
  | _, _, _, _, .nil, e => by simp at e
  | _, _, 0, _, .cons (b := (d, y)) ⟨t, u, e0, h, g⟩ _, e => by simp at e; subst e; exact ⟨d, y, t, u, by simp, e0, h, g⟩
  | _, _, i + 1, _, .cons _ t, e => by obtain ⟨d, y, t, u, h⟩ := WalkF.get (i := i) t (by simpa using e); exact ⟨d, y, t, u, by simpa using h.1, h.2⟩
def spLWalk (n : Nat) : Sp := fun vs H Q _ => ∃ (G : Hp) (a : Addr) (x : Its) (xs : List V) (d : Int), vs = [.ref a, .int d] ∧ d + n = 3 ∧ x.ok d = true ∧ Same G H ∧ RowAt false G a xs ∧ x.At false G xs ∧ (x.walk d).length ≤ 1000 ∧
  ∀ r rows H', Same H H' → H r = none → H' r = some (.lst rows) → WalkF G H' rows (x.walk d) → Q (.ref r) H'
theorem scLWalk : FnScope ["items", "depth", "found", "item", "block"] ["items", "depth"] (defScope sLawWalk) := ⟨rfl, rfl, rfl, by decide +kernel, rfl, by decide +kernel, by decide +kernel⟩
theorem ok_lwalk {n k : Nat} (hk : 1 ≤ k) (F : Fun K "_law_walk" "_law_walk" sLawWalk f fd) (gB : Cal P w K mg base CX0 1 "_law_blocks" ["item"] spLBlocks) (gS : Cal P w K mg base CX0 k "_law_walk" ["items", "depth"] (spSub spLWalk n)) :
    FnOk P w K mg base CX0 (k + 1) f fd ["items", "depth"] (spLWalk n) := by
  refine F.ok scLWalk (fun vs H Q E h => ?_) (fun cdv A outer s H vs Q E hr h => ?_)
  · obtain ⟨G, a, x, xs, d, rfl, _⟩ := h
    rfl
  · obtain ⟨G, a, x, xs, d, rfl, hd, ok, sG, hrow, hat, hw, q⟩ := h
    refine ⟨_, pss_cons (ps_set (i := 2) scLWalk.nd rfl (.inl rfl) (pe_lst pa_nil))
      (pss_cons (ps_for PassesOwn.never rfl (pi_row (pv 0)) (pg_name (i := 3) scLWalk.nd rfl (.inl rfl))
        (pss_cons (ps_expr (pe_bm PySem.F.plainAttrs_list PySem.F.slot_list_append PySem.F.type_list_append mt_append (pv 2) (pa_cons (pe_tup (pa_cons (pv 1) (pa_cons (pv 3) pa_nil))) pa_nil)))
        (pss_one (ps_for PassesOwn.never rfl (pi_list (pe_cal gB (hr.mono hk) pass0 (pa_cons (pv 3) pa_nil))) (pg_name (i := 4) scLWalk.nd rfl (.inl rfl))
          (pss_one (ps_set (i := 2) scLWalk.nd rfl (.inl rfl) (pe_op op_cat (pv 2) (pe_cal gS hr pass0 (pa_cons (pv 4) (pa_cons (pe_op op_add (pv 1) pe_int) pa_nil))))))))))
      (pss_one (ps_ret (pv 2)))), ?_⟩
    refine ⟨(by show 0 ≤ sizeLine; decide), fun D0 hD0 => ?_⟩
    have s0 := same_new hD0 (.lst [])
    have el := hat.len
    refine ⟨_, rfl, a, rfl, ?_⟩
    refine row_go2 (H0 := H) (hrow.same sG) s0 (fun J wk => ?_)
    refine for_it wk (fun i σ H' => ∃ D i3 i4, σ = [some (.ref a), some (.int d), some (.ref D), i3, i4] ∧ Same H H' ∧ H D = none ∧ ∃ acc, H' D = some (.lst acc) ∧ WalkF G H' acc ((x.take i).walk d))
      ⟨D0, none, none, rfl, s0, hD0, [], upd_same, by simp [Its.take, Its.walk]; exact .nil⟩ (fun _ _ _ _ h => by obtain ⟨_, _, _, _, z, _⟩ := h; exact z) ?_ ?_
    · rintro i v σ H2 H2' hi ⟨D, i3, i4, rfl, s2, hD, acc, hacc, hwa⟩ ⟨e3, hv⟩
      subst e3
      obtain ⟨y, gy, ay⟩ := At_item hat hv
      obtain ⟨b8, bok⟩ := blocks_ok (get_okd ok gy)
      have wl := walk_len (d := d) gy
      have wy := walk_it y d
      have hal := hwa.len
      refine ⟨_, rfl, .inl ⟨rfl, _, SqL.of hacc⟩, _, rfl, _, rfl, (by show 2 ≤ sizeLine; decide), fun t ht4 => ?_⟩
      have s3 := same_new ht4 (.tup [.int d, v])
      have hacc3 := s3 _ _ hacc
      refine ⟨D, acc, .ref t, rfl, rfl, hacc3, small1000 (by omega), ?_⟩
      have hS3 : Same H (upd (upd H2' t (.tup [.int d, v])) D (.lst (acc ++ [.ref t]))) := same_set (s2.trans s3) hD
      have k3 : ∀ b ys, H2' b = some (.tup ys) → (upd (upd H2' t (.tup [.int d, v])) D (.lst (acc ++ [.ref t]))) b = some (.tup ys) := fun b ys e => by
        rw [upd_ne (ne_of e hacc (by intro z; cases z))]
        exact s3 _ _ e
      have hw3 : WalkF G (upd (upd H2' t (.tup [.int d, v])) D (.lst (acc ++ [.ref t]))) (acc ++ [.ref t]) ((x.take i).walk d ++ [(d, y)]) := by
        refine (hwa.kp k3).cat (.cons ⟨t, v, rfl, ?_, ay⟩ .nil)
        rw [upd_ne (ne_of upd_same hacc3 (by intro z; cases z)), upd_same]
      generalize hH3 : upd (upd H2' t (.tup [.int d, v])) D (.lst (acc ++ [.ref t])) = H3 at k3 hS3 hw3
      have hD3 : H3 D = some (.lst (acc ++ [.ref t])) := by rw [← hH3]; exact upd_same
      refine ⟨_, rfl, G, v, y, rfl, odd_of (get_okd ok gy), sG.trans hS3, ay, by omega, fun r zs H4 s4 hr0 hr4 hrows => ?_⟩
      refine ⟨r, rfl, ⟨_, SqL.of hr4⟩, for_list (K := K) (a := r) (xs := zs) (fun j σ H' => ∃ D i4, σ = [some (.ref a), some (.int d), some (.ref D), some v, i4] ∧ Same H H' ∧ H D = none ∧ H' r = some (.lst zs) ∧ ∃ acc', H' D = some (.lst acc') ∧ WalkF G H' acc' ((x.take i).walk d ++ [(d, y)] ++ (y.blocks.take j).flatMap (·.walk (d + 1))))
        ⟨D, _, rfl, hS3.trans s4, hD, hr4, _, s4 _ _ hD3, by simpa using hw3.kp (fun b xs h => s4 _ _ h)⟩ (fun j σ H' _ z => by obtain ⟨_, _, _, _, _, z, _⟩ := z; exact SqL.of z) ?_ ?_⟩
      · rintro j z σ H5 hj ⟨D, i4, rfl, s5, hD5, hr5, acc', hacc', hwa'⟩
        obtain ⟨b, qb, xb, gb, rfl, hqb, hbb⟩ := hrows.get hj
        obtain ⟨d2, bk⟩ := bok b (List.mem_of_getElem? gb)
        have fl := flat_len (d := d + 1) gb
        have yl : (y.walk d).length = 1 + (y.blocks.flatMap (·.walk (d + 1))).length := by rw [wy, List.length_cons]; omega
        have hal' := hwa'.len
        rw [List.length_append, List.length_append, List.length_singleton] at hal'
        cases n with
        | zero => exfalso; omega
        | succ m =>
          refine ⟨_, rfl, _, rfl, _, rfl, d, 1, rfl, rfl, G, qb, b, xb, d + 1, rfl, by omega, bk, sG.trans s5, hqb, hbb, by omega, fun r6 rows H6 s6 h60 h6 w6 => ?_⟩
          have hacc6 := s6 _ _ hacc'
          refine ⟨D, r6, acc', rows, rfl, rfl, hacc6, h6, le_line (by rw [w6.len]; omega), fun p7 hp7 => ?_⟩
          have s7 := same_new hp7 (.lst (acc' ++ rows))
          refine ⟨p7, _, rfl, s5.trans (s6.trans s7), (s5.trans s6).free hp7, (s6.trans s7) _ _ hr5, acc' ++ rows, upd_same, ?_⟩
          rw [take_more gb, List.flatMap_append, ← List.append_assoc]
          simp only [List.flatMap_cons, List.flatMap_nil, List.append_nil]
          exact (hwa'.kp (fun b xs h => (s6.trans s7) _ _ h)).cat (w6.kp (fun b xs h => s7 _ _ h))
      · rintro σ H5 ⟨D, i4, rfl, s5, hD5, hr5, acc', hacc', hwa'⟩
        rw [hrows.len, List.take_length] at hwa'
        refine ⟨D, _, _, rfl, s5, hD5, acc', hacc', ?_⟩
        rw [walk_take gy, wy]
        simpa using hwa'
    · rintro σ H2 ⟨D, i3, i4, rfl, s2, hD, acc, hacc, hwa⟩
      rw [el, take_all] at hwa
      exact ⟨_, rfl, q D acc H2 s2 hD hacc hwa⟩
end
end Bs

set_option Elab.async false
set_option linter.all false
set_option maxRecDepth 100000
set_option maxHeartbeats 8000000
namespace Bs
open PySem L2
abbrev sLFroz : Stmt := top 56
/-! ### the law's own frozen items -/
theorem kind_flat {x : It} (h : x.blocky = false) (ho : x.isOdd = false) : x.kind ≠ "repeat" ∧ x.kind ≠ "either" ∧ x.kind ≠ "switch" := by
  cases x <;> first | (cases h; done) | (cases ho; done) | (simp only [It.kind]; decide +kernel)
def spLFroz (n : Nat) : Sp := fun vs H Q _ => ∃ (G : Hp) (a : Addr) (x : Its) (xs : List V) (d : Int), vs = [.ref a] ∧ d + n = 3 ∧ x.ok d = true ∧ x.len ≤ 12 ∧ Same G H ∧ RowAt false G a xs ∧ x.At false G xs ∧
  ∀ r ys H', Same H H' → H' r = some (.tup ys) → x.At true H' ys → Q (.ref r) H'
theorem okB_len {x : Blks} {i : Nat} {c : Int} {b : Its} {d : Int} (h : x.ok d = true) (g : x.get i = some (c, b)) : b.len ≤ 12 ∧ b.ok d = true := by
  cases e : (decide (b.len ≤ 12) && b.ok d) with
  | false => rw [getB_ok g e] at h; cases h
  | true => rw [Bool.and_eq_true] at e; exact ⟨of_decide_eq_true e.1, e.2⟩
theorem flat_at {H : Hp} {y : It} {v : V} (hb : y.blocky = false) (ho : y.isOdd = false) (h : y.At false H v) : y.At true H v := by
  cases y <;> first | (cases hb; done) | (cases ho; done) | (simp only [It.At] at h ⊢; exact h)
section
variable {P : Program} {w : World} {K : PySem.W.Frag} {mg : Str → Option Value} {base : Heap} {f : Addr} {fd : FuncData}
abbrev nLF : List Str := ["items", "found", "item", "block", "case"]
theorem scLFroz : FnScope nLF ["items"] (defScope sLFroz) := ⟨rfl, rfl, rfl, by decide +kernel, rfl, by decide +kernel, by decide +kernel⟩
theorem ok_lfroz {n k : Nat} (F : Fun K "_law_frozen" "_law_frozen" sLFroz f fd) (gS : Cal P w K mg base CX0 k "_law_frozen" ["items"] (spSub spLFroz n)) (mt : mg "tuple" = none) : FnOk P w K mg base CX0 (k + 1) f fd ["items"] (spLFroz n) := by
  refine F.ok scLFroz (fun vs H Q E h => ?_) (fun cdv A outer s H vs Q E hr h => ?_)
  · obtain ⟨G, a, x, xs, d, rfl, _⟩ := h
    rfl
  · obtain ⟨G, a, x, xs, d, rfl, hd, ok, h12, sG, hrow, hat, q⟩ := h
    refine ⟨_, pss_cons (ps_set (i := 1) scLFroz.nd rfl (.inl rfl) (pe_lst pa_nil))
      (pss_cons (ps_for PassesOwn.never rfl (pi_row (pv 0)) (pg_name (i := 2) scLFroz.nd rfl (.inl rfl))
        (pss_one (ps_if (pt_cmpR op_eq (pe_ix ix_tup (pv 2) pe_int (fun _ _ => rfl)) pe_str (nomark _))
          (pss_one (ps_expr (pe_bm PySem.F.plainAttrs_list PySem.F.slot_list_append PySem.F.type_list_append mt_append (pv 1) (pa_cons (pe_tup (pa_cons (pe_ix ix_tup (pv 2) pe_int (fun _ _ => rfl)) (pa_cons (pe_ix ix_tup (pv 2) pe_int (fun _ _ => rfl)) (pa_cons (pe_ix ix_tup (pv 2) pe_int (fun _ _ => rfl)) (pa_cons (pe_cal gS hr pass0 (pa_cons (pe_ix ix_tup (pv 2) pe_int (fun _ _ => rfl)) pa_nil)) pa_nil))))) pa_nil))))
          (pss_one (ps_if (pt_cmpR op_eq (pe_ix ix_tup (pv 2) pe_int (fun _ _ => rfl)) pe_str (nomark _))
            (pss_one (ps_expr (pe_bm PySem.F.plainAttrs_list PySem.F.slot_list_append PySem.F.type_list_append mt_append (pv 1) (pa_cons (pe_tup (pa_cons (pe_ix ix_tup (pv 2) pe_int (fun _ _ => rfl)) (pa_cons (pe_ix ix_tup (pv 2) pe_int (fun _ _ => rfl)) (pa_cons (pe_tupleOf (by rfl) mt (pe_lc (own := [("block", 3)]) (g := gName 3) (tt := tYes) rfl scLFroz.nd (pi_row (pe_ix ix_tup (pv 2) pe_int (fun _ _ => rfl)))
                (blkOk_by (own := [("block", 3)]) (N := nLF) (sc := defScope sLFroz) (by decide +kernel)) (fun _ _ _ _ _ => pg_name (i := 3) scLFroz.nd rfl (Or.inl rfl)) (fun _ _ _ _ _ => pts_nil) (fun _ _ _ _ _ => pe_cal gS hr pass0 (pa_cons (pv 3) pa_nil)))) pa_nil)))) pa_nil))))
            (pss_one (ps_if (pt_cmpR op_eq (pe_ix ix_tup (pv 2) pe_int (fun _ _ => rfl)) pe_str (nomark _))
              (pss_one (ps_expr (pe_bm PySem.F.plainAttrs_list PySem.F.slot_list_append PySem.F.type_list_append mt_append (pv 1) (pa_cons (pe_tup (pa_cons (pe_ix ix_tup (pv 2) pe_int (fun _ _ => rfl)) (pa_cons (pe_ix ix_tup (pv 2) pe_int (fun _ _ => rfl)) (pa_cons (pe_ix ix_tup (pv 2) pe_int (fun _ _ => rfl)) (pa_cons (pe_tupleOf (by rfl) mt (pe_lc (own := [("case", 4)]) (g := gName 4) (tt := tYes) rfl scLFroz.nd (pi_row (pe_ix ix_tup (pv 2) pe_int (fun _ _ => rfl)))
                  (blkOk_by (own := [("case", 4)]) (N := nLF) (sc := defScope sLFroz) (by decide +kernel)) (fun _ _ _ _ _ => pg_name (i := 4) scLFroz.nd rfl (Or.inl rfl)) (fun _ _ _ _ _ => pts_nil) (fun _ _ _ _ _ => pe_tup (pa_cons (pe_ix (r := rIxT K) ix_tup (pv 4) pe_int (fun _ _ => rfl)) (pa_cons (pe_cal gS hr pass0 (pa_cons (pe_ix (r := rIxT K) ix_tup (pv 4) pe_int (fun _ _ => rfl)) pa_nil)) pa_nil))))) pa_nil))))) pa_nil))))
              (pss_one (ps_expr (pe_bm PySem.F.plainAttrs_list PySem.F.slot_list_append PySem.F.type_list_append mt_append (pv 1) (pa_cons (pv 2) pa_nil)))))))))))
      (pss_one (ps_ret (pe_tupleOf (by rfl) mt (pv 1))))), ?_⟩
    refine ⟨(by show 0 ≤ sizeLine; decide), fun D hD => ?_⟩
    have s0 := same_new hD (.lst [])
    have el := hat.len
    refine ⟨_, rfl, a, rfl, ?_⟩
    refine row_go2 (H0 := H) (hrow.same sG) s0 (fun J wk => ?_)
    refine for_it wk (fun i σ H' => ∃ i2 i3 i4, σ = [some (.ref a), some (.ref D), i2, i3, i4] ∧ Same H H' ∧ ∃ acc, H' D = some (.lst acc) ∧ acc.length = i ∧ (x.take i).At true H' acc)
      ⟨none, none, none, rfl, s0, [], upd_same, rfl, by simp [Its.take, Its.At]⟩ (fun _ _ _ _ h => by obtain ⟨_, _, _, _, z, _⟩ := h; exact z) ?_ ?_
    · rintro i v σ H2' H2 hi ⟨i2, i3, i4, rfl, s2, acc, hacc, hlen, hat2⟩ ⟨e3, hv⟩
      subst e3
      obtain ⟨y, gy, ay⟩ := At_item hat hv
      have oky := get_okd ok gy
      obtain ⟨b8, bok⟩ := blocks_ok oky
      obtain ⟨p, rest, rfl, hp, hlenp⟩ := At_head ay (odd_of oky)
      have sG2 := sG.trans s2
      have hT : SqT K H2 p _ := SqT.of (sG2 _ _ hp)
      have mk : ∀ v' H4, Same H2 H4 → y.At true H4 v' → ∃ j2 j3 j4, ([some (.ref a), some (.ref D), some (.ref p), i3, i4] : L2.St) = [some (.ref a), some (.ref D), j2, j3, j4] ∧ Same H (upd H4 D (.lst (acc ++ [v']))) ∧ ∃ ac, (upd H4 D (.lst (acc ++ [v']))) D = some (.lst ac) ∧ ac.length = i + 1 ∧ (x.take (i + 1)).At true (upd H4 D (.lst (acc ++ [v']))) ac := fun v' H4 s4 a4 =>
        ⟨_, _, _, rfl, same_set (s2.trans s4) hD, _, upd_same, by simp [hlen], (take_at s4 hat2 gy a4).kp (.wr (s4 _ _ hacc))⟩
      have sl : acc.length < sizeLine := small1000 (by omega)
      refine ⟨_, rfl, p, _, 0, _, rfl, rfl, hT, atI_nat (j := 0) rfl, rfl, _, rfl, ?_⟩
      cases hb : y.blocky with
      | false =>
        obtain ⟨f1, f2, f3⟩ := kind_flat hb (odd_of oky)
        refine ite2 (fun z => absurd (of_decide_eq_true z) (kne f1)) (fun _ => ?_)
        refine ⟨_, rfl, p, _, 0, _, rfl, rfl, hT, atI_nat (j := 0) rfl, rfl, _, rfl, ite2 (fun z => absurd (of_decide_eq_true z) (kne f2)) (fun _ => ?_)⟩
        refine ⟨_, rfl, p, _, 0, _, rfl, rfl, hT, atI_nat (j := 0) rfl, rfl, _, rfl, ite2 (fun z => absurd (of_decide_eq_true z) (kne f3)) (fun _ => ?_)⟩
        refine ⟨_, rfl, .inl ⟨rfl, _, SqL.of hacc⟩, _, rfl, D, acc, _, rfl, rfl, hacc, sl, ?_⟩
        exact mk _ H2 (Same.refl _) ((flat_at hb (odd_of oky) ay).same sG2)
      | true =>
        cases y with
        | rep n' amt b =>
          refine ite2 (fun _ => ?_) (fun z => (z (decide_eq_true rfl)).elim)
          obtain ⟨d2, bk⟩ := bok b (by simp [It.blocks])
          rw [It.ok, Bool.and_eq_true, Bool.and_eq_true, Bool.and_eq_true] at oky
          have b12 := of_decide_eq_true oky.2.2.1
          simp only [It.At] at ay
          obtain ⟨p', qb, xb, ep, hp', hrow', hb'⟩ := ay
          cases ep
          have hT' : SqT K H2 p _ := SqT.of (sG2 _ _ hp')
          cases n with
          | zero => exfalso; omega
          | succ n =>
          refine ⟨_, rfl, .inl ⟨rfl, _, SqL.of hacc⟩, _, rfl, p, _, 0, _, rfl, rfl, hT', atI_nat (j := 0) rfl, _, rfl, p, _, 1, _, rfl, rfl, hT', atI_nat (j := 1) rfl, _, rfl, p, _, 2, _, rfl, rfl, hT', atI_nat (j := 2) rfl, _, rfl, p, _, 3, _, rfl, rfl, hT', atI_nat (j := 3) rfl, ?_⟩
          refine ⟨G, qb, b, xb, d + 1, rfl, by omega, bk, b12, sG2, hrow', hb', fun r ys H4 s4 h4 a4 => ?_⟩
          refine ⟨(by show 4 ≤ sizeLine; decide), fun t ht => ?_⟩
          have s5 := same_new ht (.tup [.str "repeat", .str n', kV amt, .ref r])
          refine ⟨D, acc, _, rfl, rfl, (s4.trans s5) _ _ hacc, sl, mk _ _ (s4.trans s5) ?_⟩
          simp only [It.At]
          exact ⟨t, r, ys, rfl, upd_same, .inl (s5 _ _ h4), a4.same s5⟩
        | eit n' bs =>
          refine ite2 (fun z => absurd (of_decide_eq_true z) (kne (by simp only [It.kind]; decide +kernel))) (fun _ => ?_)
          refine ⟨_, rfl, p, _, 0, _, rfl, rfl, hT, atI_nat (j := 0) rfl, rfl, _, rfl, ite2 (fun _ => ?_) (fun z => (z (decide_eq_true rfl)).elim)⟩
          rw [It.ok, Bool.and_eq_true, Bool.and_eq_true, Bool.and_eq_true] at oky
          have okb := oky.2.2.2
          simp only [It.At] at ay
          obtain ⟨p', qb, xb, ep, hp', hrow', hb'⟩ := ay
          cases ep
          have el2 := hb'.len
          have b8 : bs.list.length ≤ 8 := b8
          rw [listB_len] at b8
          have hT' : SqT K H2 p _ := SqT.of (sG2 _ _ hp')
          refine ⟨_, rfl, .inl ⟨rfl, _, SqL.of hacc⟩, _, rfl, p, _, 0, _, rfl, rfl, hT', atI_nat (j := 0) rfl, _, rfl, p, _, 1, _, rfl, rfl, hT', atI_nat (j := 1) rfl, _, rfl, p, _, 2, _, rfl, rfl, hT', atI_nat (j := 2) rfl, qb, rfl, ?_⟩
          refine row_go (hrow'.same sG2) (fun J wk => ?_)
          intro D2 hD2
          refine lc_it wk (fun j H' => Same H2 H' ∧ ∃ ac, H' D2 = some (.lst ac) ∧ ac.length = j ∧ (bs.take j).AtE true H' ac)
            ⟨same_new hD2 _, [], upd_same, rfl, by simp [Blks.take, Blks.AtE]⟩ (fun _ _ _ h => h.1) ?_ ?_
          · rintro j z H3' H3 hj ⟨s3, ac, hac, hl3, hat3⟩ ⟨e3, hz⟩
            subst e3
            obtain ⟨c, b, q9, zs, gb, rfl, hrw, hb2⟩ := AtE_item hb' hz
            obtain ⟨b12, bk⟩ := okB_len okb gb
            have d2 : d ≤ 2 := (bok b (List.mem_of_getElem? (listB_get gb))).1
            cases n with
            | zero => exfalso; omega
            | succ n =>
            refine ⟨rfl, yes_go ?_⟩
            refine ⟨_, rfl, G, q9, b, zs, d + 1, rfl, by omega, bk, b12, sG2.trans s3, hrw, hb2, fun r ys H4 s4 h4 a4 => ?_⟩
            refine ⟨ac, s4 _ _ hac, small1000 (by omega), same_set (s3.trans s4) hD2, ac ++ [.ref r], upd_same, by simp [hl3], ?_⟩
            exact (takeE_at s4 hat3 gb (.inl h4) a4).kp (.wr (s4 _ _ hac))
          · rintro H3 ⟨s3, ac, hac, hl3, hat3⟩
            rw [el2, takeB_all] at hat3
            refine .inl ⟨D2, ac, rfl, SqL.of hac, fun p4 hp4 => ?_⟩
            have s4 := same_new hp4 (.tup ac)
            refine ⟨(by show 3 ≤ sizeLine; decide), fun t ht => ?_⟩
            have s5 := same_new ht (.tup [.str "either", .str n', .ref p4])
            have s25 := s3.trans (s4.trans s5)
            refine ⟨D, acc, _, rfl, rfl, s25 _ _ hacc, sl, mk _ _ s25 ?_⟩
            simp only [It.At]
            exact ⟨t, p4, ac, rfl, upd_same, .inl (s5 _ _ upd_same), (hat3.same s4).same s5⟩
        | swi n' tag bs =>
          refine ite2 (fun z => absurd (of_decide_eq_true z) (kne (by simp only [It.kind]; decide +kernel))) (fun _ => ?_)
          refine ⟨_, rfl, p, _, 0, _, rfl, rfl, hT, atI_nat (j := 0) rfl, rfl, _, rfl, ite2 (fun z => absurd (of_decide_eq_true z) (kne (by simp only [It.kind]; decide +kernel))) (fun _ => ?_)⟩
          refine ⟨_, rfl, p, _, 0, _, rfl, rfl, hT, atI_nat (j := 0) rfl, rfl, _, rfl, ite2 (fun _ => ?_) (fun z => (z (decide_eq_true rfl)).elim)⟩
          rw [It.ok, Bool.and_eq_true, Bool.and_eq_true, Bool.and_eq_true] at oky
          have okb := oky.2.2.2
          simp only [It.At] at ay
          obtain ⟨p', qb, xb, ep, hp', hrow', hb'⟩ := ay
          cases ep
          have el2 := hb'.len
          have b8 : bs.list.length ≤ 8 := b8
          rw [listB_len] at b8
          have hT' : SqT K H2 p _ := SqT.of (sG2 _ _ hp')
          refine ⟨_, rfl, .inl ⟨rfl, _, SqL.of hacc⟩, _, rfl, p, _, 0, _, rfl, rfl, hT', atI_nat (j := 0) rfl, _, rfl, p, _, 1, _, rfl, rfl, hT', atI_nat (j := 1) rfl, _, rfl, p, _, 2, _, rfl, rfl, hT', atI_nat (j := 2) rfl, _, rfl, p, _, 3, _, rfl, rfl, hT', atI_nat (j := 3) rfl, qb, rfl, ?_⟩
          refine row_go (hrow'.same sG2) (fun J wk => ?_)
          intro D2 hD2
          refine lc_it wk (fun j H' => Same H2 H' ∧ ∃ ac, H' D2 = some (.lst ac) ∧ ac.length = j ∧ (bs.take j).AtS true H' ac)
            ⟨same_new hD2 _, [], upd_same, rfl, by simp [Blks.take, Blks.AtS]⟩ (fun _ _ _ h => h.1) ?_ ?_
          · rintro j z H3' H3 hj ⟨s3, ac, hac, hl3, hat3⟩ ⟨e3, hz⟩
            subst e3
            obtain ⟨c, b, pc, q9, zs, gb, rfl, hpc, hrw, hb2⟩ := AtS_item hb' hz
            obtain ⟨b12, bk⟩ := okB_len okb gb
            have d2 : d ≤ 2 := (bok b (List.mem_of_getElem? (listB_get gb))).1
            have hTc : SqT K H3 pc _ := SqT.of ((sG2.trans s3) _ _ hpc)
            cases n with
            | zero => exfalso; omega
            | succ n =>
            refine ⟨rfl, yes_go ?_⟩
            refine ⟨_, rfl, pc, _, 0, _, rfl, rfl, hTc, atI_nat (j := 0) rfl, _, rfl, pc, _, 1, _, rfl, rfl, hTc, atI_nat (j := 1) rfl, ?_⟩
            refine ⟨G, q9, b, zs, d + 1, rfl, by omega, bk, b12, sG2.trans s3, hrw, hb2, fun r ys H4 s4 h4 a4 => ?_⟩
            refine ⟨(by show 2 ≤ sizeLine; decide), fun t ht => ?_⟩
            have s5 := same_new ht (.tup [.int c, .ref r])
            have hac5 := (s4.trans s5) _ _ hac
            refine ⟨ac, hac5, small1000 (by omega), same_set (s3.trans (s4.trans s5)) hD2, ac ++ [.ref t], upd_same, by simp [hl3], ?_⟩
            exact (takeS_at (s4.trans s5) hat3 gb upd_same (.inl (s5 _ _ h4)) (a4.same s5)).kp (.wr hac5)
          · rintro H3 ⟨s3, ac, hac, hl3, hat3⟩
            rw [el2, takeB_all] at hat3
            refine .inl ⟨D2, ac, rfl, SqL.of hac, fun p4 hp4 => ?_⟩
            have s4 := same_new hp4 (.tup ac)
            refine ⟨(by show 4 ≤ sizeLine; decide), fun t ht => ?_⟩
            have s5 := same_new ht (.tup [.str "switch", .str n', .str tag, .ref p4])
            have s25 := s3.trans (s4.trans s5)
            refine ⟨D, acc, _, rfl, rfl, s25 _ _ hacc, sl, mk _ _ s25 ?_⟩
            simp only [It.At]
            exact ⟨t, p4, ac, rfl, upd_same, .inl (s5 _ _ upd_same), (hat3.same s4).same s5⟩
        | _ => cases hb
    · rintro σ H2 ⟨i2, i3, i4, rfl, s2, acc, hacc, hlen, hat2⟩
      rw [el, take_all] at hat2
      refine ⟨_, rfl, .inl ⟨D, acc, rfl, SqL.of hacc, fun p hp => ?_⟩⟩
      have s3 := same_new hp (.tup acc)
      exact q p acc _ (s2.trans s3) upd_same (hat2.same s3)
end
end Bs

set_option Elab.async false
set_option linter.all false
set_option maxRecDepth 100000
set_option maxHeartbeats 4000000
namespace Bs
open PySem L2
/-! ### displays as trees: what a nested display of tuples and lists evaluates to -/
mutual
inductive Dd where
  | sc (te : TE) (v : V)
  | gen (te : TE) (rel : Hp → V → Prop) (mono : ∀ H H' v, Same H H' → rel H v → rel H' v)
  | tup (l : Dds)
  | lst (l : Dds)
  | pick (l : Dds) (te : TE) (j : Nat)
inductive Dds where
  | nil | cons (d : Dd) (r : Dds)
end
def Dds.len : Dds → Nat
  | .nil => 0 | .cons _ r => r.len + 1
mutual
def Dd.te (K : PySem.W.Frag) : Dd → TE
  | .sc te _ => te
  | .gen te _ _ => te
  | .tup l => tTup (l.ta K)
  | .lst l => tLst (l.ta K)
  | .pick l te _ => tOp (rIxL K) (tLst (l.ta K)) te
def Dds.ta (K : PySem.W.Frag) : Dds → TA
  | .nil => tNil
  | .cons d r => tCons (d.te K) (r.ta K)
end
mutual
/-- the value of a display -/
def Dd.at (H : Hp) : Dd → V → Prop
  | .sc _ u, v => v = u
  | .gen _ rel _, v => rel H v
  | .tup l, v => ∃ p vs, v = .ref p ∧ H p = some (.tup vs) ∧ l.at H vs
  | .lst l, v => ∃ p vs, v = .ref p ∧ H p = some (.lst vs) ∧ l.at H vs
  | .pick l _ j, v => l.atN H j v
def Dds.at (H : Hp) : Dds → List V → Prop
  | .nil, vs => vs = []
  | .cons d r, vs => ∃ v vs', vs = v :: vs' ∧ d.at H v ∧ r.at H vs'
def Dds.atN (H : Hp) : Dds → Nat → V → Prop
  | .nil, _, _ => False
  | .cons d _, 0, v => d.at H v
  | .cons _ r, n + 1, v => r.atN H n v
end
mutual
def Dd.ok (σ : L2.St) (H0 : Hp) : Dd → Prop
  | .sc te v => ∀ H Q, Same H0 H → Q v H → te σ H Q
  | .gen te rel _ => ∀ (H : Hp) (Q : VK), Same H0 H → (∀ v H', Same H H' → rel H' v → Q v H') → te σ H Q
  | .tup l => l.len ≤ 1000 ∧ l.ok σ H0
  | .lst l => l.len ≤ 1000 ∧ l.ok σ H0
  | .pick l te j => l.len ≤ 1000 ∧ l.ok σ H0 ∧ j < l.len ∧ ∀ H Q, Same H0 H → Q (.int (j : Nat)) H → te σ H Q
def Dds.ok (σ : L2.St) (H0 : Hp) : Dds → Prop
  | .nil => True
  | .cons d r => d.ok σ H0 ∧ r.ok σ H0
end
mutual
theorem Dd.at_same {H H' : Hp} (s : Same H H') : ∀ {d : Dd} {v : V}, d.at H v → d.at H' v
  | .sc .., _, h => by simp only [Dd.at] at h ⊢; exact h
  | .gen _ rel mono, _, h => by simp only [Dd.at] at h ⊢; exact mono _ _ _ s h
  | .tup l, _, h => by simp only [Dd.at] at h ⊢; obtain ⟨p, vs, e, a, b⟩ := h; exact ⟨p, vs, e, s _ _ a, Dds.at_same s b⟩
  | .lst l, _, h => by simp only [Dd.at] at h ⊢; obtain ⟨p, vs, e, a, b⟩ := h; exact ⟨p, vs, e, s _ _ a, Dds.at_same s b⟩
  | .pick l _ j, _, h => by simp only [Dd.at] at h ⊢; exact Dds.atN_same s h
theorem Dds.at_same {H H' : Hp} (s : Same H H') : ∀ {l : Dds} {vs : List V}, l.at H vs → l.at H' vs
  | .nil, _, h => by simp only [Dds.at] at h ⊢; exact h
  | .cons d r, _, h => by simp only [Dds.at] at h ⊢; obtain ⟨v, vs', e, a, b⟩ := h; exact ⟨v, vs', e, Dd.at_same s a, Dds.at_same s b⟩
theorem Dds.atN_same {H H' : Hp} (s : Same H H') : ∀ {l : Dds} {n : Nat} {v : V}, l.atN H n v → l.atN H' n v
  | .nil, _, _, h => by simp only [Dds.atN] at h
  | .cons d r, 0, _, h => by simp only [Dds.atN] at h ⊢; exact Dd.at_same s h
  | .cons d r, n + 1, _, h => by simp only [Dds.atN] at h ⊢; exact Dds.atN_same s h
end
theorem Dds.at_len {H : Hp} : ∀ {l : Dds} {vs : List V}, l.at H vs → vs.length = l.len
  | .nil, _, h => by simp only [Dds.at] at h; subst h; rfl
  | .cons d r, _, h => by simp only [Dds.at] at h; obtain ⟨v, vs', e, a, b⟩ := h; subst e; simp [Dds.len, Dds.at_len b]
theorem Dds.at_get {H : Hp} : ∀ {l : Dds} {vs : List V} {n : Nat}, l.at H vs → n < l.len → ∃ v, vs[n]? = some v ∧ l.atN H n v
  | .nil, _, _, h, hn => by simp only [Dds.len] at hn; omega
  | .cons d r, _, 0, h, _ => by simp only [Dds.at] at h; obtain ⟨v, vs', e, a, b⟩ := h; subst e; exact ⟨v, rfl, by simp only [Dds.atN]; exact a⟩
  | .cons d r, _, n + 1, h, hn => by
    simp only [Dds.at] at h
    obtain ⟨v, vs', e, a, b⟩ := h
    subst e
    obtain ⟨u, h1, h2⟩ := Dds.at_get (n := n) b (by simp only [Dds.len] at hn; omega)
    exact ⟨u, by simpa using h1, by simp only [Dds.atN]; exact h2⟩
mutual
theorem Dd.run {K : PySem.W.Frag} {σ : L2.St} {H0 : Hp} : ∀ (d : Dd) {H : Hp} {Q : VK}, d.ok σ H0 → Same H0 H → (∀ v H', Same H H' → d.at H' v → Q v H') → d.te K σ H Q
  | .sc te v, H, Q, ok, s, q => by simp only [Dd.ok] at ok; simp only [Dd.te]; exact ok H Q s (q v H (Same.refl _) (by simp only [Dd.at]))
  | .gen te rel mono, H, Q, ok, s, q => by
    simp only [Dd.ok] at ok
    simp only [Dd.te]
    exact ok H Q s fun v H' s1 h => q v H' s1 (by simp only [Dd.at]; exact h)
  | .tup l, H, Q, ok, s, q => by
    simp only [Dd.ok] at ok
    simp only [Dd.te]
    refine Dds.run l ok.2 s fun vs H1 s1 a => ⟨Nat.le_trans (by rw [Dds.at_len a]; exact ok.1) (by decide), fun p hp => ?_⟩
    have s2 := same_new hp (.tup vs)
    exact q _ _ (s1.trans s2) (by simp only [Dd.at]; exact ⟨p, vs, rfl, upd_same, Dds.at_same s2 a⟩)
  | .lst l, H, Q, ok, s, q => by
    simp only [Dd.ok] at ok
    simp only [Dd.te]
    refine Dds.run l ok.2 s fun vs H1 s1 a => ⟨Nat.le_trans (by rw [Dds.at_len a]; exact ok.1) (by decide), fun p hp => ?_⟩
    have s2 := same_new hp (.lst vs)
    exact q _ _ (s1.trans s2) (by simp only [Dd.at]; exact ⟨p, vs, rfl, upd_same, Dds.at_same s2 a⟩)
  | .pick l te j, H, Q, ok, s, q => by
    simp only [Dd.ok] at ok
    simp only [Dd.te]
    refine Dds.run l ok.2.1 s fun vs H1 s1 a => ⟨Nat.le_trans (by rw [Dds.at_len a]; exact ok.1) (by decide), fun p hp => ?_⟩
    have s2 := same_new hp (.lst vs)
    obtain ⟨v, g, an⟩ := Dds.at_get a ok.2.2.1
    exact ok.2.2.2 _ _ (s.trans (s1.trans s2)) ⟨p, vs, (j : Nat), v, rfl, rfl, SqL.of upd_same, atI_nat g, q v _ (s1.trans s2) (by simp only [Dd.at]; exact Dds.atN_same s2 an)⟩
theorem Dds.run {K : PySem.W.Frag} {σ : L2.St} {H0 : Hp} : ∀ (l : Dds) {H : Hp} {Q : List V → Hp → Prop}, l.ok σ H0 → Same H0 H → (∀ vs H', Same H H' → l.at H' vs → Q vs H') → l.ta K σ H Q
  | .nil, H, Q, ok, s, q => by simp only [Dds.ta]; exact q [] H (Same.refl _) (by simp only [Dds.at])
  | .cons d r, H, Q, ok, s, q => by
    simp only [Dds.ok] at ok
    simp only [Dds.ta]
    refine Dd.run d ok.1 s fun v H1 s1 a => ?_
    refine Dds.run r ok.2 (s.trans s1) fun vs H2 s2 b => ?_
    exact q _ _ (s1.trans s2) (by simp only [Dds.at]; exact ⟨v, vs, rfl, Dd.at_same s2 a, b⟩)
end
end Bs

set_option Elab.async false
set_option linter.all false
set_option maxRecDepth 100000
set_option maxHeartbeats 4000000
/-! super().__init__(e) at the head of an own exception's __init__; the class stands over ValueError -/
namespace Rj
open PySem PySem.Spec PyProof.Rows L2 NdefX

/-- what the written part says: the code object at c, the cell at cc that holds the class at D -/
structure SupC (P : Program) (K : PySem.W.Frag) (c cc D : Addr) : Prop where
  code : ∃ ccl cdd vs ccs file tf, K.lookup c = some ⟨ccl, cdd, .fields vs, ccs⟩ ∧ vs[2]? = some (.str file tf) ∧ ((P.main.file : Str) == file) = true
  cell : ∃ cl cld csl, K.lookup cc = some ⟨cl, cld, .cell (some (.ref D)), csl⟩
  mro : PySem.W.mroIn K D (.ref D) = some true
  any : PySem.W.nsIn K cStatics "thirdparty.any" = some none
  sup : PySem.W.ks_superIn K D D "__init__" = some (some (.builtin "ValueError.__init__"))
  sub : PySem.W.subIn K (.ref D) (.type "ValueError") = some true
  top : (P.main.scope.names.lookup ("super" : Str)).isSome = false

theorem boot_super : bootBuiltins "super" = some (.type "super") := by decide +kernel

section
variable {X : Cx} {body : List Stmt} {p0 p1 p2 p3 p4 : Pos} {e : Expr} {te : TE} {f c cc D a : Addr} {oc : Value} {od : Option Addr} {osl : Array (Option Value)} {fd : FuncData} {ar : Arg} {pins : List (Addr × Obj)} {σ : L2.St} {H : Hp} {s : Shared} {Q : Flow → Shared → Prop}

theorem super_init (I : Inv X pins σ H s) (T : OexC X.K D) (C : SupC X.prog X.K c cc D) (hfu : X.env.func = some f) (hco : X.env.code = .ref c)
    (lk : X.K.lookup f = some ⟨oc, od, .func fd, osl⟩) (hp : (fd.params.posonlyargs ++ fd.params.args).head? = some ar)
    (hks : X.env.kindOf "super" = some .globalImplicit) (hkc : X.env.kindOf "__class__" = some .free) (hcl : X.env.cells.lookup ("__class__" : Str) = some cc)
    (hka : X.env.scope.names.lookup ar.arg = some .local) (h0 : X.N[0]? = some ar.arg) (hs0 : σ[0]? = some (some (.ref a))) (hm : X.mg "super" = none)
    (ea : H a = some (exo a D none)) (ha : PE X e te) (q : te σ H fun v H1 => [v].length ≤ 1000 ∧ H1 a = some (exo a D none) ∧ ∀ s', Inv X pins σ H1 s' → Q .next s')
    {pl : Sem Bool} (hc : eval (.Call (.Attribute (.Call (.Name "super" p0) [] [] p1) "__init__" p2) [e] [] p3) X.env = (do
      let ov ← attributeBase (.Call (.Name "super" p0) [] [] p1) "__init__" X.env (eval (.Call (.Name "super" p0) [] [] p1) X.env)
      standAt p2.atName
      let (f, first) ← holding [ov] (getMethod ov "__init__" pl)
      callWith p3 f first (backTo p3 (starEach [e] X.env)) []))
    (hst : starEach [e] X.env = [(false, eval e X.env)]) (hsw : swapsWith (.Call (.Attribute (.Call (.Name "super" p0) [] [] p1) "__init__" p2) [e] [] p3) none p4.line X.env = pure false) :
    _root_.PySem.wpAt (model X.prog X.w) X.A (.func body X.env) (exec (.Expr (.Call (.Attribute (.Call (.Name "super" p0) [] [] p1) "__init__" p2) [e] [] p3) p4) X.env) Q X.xe s := by
  obtain ⟨ccl, cdd, vs, ccs, file, tf, hcode, hvs, hfile⟩ := C.code
  obtain ⟨cl, cld, csl, hcell⟩ := C.cell
  have K0 := I.kIn
  obtain ⟨hp0, g, d, t, os⟩ := s
  refine ks_wpAt_Expr_any (ks_wpAt_MethodCall (ks_wpAt_super_base hks hkc (by decide) hfu (K0 _ _ lk) rfl hp hco (K0 _ _ hcode) rfl hvs hfile C.top ?_) hc) I.quiet hsw
  obtain ⟨mb, b1, b2⟩ := I.mod.blt
  refine PySem.W.ks_loadName_global I.ok.kind hks (Calls.loadGlobal_builtin (by rw [I.ok.glob]; exact I.mod.glob.keeps I.bk) hm (by rw [I.ok.blt]; exact b1.keeps I.bk) ((b2 _ (by decide)).trans boot_super) ⟨rfl, ?_⟩)
  refine wpAny_loadName_free I.ok.kind hkc hcl ⟨_, K0 _ _ hcell, rfl⟩ ?_
  obtain ⟨m, hn, hl⟩ := I.loc
  obtain ⟨u, ru, lu⟩ := hl 0 ar.arg (.ref a) h0 hs0 (.inl hka)
  cases ru
  have hmx : m ar.arg = some (.ref a) := by
    rcases lu with ⟨_, h⟩ | ⟨h, _⟩
    · exact h
    · have hk : X.env.kindOf ar.arg = some .local := hka
      rw [hk] at h
      rcases h with h | h <;> cases h
  refine wpAny_loadName_local I.ok.kind hka hn hmx ?_
  obtain ⟨nm, qn, N, bs, bm, sn, sub, ab, col, dd, k0, k1, k2, k3, k5, hC, hbm⟩ := T.cls
  obtain ⟨cd, hcd⟩ : ∃ cd, PySem.W.clsIn X.K D = some cd := by
    have := C.sup
    unfold PySem.W.ks_superIn at this
    cases h : PySem.W.clsIn X.K D with
    | none => rw [h] at this; cases this
    | some cd => exact ⟨cd, rfl⟩
  have hsup : PySem.W.alongIn X.K "__init__" ((cd.mro.dropWhile (· != .ref D)).drop 1) = some (some (.builtin "ValueError.__init__")) := by
    have := C.sup
    unfold PySem.W.ks_superIn at this
    rw [hcd] at this
    exact this
  refine ks_wpAny_isType_cls (K0 _ _ hC) rfl ⟨rfl, ?_⟩
  obtain ⟨t1, ho⟩ := exo_at I.hok ea
  refine ks_wpAny_call_super (K0 _ _ hC) rfl ho rfl (fun c h => by cases h) (PySem.W.looks_mroIn K0 C.mro) (fun h' eo k => ?_)
  have I1 : Inv X pins σ H ⟨h', g, d, t, os⟩ := I.kept k
  have K1 := I1.kIn
  have ia : PySem.W.InstAt h' a ({ cls := .ref D, dict := none, data := .fields #[.ref t1, .none, .none, .none, .bool false, .none] } : Obj) D none := ⟨k _ _ ho, rfl, rfl, trivial⟩
  refine PySem.W.kxs_getMethod PySem.W.kxs_ValueError eo (PySem.W.looks_opaque K1 C.any) (l₀ := cd.mro) (fun A Q E s k q => wpAny_bind ((PySem.W.looks_clsIn K1 hcd) A _ E s k (wpAny_pure q))) rfl K1 hsup
    (ia.type.andThen (PySem.W.looks_subIn K1 C.sub)) (PySem.W.ks_ne K1 ia hcd) (by decide) ?_
  have kp : ∀ b o, h'.get? b = some o → (h'.push (PySem.W.kxs_mw "ValueError.__init__" a)).get? b = some o := fun b o e => Heap.get?_push_of_some _ e
  have I2 : Inv X pins σ H ⟨h'.push (PySem.W.kxs_mw "ValueError.__init__" a), g, d, t + 1, os⟩ := I1.kept (t' := t + 1) kp
  have hu : (h'.push (PySem.W.kxs_mw "ValueError.__init__" a)).get? h'.objs.size = some (PySem.W.kxs_mw "ValueError.__init__" a) := Heap.get?_push_at rfl rfl
  have I3 : Inv X ((h'.objs.size, PySem.W.kxs_mw "ValueError.__init__" a) :: pins) σ H ⟨h'.push (PySem.W.kxs_mw "ValueError.__init__" a), g, d, t + 1, os⟩ := I2.pins_of fun p hp => by
    rcases List.mem_cons.mp hp with rfl | hp
    · exact ⟨hu, I1.hok.fresh (Nat.le_refl _), fun z => absurd I1.lt (by show ¬ X.env.locals < h'.objs.size; rw [← z]; exact Nat.lt_irrefl _), I1.nofs (Nat.le_refl _), fun v z => by cases z⟩
    · exact I2.pin p (List.mem_append_right _ hp)
  have hb : backTo p3 (starEach [e] X.env) = backTo p3 [(false, eval e X.env)] := by rw [hst]
  have run := (pa_cons ha pa_nil (hs := by rw [hst]; rfl)).run p3 _ _ σ H (fun vs H1 => vs.length ≤ 1000 ∧ H1 a = some (exo a D none) ∧ ∀ s', Inv X pins σ H1 s' → Q .next s') I3 q
  have ab : ∀ x : Bool × Sem Value, backTo p3 [(false, x.2)] = [(false, x.2)] := fun _ => rfl
  refine PySem.W.kxs_callWith (i := "ValueError.__init__") (x := a) (first := []) (by rw [hb]; rfl) ?_
  rw [hb] at run ⊢
  refine Calls.evalArgs_plain (wpAny_mono run (fun us s1 hq => ?_) fun _ _ z => z)
  obtain ⟨vs, H1, I4, r1, hz, ea1, fin⟩ := hq
  refine ⟨(I4.pin (h'.objs.size, PySem.W.kxs_mw "ValueError.__init__" a) (List.mem_append_right _ (List.mem_cons_self ..))).1, ?_⟩
  show wpAny _ _ (call (.ref h'.objs.size) us) _ _ _
  have hu4 := (I4.pin (h'.objs.size, PySem.W.kxs_mw "ValueError.__init__" a) (List.mem_append_right _ (List.mem_cons_self ..))).1
  have hlen : us.length ≤ sizeLine := by
    rw [← Paired.length r1, sizeLine_eq]
    omega
  obtain ⟨t2, he4⟩ := exo_at I4.hok ea1
  have K4 := I4.kIn
  obtain ⟨hp4, g4, d4, t4, os4⟩ := s1
  refine wpAny_call (codeAny_of_tree ?_)
  show wpAny _ X.A.in1 (callAny (.ref h'.objs.size) ⟨us, []⟩) _ _ _
  simp only [callAny]
  refine wpAny_bind (wpAny_load hu4 ?_)
  simp only [PySem.W.kxs_mw, show (Value.type "method-wrapper" == Value.type "method" || Value.type "method-wrapper" == Value.type "builtin_function_or_method" || Value.type "method-wrapper" == Value.type "method-wrapper") = true by decide, if_true]
  refine PySem.W.KFB.if_so (by decide) ?_
  refine wpAny_bind (PySem.W.check_bound_init F.excBase_ValueError.toExcCallFacts (K4 _ _ hC) he4 rfl ?_)
  refine wpAny_bind (wpAny_pure (wpAny_pure ?_))
  refine ⟨plainId_quiet F.excBase_ValueError.init.plain _, codeAny_builtin F.excBase_ValueError.initEntry ?_⟩
  refine PySem.W.exc_init_tree (cls := .ref D) (t0 := t2) (dv := none) (c2 := .none) (c3 := .none) (b4 := .bool false) he4 hlen fun h5 k5 e5 _ => ?_
  have J := I4.write (t' := t4) (x := a) (e := a) (o := exo a D none) (by rw [ea1]; exact True.intro) (.inl rfl) k5 ⟨_, e5⟩ (exo_ok e5)
  have eu : upd H1 a (exo a D none) = H1 := by
    funext b
    by_cases hb : b = a
    · rw [hb, upd_same, ea1]
    · rw [upd_ne hb]
  rw [eu] at J
  exact fin _ (J.pins_of fun p hp => J.pin p (List.mem_append_right _ (List.mem_cons_of_mem _ hp)))
end

section
variable {CX : CXT} {P : Program} {w : World} {K : PySem.W.Frag} {mg : Str → Option Value} {base : Heap} {N ps : List Str} {F : NF} {f cc D : Addr} {k : Nat} {sp : Sp} {oc : Value} {od an : Option Addr} {osl : Array (Option Value)} {kV doc pm ctv : Value}
  {p0 p1 p2 p3 p4 : Pos} {e : Expr} {rest : List Stmt} {self : Str}
/-- a promise of such an __init__: self is the exception that is being made; the reading of e, then that of the rest -/
theorem fn_super (lk : K.lookup f = some ⟨oc, od, .func (PySem.W.fnX F.name F.qual F.params F.body F.scope F.cl .none kV doc pm an (.ref F.c) ctv), osl⟩) (hcd : PySem.W.codeIn K (.ref F.c) F.qual = true)
    (hcl : F.cl = [(("__class__" : Str), cc)]) (S : NScope N ps ["__class__"] F.scope) (C : SupC P K F.c cc D) (T : OexC K D) (hm : mg "super" = none)
    (hbd : F.body = .Expr (.Call (.Attribute (.Call (.Name "super" p0) [] [] p1) "__init__" p2) [e] [] p3) p4 :: rest)
    {ar : Arg} (hp : (F.params.posonlyargs ++ F.params.args).head? = some ar) (h0 : ps[0]? = some ar.arg)
    (hks : F.scope.names.lookup ("super" : Str) = some .globalImplicit)
    (hc : ∀ env : Env, env.scope = F.scope → ∃ pl : Sem Bool, eval (.Call (.Attribute (.Call (.Name "super" p0) [] [] p1) "__init__" p2) [e] [] p3) env = (do
      let ov ← attributeBase (.Call (.Name "super" p0) [] [] p1) "__init__" env (eval (.Call (.Name "super" p0) [] [] p1) env)
      standAt p2.atName
      let (f, first) ← holding [ov] (getMethod ov "__init__" pl)
      callWith p3 f first (backTo p3 (starEach [e] env)) []))
    (hst : ∀ env : Env, starEach [e] env = [(false, eval e env)])
    (hsw : ∀ env : Env, swapsWith (.Call (.Attribute (.Call (.Name "super" p0) [] [] p1) "__init__" p2) [e] [] p3) none p4.line env = pure false)
    (len : ∀ vs H Q E, sp vs H Q E → vs.length = ps.length)
    (hbody : ∀ (A : Around) (outer : List Env) (s : Shared) (H : Hp) (vs : List V) (Q : VK) (E : XK), Room k (A.deeper (envF F f s.heap.objs.size)) → sp vs H Q E →
      ∃ (te : TE) (t : TS) (a : Addr), PE (ncx CX P w K mg base N F f A outer s H E) e te ∧ PSs (ncx CX P w K mg base N F f A outer s H E) rest t ∧ vs[0]? = some (.ref a) ∧ H a = some (exo a D none) ∧
        ∀ R : VK, (∀ v H1, H1 a = some (exo a D none) → t { nx := fun _ H' => Q .non H', rt := Q } (startF N vs [none]) H1 → R v H1) → te (startF N vs [none]) H R) :
    FnOk P w K mg base CX (k + 1) f (PySem.W.fnX F.name F.qual F.params F.body F.scope F.cl .none kV doc pm an (.ref F.c) ctv) ps sp := by
  refine ⟨len, fun A outer s H args us vs Q E hr e0 hb r hsp => ?_⟩
  have hl := len _ _ _ _ hsp
  have KX : K.In s.heap := e0.mod.kin.keeps fun b o e => (e0.bs b o e).1
  have lim : s.heap.NoLimit := e0.mod.nolimit.keeps fun b o e => (e0.bs b o e).1
  refine codeAny_call_function hr.depth (KX _ _ lk) rfl S.co S.gen rfl (PySem.W.codeRec_of KX hcd) (hb _ _ _ _ ?_)
  refine wpAny_newFunctionEnv S.nocell (fun ⟨n, _⟩ hy => S.par n (List.of_mem_zip hy).1) (fun h₁ hns hsb => ⟨lim.fresh _ hsb, ?_⟩) S.kind
  show codeAny _ _ (.func F.body (envF F f s.heap.objs.size)) _ _
  refine ks_codeAny_funcAt ?_
  have kp : ∀ b o, s.heap.get? b = some o → h₁.get? b = some o := fun b o e => hsb.extBut b o (Nat.ne_of_lt (Heap.lt_size e)) (Heap.get?_push_of_some _ e)
  obtain ⟨te, t, a, he, ht, ha0, ha, hq⟩ := hbody A outer s H vs Q E (hr.deeper _) hsp
  obtain ⟨cl, cld, csl, hcell⟩ := C.cell
  have Ce : CellsAt F.cl ["__class__"] [none] s.heap H := by
    rw [hcl]
    have hcc : H cc = none := by
      have kb : K.In base := e0.mod.kin
      exact (e0.bs _ _ (kb _ _ hcell)).2
    have only : ∀ (y : Str) (c : Addr), List.lookup y [(("__class__" : Str), cc)] = some c → y = "__class__" ∧ c = cc := fun y c h => by
      have := PySem.mem_of_lookup h
      simp only [List.mem_singleton, Prod.mk.injEq] at this
      exact this
    refine ⟨rfl, fun y c h => ?_, fun x y c h1 h2 => (only x c h1).1.trans (only y c h2).1.symm, fun i y h => ?_⟩
    · obtain ⟨_, rfl⟩ := only y c h
      exact ⟨hcc, _, _, KX _ _ hcell, rfl⟩
    · cases i with
      | zero =>
        simp only [List.getElem?_cons_zero, Option.some.injEq] at h
        subst h
        exact ⟨cc, by simp [List.lookup], fun v z => by simp at z⟩
      | succ i => simp at h
  have I : Inv (ncx CX P w K mg base N F f A outer s H E) [] (startF N vs [none]) H { s with heap := h₁, toks := s.toks + (ps.zip us).length } := inv_startN S hr.hd e0 hl r Ce hns kp
  have fin : ∀ {σ' : L2.St} {H' : Hp} {v : V} {u : Value} {s'}, Inv (ncx CX P w K mg base N F f A outer s H E) [] σ' H' s' → L2.RelV v u → Q v H' → CE outer P w H s Q u s' :=
    fun {σ' H' v u s'} J rv q => ⟨v, H', J.os, J.bare, J.base, J.hok, rv, q⟩
  have hpre : N[0]? = some ar.arg := by
    have h1 : (ps ++ [("__class__" : Str)])[0]? = some ar.arg := by
      cases ps with
      | nil => simp at h0
      | cons x r => simpa using h0
    rw [← S.pre, List.getElem?_take_of_lt (by
      have : (ps ++ [("__class__" : Str)]).length ≠ 0 := by simp
      simp at this ⊢)] at h1
    exact h1
  have hs0 : (startF N vs [none])[0]? = some (some (V.ref a)) := by
    unfold startF
    cases vs with
    | nil => simp at ha0
    | cons x r => simp at ha0 ⊢; exact ha0
  obtain ⟨pl, hev⟩ := hc (envF F f s.heap.objs.size) rfl
  have kb : K.In base := e0.mod.kin
  have hce : (envF F f s.heap.objs.size).cells.lookup ("__class__" : Str) = some cc := by
    show F.cl.lookup ("__class__" : Str) = some cc
    rw [hcl]
    simp [List.lookup]
  have go := super_init (X := ncx CX P w K mg base N F f A outer s H E) (body := F.body) (Q := fun fl s' => match fl with
      | .next => wpAny (model P w) (A.deeper (envF F f s.heap.objs.size)) (execs rest (envF F f s.heap.objs.size)) (fun fl s' => CR CX outer P w H s Q E (.ok (.ret (match fl with | .ret v => v | _ => .none))) s') (ncx CX P w K mg base N F f A outer s H E).xe s'
      | fl => CR CX outer P w H s Q E (.ok (.ret (match fl with | .ret v => v | _ => .none))) s') I T C rfl rfl lk hp hks (S.frk _ (List.mem_cons_self ..)) hce (S.par _ (List.mem_of_getElem? h0)) hpre hs0 hm ha he ?_ hev (hst _) (hsw _)
  rotate_left
  · refine hq _ fun v H1 e1 ht1 => ⟨(by show 1 ≤ 1000; decide), e1, fun s' J => ?_⟩
    refine wpAny_mono (ht.run [] _ (startF N vs [none]) H1 _ J ht1) (fun fl s' hs => ?_) fun e s' hs => hs
    cases fl with
    | ret u =>
      obtain ⟨v, σ', H', J, rv, q⟩ := hs
      exact fin J rv q
    | next =>
      obtain ⟨σ', H', J, q⟩ := hs
      exact fin (v := V.non) (u := Value.none) J rfl q
    | brk =>
      obtain ⟨_, _, _, q⟩ := hs
      exact False.elim q
    | cont =>
      obtain ⟨_, _, _, q⟩ := hs
      exact False.elim q
  rw [show execs F.body (envF F f s.heap.objs.size) = execs (.Expr (.Call (.Attribute (.Call (.Name "super" p0) [] [] p1) "__init__" p2) [e] [] p3) p4 :: rest) (envF F f s.heap.objs.size) by rw [hbd]]
  refine ks_wpAt_execs_cons (ks_wpAt_mono go (fun fl s' h => ?_) fun e s' h => h)
  cases fl with
  | next => exact wpAt_of_wpAny h
  | _ => exact h
end
end Rj

set_option Elab.async false
set_option linter.all false
set_option maxRecDepth 100000
set_option maxHeartbeats 4000000
/-! facts of own exceptions with such an __init__, by one look at the written part -/
namespace Rj
open PySem PySem.Spec PyProof.Rows L2 NdefX
def ccOf (K : PySem.W.Frag) (f : Addr) : Addr := match K.lookup f with
  | some ⟨_, _, .func fd, _⟩ => (match fd.closure with
    | (_, c) :: _ => c
    | _ => 0)
  | _ => 0
def cdOf (K : PySem.W.Frag) (f : Addr) : Addr := match K.lookup f with
  | some ⟨_, _, .func fd, _⟩ => (match fd.code with
    | .ref c => c
    | _ => 0)
  | _ => 0
def codeB (file : Str) (K : PySem.W.Frag) (c : Addr) : Bool := match K.lookup c with
  | some ⟨_, _, .fields vs, _⟩ => (match vs[2]? with
    | some (Value.str z _) => decide (z = file)
    | _ => false)
  | _ => false
def cellB (K : PySem.W.Frag) (c D : Addr) : Bool := match K.lookup c with
  | some ⟨_, _, .cell (some (.ref E)), _⟩ => decide (E = D)
  | _ => false
def supB (file : Str) (K : PySem.W.Frag) (f D : Addr) : Bool := codeB file K (cdOf K f) && (cellB K (ccOf K f) D && (decide (PySem.W.mroIn K D (.ref D) = some true) && (He.eqO (PySem.W.nsIn K cStatics "thirdparty.any") (some none) &&
  (He.eqO (PySem.W.ks_superIn K D D "__init__") (some (some (.builtin "ValueError.__init__"))) && decide (PySem.W.subIn K (.ref D) (.type "ValueError") = some true)))))
theorem supB_ok {P : Program} {file : Str} {K : PySem.W.Frag} {f D : Addr} (hf : P.main.file = file) (ht : (P.main.scope.names.lookup ("super" : Str)).isSome = false) (h : supB file K f D = true) : SupC P K (cdOf K f) (ccOf K f) D := by
  unfold supB at h
  simp only [Bool.and_eq_true] at h
  obtain ⟨h1, h2, h3, h4, h5, h6⟩ := h
  refine ⟨?_, ?_, of_decide_eq_true h3, He.eqO_ok h4, He.eqO_ok h5, of_decide_eq_true h6, ht⟩
  · unfold codeB at h1
    split at h1
    · rename_i a b vs d e
      split at h1
      · rename_i z t e2
        exact ⟨_, _, _, _, z, t, e, e2, by rw [hf, of_decide_eq_true h1]; simp⟩
      · cases h1
    · cases h1
  · unfold cellB at h2
    split at h2
    · rename_i a b E d e
      rw [← of_decide_eq_true h2]
      exact ⟨_, _, _, e⟩
    · cases h2
def oexB (K : PySem.W.Frag) (C : Addr) : Bool := (match K.lookup C with
  | some ⟨.type "type", _, .cls cd, sl⟩ => (match cd.mro, sl.toList with
    | .ref C' :: bm, [_, _, _, _, some (.builtin n), _] => C' == C && n == "ValueError.__new__" && !cd.hasDel && cd.hasDict && PySem.HandSPX.refsVE bm
    | _, _ => false)
  | _ => false) && (He.eqO (PySem.W.findIn K (.ref C) "__setattr__") (some (some (.builtin "object.__setattr__"))) && (decide (PySem.W.subIn K (.ref C) (.type "BaseException") = some true) && (decide (PySem.W.typeIn K (.ref C) = some (.type "type")) && PySem.W.keepIn K (.ref C))))
theorem oexB_ok {K : PySem.W.Frag} {C : Addr} (h : oexB K C = true) : OexC K C := by
  unfold oexB at h
  rw [Bool.and_eq_true, Bool.and_eq_true, Bool.and_eq_true, Bool.and_eq_true] at h
  obtain ⟨q, h2, h3, h4, h5⟩ := h
  refine ⟨?_, He.eqO_ok h2, of_decide_eq_true h3, of_decide_eq_true h4, h5⟩
  split at q
  · rename_i dd cd sl ho
    split at q
    · rename_i C' bm k0 k1 k2 k3 n k5 hm hs
      simp only [Bool.and_eq_true, beq_iff_eq, Bool.not_eq_true'] at q
      obtain ⟨⟨⟨⟨rfl, rfl⟩, hdel⟩, hdc⟩, ht⟩ := q
      obtain ⟨nm, bs, mro, ns, qn, hd, sn, sub, ab, col, del⟩ := cd
      dsimp only at hm hdel hdc
      subst hm hdel hdc
      have hsl : sl = #[k0, k1, k2, k3, some (.builtin "ValueError.__new__"), k5] := by
        obtain ⟨l⟩ := sl
        simp only at hs
        rw [hs]
      subst hsl
      exact ⟨nm, qn, ns, bs, bm, sn, sub, ab, col, dd, k0, k1, k2, k3, k5, ho, ht⟩
    · cases q
  · cases q
/-- the def at f, as it was written -/
def defAt (K : PySem.W.Frag) (f : Addr) : He.FnV := match K.lookup f with
  | some ⟨_, _, .func fd, _⟩ => some (fd.name, fd.qualname, fd.params, fd.body, fd.scope, fd.globals, fd.closure, fd.defaults, fd.builtins)
  | _ => none
def codR (K : PySem.W.Frag) (f : Addr) : Bool := match K.lookup f with
  | some ⟨_, _, .func fd, _⟩ => decide (fd.code = .ref (cdOf K f))
  | _ => false
theorem defAt_ok {K : PySem.W.Frag} {f : Addr} {name q : Str} {params : Arguments} {body : List Stmt} {scope : Scope} (e : defAt K f = some (name, q, params, .stmts body, scope, mainGlobals, [(("__class__" : Str), ccOf K f)], .none, builtinsNs)) (hc : codR K f = true) :
    ∃ oc od osl kV doc pm an ctv, K.lookup f = some ⟨oc, od, .func (PySem.W.fnX name q params body scope [(("__class__" : Str), ccOf K f)] .none kV doc pm an (.ref (cdOf K f)) ctv), osl⟩ := by
  unfold defAt at e
  unfold codR at hc
  cases q2 : K.lookup f with
  | none => rw [q2] at e; cases e
  | some o =>
    obtain ⟨oc, od, dt, osl⟩ := o
    rw [q2] at e hc
    cases dt with
    | func fd =>
      obtain ⟨n1, n2, n3, n4, n5, n6, n7, n8, n9, n10, n11, n12, n13, n14, n15⟩ := fd
      have hcd : n13 = .ref (cdOf K f) := of_decide_eq_true hc
      have e2 : (some (n1, n2, n3, n4, n5, n6, n7, n8, n15) : He.FnV) = some (name, q, params, .stmts body, scope, mainGlobals, [(("__class__" : Str), ccOf K f)], .none, builtinsNs) := e
      simp only [Option.some.injEq, Prod.mk.injEq] at e2
      obtain ⟨g1, g2, g3, g4, g5, g6, g7, g8, g9⟩ := e2
      rw [g1, g2, g3, g4, g5, g6, g7, g8, g9, hcd]
      exact ⟨_, _, _, _, _, _, _, _, rfl⟩
    | _ => cases e
end Rj

set_option Elab.async false
set_option linter.all false
set_option maxRecDepth 100000
set_option maxHeartbeats 4000000
namespace Bs
open PySem L2
/-! ### a shape is refused -/
abbrev sRefuses : Stmt := top 58
def spRefuses : Sp := fun vs H Q _ => ∃ (p : Addr) (x : Its) (xs : List V), vs = [.ref p] ∧ H p = some (.lst xs) ∧ x.At false H xs ∧ x.tame ∧ (x.walk 0).length ≤ 1000 ∧ x.shape = false ∧ ∀ H', Same H H' → Q (.bl true) H'
def tRefS (K : PySem.W.Frag) (C CB CU a : Addr) : TS := tRet (tAndV (tCB (rIsE K C a) (tCons (tVar 1) (tCons (tC (.ref CB)) tNil))) (tAndV (tCB (rIsE K C a) (tCons (tVar 1) (tCons (tC (.ty "ValueError")) tNil))) (tNotV (tCB (rIsE K C a) (tCons (tVar 1) (tCons (tC (.ref CU)) tNil))))))
theorem pss_of {X : Cx} {b : List Stmt} {t : TS} {p q : Prop} (h : p → q → PSs X b t) : PSs X b (fun D σ H => p ∧ q ∧ t D σ H) :=
  ⟨fun pins s σ H D I ⟨e1, e2, z⟩ => (h e1 e2).run pins s σ H D I z⟩
section
variable {P : Program} {w : World} {K : PySem.W.Frag} {mg : Str → Option Value} {base : Heap} {f fI C CB CU CS : Addr} {fd fdI : FuncData}
abbrev nRef : List Str := ["items", "e"]
theorem scRef : FnScope nRef ["items"] (defScope sRefuses) := ⟨rfl, rfl, rfl, by decide +kernel, rfl, by decide +kernel, by decide +kernel⟩
theorem ok_refuses {k : Nat} (F : Fun K "_law_refuses" "_law_refuses" sRefuses f fd) (M : Mk K CS fI) (GI : FnOk P w K mg base (L2.CX P w) k fI fdI ["self", "items"] (spInit C CS)) (bI : Binds K fdI ["self", "items"] [])
    (gS : mg "Shape" = some (.ref CS)) (gC : mg "InvalidShape" = some (.ref C)) (gB : mg "ByteshapeError" = some (.ref CB)) (gU : mg "UnknownName" = some (.ref CU)) (EC : ExcC K C) (me : PySem.W.exmOne K (.ref C) (.ref C) = some true)
    (kB : PySem.W.kitOne K (.ref C) (.ref CB) = some true) (kV : PySem.W.kitOne K (.ref C) (.type "ValueError") = some true) (kU : PySem.W.kitOne K (.ref C) (.ref CU) = some false)
    (mV : mg "ValueError" = none) (mi : mg "isinstance" = none) : FnOk P w K mg base CX0 (k + 2) f fd ["items"] spRefuses := by
  refine F.ok scRef (fun vs H Q E h => ?_) (fun cdv A outer s H vs Q E hr h => ?_)
  · obtain ⟨p, x, xs, rfl, _⟩ := h
    rfl
  · obtain ⟨p, x, xs, rfl, hp, hat, ht, hw, h1, q⟩ := h
    refine ⟨_, pss_cons (ps_try_as (i := 1) (tb := fun W => tDrop (tMake CS (spInit C CS) [] (fun cls d H => ∀ σ : L2.St, σ.length = 2 → W cls d σ H) (tCons (tVar 0) tNil))) (ts := fun a cls d => fun D σ H => cls = .ref C ∧ d = none ∧ tRefS K C CB CU a D σ H) (Wout := fun _ _ _ _ => False) rfl rfl scRef.nd rfl rfl ⟨rfl, by decide, Or.inl gC⟩ takes0
          (fun W pn xe tk _ => pss_one (ps_expr (by exact (pe_make M GI hr rfl gS bI .nil (fun pins σ H s e s' I c => tk e s' (XE.of_call I (fun cls d H' h => h σ I.len) c)) (pa_cons (pv 0) pa_nil)))))
          (fun a oe cls d pn hz hf => pss_of fun e1 e2 => by
            subst e1 e2
            exact pss_one (ps_ret (pe_and (pe_callB (call_isE EC hz hf) (by rfl) mi (by decide +kernel) (pa_cons (pv 1) (pa_cons (pe_glob (v := .ref CB) (by rfl) gB rfl) pa_nil)))
              (pe_and (pe_callB (call_isE EC hz hf) (by rfl) mi (by decide +kernel) (pa_cons (pv 1) (pa_cons (pe_bltn (v := .ty "ValueError") (by rfl) mV (by decide +kernel) rfl) pa_nil)))
              (pe_one (pe_not (pe_callB (call_isE EC hz hf) (by rfl) mi (by decide +kernel) (pa_cons (pv 1) (pa_cons (pe_glob (v := .ref CU) (by rfl) gU rfl) pa_nil))))))))))
      (pss_one (ps_ret pe_bl)), ?_⟩
    refine ⟨_, rfl, fun o dx no ndx nex => ?_⟩
    have s1 : Same H (upd (upd H dx (.own o)) o (.ins CS dx [])) := fun b u e => by
      rw [upd_ne (ne_of_none e no), upd_ne (ne_of_none e ndx)]
      exact e
    have z1 : ∀ H', Off o (upd (upd H dx (.own o)) o (.ins CS dx [])) H' → Same H H' := fun H' off b u e => off b u (ne_of_none e no) (s1 b u e)
    refine ⟨o, p, dx, x, xs, rfl, upd_same, .inr ⟨rfl, s1 _ _ hp⟩, hat.same s1, ht, hw, fun sh => (by rw [h1] at sh; cases sh), fun sh H' off σ hσ => ⟨true, me, fun _ a ha => ⟨rfl, rfl, ?_⟩, fun z => by cases z⟩⟩
    have s2 := z1 H' off
    have h2 : (σ.set 1 (some (.ref a)))[1]? = some (some (.ref a)) := by rw [List.getElem?_set]; simp [hσ]
    refine ⟨_, h2, .ref CB, _, true, rfl, fun u hu => hu, kB, true, rfl, iteT ?_⟩
    refine ⟨_, h2, .ty "ValueError", _, true, rfl, fun u hu => hu, kV, true, rfl, iteT ?_⟩
    refine ⟨_, h2, .ref CU, _, false, rfl, fun u hu => hu, kU, false, rfl, ?_⟩
    exact q _ s2
end
end Bs

set_option Elab.async false
set_option linter.all false
set_option maxRecDepth 100000
set_option maxHeartbeats 4000000
namespace Bs
open PySem L2
/-! ### what makes a list of items bad, wherever it stands -/
def Its.app : Its → Its → Its
  | .nil, y => y
  | .cons x r, y => .cons x (r.app y)
def Its.toL : Its → List It
  | .nil => []
  | .cons x r => x :: r.toL
theorem app_ok (d : Int) : ∀ (x y : Its), (x.app y).ok d = (x.ok d && y.ok d)
  | .nil, y => by simp [Its.app, Its.ok]
  | .cons x r, y => by simp [Its.app, Its.ok, app_ok d r y, Bool.and_assoc]
theorem app_flat : ∀ (x y : Its), (x.app y).flat = x.flat ++ y.flat
  | .nil, y => by simp [Its.app, Its.flat]
  | .cons x r, y => by simp [Its.app, Its.flat, app_flat r y]
theorem app_len : ∀ (x y : Its), (x.app y).len = x.len + y.len
  | .nil, y => by simp [Its.app, Its.len]
  | .cons x r, y => by simp only [Its.app, Its.len, app_len r y]; omega
theorem app_tame : ∀ {x y : Its}, x.tame → y.tame → (x.app y).tame
  | .nil, y, _, h => h
  | .cons x r, y, h, g => by simp only [Its.app, Its.tame] at h ⊢; exact ⟨h.1, app_tame h.2 g⟩
theorem app_at {fz : Bool} {H : Hp} : ∀ {x y : Its} {l m : List V}, x.At fz H l → y.At fz H m → (x.app y).At fz H (l ++ m)
  | .nil, y, l, m, h, g => by simp only [Its.At] at h; subst h; exact g
  | .cons x r, y, l, m, h, g => by
    simp only [Its.At] at h
    obtain ⟨v, l', rfl, h1, h2⟩ := h
    simp only [Its.app, Its.At]
    exact ⟨v, l' ++ m, rfl, h1, app_at h2 g⟩
def NoS (S : List Str) (f : Env) : Prop := ∀ z ∈ S, f z = none
def It.numNo (S : List Str) : It → Prop
  | .num n .. => n ∉ S
  | _ => True
theorem NoS.seen {S : List Str} {f : Env} (h : NoS S f) : ∀ {x : It}, x.numNo S → NoS S (x.seen f)
  | .num n s o lo hi, k => fun z hz => by
    have k : n ∉ S := k
    show (if z = n then some (lo, hi) else f z) = none
    rw [if_neg (fun e => k (by rw [← e]; exact hz))]
    exact h z hz
  | .byt .., _ => h
  | .txt .., _ => h
  | .rep .., _ => h
  | .eit .., _ => h
  | .swi .., _ => h
  | .chk .., _ => h
  | .pad .., _ => h
  | .odd .., _ => h
structure BadL (S : List Str) (x : Its) : Prop where
  h : ∀ f, NoS S f → x.lens f = none
theorem BadL.pre {S : List Str} {y : Its} (h : BadL S y) : ∀ {x : Its}, (∀ u ∈ x.toL, u.numNo S) → BadL S (x.app y)
  | .nil, _ => h
  | .cons x r, k => ⟨fun f nf => by
    have q := (BadL.pre h (x := r) fun u hu => k u (List.mem_cons_of_mem _ hu)).h _ (nf.seen (k x (List.mem_cons_self ..)))
    show (Its.cons x (r.app y)).lens f = none
    rw [lens_cons, q]
    cases x.lens f <;> rfl⟩
theorem lens_post {y : Its} : ∀ {x : Its} {f : Env}, x.lens f = none → (x.app y).lens f = none
  | .nil, f, h => by simp [Its.lens] at h
  | .cons x r, f, h => by
    show (Its.cons x (r.app y)).lens f = none
    rw [lens_cons] at h ⊢
    cases e2 : r.lens (x.seen f) with
    | none => rw [lens_post e2]; cases x.lens f <;> rfl
    | some b =>
      rw [e2] at h
      cases e : x.lens f with
      | none => rfl
      | some a => rw [e] at h; cases h
theorem BadL.post {S : List Str} {x y : Its} (h : BadL S x) : BadL S (x.app y) := ⟨fun f nf => lens_post (h.h f nf)⟩
inductive Bd (S : List Str) (x : Its) : Prop where
  | ok (h : ∀ d : Int, 0 ≤ d → x.ok d = false)
  | ln (h : BadL S x)
  | ck (h : 2 ≤ (x.flat.filter It.isChk).length)
theorem Bd.ctx {S : List Str} {x pre post : Its} (h : Bd S x) (k : ∀ u ∈ pre.toL, u.numNo S) : Bd S (pre.app (x.app post)) := by
  cases h with
  | ok h => exact .ok fun d hd => by rw [app_ok, app_ok, h d hd]; simp
  | ln h => exact .ln (BadL.pre h.post k)
  | ck h =>
    refine .ck ?_
    rw [app_flat, app_flat, List.filter_append, List.filter_append, List.length_append, List.length_append]
    omega
theorem Bd.rep {S : List Str} {x : Its} {n : Str} {a : Key} (h : Bd S x) : Bd S (.cons (.rep n a x) .nil) := by
  cases h with
  | ok h => exact .ok fun d hd => by simp [Its.ok, It.ok, h (d + 1) (by omega)]
  | ln h => exact .ln ⟨fun f nf => by simp only [Its.lens, It.lens, h.h f nf]; cases amount f 16 a <;> rfl⟩
  | ck h =>
    refine .ck ?_
    simp only [Its.flat, It.flat, List.append_nil]
    rw [List.filter_cons_of_neg (by simp [It.isChk])]
    exact h
theorem Bd.eit {S : List Str} {x : Its} {n : Str} (h : Bd S x) : Bd S (.cons (.eit n (.cons 0 x (.cons 0 .nil .nil))) .nil) := by
  cases h with
  | ok h => exact .ok fun d hd => by simp [Its.ok, It.ok, Blks.ok, h (d + 1) (by omega)]
  | ln h => exact .ln ⟨fun f nf => by simp only [Its.lens, It.lens, Blks.lens, h.h f nf]⟩
  | ck h =>
    refine .ck ?_
    simp only [Its.flat, It.flat, Blks.flat, List.append_nil]
    rw [List.filter_cons_of_neg (by simp [It.isChk])]
    exact h
theorem Bd.shape {S : List Str} {x : Its} (h : Bd S x) : x.shape = false := by
  cases h with
  | ok h => simp [Its.shape, h 0 (by omega)]
  | ln h => simp [Its.shape, h.h (fun _ => none) (fun _ _ => rfl)]
  | ck h =>
    unfold Its.shape
    rw [Its.checks_flat, show decide ((x.flat.filter It.isChk).length ≤ 1) = false from decide_eq_false (by omega)]
    simp
end Bs

set_option Elab.async false
set_option linter.all false
set_option maxRecDepth 100000
set_option maxHeartbeats 4000000
namespace Bs
open PySem L2
/-! ### a display that is an item, a list of items -/
mutual
def Dd.val : Dd → Option V
  | .sc _ v => some v
  | .pick l _ j => l.valN j
  | _ => none
def Dds.valN : Dds → Nat → Option V
  | .nil, _ => none
  | .cons d _, 0 => d.val
  | .cons _ r, n + 1 => r.valN n
end
def Dds.vals : Dds → Option (List V)
  | .nil => some []
  | .cons d r => match d.val, r.vals with
    | some v, some l => some (v :: l)
    | _, _ => none
def Dds.get : Dds → Nat → Option Dd
  | .nil, _ => none
  | .cons d _, 0 => some d
  | .cons _ r, n + 1 => r.get n
mutual
theorem Dd.at_val {H : Hp} : ∀ {d : Dd} {u v : V}, d.val = some u → d.at H v → v = u
  | .sc _ w, u, v, e, h => by simp only [Dd.val] at e; simp only [Dd.at] at h; rw [h]; exact Option.some.inj e
  | .pick l _ j, u, v, e, h => by simp only [Dd.val] at e; simp only [Dd.at] at h; exact Dds.at_valN e h
  | .gen .., u, v, e, h => by simp only [Dd.val] at e; cases e
  | .tup .., u, v, e, h => by simp only [Dd.val] at e; cases e
  | .lst .., u, v, e, h => by simp only [Dd.val] at e; cases e
theorem Dds.at_valN {H : Hp} : ∀ {l : Dds} {n : Nat} {u v : V}, l.valN n = some u → l.atN H n v → v = u
  | .nil, _, _, _, e, h => by simp only [Dds.valN] at e; cases e
  | .cons d _, 0, _, _, e, h => by simp only [Dds.valN] at e; simp only [Dds.atN] at h; exact Dd.at_val e h
  | .cons _ r, n + 1, _, _, e, h => by simp only [Dds.valN] at e; simp only [Dds.atN] at h; exact Dds.at_valN e h
end
theorem Dds.at_vals {H : Hp} : ∀ {l : Dds} {us vs : List V}, l.vals = some us → l.at H vs → vs = us
  | .nil, us, vs, e, h => by simp only [Dds.vals] at e; simp only [Dds.at] at h; cases e; exact h
  | .cons d r, us, vs, e, h => by
    simp only [Dds.vals] at e
    simp only [Dds.at] at h
    obtain ⟨v, vs', rfl, h1, h2⟩ := h
    cases e1 : d.val with
    | none => rw [e1] at e; cases e
    | some u =>
      cases e2 : r.vals with
      | none => rw [e1, e2] at e; cases e
      | some l =>
        rw [e1, e2] at e
        cases e
        rw [Dd.at_val e1 h1, Dds.at_vals e2 h2]
theorem Dds.atN_get {H : Hp} : ∀ {l : Dds} {n : Nat} {d : Dd} {v : V}, l.get n = some d → l.atN H n v → d.at H v
  | .nil, _, _, _, e, h => by simp only [Dds.get] at e; cases e
  | .cons d _, 0, _, _, e, h => by simp only [Dds.get] at e; simp only [Dds.atN] at h; cases e; exact h
  | .cons _ r, n + 1, _, _, e, h => by simp only [Dds.get] at e; simp only [Dds.atN] at h; exact Dds.atN_get e h
/-- a list of items: its place, what stands there -/
def LAt (H : Hp) (x : Its) (v : V) : Prop := ∃ a xs, v = .ref a ∧ H a = some (.lst xs) ∧ x.At false H xs
def BAtE (H : Hp) (x : Blks) (v : V) : Prop := ∃ a xs, v = .ref a ∧ H a = some (.lst xs) ∧ x.AtE false H xs
def BAtS (H : Hp) (x : Blks) (v : V) : Prop := ∃ a xs, v = .ref a ∧ H a = some (.lst xs) ∧ x.AtS false H xs
mutual
inductive MI (H : Hp) : Dd → It → Prop where
  | num {l : Dds} {n : Str} {s : Int} {o : Str} {lo hi : Int} (e : l.vals = some [.str "number", .str n, .int s, .str o, .int lo, .int hi]) : MI H (.tup l) (.num n s o lo hi)
  | byt {l : Dds} {n : Str} {a : Key} (e : l.vals = some [.str "bytes", .str n, kV a]) : MI H (.tup l) (.byt n a)
  | txt {l : Dds} {n : Str} {s m : Int} (e : l.vals = some [.str "text", .str n, .int s, .int m]) : MI H (.tup l) (.txt n s m)
  | chk {l : Dds} {n : Str} {m : Int} (e : l.vals = some [.str "check", .str n, .int m]) : MI H (.tup l) (.chk n m)
  | pad {l : Dds} {n : Str} {m b : Int} (e : l.vals = some [.str "pad", .str n, .int m, .int b]) : MI H (.tup l) (.pad n m b)
  | odd {l : Dds} {k n : Str} {m : Nat} (e : l.valN 0 = some (.str k)) (hl : l.len = m) (h : OddOk k m) : MI H (.tup l) (.odd k n m)
  | rep {k n a b : Dd} {z : Str} {m : Key} {x : Its} (e1 : k.val = some (.str "repeat")) (e2 : n.val = some (.str z)) (e3 : a.val = some (kV m)) (h : ML H b x) : MI H (.tup (.cons k (.cons n (.cons a (.cons b .nil))))) (.rep z m x)
  | eit {k n b : Dd} {z : Str} {x : Blks} (e1 : k.val = some (.str "either")) (e2 : n.val = some (.str z)) (h : ME H b x) : MI H (.tup (.cons k (.cons n (.cons b .nil)))) (.eit z x)
  | swi {k n t b : Dd} {z y : Str} {x : Blks} (e1 : k.val = some (.str "switch")) (e2 : n.val = some (.str z)) (e3 : t.val = some (.str y)) (h : MS H b x) : MI H (.tup (.cons k (.cons n (.cons t (.cons b .nil))))) (.swi z y x)
  | gen {te : TE} {rel : Hp → V → Prop} {mono : ∀ H H' v, Same H H' → rel H v → rel H' v} {y : It} (h : ∀ v, rel H v → y.At false H v) : MI H (.gen te rel mono) y
  | pick {l : Dds} {te : TE} {j : Nat} {d : Dd} {y : It} (e : l.get j = some d) (h : MI H d y) : MI H (.pick l te j) y
inductive ML (H : Hp) : Dd → Its → Prop where
  | lst {l : Dds} {x : Its} (h : MLs H l x) : ML H (.lst l) x
  | gen {te : TE} {rel : Hp → V → Prop} {mono : ∀ H H' v, Same H H' → rel H v → rel H' v} {x : Its} (h : ∀ v, rel H v → LAt H x v) : ML H (.gen te rel mono) x
  | pick {l : Dds} {te : TE} {j : Nat} {d : Dd} {y : Its} (e : l.get j = some d) (h : ML H d y) : ML H (.pick l te j) y
inductive MLs (H : Hp) : Dds → Its → Prop where
  | nil : MLs H .nil .nil
  | cons {d : Dd} {r : Dds} {y : It} {x : Its} (h : MI H d y) (t : MLs H r x) : MLs H (.cons d r) (.cons y x)
inductive ME (H : Hp) : Dd → Blks → Prop where
  | lst {l : Dds} {x : Blks} (h : MEs H l x) : ME H (.lst l) x
  | pick {l : Dds} {te : TE} {j : Nat} {d : Dd} {y : Blks} (e : l.get j = some d) (h : ME H d y) : ME H (.pick l te j) y
inductive MEs (H : Hp) : Dds → Blks → Prop where
  | nil : MEs H .nil .nil
  | cons {d : Dd} {r : Dds} {y : Its} {x : Blks} {v : Int} (h : ML H d y) (t : MEs H r x) : MEs H (.cons d r) (.cons v y x)
inductive MS (H : Hp) : Dd → Blks → Prop where
  | lst {l : Dds} {x : Blks} (h : MSs H l x) : MS H (.lst l) x
  | pick {l : Dds} {te : TE} {j : Nat} {d : Dd} {y : Blks} (e : l.get j = some d) (h : MS H d y) : MS H (.pick l te j) y
  | gen {te : TE} {rel : Hp → V → Prop} {mono : ∀ H H' v, Same H H' → rel H v → rel H' v} {x : Blks} (h : ∀ v, rel H v → BAtS H x v) : MS H (.gen te rel mono) x
inductive MSs (H : Hp) : Dds → Blks → Prop where
  | nil : MSs H .nil .nil
  | cons {c d : Dd} {r : Dds} {y : Its} {x : Blks} {v : Int} (e : c.val = some (.int v)) (h : ML H d y) (t : MSs H r x) : MSs H (.cons (.tup (.cons c (.cons d .nil))) r) (.cons v y x)
end
mutual
theorem MI.at {H : Hp} : ∀ {d : Dd} {y : It} {v : V}, MI H d y → d.at H v → y.At false H v
  | _, _, _, .num e, h => by simp only [Dd.at] at h; obtain ⟨p, vs, rfl, hp, hv⟩ := h; rw [Dds.at_vals e hv] at hp; simp only [It.At]; exact ⟨p, rfl, hp⟩
  | _, _, _, .byt e, h => by simp only [Dd.at] at h; obtain ⟨p, vs, rfl, hp, hv⟩ := h; rw [Dds.at_vals e hv] at hp; simp only [It.At]; exact ⟨p, rfl, hp⟩
  | _, _, _, .txt e, h => by simp only [Dd.at] at h; obtain ⟨p, vs, rfl, hp, hv⟩ := h; rw [Dds.at_vals e hv] at hp; simp only [It.At]; exact ⟨p, rfl, hp⟩
  | _, _, _, .chk e, h => by simp only [Dd.at] at h; obtain ⟨p, vs, rfl, hp, hv⟩ := h; rw [Dds.at_vals e hv] at hp; simp only [It.At]; exact ⟨p, rfl, hp⟩
  | _, _, _, .pad e, h => by simp only [Dd.at] at h; obtain ⟨p, vs, rfl, hp, hv⟩ := h; rw [Dds.at_vals e hv] at hp; simp only [It.At]; exact ⟨p, rfl, hp⟩
  | .tup l, _, _, .odd e hl k, h => by
    simp only [Dd.at] at h
    obtain ⟨p, vs, rfl, hp, hv⟩ := h
    have hlen := Dds.at_len hv
    cases l with
    | nil => simp only [Dds.valN] at e; cases e
    | cons d r =>
      simp only [Dds.valN] at e
      simp only [Dds.at] at hv
      obtain ⟨v, vs', rfl, h1, h2⟩ := hv
      rw [Dd.at_val e h1] at hp
      simp only [It.At]
      exact ⟨p, vs', rfl, hp, by rw [← hl, ← hlen]; rfl, k⟩
  | _, _, _, .rep e1 e2 e3 b, h => by
    simp only [Dd.at, Dds.at] at h
    obtain ⟨p, vs, rfl, hp, v1, r1, rfl, h1, v2, r2, rfl, h2, v3, r3, rfl, h3, v4, r4, rfl, h4, rfl⟩ := h
    rw [Dd.at_val e1 h1, Dd.at_val e2 h2, Dd.at_val e3 h3] at hp
    obtain ⟨q, xs, rfl, hq, hx⟩ := ML.at b h4
    simp only [It.At]
    exact ⟨p, q, xs, rfl, hp, .inr ⟨rfl, hq⟩, hx⟩
  | _, _, _, .eit e1 e2 b, h => by
    simp only [Dd.at, Dds.at] at h
    obtain ⟨p, vs, rfl, hp, v1, r1, rfl, h1, v2, r2, rfl, h2, v4, r4, rfl, h4, rfl⟩ := h
    rw [Dd.at_val e1 h1, Dd.at_val e2 h2] at hp
    obtain ⟨q, xs, rfl, hq, hx⟩ := ME.at b h4
    simp only [It.At]
    exact ⟨p, q, xs, rfl, hp, .inr ⟨rfl, hq⟩, hx⟩
  | _, _, _, .swi e1 e2 e3 b, h => by
    simp only [Dd.at, Dds.at] at h
    obtain ⟨p, vs, rfl, hp, v1, r1, rfl, h1, v2, r2, rfl, h2, v3, r3, rfl, h3, v4, r4, rfl, h4, rfl⟩ := h
    rw [Dd.at_val e1 h1, Dd.at_val e2 h2, Dd.at_val e3 h3] at hp
    obtain ⟨q, xs, rfl, hq, hx⟩ := MS.at b h4
    simp only [It.At]
    exact ⟨p, q, xs, rfl, hp, .inr ⟨rfl, hq⟩, hx⟩
  | _, _, _, .gen k, h => by simp only [Dd.at] at h; exact k _ h
  | _, _, _, .pick e m, h => by simp only [Dd.at] at h; exact MI.at m (Dds.atN_get e h)
theorem ML.at {H : Hp} : ∀ {d : Dd} {x : Its} {v : V}, ML H d x → d.at H v → LAt H x v
  | _, _, _, .lst m, h => by simp only [Dd.at] at h; obtain ⟨p, vs, rfl, hp, hv⟩ := h; exact ⟨p, vs, rfl, hp, MLs.at m hv⟩
  | _, _, _, .gen k, h => by simp only [Dd.at] at h; exact k _ h
  | _, _, _, .pick e m, h => by simp only [Dd.at] at h; exact ML.at m (Dds.atN_get e h)
theorem MLs.at {H : Hp} : ∀ {l : Dds} {x : Its} {vs : List V}, MLs H l x → l.at H vs → x.At false H vs
  | _, _, _, .nil, h => by simp only [Dds.at] at h; simp only [Its.At]; exact h
  | _, _, _, .cons m t, h => by
    simp only [Dds.at] at h
    obtain ⟨v, vs', rfl, h1, h2⟩ := h
    simp only [Its.At]
    exact ⟨v, vs', rfl, MI.at m h1, MLs.at t h2⟩
theorem ME.at {H : Hp} : ∀ {d : Dd} {x : Blks} {v : V}, ME H d x → d.at H v → BAtE H x v
  | _, _, _, .lst m, h => by simp only [Dd.at] at h; obtain ⟨p, vs, rfl, hp, hv⟩ := h; exact ⟨p, vs, rfl, hp, MEs.at m hv⟩
  | _, _, _, .pick e m, h => by simp only [Dd.at] at h; exact ME.at m (Dds.atN_get e h)
theorem MEs.at {H : Hp} : ∀ {l : Dds} {x : Blks} {vs : List V}, MEs H l x → l.at H vs → x.AtE false H vs
  | _, _, _, .nil, h => by simp only [Dds.at] at h; simp only [Blks.AtE]; exact h
  | _, _, _, .cons m t, h => by
    simp only [Dds.at] at h
    obtain ⟨v, vs', rfl, h1, h2⟩ := h
    obtain ⟨q, xs, rfl, hq, hx⟩ := ML.at m h1
    simp only [Blks.AtE]
    exact ⟨q, xs, vs', rfl, .inr ⟨rfl, hq⟩, hx, MEs.at t h2⟩
theorem MS.at {H : Hp} : ∀ {d : Dd} {x : Blks} {v : V}, MS H d x → d.at H v → BAtS H x v
  | _, _, _, .lst m, h => by simp only [Dd.at] at h; obtain ⟨p, vs, rfl, hp, hv⟩ := h; exact ⟨p, vs, rfl, hp, MSs.at m hv⟩
  | _, _, _, .pick e m, h => by simp only [Dd.at] at h; exact MS.at m (Dds.atN_get e h)
  | _, _, _, .gen k, h => by simp only [Dd.at] at h; exact k _ h
theorem MSs.at {H : Hp} : ∀ {l : Dds} {x : Blks} {vs : List V}, MSs H l x → l.at H vs → x.AtS false H vs
  | _, _, _, .nil, h => by simp only [Dds.at] at h; simp only [Blks.AtS]; exact h
  | _, _, _, .cons e m t, h => by
    simp only [Dd.at, Dds.at] at h
    obtain ⟨v, vs', rfl, ⟨p, ws, rfl, hp, w1, r1, rfl, h1, w2, r2, rfl, h2, rfl⟩, h3⟩ := h
    rw [Dd.at_val e h1] at hp
    obtain ⟨q, xs, rfl, hq, hx⟩ := ML.at m h2
    simp only [Blks.AtS]
    exact ⟨p, q, xs, vs', rfl, hp, .inr ⟨rfl, hq⟩, hx, MSs.at t h3⟩
end
end Bs

set_option Elab.async false
set_option linter.all false
set_option maxRecDepth 100000
set_option maxHeartbeats 8000000
namespace Bs
open PySem L2
/-! ### one plain item that breaks a rule -/
abbrev sPlain : Stmt := top 59
section
variable {S : List Str} {n : Str} {r : Its}
theorem bad_num {s : Int} {o : Str} {lo hi : Int} (h : numOk s o lo hi = false) : Bd S (.cons (.num n s o lo hi) r) := .ln ⟨fun f _ => by rw [lens_cons]; simp [It.lens, h]⟩
theorem bad_byt {a : Key} (h : ∀ f, NoS S f → amount f 64 a = none) : Bd S (.cons (.byt n a) r) := .ln ⟨fun f nf => by rw [lens_cons]; simp [It.lens, h f nf]⟩
theorem bad_txt {s m : Int} (h : ¬ ((0 ≤ s ∧ s ≤ 255) ∧ 0 ≤ m ∧ m ≤ 64)) : Bd S (.cons (.txt n s m) r) := .ln ⟨fun f _ => by rw [lens_cons]; simp only [It.lens]; rw [if_neg h]⟩
theorem bad_chk {m : Int} (h : ¬ (1 ≤ m ∧ m ≤ 16)) : Bd S (.cons (.chk n m) r) := .ln ⟨fun f _ => by rw [lens_cons]; simp only [It.lens]; rw [if_neg h]⟩
theorem bad_pad {m b : Int} (h : ¬ ((m = 1 ∨ m = 2 ∨ m = 4 ∨ m = 8 ∨ m = 16) ∧ 0 ≤ b ∧ b ≤ 255)) : Bd S (.cons (.pad n m b) r) := .ln ⟨fun f _ => by rw [lens_cons]; simp only [It.lens]; rw [if_neg h]⟩
theorem bad_odd {k : Str} {m : Nat} : Bd S (.cons (.odd k n m) r) := .ok fun d _ => by simp [Its.ok, It.ok]
theorem bad_name {a : Key} (h : isName n = false) : Bd S (.cons (.byt n a) r) := .ok fun d _ => by simp [Its.ok, It.ok, It.name, h]
end
theorem am_int {f : Env} {most i : Int} (h : ¬ (0 ≤ i ∧ i ≤ most)) : amount f most (.inl i) = none := by simp only [amount]; rw [if_neg h]
theorem am_str {S : List Str} {f : Env} {most : Int} {z : Str} (h : z ∈ S) (nf : NoS S f) : amount f most (.inr z) = none := by simp only [amount, nf z h]
theorem nameOk_12 {l : List Nat} (h : nameOk l = true) : 1 ≤ l.length ∧ l.length ≤ 12 := by
  cases l with
  | nil => cases h
  | cons c r =>
    simp only [nameOk, Bool.and_eq_true] at h
    have := of_decide_eq_true h.1
    rw [List.length_cons]
    omega
theorem name_len12 {z : Str} (h : isName z = true) : 1 ≤ z.length ∧ z.length ≤ 12 := by
  obtain ⟨a, b⟩ := nameOk_12 h
  rw [Array.length_toList] at a b
  exact ⟨a, b⟩
def rCatS : R2 := fun x y H Q => ∃ i j, x = .str i ∧ y = .str j ∧ i.length + j.length ≤ sizeLine ∧ Q (.str (i ++ j)) H
theorem iyes {a b : Int} {X Y : Prop} (h : a = b) (x : X) : if decide (V.int a = V.int b) = true then X else Y := by
  rw [if_pos (decide_eq_true (congrArg V.int h))]; exact x
theorem ino {a b : Int} {X Y : Prop} (h : ¬ a = b) (y : Y) : if decide (V.int a = V.int b) = true then X else Y := by
  rw [if_neg (fun z => h (V.int.inj (of_decide_eq_true z)))]; exact y
theorem slenL (z : Str) : z.length = z.cps.toList.length := by simp [Str.length]
theorem cut_len (z : Str) (p : Nat) : (cutS z none (some (p : Int))).length ≤ p := by
  rw [slenL, cutS_to, List.length_take]; omega
theorem odd_names {z : Str} (h : isName z = true) : isName ("0" ++ cutS z none (some 11)) = false ∧ ("0" ++ cutS z none (some 11) : Str).length ≤ 1000 ∧ isName (cutS (z ++ "abcdefghijkl") none (some 13)) = false ∧ (cutS (z ++ "abcdefghijkl") none (some 13)).length ≤ 1000 ∧
    isName (cutS z none (some 11) ++ "_") = false ∧ (cutS z none (some 11) ++ "_" : Str).length ≤ 1000 ∧ ("0" : Str).length + (cutS z none (some 11)).length ≤ sizeLine ∧ z.length + ("abcdefghijkl" : Str).length ≤ sizeLine ∧ (z ++ "abcdefghijkl" : Str).length ≤ sizeLine ∧ (cutS z none (some 11)).length + ("_" : Str).length ≤ sizeLine := by
  obtain ⟨l1, l2⟩ := name_len12 h
  have c11 := cut_len z 11
  have c13 := cut_len (z ++ "abcdefghijkl") 13
  have e0 : ("0" : Str).cps.toList = [48] := by decide +kernel
  have e_ : ("_" : Str).cps.toList = [95] := by decide +kernel
  have e12 : ("abcdefghijkl" : Str).cps.toList.length = 12 := by decide +kernel
  have z1 : ("0" : Str).length = 1 := by rw [slenL, e0]; rfl
  have z2 : ("_" : Str).length = 1 := by rw [slenL, e_]; rfl
  have z3 : ("abcdefghijkl" : Str).length = 12 := by rw [slenL, e12]
  have ap : ∀ a b : Str, (a ++ b).length = a.length + b.length := fun a b => by rw [slenL, str_app, List.length_append, ← slenL, ← slenL]
  have bg : ∀ n : Nat, n ≤ 2000 → n ≤ sizeLine := fun n h => Nat.le_trans h (by decide)
  have c11' : (cutS z none (some 11)).length ≤ 11 := c11
  have c13' : (cutS (z ++ "abcdefghijkl") none (some 13)).length ≤ 13 := c13
  refine ⟨?_, by rw [ap, z1]; omega, ?_, by omega, ?_, by rw [ap, z2]; omega, bg _ (by rw [z1]; omega), bg _ (by rw [z3]; omega), bg _ (by rw [ap, z3]; omega), bg _ (by rw [z2]; omega)⟩
  · unfold isName
    rw [str_app, e0]
    simp only [List.cons_append, List.nil_append, nameOk, show isLetter 48 = false by decide +kernel]
    simp
  · unfold isName
    rw [show (some (13 : Int)) = some ((13 : Nat) : Int) from rfl, cutS_to, str_app]
    have hl : (List.take 13 (z.cps.toList ++ ("abcdefghijkl" : Str).cps.toList)).length = 13 := by
      rw [List.length_take, List.length_append, e12, ← slenL]; omega
    generalize List.take 13 (z.cps.toList ++ ("abcdefghijkl" : Str).cps.toList) = l at hl
    cases l with
    | nil => rfl
    | cons c r =>
      rw [List.length_cons] at hl
      simp only [nameOk]
      rw [decide_eq_false (by omega)]
      rfl
  · unfold isName
    rw [str_app, e_]
    generalize (cutS z none (some 11)).cps.toList = l
    have bad : isSign 95 = false := by decide +kernel
    have bl : isLetter 95 = false := by decide +kernel
    cases l with
    | nil => simp [nameOk, bl]
    | cons c r => simp [nameOk, bad]
def spPlain : Sp := fun vs H Q _ => ∃ (ch nm : Int) (nl : Addr) (zs : List Str), vs = [.int ch, .int nm, .ref nl] ∧ (0 ≤ ch ∧ ch ≤ 10) ∧ 0 ≤ nm ∧ H nl = some (.lst (zs.map V.str)) ∧ 13 ≤ zs.length ∧ (∀ z ∈ zs, isName z = true) ∧
  ∀ v H' y, Same H H' → y.At false H' v → Bd zs (.cons y .nil) → y.tame → y.flat.length ≤ 3 → Q v H'
/-- a name in text -/
theorem nm_tame {z : Str} (h : isName z = true) : z.length ≤ 1000 := by have := name_len12 h; omega
section
variable {P : Program} {w : World} {K : PySem.W.Frag} {mg : Str → Option Value} {base : Heap} {f : Addr} {fd : FuncData}
abbrev nPlain : List Str := ["choice", "number", "names", "name", "low", "high", "stop", "most"]
theorem scPlain : FnScope nPlain ["choice", "number", "names"] (defScope sPlain) := ⟨rfl, rfl, rfl, by decide +kernel, rfl, by decide +kernel, by decide +kernel⟩
theorem ok_plain (F : Fun K "_law_plain" "_law_plain" sPlain f fd) (mint : mg "int" = none) : FnOk P w K mg base CX0 1 f fd ["choice", "number", "names"] spPlain := by
  refine F.ok scPlain (fun vs H Q E h => ?_) (fun cdv A outer s H vs Q E hr h => ?_)
  · obtain ⟨ch, nm, nl, zs, rfl, _⟩ := h
    rfl
  · obtain ⟨ch, nm, nl, zs, rfl, hch, hnm, hnl, hz13, hzn, q⟩ := h
    refine ⟨_, (pss_cons (ps_set (i := 3) scPlain.nd rfl (.inl rfl) (pe_ix (r := rIxL K) ix_list (pv 2) pe_int (fun _ _ => rfl)))
      (pss_cons (ps_if (pt_cmpR op_eq (pv 0) pe_int (nomark _)) (pss_one (ps_ret (pe_ix (r := rIxL K) ix_list (pe_lst (pa_cons (pe_tup (pa_cons pe_str (pa_cons (pv 3) (pa_cons pe_int (pa_cons pe_str (pa_cons pe_int (pa_cons pe_int pa_nil))))))) (pa_cons (pe_tup (pa_cons pe_str (pa_cons (pv 3) (pa_cons pe_int pa_nil)))) (pa_cons (pe_tup (pa_cons pe_str (pa_cons (pv 3) pa_nil))) (pa_cons (pe_tup (pa_cons pe_str (pa_cons (pv 3) (pa_cons pe_int (pa_cons (pe_lst (pa_cons (pe_tup (pa_cons pe_str (pa_cons (pe_ix (r := rIxL K) ix_list (pv 2) pe_int (fun _ _ => rfl)) (pa_cons pe_int pa_nil)))) pa_nil)) pa_nil))))) pa_nil))))) (pe_op op_mod (pe_callTy (r := rInt1) call_int1 (by rfl) mint (by decide +kernel) (pa_cons (pv 1) pa_nil)) pe_int) (fun _ _ => rfl)))) pss_nil)
      (pss_cons (ps_if (pt_cmpR op_eq (pv 0) pe_int (nomark _)) (pss_one (ps_ret (pe_ix (r := rIxL K) ix_list (pe_lst (pa_cons (pe_tup (pa_cons pe_str (pa_cons (pv 3) (pa_cons pe_int (pa_cons pe_str (pa_cons pe_int pa_nil)))))) (pa_cons (pe_tup (pa_cons pe_str (pa_cons (pv 3) pa_nil))) (pa_cons (pe_tup (pa_cons pe_str (pa_cons (pv 3) (pa_cons pe_int (pa_cons pe_int (pa_cons pe_int pa_nil)))))) (pa_cons (pe_tup (pa_cons pe_str pa_nil)) (pa_cons (pe_tup (pa_cons pe_str (pa_cons (pv 3) (pa_cons pe_int pa_nil)))) pa_nil)))))) (pe_op op_mod (pe_callTy (r := rInt1) call_int1 (by rfl) mint (by decide +kernel) (pa_cons (pv 1) pa_nil)) pe_int) (fun _ _ => rfl)))) pss_nil)
      (pss_cons (ps_if (pt_cmpR op_eq (pv 0) pe_int (nomark _)) (pss_one (ps_ret (pe_tup (pa_cons pe_str (pa_cons (pe_ix (r := rIxL K) ix_list (pe_lst (pa_cons pe_str (pa_cons (pe_op op_add_str pe_str (pe_slice sl_str (pv 3) po_none (po_some pe_int))) (pa_cons (pe_slice sl_str (pe_op op_add_str (pv 3) pe_str) po_none (po_some pe_int)) (pa_cons (pe_op op_add_str (pe_slice sl_str (pv 3) po_none (po_some pe_int)) pe_str) (pa_cons pe_str pa_nil)))))) (pe_op op_mod (pe_callTy (r := rInt1) call_int1 (by rfl) mint (by decide +kernel) (pa_cons (pv 1) pa_nil)) pe_int) (fun _ _ => rfl)) (pa_cons pe_int pa_nil)))))) pss_nil)
      (pss_cons (ps_if (pt_cmpR op_eq (pv 0) pe_int (nomark _)) (pss_one (ps_ret (pe_tup (pa_cons pe_str (pa_cons (pv 3) (pa_cons (pe_ix (r := rIxL K) ix_list (pe_lst (pa_cons pe_int (pa_cons pe_int (pa_cons (pe_un un_neg pe_int) (pa_cons pe_int pa_nil))))) (pe_op op_mod (pe_callTy (r := rInt1) call_int1 (by rfl) mint (by decide +kernel) (pa_cons (pv 1) pa_nil)) pe_int) (fun _ _ => rfl)) (pa_cons pe_str (pa_cons pe_int (pa_cons pe_int pa_nil))))))))) pss_nil)
      (pss_cons (ps_if (pt_cmpR op_eq (pv 0) pe_int (nomark _)) (pss_one (ps_ret (pe_tup (pa_cons pe_str (pa_cons (pv 3) (pa_cons (pe_op op_add pe_int (pe_op op_mod (pe_callTy (r := rInt1) call_int1 (by rfl) mint (by decide +kernel) (pa_cons (pv 1) pa_nil)) pe_int)) (pa_cons (pe_ix (r := rIxL K) ix_list (pe_lst (pa_cons pe_str (pa_cons pe_str (pa_cons pe_str (pa_cons pe_str pa_nil))))) (pe_op op_mod (pe_callTy (r := rInt1) call_int1 (by rfl) mint (by decide +kernel) (pa_cons (pv 1) pa_nil)) pe_int) (fun _ _ => rfl)) (pa_cons pe_int (pa_cons pe_int pa_nil))))))))) pss_nil)
      (pss_cons (ps_if (pt_cmpR op_eq (pv 0) pe_int (nomark _)) (pss_cons (ps_asg (pe_ix (r := rIxL K) ix_list (pe_lst (pa_cons (pe_tup (pa_cons pe_int (pa_cons pe_int pa_nil))) (pa_cons (pe_tup (pa_cons (pe_un un_neg pe_int) (pa_cons pe_int pa_nil))) (pa_cons (pe_tup (pa_cons pe_int (pa_cons pe_int pa_nil))) (pa_cons (pe_tup (pa_cons pe_int (pa_cons pe_int pa_nil))) (pa_cons (pe_tup (pa_cons pe_int (pa_cons pe_int pa_nil))) pa_nil)))))) (pe_op op_mod (pe_callTy (r := rInt1) call_int1 (by rfl) mint (by decide +kernel) (pa_cons (pv 1) pa_nil)) pe_int) (fun _ _ => rfl)) (pg_tup rfl (pgs_cons (pg_name (i := 4) scPlain.nd rfl (.inl rfl)) (pgs_cons (pg_name (i := 5) scPlain.nd rfl (.inl rfl)) pgs_nil))))
      (pss_one (ps_ret (pe_tup (pa_cons pe_str (pa_cons (pv 3) (pa_cons pe_int (pa_cons pe_str (pa_cons (pv 4) (pa_cons (pv 5) pa_nil)))))))))) pss_nil)
      (pss_cons (ps_if (pt_cmpR op_eq (pv 0) pe_int (nomark _)) (pss_cons (ps_asg (pe_ix (r := rIxL K) ix_list (pe_lst (pa_cons (pe_tup (pa_cons pe_int (pa_cons pe_int pa_nil))) (pa_cons (pe_tup (pa_cons (pe_un un_neg pe_int) (pa_cons pe_int pa_nil))) (pa_cons (pe_tup (pa_cons pe_int (pa_cons pe_int pa_nil))) (pa_cons (pe_tup (pa_cons pe_int (pa_cons pe_int pa_nil))) pa_nil))))) (pe_op op_mod (pe_callTy (r := rInt1) call_int1 (by rfl) mint (by decide +kernel) (pa_cons (pv 1) pa_nil)) pe_int) (fun _ _ => rfl)) (pg_tup rfl (pgs_cons (pg_name (i := 4) scPlain.nd rfl (.inl rfl)) (pgs_cons (pg_name (i := 5) scPlain.nd rfl (.inl rfl)) pgs_nil))))
      (pss_one (ps_ret (pe_tup (pa_cons pe_str (pa_cons (pv 3) (pa_cons pe_int (pa_cons pe_str (pa_cons (pv 4) (pa_cons (pv 5) pa_nil)))))))))) pss_nil)
      (pss_cons (ps_if (pt_cmpR op_eq (pv 0) pe_int (nomark _)) (pss_one (ps_ret (pe_tup (pa_cons pe_str (pa_cons (pv 3) (pa_cons (pe_ix (r := rIxL K) ix_list (pe_lst (pa_cons pe_int (pa_cons (pe_un un_neg pe_int) (pa_cons (pe_op op_add pe_int (pv 1)) (pa_cons (pe_ix (r := rIxL K) ix_list (pv 2) pe_int (fun _ _ => rfl)) pa_nil))))) (pe_op op_mod (pe_callTy (r := rInt1) call_int1 (by rfl) mint (by decide +kernel) (pa_cons (pv 1) pa_nil)) pe_int) (fun _ _ => rfl)) pa_nil)))))) pss_nil)
      (pss_cons (ps_if (pt_cmpR op_eq (pv 0) pe_int (nomark _)) (pss_cons (ps_asg (pe_ix (r := rIxL K) ix_list (pe_lst (pa_cons (pe_tup (pa_cons pe_int (pa_cons pe_int pa_nil))) (pa_cons (pe_tup (pa_cons (pe_un un_neg pe_int) (pa_cons pe_int pa_nil))) (pa_cons (pe_tup (pa_cons pe_int (pa_cons pe_int pa_nil))) (pa_cons (pe_tup (pa_cons pe_int (pa_cons (pe_un un_neg pe_int) pa_nil))) (pa_cons (pe_tup (pa_cons pe_int (pa_cons pe_int pa_nil))) pa_nil)))))) (pe_op op_mod (pe_callTy (r := rInt1) call_int1 (by rfl) mint (by decide +kernel) (pa_cons (pv 1) pa_nil)) pe_int) (fun _ _ => rfl)) (pg_tup rfl (pgs_cons (pg_name (i := 6) scPlain.nd rfl (.inl rfl)) (pgs_cons (pg_name (i := 7) scPlain.nd rfl (.inl rfl)) pgs_nil))))
      (pss_one (ps_ret (pe_tup (pa_cons pe_str (pa_cons (pv 3) (pa_cons (pv 6) (pa_cons (pv 7) pa_nil)))))))) pss_nil)
      (pss_cons (ps_if (pt_cmpR op_eq (pv 0) pe_int (nomark _)) (pss_one (ps_ret (pe_tup (pa_cons pe_str (pa_cons (pv 3) (pa_cons (pe_ix (r := rIxL K) ix_list (pe_lst (pa_cons pe_int (pa_cons pe_int (pa_cons (pe_un un_neg pe_int) (pa_cons (pe_op op_add pe_int (pv 1)) pa_nil))))) (pe_op op_mod (pe_callTy (r := rInt1) call_int1 (by rfl) mint (by decide +kernel) (pa_cons (pv 1) pa_nil)) pe_int) (fun _ _ => rfl)) pa_nil)))))) pss_nil)
      (pss_one (ps_ret (pe_tup (pa_cons pe_str (pa_cons (pv 3) (pa_cons (pe_ix (r := rIxL K) ix_list (pe_lst (pa_cons pe_int (pa_cons pe_int (pa_cons pe_int (pa_cons pe_int (pa_cons pe_int (pa_cons (pe_un un_neg pe_int) pa_nil))))))) (pe_op op_mod (pe_callTy (r := rInt1) call_int1 (by rfl) mint (by decide +kernel) (pa_cons (pv 1) pa_nil)) pe_int) (fun _ _ => rfl)) (pa_cons (pe_ix (r := rIxL K) ix_list (pe_lst (pa_cons pe_int (pa_cons pe_int (pa_cons pe_int (pa_cons pe_int (pa_cons (pe_un un_neg pe_int) (pa_cons pe_int pa_nil))))))) (pe_op op_mod (pe_callTy (r := rInt1) call_int1 (by rfl) mint (by decide +kernel) (pa_cons (pv 1) pa_nil)) pe_int) (fun _ _ => rfl)) pa_nil)))))))))))))))))), ?_⟩
    have gz : ∀ (i : Nat) (hi : i < 13), ∃ z, zs[i]? = some z ∧ isName z = true ∧ z ∈ zs := fun i hi => by
      have g : zs[i]? = some (zs[i]'(by omega)) := List.getElem?_eq_getElem (by omega)
      exact ⟨_, g, hzn _ (List.mem_of_getElem? g), List.mem_of_getElem? g⟩
    obtain ⟨z0, g0', n0, m0⟩ := gz 0 (by decide)
    obtain ⟨z1, g1', n1, m1⟩ := gz 1 (by decide)
    have gz0 : atI (zs.map V.str) 0 = some (.str z0) := atI_nat (j := 0) (by rw [List.getElem?_map, g0']; rfl)
    have gz1 : atI (zs.map V.str) 1 = some (.str z1) := atI_nat (j := 1) (by rw [List.getElem?_map, g1']; rfl)
    have md : ∀ m : Nat, 0 < m → ∃ j : Nat, j < m ∧ nm % (m : Int) = (j : Int) := fun m hm => ⟨(nm % (m : Int)).toNat, by have := Int.emod_lt_of_pos nm (show (0 : Int) < m by omega); have := Int.emod_nonneg nm (show (m : Int) ≠ 0 by omega); omega, by have := Int.emod_nonneg nm (show (m : Int) ≠ 0 by omega); omega⟩
    have l0 := nm_tame n0
    have l12 := name_len12 n0
    have zl : z0.length ≤ sizeLine := Nat.le_trans l0 (by decide)
    refine ⟨_, rfl, nl, _, _, _, rfl, rfl, SqL.of hnl, gz0, ?_⟩
    obtain ⟨c, hc, rfl⟩ : ∃ c : Nat, c ≤ 10 ∧ ch = (c : Int) := ⟨ch.toNat, by omega, by omega⟩
    match c, hc with
    | 0, _ =>
      refine ⟨_, rfl, rfl, _, rfl, iyes rfl ?_⟩
      obtain ⟨j, hj, ej⟩ := md 4 (by decide)
      have ej : nm % 4 = (j : Int) := ej
      have e2 : (0 : Int) < 2 := by decide
      refine Dd.run (K := K) (H0 := H) (.pick (.cons (.tup (.cons (.sc (tC (.str "numbers")) (.str "numbers")) (.cons (.sc (tVar 3) (.str z0)) (.cons (.sc (tC (.int 1)) (.int 1)) (.cons (.sc (tC (.str "big")) (.str "big")) (.cons (.sc (tC (.int 0)) (.int 0)) (.cons (.sc (tC (.int 1)) (.int 1)) .nil))))))) (.cons (.tup (.cons (.sc (tC (.str "byte")) (.str "byte")) (.cons (.sc (tVar 3) (.str z0)) (.cons (.sc (tC (.int 1)) (.int 1)) .nil)))) (.cons (.tup (.cons (.sc (tC (.str "")) (.str "")) (.cons (.sc (tVar 3) (.str z0)) .nil))) (.cons (.tup (.cons (.sc (tC (.str "repeats")) (.str "repeats")) (.cons (.sc (tVar 3) (.str z0)) (.cons (.sc (tC (.int 1)) (.int 1)) (.cons (.lst (.cons (.tup (.cons (.sc (tC (.str "bytes")) (.str "bytes")) (.cons (.sc (tOp (rIxL K) (tVar 2) (tC (.int 1))) (.str z1)) (.cons (.sc (tC (.int 1)) (.int 1)) .nil)))) .nil)) .nil))))) .nil)))) (tOp (rI (fun x j => 0 < j) fun i j => V.int (i % j)) (tCB rInt1 (tCons (tVar 1) tNil)) (tC (.int 4))) j) ⟨(Nat.le_of_ble_eq_true rfl), ⟨⟨(Nat.le_of_ble_eq_true rfl), ⟨(fun _ _ _ q => q), ⟨(fun _ _ _ q => ⟨_, rfl, q⟩), ⟨(fun _ _ _ q => q), ⟨(fun _ _ _ q => q), ⟨(fun _ _ _ q => q), ⟨(fun _ _ _ q => q), trivial⟩⟩⟩⟩⟩⟩⟩, ⟨⟨(Nat.le_of_ble_eq_true rfl), ⟨(fun _ _ _ q => q), ⟨(fun _ _ _ q => ⟨_, rfl, q⟩), ⟨(fun _ _ _ q => q), trivial⟩⟩⟩⟩, ⟨⟨(Nat.le_of_ble_eq_true rfl), ⟨(fun _ _ _ q => q), ⟨(fun _ _ _ q => ⟨_, rfl, q⟩), trivial⟩⟩⟩, ⟨⟨(Nat.le_of_ble_eq_true rfl), ⟨(fun _ _ _ q => q), ⟨(fun _ _ _ q => ⟨_, rfl, q⟩), ⟨(fun _ _ _ q => q), ⟨⟨(Nat.le_of_ble_eq_true rfl), ⟨⟨(Nat.le_of_ble_eq_true rfl), ⟨(fun _ _ _ q => q), ⟨(fun _ _ s q => ⟨_, rfl, nl, _, _, _, rfl, rfl, SqL.of (s _ _ hnl), gz1, q⟩), ⟨(fun _ _ _ q => q), trivial⟩⟩⟩⟩, trivial⟩⟩, trivial⟩⟩⟩⟩⟩, trivial⟩⟩⟩⟩, hj, (fun _ Q _ q => ⟨_, rfl, .inl ⟨_, rfl, _, _, rfl, rfl, (by show (0 : Int) < 4; decide), (by show Q (.int (nm % 4)) _; rw [ej]; exact q)⟩⟩)⟩ (Same.refl _) fun v H1 s1 h => ?_
      match j, hj, h with
      | 0, _, h => exact q v H1 (.odd "numbers" z0 6) s1 (MI.at (by exact (.pick rfl (.odd rfl rfl (.inl (by decide +kernel))))) h) bad_odd (by simp only [It.tame, It.name]; exact l0) (by simp [It.flat])
      | 1, _, h => exact q v H1 (.odd "byte" z0 3) s1 (MI.at (by exact (.pick rfl (.odd rfl rfl (.inl (by decide +kernel))))) h) bad_odd (by simp only [It.tame, It.name]; exact l0) (by simp [It.flat])
      | 2, _, h => exact q v H1 (.odd "" z0 2) s1 (MI.at (by exact (.pick rfl (.odd rfl rfl (.inl (by decide +kernel))))) h) bad_odd (by simp only [It.tame, It.name]; exact l0) (by simp [It.flat])
      | 3, _, h => exact q v H1 (.odd "repeats" z0 4) s1 (MI.at (by exact (.pick rfl (.odd rfl rfl (.inl (by decide +kernel))))) h) bad_odd (by simp only [It.tame, It.name]; exact l0) (by simp [It.flat])
      | n + 4, hj, _ => exact absurd hj (by omega)
    | 1, _ =>
      refine ⟨_, rfl, rfl, _, rfl, ino (by decide) ?_⟩
      refine ⟨_, rfl, rfl, _, rfl, iyes rfl ?_⟩
      obtain ⟨j, hj, ej⟩ := md 5 (by decide)
      have ej : nm % 5 = (j : Int) := ej
      have e2 : (0 : Int) < 2 := by decide
      refine Dd.run (K := K) (H0 := H) (.pick (.cons (.tup (.cons (.sc (tC (.str "number")) (.str "number")) (.cons (.sc (tVar 3) (.str z0)) (.cons (.sc (tC (.int 1)) (.int 1)) (.cons (.sc (tC (.str "big")) (.str "big")) (.cons (.sc (tC (.int 0)) (.int 0)) .nil)))))) (.cons (.tup (.cons (.sc (tC (.str "bytes")) (.str "bytes")) (.cons (.sc (tVar 3) (.str z0)) .nil))) (.cons (.tup (.cons (.sc (tC (.str "text")) (.str "text")) (.cons (.sc (tVar 3) (.str z0)) (.cons (.sc (tC (.int 1)) (.int 1)) (.cons (.sc (tC (.int 2)) (.int 2)) (.cons (.sc (tC (.int 3)) (.int 3)) .nil)))))) (.cons (.tup (.cons (.sc (tC (.str "check")) (.str "check")) .nil)) (.cons (.tup (.cons (.sc (tC (.str "pad")) (.str "pad")) (.cons (.sc (tVar 3) (.str z0)) (.cons (.sc (tC (.int 1)) (.int 1)) .nil)))) .nil))))) (tOp (rI (fun x j => 0 < j) fun i j => V.int (i % j)) (tCB rInt1 (tCons (tVar 1) tNil)) (tC (.int 5))) j) ⟨(Nat.le_of_ble_eq_true rfl), ⟨⟨(Nat.le_of_ble_eq_true rfl), ⟨(fun _ _ _ q => q), ⟨(fun _ _ _ q => ⟨_, rfl, q⟩), ⟨(fun _ _ _ q => q), ⟨(fun _ _ _ q => q), ⟨(fun _ _ _ q => q), trivial⟩⟩⟩⟩⟩⟩, ⟨⟨(Nat.le_of_ble_eq_true rfl), ⟨(fun _ _ _ q => q), ⟨(fun _ _ _ q => ⟨_, rfl, q⟩), trivial⟩⟩⟩, ⟨⟨(Nat.le_of_ble_eq_true rfl), ⟨(fun _ _ _ q => q), ⟨(fun _ _ _ q => ⟨_, rfl, q⟩), ⟨(fun _ _ _ q => q), ⟨(fun _ _ _ q => q), ⟨(fun _ _ _ q => q), trivial⟩⟩⟩⟩⟩⟩, ⟨⟨(Nat.le_of_ble_eq_true rfl), ⟨(fun _ _ _ q => q), trivial⟩⟩, ⟨⟨(Nat.le_of_ble_eq_true rfl), ⟨(fun _ _ _ q => q), ⟨(fun _ _ _ q => ⟨_, rfl, q⟩), ⟨(fun _ _ _ q => q), trivial⟩⟩⟩⟩, trivial⟩⟩⟩⟩⟩, hj, (fun _ Q _ q => ⟨_, rfl, .inl ⟨_, rfl, _, _, rfl, rfl, (by show (0 : Int) < 5; decide), (by show Q (.int (nm % 5)) _; rw [ej]; exact q)⟩⟩)⟩ (Same.refl _) fun v H1 s1 h => ?_
      match j, hj, h with
      | 0, _, h => exact q v H1 (.odd "number" z0 5) s1 (MI.at (by exact (.pick rfl (.odd rfl rfl (.inr ⟨6, by decide +kernel, by decide⟩)))) h) bad_odd (by simp only [It.tame, It.name]; exact l0) (by simp [It.flat])
      | 1, _, h => exact q v H1 (.odd "bytes" z0 2) s1 (MI.at (by exact (.pick rfl (.odd rfl rfl (.inr ⟨3, by decide +kernel, by decide⟩)))) h) bad_odd (by simp only [It.tame, It.name]; exact l0) (by simp [It.flat])
      | 2, _, h => exact q v H1 (.odd "text" z0 5) s1 (MI.at (by exact (.pick rfl (.odd rfl rfl (.inr ⟨4, by decide +kernel, by decide⟩)))) h) bad_odd (by simp only [It.tame, It.name]; exact l0) (by simp [It.flat])
      | 3, _, h => exact q v H1 (.odd "check" z0 1) s1 (MI.at (by exact (.pick rfl (.odd rfl rfl (.inr ⟨3, by decide +kernel, by decide⟩)))) h) bad_odd (by simp only [It.tame, It.name]; exact l0) (by simp [It.flat])
      | 4, _, h => exact q v H1 (.odd "pad" z0 3) s1 (MI.at (by exact (.pick rfl (.odd rfl rfl (.inr ⟨4, by decide +kernel, by decide⟩)))) h) bad_odd (by simp only [It.tame, It.name]; exact l0) (by simp [It.flat])
      | n + 5, hj, _ => exact absurd hj (by omega)
    | 2, _ =>
      refine ⟨_, rfl, rfl, _, rfl, ino (by decide) ?_⟩
      refine ⟨_, rfl, rfl, _, rfl, ino (by decide) ?_⟩
      refine ⟨_, rfl, rfl, _, rfl, iyes rfl ?_⟩
      obtain ⟨hA, hAl, hB, hBl, hC, hCl, al, bl, bl2, cl⟩ := odd_names n0
      obtain ⟨j, hj, ej⟩ := md 5 (by decide)
      have ej : nm % 5 = (j : Int) := ej
      have e2 : (0 : Int) < 2 := by decide
      refine Dd.run (K := K) (H0 := H) (.tup (.cons (.sc (tC (.str "bytes")) (.str "bytes")) (.cons (.pick (.cons (.sc (tC (.str "")) (.str "")) (.cons (.sc (tOp rCatS (tC (.str "0")) (tSl rSlS (tVar 3) tNoPart (tPart (tC (.int 11))))) (.str ("0" ++ (cutS z0 none (some 11))))) (.cons (.sc (tSl rSlS (tOp rCatS (tVar 3) (tC (.str "abcdefghijkl"))) tNoPart (tPart (tC (.int 13)))) (.str (cutS (z0 ++ "abcdefghijkl") none (some 13)))) (.cons (.sc (tOp rCatS (tSl rSlS (tVar 3) tNoPart (tPart (tC (.int 11)))) (tC (.str "_"))) (.str ((cutS z0 none (some 11)) ++ "_"))) (.cons (.sc (tC (.str "A")) (.str "A")) .nil))))) (tOp (rI (fun x j => 0 < j) fun i j => V.int (i % j)) (tCB rInt1 (tCons (tVar 1) tNil)) (tC (.int 5))) j) (.cons (.sc (tC (.int 1)) (.int 1)) .nil)))) ⟨(Nat.le_of_ble_eq_true rfl), ⟨(fun _ _ _ q => q), ⟨⟨(Nat.le_of_ble_eq_true rfl), ⟨(fun _ _ _ q => q), ⟨(fun _ _ _ q => ⟨_, rfl, _, rfl, _, rfl, zl, _, _, rfl, rfl, al, q⟩), ⟨(fun _ _ _ q => ⟨_, rfl, _, _, rfl, rfl, bl, _, rfl, _, rfl, bl2, q⟩), ⟨(fun _ _ _ q => ⟨_, rfl, _, rfl, _, rfl, zl, _, _, rfl, rfl, cl, q⟩), ⟨(fun _ _ _ q => q), trivial⟩⟩⟩⟩⟩, hj, (fun _ Q _ q => ⟨_, rfl, .inl ⟨_, rfl, _, _, rfl, rfl, (by show (0 : Int) < 5; decide), (by show Q (.int (nm % 5)) _; rw [ej]; exact q)⟩⟩)⟩, ⟨(fun _ _ _ q => q), trivial⟩⟩⟩⟩ (Same.refl _) fun v H1 s1 h => ?_
      match j, hj, h with
      | 0, _, h => exact q v H1 (.byt "" (.inl 1)) s1 (MI.at (by exact (.byt rfl)) h) (bad_name (by decide +kernel)) (by simp only [It.tame]; exact ⟨(by decide +kernel), fun z e => by cases e⟩) (by simp [It.flat])
      | 1, _, h => exact q v H1 (.byt ("0" ++ (cutS z0 none (some 11))) (.inl 1)) s1 (MI.at (by exact (.byt rfl)) h) (bad_name hA) (by simp only [It.tame]; exact ⟨hAl, fun z e => by cases e⟩) (by simp [It.flat])
      | 2, _, h => exact q v H1 (.byt (cutS (z0 ++ "abcdefghijkl") none (some 13)) (.inl 1)) s1 (MI.at (by exact (.byt rfl)) h) (bad_name hB) (by simp only [It.tame]; exact ⟨hBl, fun z e => by cases e⟩) (by simp [It.flat])
      | 3, _, h => exact q v H1 (.byt ((cutS z0 none (some 11)) ++ "_") (.inl 1)) s1 (MI.at (by exact (.byt rfl)) h) (bad_name hC) (by simp only [It.tame]; exact ⟨hCl, fun z e => by cases e⟩) (by simp [It.flat])
      | 4, _, h => exact q v H1 (.byt "A" (.inl 1)) s1 (MI.at (by exact (.byt rfl)) h) (bad_name (by decide +kernel)) (by simp only [It.tame]; exact ⟨(by decide +kernel), fun z e => by cases e⟩) (by simp [It.flat])
      | n + 5, hj, _ => exact absurd hj (by omega)
    | 3, _ =>
      refine ⟨_, rfl, rfl, _, rfl, ino (by decide) ?_⟩
      refine ⟨_, rfl, rfl, _, rfl, ino (by decide) ?_⟩
      refine ⟨_, rfl, rfl, _, rfl, ino (by decide) ?_⟩
      refine ⟨_, rfl, rfl, _, rfl, iyes rfl ?_⟩
      obtain ⟨j, hj, ej⟩ := md 4 (by decide)
      have ej : nm % 4 = (j : Int) := ej
      have e2 : (0 : Int) < 2 := by decide
      refine Dd.run (K := K) (H0 := H) (.tup (.cons (.sc (tC (.str "number")) (.str "number")) (.cons (.sc (tVar 3) (.str z0)) (.cons (.pick (.cons (.sc (tC (.int 0)) (.int 0)) (.cons (.sc (tC (.int 3)) (.int 3)) (.cons (.sc (tUn (rU fun i => V.int (-i)) (tC (.int 1))) (.int (-1))) (.cons (.sc (tC (.int 4)) (.int 4)) .nil)))) (tOp (rI (fun x j => 0 < j) fun i j => V.int (i % j)) (tCB rInt1 (tCons (tVar 1) tNil)) (tC (.int 4))) j) (.cons (.sc (tC (.str "big")) (.str "big")) (.cons (.sc (tC (.int 0)) (.int 0)) (.cons (.sc (tC (.int 0)) (.int 0)) .nil))))))) ⟨(Nat.le_of_ble_eq_true rfl), ⟨(fun _ _ _ q => q), ⟨(fun _ _ _ q => ⟨_, rfl, q⟩), ⟨⟨(Nat.le_of_ble_eq_true rfl), ⟨(fun _ _ _ q => q), ⟨(fun _ _ _ q => q), ⟨(fun _ _ _ q => ⟨_, rfl, q⟩), ⟨(fun _ _ _ q => q), trivial⟩⟩⟩⟩, hj, (fun _ Q _ q => ⟨_, rfl, .inl ⟨_, rfl, _, _, rfl, rfl, (by show (0 : Int) < 4; decide), (by show Q (.int (nm % 4)) _; rw [ej]; exact q)⟩⟩)⟩, ⟨(fun _ _ _ q => q), ⟨(fun _ _ _ q => q), ⟨(fun _ _ _ q => q), trivial⟩⟩⟩⟩⟩⟩⟩ (Same.refl _) fun v H1 s1 h => ?_
      match j, hj, h with
      | 0, _, h => exact q v H1 (.num z0 0 "big" 0 0) s1 (MI.at (by exact (.num rfl)) h) (bad_num (by decide +kernel)) (by simp only [It.tame, It.name]; exact l0) (by simp [It.flat])
      | 1, _, h => exact q v H1 (.num z0 3 "big" 0 0) s1 (MI.at (by exact (.num rfl)) h) (bad_num (by decide +kernel)) (by simp only [It.tame, It.name]; exact l0) (by simp [It.flat])
      | 2, _, h => exact q v H1 (.num z0 (-1) "big" 0 0) s1 (MI.at (by exact (.num rfl)) h) (bad_num (by decide +kernel)) (by simp only [It.tame, It.name]; exact l0) (by simp [It.flat])
      | 3, _, h => exact q v H1 (.num z0 4 "big" 0 0) s1 (MI.at (by exact (.num rfl)) h) (bad_num (by decide +kernel)) (by simp only [It.tame, It.name]; exact l0) (by simp [It.flat])
      | n + 4, hj, _ => exact absurd hj (by omega)
    | 4, _ =>
      refine ⟨_, rfl, rfl, _, rfl, ino (by decide) ?_⟩
      refine ⟨_, rfl, rfl, _, rfl, ino (by decide) ?_⟩
      refine ⟨_, rfl, rfl, _, rfl, ino (by decide) ?_⟩
      refine ⟨_, rfl, rfl, _, rfl, ino (by decide) ?_⟩
      refine ⟨_, rfl, rfl, _, rfl, iyes rfl ?_⟩
      obtain ⟨j, hj, ej⟩ := md 4 (by decide)
      have ej : nm % 4 = (j : Int) := ej
      have e2 : (0 : Int) < 2 := by decide
      refine Dd.run (K := K) (H0 := H) (.tup (.cons (.sc (tC (.str "number")) (.str "number")) (.cons (.sc (tVar 3) (.str z0)) (.cons (.sc (tOp (rI0 fun i j => V.int (i + j)) (tC (.int 1)) (tOp (rI (fun x j => 0 < j) fun i j => V.int (i % j)) (tCB rInt1 (tCons (tVar 1) tNil)) (tC (.int 2)))) (.int (1 + nm % 2))) (.cons (.pick (.cons (.sc (tC (.str "Big")) (.str "Big")) (.cons (.sc (tC (.str "")) (.str "")) (.cons (.sc (tC (.str "middle")) (.str "middle")) (.cons (.sc (tC (.str "bigger")) (.str "bigger")) .nil)))) (tOp (rI (fun x j => 0 < j) fun i j => V.int (i % j)) (tCB rInt1 (tCons (tVar 1) tNil)) (tC (.int 4))) j) (.cons (.sc (tC (.int 0)) (.int 0)) (.cons (.sc (tC (.int 1)) (.int 1)) .nil))))))) ⟨(Nat.le_of_ble_eq_true rfl), ⟨(fun _ _ _ q => q), ⟨(fun _ _ _ q => ⟨_, rfl, q⟩), ⟨(fun _ _ _ q => ⟨_, rfl, .inl ⟨_, rfl, _, _, rfl, rfl, (by show (0 : Int) < 2; decide), _, _, rfl, rfl, q⟩⟩), ⟨⟨(Nat.le_of_ble_eq_true rfl), ⟨(fun _ _ _ q => q), ⟨(fun _ _ _ q => q), ⟨(fun _ _ _ q => q), ⟨(fun _ _ _ q => q), trivial⟩⟩⟩⟩, hj, (fun _ Q _ q => ⟨_, rfl, .inl ⟨_, rfl, _, _, rfl, rfl, (by show (0 : Int) < 4; decide), (by show Q (.int (nm % 4)) _; rw [ej]; exact q)⟩⟩)⟩, ⟨(fun _ _ _ q => q), ⟨(fun _ _ _ q => q), trivial⟩⟩⟩⟩⟩⟩⟩ (Same.refl _) fun v H1 s1 h => ?_
      match j, hj, h with
      | 0, _, h => exact q v H1 (.num z0 (1 + nm % 2) "Big" 0 1) s1 (MI.at (by exact (.num rfl)) h) (bad_num (by simp [numOk, show decide (("Big" : Str) = "big" ∨ ("Big" : Str) = "little") = false by decide +kernel])) (by simp only [It.tame, It.name]; exact l0) (by simp [It.flat])
      | 1, _, h => exact q v H1 (.num z0 (1 + nm % 2) "" 0 1) s1 (MI.at (by exact (.num rfl)) h) (bad_num (by simp [numOk, show decide (("" : Str) = "big" ∨ ("" : Str) = "little") = false by decide +kernel])) (by simp only [It.tame, It.name]; exact l0) (by simp [It.flat])
      | 2, _, h => exact q v H1 (.num z0 (1 + nm % 2) "middle" 0 1) s1 (MI.at (by exact (.num rfl)) h) (bad_num (by simp [numOk, show decide (("middle" : Str) = "big" ∨ ("middle" : Str) = "little") = false by decide +kernel])) (by simp only [It.tame, It.name]; exact l0) (by simp [It.flat])
      | 3, _, h => exact q v H1 (.num z0 (1 + nm % 2) "bigger" 0 1) s1 (MI.at (by exact (.num rfl)) h) (bad_num (by simp [numOk, show decide (("bigger" : Str) = "big" ∨ ("bigger" : Str) = "little") = false by decide +kernel])) (by simp only [It.tame, It.name]; exact l0) (by simp [It.flat])
      | n + 4, hj, _ => exact absurd hj (by omega)
    | 5, _ =>
      refine ⟨_, rfl, rfl, _, rfl, ino (by decide) ?_⟩
      refine ⟨_, rfl, rfl, _, rfl, ino (by decide) ?_⟩
      refine ⟨_, rfl, rfl, _, rfl, ino (by decide) ?_⟩
      refine ⟨_, rfl, rfl, _, rfl, ino (by decide) ?_⟩
      refine ⟨_, rfl, rfl, _, rfl, ino (by decide) ?_⟩
      refine ⟨_, rfl, rfl, _, rfl, iyes rfl ?_⟩
      obtain ⟨j, hj, ej⟩ := md 5 (by decide)
      have ej : nm % 5 = (j : Int) := ej
      have e2 : (0 : Int) < 2 := by decide
      refine Dd.run (K := K) (H0 := H) (.pick (.cons (.tup (.cons (.sc (tC (.int 1)) (.int 1)) (.cons (.sc (tC (.int 0)) (.int 0)) .nil))) (.cons (.tup (.cons (.sc (tUn (rU fun i => V.int (-i)) (tC (.int 1))) (.int (-1))) (.cons (.sc (tC (.int 3)) (.int 3)) .nil))) (.cons (.tup (.cons (.sc (tC (.int 0)) (.int 0)) (.cons (.sc (tC (.int 256)) (.int 256)) .nil))) (.cons (.tup (.cons (.sc (tC (.int 255)) (.int 255)) (.cons (.sc (tC (.int 254)) (.int 254)) .nil))) (.cons (.tup (.cons (.sc (tC (.int 7)) (.int 7)) (.cons (.sc (tC (.int 6)) (.int 6)) .nil))) .nil))))) (tOp (rI (fun x j => 0 < j) fun i j => V.int (i % j)) (tCB rInt1 (tCons (tVar 1) tNil)) (tC (.int 5))) j) ⟨(Nat.le_of_ble_eq_true rfl), ⟨⟨(Nat.le_of_ble_eq_true rfl), ⟨(fun _ _ _ q => q), ⟨(fun _ _ _ q => q), trivial⟩⟩⟩, ⟨⟨(Nat.le_of_ble_eq_true rfl), ⟨(fun _ _ _ q => ⟨_, rfl, q⟩), ⟨(fun _ _ _ q => q), trivial⟩⟩⟩, ⟨⟨(Nat.le_of_ble_eq_true rfl), ⟨(fun _ _ _ q => q), ⟨(fun _ _ _ q => q), trivial⟩⟩⟩, ⟨⟨(Nat.le_of_ble_eq_true rfl), ⟨(fun _ _ _ q => q), ⟨(fun _ _ _ q => q), trivial⟩⟩⟩, ⟨⟨(Nat.le_of_ble_eq_true rfl), ⟨(fun _ _ _ q => q), ⟨(fun _ _ _ q => q), trivial⟩⟩⟩, trivial⟩⟩⟩⟩⟩, hj, (fun _ Q _ q => ⟨_, rfl, .inl ⟨_, rfl, _, _, rfl, rfl, (by show (0 : Int) < 5; decide), (by show Q (.int (nm % 5)) _; rw [ej]; exact q)⟩⟩)⟩ (Same.refl _) fun v H1 s1 h => ?_
      match j, hj, h with
      | 0, _, h =>
        simp only [Dd.at, Dds.at, Dds.atN] at h
        obtain ⟨p, _, rfl, hp, _, _, rfl, rfl, _, _, rfl, rfl, rfl⟩ := h
        refine ⟨p, _, rfl, SqT.of hp, rfl, _, _, rfl, _, _, rfl, rfl, ?_⟩
        refine Dd.run (K := K) (H0 := H1) (.tup (.cons (.sc (tC (.str "number")) (.str "number")) (.cons (.sc (tVar 3) (.str z0)) (.cons (.sc (tC (.int 1)) (.int 1)) (.cons (.sc (tC (.str "little")) (.str "little")) (.cons (.sc (tVar 4) (.int (1))) (.cons (.sc (tVar 5) (.int (0))) .nil))))))) ⟨(Nat.le_of_ble_eq_true rfl), ⟨(fun _ _ _ q => q), ⟨(fun _ _ _ q => ⟨_, rfl, q⟩), ⟨(fun _ _ _ q => q), ⟨(fun _ _ _ q => q), ⟨(fun _ _ _ q => ⟨_, rfl, q⟩), ⟨(fun _ _ _ q => ⟨_, rfl, q⟩), trivial⟩⟩⟩⟩⟩⟩⟩ (Same.refl _) fun v H2 s2 h => ?_
        exact q v H2 (.num z0 1 "little" (1) (0)) (s1.trans s2) (MI.at (by exact (.num rfl)) h) (bad_num (by decide +kernel)) (by simp only [It.tame, It.name]; exact l0) (by simp [It.flat])
      | 1, _, h =>
        simp only [Dd.at, Dds.at, Dds.atN] at h
        obtain ⟨p, _, rfl, hp, _, _, rfl, rfl, _, _, rfl, rfl, rfl⟩ := h
        refine ⟨p, _, rfl, SqT.of hp, rfl, _, _, rfl, _, _, rfl, rfl, ?_⟩
        refine Dd.run (K := K) (H0 := H1) (.tup (.cons (.sc (tC (.str "number")) (.str "number")) (.cons (.sc (tVar 3) (.str z0)) (.cons (.sc (tC (.int 1)) (.int 1)) (.cons (.sc (tC (.str "little")) (.str "little")) (.cons (.sc (tVar 4) (.int (-1))) (.cons (.sc (tVar 5) (.int (3))) .nil))))))) ⟨(Nat.le_of_ble_eq_true rfl), ⟨(fun _ _ _ q => q), ⟨(fun _ _ _ q => ⟨_, rfl, q⟩), ⟨(fun _ _ _ q => q), ⟨(fun _ _ _ q => q), ⟨(fun _ _ _ q => ⟨_, rfl, q⟩), ⟨(fun _ _ _ q => ⟨_, rfl, q⟩), trivial⟩⟩⟩⟩⟩⟩⟩ (Same.refl _) fun v H2 s2 h => ?_
        exact q v H2 (.num z0 1 "little" (-1) (3)) (s1.trans s2) (MI.at (by exact (.num rfl)) h) (bad_num (by decide +kernel)) (by simp only [It.tame, It.name]; exact l0) (by simp [It.flat])
      | 2, _, h =>
        simp only [Dd.at, Dds.at, Dds.atN] at h
        obtain ⟨p, _, rfl, hp, _, _, rfl, rfl, _, _, rfl, rfl, rfl⟩ := h
        refine ⟨p, _, rfl, SqT.of hp, rfl, _, _, rfl, _, _, rfl, rfl, ?_⟩
        refine Dd.run (K := K) (H0 := H1) (.tup (.cons (.sc (tC (.str "number")) (.str "number")) (.cons (.sc (tVar 3) (.str z0)) (.cons (.sc (tC (.int 1)) (.int 1)) (.cons (.sc (tC (.str "little")) (.str "little")) (.cons (.sc (tVar 4) (.int (0))) (.cons (.sc (tVar 5) (.int (256))) .nil))))))) ⟨(Nat.le_of_ble_eq_true rfl), ⟨(fun _ _ _ q => q), ⟨(fun _ _ _ q => ⟨_, rfl, q⟩), ⟨(fun _ _ _ q => q), ⟨(fun _ _ _ q => q), ⟨(fun _ _ _ q => ⟨_, rfl, q⟩), ⟨(fun _ _ _ q => ⟨_, rfl, q⟩), trivial⟩⟩⟩⟩⟩⟩⟩ (Same.refl _) fun v H2 s2 h => ?_
        exact q v H2 (.num z0 1 "little" (0) (256)) (s1.trans s2) (MI.at (by exact (.num rfl)) h) (bad_num (by decide +kernel)) (by simp only [It.tame, It.name]; exact l0) (by simp [It.flat])
      | 3, _, h =>
        simp only [Dd.at, Dds.at, Dds.atN] at h
        obtain ⟨p, _, rfl, hp, _, _, rfl, rfl, _, _, rfl, rfl, rfl⟩ := h
        refine ⟨p, _, rfl, SqT.of hp, rfl, _, _, rfl, _, _, rfl, rfl, ?_⟩
        refine Dd.run (K := K) (H0 := H1) (.tup (.cons (.sc (tC (.str "number")) (.str "number")) (.cons (.sc (tVar 3) (.str z0)) (.cons (.sc (tC (.int 1)) (.int 1)) (.cons (.sc (tC (.str "little")) (.str "little")) (.cons (.sc (tVar 4) (.int (255))) (.cons (.sc (tVar 5) (.int (254))) .nil))))))) ⟨(Nat.le_of_ble_eq_true rfl), ⟨(fun _ _ _ q => q), ⟨(fun _ _ _ q => ⟨_, rfl, q⟩), ⟨(fun _ _ _ q => q), ⟨(fun _ _ _ q => q), ⟨(fun _ _ _ q => ⟨_, rfl, q⟩), ⟨(fun _ _ _ q => ⟨_, rfl, q⟩), trivial⟩⟩⟩⟩⟩⟩⟩ (Same.refl _) fun v H2 s2 h => ?_
        exact q v H2 (.num z0 1 "little" (255) (254)) (s1.trans s2) (MI.at (by exact (.num rfl)) h) (bad_num (by decide +kernel)) (by simp only [It.tame, It.name]; exact l0) (by simp [It.flat])
      | 4, _, h =>
        simp only [Dd.at, Dds.at, Dds.atN] at h
        obtain ⟨p, _, rfl, hp, _, _, rfl, rfl, _, _, rfl, rfl, rfl⟩ := h
        refine ⟨p, _, rfl, SqT.of hp, rfl, _, _, rfl, _, _, rfl, rfl, ?_⟩
        refine Dd.run (K := K) (H0 := H1) (.tup (.cons (.sc (tC (.str "number")) (.str "number")) (.cons (.sc (tVar 3) (.str z0)) (.cons (.sc (tC (.int 1)) (.int 1)) (.cons (.sc (tC (.str "little")) (.str "little")) (.cons (.sc (tVar 4) (.int (7))) (.cons (.sc (tVar 5) (.int (6))) .nil))))))) ⟨(Nat.le_of_ble_eq_true rfl), ⟨(fun _ _ _ q => q), ⟨(fun _ _ _ q => ⟨_, rfl, q⟩), ⟨(fun _ _ _ q => q), ⟨(fun _ _ _ q => q), ⟨(fun _ _ _ q => ⟨_, rfl, q⟩), ⟨(fun _ _ _ q => ⟨_, rfl, q⟩), trivial⟩⟩⟩⟩⟩⟩⟩ (Same.refl _) fun v H2 s2 h => ?_
        exact q v H2 (.num z0 1 "little" (7) (6)) (s1.trans s2) (MI.at (by exact (.num rfl)) h) (bad_num (by decide +kernel)) (by simp only [It.tame, It.name]; exact l0) (by simp [It.flat])
      | n + 5, hj, _ => exact absurd hj (by omega)
    | 6, _ =>
      refine ⟨_, rfl, rfl, _, rfl, ino (by decide) ?_⟩
      refine ⟨_, rfl, rfl, _, rfl, ino (by decide) ?_⟩
      refine ⟨_, rfl, rfl, _, rfl, ino (by decide) ?_⟩
      refine ⟨_, rfl, rfl, _, rfl, ino (by decide) ?_⟩
      refine ⟨_, rfl, rfl, _, rfl, ino (by decide) ?_⟩
      refine ⟨_, rfl, rfl, _, rfl, ino (by decide) ?_⟩
      refine ⟨_, rfl, rfl, _, rfl, iyes rfl ?_⟩
      obtain ⟨j, hj, ej⟩ := md 4 (by decide)
      have ej : nm % 4 = (j : Int) := ej
      have e2 : (0 : Int) < 2 := by decide
      refine Dd.run (K := K) (H0 := H) (.pick (.cons (.tup (.cons (.sc (tC (.int 65535)) (.int 65535)) (.cons (.sc (tC (.int 65536)) (.int 65536)) .nil))) (.cons (.tup (.cons (.sc (tUn (rU fun i => V.int (-i)) (tC (.int 2))) (.int (-2))) (.cons (.sc (tC (.int 65535)) (.int 65535)) .nil))) (.cons (.tup (.cons (.sc (tC (.int 300)) (.int 300)) (.cons (.sc (tC (.int 299)) (.int 299)) .nil))) (.cons (.tup (.cons (.sc (tC (.int 0)) (.int 0)) (.cons (.sc (tC (.int 100000)) (.int 100000)) .nil))) .nil)))) (tOp (rI (fun x j => 0 < j) fun i j => V.int (i % j)) (tCB rInt1 (tCons (tVar 1) tNil)) (tC (.int 4))) j) ⟨(Nat.le_of_ble_eq_true rfl), ⟨⟨(Nat.le_of_ble_eq_true rfl), ⟨(fun _ _ _ q => q), ⟨(fun _ _ _ q => q), trivial⟩⟩⟩, ⟨⟨(Nat.le_of_ble_eq_true rfl), ⟨(fun _ _ _ q => ⟨_, rfl, q⟩), ⟨(fun _ _ _ q => q), trivial⟩⟩⟩, ⟨⟨(Nat.le_of_ble_eq_true rfl), ⟨(fun _ _ _ q => q), ⟨(fun _ _ _ q => q), trivial⟩⟩⟩, ⟨⟨(Nat.le_of_ble_eq_true rfl), ⟨(fun _ _ _ q => q), ⟨(fun _ _ _ q => q), trivial⟩⟩⟩, trivial⟩⟩⟩⟩, hj, (fun _ Q _ q => ⟨_, rfl, .inl ⟨_, rfl, _, _, rfl, rfl, (by show (0 : Int) < 4; decide), (by show Q (.int (nm % 4)) _; rw [ej]; exact q)⟩⟩)⟩ (Same.refl _) fun v H1 s1 h => ?_
      match j, hj, h with
      | 0, _, h =>
        simp only [Dd.at, Dds.at, Dds.atN] at h
        obtain ⟨p, _, rfl, hp, _, _, rfl, rfl, _, _, rfl, rfl, rfl⟩ := h
        refine ⟨p, _, rfl, SqT.of hp, rfl, _, _, rfl, _, _, rfl, rfl, ?_⟩
        refine Dd.run (K := K) (H0 := H1) (.tup (.cons (.sc (tC (.str "number")) (.str "number")) (.cons (.sc (tVar 3) (.str z0)) (.cons (.sc (tC (.int 2)) (.int 2)) (.cons (.sc (tC (.str "big")) (.str "big")) (.cons (.sc (tVar 4) (.int (65535))) (.cons (.sc (tVar 5) (.int (65536))) .nil))))))) ⟨(Nat.le_of_ble_eq_true rfl), ⟨(fun _ _ _ q => q), ⟨(fun _ _ _ q => ⟨_, rfl, q⟩), ⟨(fun _ _ _ q => q), ⟨(fun _ _ _ q => q), ⟨(fun _ _ _ q => ⟨_, rfl, q⟩), ⟨(fun _ _ _ q => ⟨_, rfl, q⟩), trivial⟩⟩⟩⟩⟩⟩⟩ (Same.refl _) fun v H2 s2 h => ?_
        exact q v H2 (.num z0 2 "big" (65535) (65536)) (s1.trans s2) (MI.at (by exact (.num rfl)) h) (bad_num (by decide +kernel)) (by simp only [It.tame, It.name]; exact l0) (by simp [It.flat])
      | 1, _, h =>
        simp only [Dd.at, Dds.at, Dds.atN] at h
        obtain ⟨p, _, rfl, hp, _, _, rfl, rfl, _, _, rfl, rfl, rfl⟩ := h
        refine ⟨p, _, rfl, SqT.of hp, rfl, _, _, rfl, _, _, rfl, rfl, ?_⟩
        refine Dd.run (K := K) (H0 := H1) (.tup (.cons (.sc (tC (.str "number")) (.str "number")) (.cons (.sc (tVar 3) (.str z0)) (.cons (.sc (tC (.int 2)) (.int 2)) (.cons (.sc (tC (.str "big")) (.str "big")) (.cons (.sc (tVar 4) (.int (-2))) (.cons (.sc (tVar 5) (.int (65535))) .nil))))))) ⟨(Nat.le_of_ble_eq_true rfl), ⟨(fun _ _ _ q => q), ⟨(fun _ _ _ q => ⟨_, rfl, q⟩), ⟨(fun _ _ _ q => q), ⟨(fun _ _ _ q => q), ⟨(fun _ _ _ q => ⟨_, rfl, q⟩), ⟨(fun _ _ _ q => ⟨_, rfl, q⟩), trivial⟩⟩⟩⟩⟩⟩⟩ (Same.refl _) fun v H2 s2 h => ?_
        exact q v H2 (.num z0 2 "big" (-2) (65535)) (s1.trans s2) (MI.at (by exact (.num rfl)) h) (bad_num (by decide +kernel)) (by simp only [It.tame, It.name]; exact l0) (by simp [It.flat])
      | 2, _, h =>
        simp only [Dd.at, Dds.at, Dds.atN] at h
        obtain ⟨p, _, rfl, hp, _, _, rfl, rfl, _, _, rfl, rfl, rfl⟩ := h
        refine ⟨p, _, rfl, SqT.of hp, rfl, _, _, rfl, _, _, rfl, rfl, ?_⟩
        refine Dd.run (K := K) (H0 := H1) (.tup (.cons (.sc (tC (.str "number")) (.str "number")) (.cons (.sc (tVar 3) (.str z0)) (.cons (.sc (tC (.int 2)) (.int 2)) (.cons (.sc (tC (.str "big")) (.str "big")) (.cons (.sc (tVar 4) (.int (300))) (.cons (.sc (tVar 5) (.int (299))) .nil))))))) ⟨(Nat.le_of_ble_eq_true rfl), ⟨(fun _ _ _ q => q), ⟨(fun _ _ _ q => ⟨_, rfl, q⟩), ⟨(fun _ _ _ q => q), ⟨(fun _ _ _ q => q), ⟨(fun _ _ _ q => ⟨_, rfl, q⟩), ⟨(fun _ _ _ q => ⟨_, rfl, q⟩), trivial⟩⟩⟩⟩⟩⟩⟩ (Same.refl _) fun v H2 s2 h => ?_
        exact q v H2 (.num z0 2 "big" (300) (299)) (s1.trans s2) (MI.at (by exact (.num rfl)) h) (bad_num (by decide +kernel)) (by simp only [It.tame, It.name]; exact l0) (by simp [It.flat])
      | 3, _, h =>
        simp only [Dd.at, Dds.at, Dds.atN] at h
        obtain ⟨p, _, rfl, hp, _, _, rfl, rfl, _, _, rfl, rfl, rfl⟩ := h
        refine ⟨p, _, rfl, SqT.of hp, rfl, _, _, rfl, _, _, rfl, rfl, ?_⟩
        refine Dd.run (K := K) (H0 := H1) (.tup (.cons (.sc (tC (.str "number")) (.str "number")) (.cons (.sc (tVar 3) (.str z0)) (.cons (.sc (tC (.int 2)) (.int 2)) (.cons (.sc (tC (.str "big")) (.str "big")) (.cons (.sc (tVar 4) (.int (0))) (.cons (.sc (tVar 5) (.int (100000))) .nil))))))) ⟨(Nat.le_of_ble_eq_true rfl), ⟨(fun _ _ _ q => q), ⟨(fun _ _ _ q => ⟨_, rfl, q⟩), ⟨(fun _ _ _ q => q), ⟨(fun _ _ _ q => q), ⟨(fun _ _ _ q => ⟨_, rfl, q⟩), ⟨(fun _ _ _ q => ⟨_, rfl, q⟩), trivial⟩⟩⟩⟩⟩⟩⟩ (Same.refl _) fun v H2 s2 h => ?_
        exact q v H2 (.num z0 2 "big" (0) (100000)) (s1.trans s2) (MI.at (by exact (.num rfl)) h) (bad_num (by decide +kernel)) (by simp only [It.tame, It.name]; exact l0) (by simp [It.flat])
      | n + 4, hj, _ => exact absurd hj (by omega)
    | 7, _ =>
      refine ⟨_, rfl, rfl, _, rfl, ino (by decide) ?_⟩
      refine ⟨_, rfl, rfl, _, rfl, ino (by decide) ?_⟩
      refine ⟨_, rfl, rfl, _, rfl, ino (by decide) ?_⟩
      refine ⟨_, rfl, rfl, _, rfl, ino (by decide) ?_⟩
      refine ⟨_, rfl, rfl, _, rfl, ino (by decide) ?_⟩
      refine ⟨_, rfl, rfl, _, rfl, ino (by decide) ?_⟩
      refine ⟨_, rfl, rfl, _, rfl, ino (by decide) ?_⟩
      refine ⟨_, rfl, rfl, _, rfl, iyes rfl ?_⟩
      obtain ⟨j, hj, ej⟩ := md 4 (by decide)
      have ej : nm % 4 = (j : Int) := ej
      have e2 : (0 : Int) < 2 := by decide
      refine Dd.run (K := K) (H0 := H) (.tup (.cons (.sc (tC (.str "bytes")) (.str "bytes")) (.cons (.sc (tVar 3) (.str z0)) (.cons (.pick (.cons (.sc (tC (.int 65)) (.int 65)) (.cons (.sc (tUn (rU fun i => V.int (-i)) (tC (.int 1))) (.int (-1))) (.cons (.sc (tOp (rI0 fun i j => V.int (i + j)) (tC (.int 65)) (tVar 1)) (.int (65 + nm))) (.cons (.sc (tOp (rIxL K) (tVar 2) (tC (.int 1))) (.str z1)) .nil)))) (tOp (rI (fun x j => 0 < j) fun i j => V.int (i % j)) (tCB rInt1 (tCons (tVar 1) tNil)) (tC (.int 4))) j) .nil)))) ⟨(Nat.le_of_ble_eq_true rfl), ⟨(fun _ _ _ q => q), ⟨(fun _ _ _ q => ⟨_, rfl, q⟩), ⟨⟨(Nat.le_of_ble_eq_true rfl), ⟨(fun _ _ _ q => q), ⟨(fun _ _ _ q => ⟨_, rfl, q⟩), ⟨(fun _ _ _ q => ⟨_, rfl, _, _, rfl, rfl, q⟩), ⟨(fun _ _ s q => ⟨_, rfl, nl, _, _, _, rfl, rfl, SqL.of (s _ _ hnl), gz1, q⟩), trivial⟩⟩⟩⟩, hj, (fun _ Q _ q => ⟨_, rfl, .inl ⟨_, rfl, _, _, rfl, rfl, (by show (0 : Int) < 4; decide), (by show Q (.int (nm % 4)) _; rw [ej]; exact q)⟩⟩)⟩, trivial⟩⟩⟩⟩ (Same.refl _) fun v H1 s1 h => ?_
      match j, hj, h with
      | 0, _, h => exact q v H1 (.byt z0 (.inl 65)) s1 (MI.at (by exact (.byt rfl)) h) (bad_byt fun f nf => am_int (by omega)) (by simp only [It.tame]; exact ⟨l0, fun z e => by cases e⟩) (by simp [It.flat])
      | 1, _, h => exact q v H1 (.byt z0 (.inl (-1))) s1 (MI.at (by exact (.byt rfl)) h) (bad_byt fun f nf => am_int (by omega)) (by simp only [It.tame]; exact ⟨l0, fun z e => by cases e⟩) (by simp [It.flat])
      | 2, _, h => exact q v H1 (.byt z0 (.inl (65 + nm))) s1 (MI.at (by exact (.byt rfl)) h) (bad_byt fun f nf => am_int (by omega)) (by simp only [It.tame]; exact ⟨l0, fun z e => by cases e⟩) (by simp [It.flat])
      | 3, _, h => exact q v H1 (.byt z0 (.inr z1)) s1 (MI.at (by exact (.byt rfl)) h) (bad_byt fun f nf => am_str m1 nf) (by simp only [It.tame]; exact ⟨l0, fun z e => by cases e; exact ⟨nm_tame n1, (name_repr n1).2⟩⟩) (by simp [It.flat])
      | n + 4, hj, _ => exact absurd hj (by omega)
    | 8, _ =>
      refine ⟨_, rfl, rfl, _, rfl, ino (by decide) ?_⟩
      refine ⟨_, rfl, rfl, _, rfl, ino (by decide) ?_⟩
      refine ⟨_, rfl, rfl, _, rfl, ino (by decide) ?_⟩
      refine ⟨_, rfl, rfl, _, rfl, ino (by decide) ?_⟩
      refine ⟨_, rfl, rfl, _, rfl, ino (by decide) ?_⟩
      refine ⟨_, rfl, rfl, _, rfl, ino (by decide) ?_⟩
      refine ⟨_, rfl, rfl, _, rfl, ino (by decide) ?_⟩
      refine ⟨_, rfl, rfl, _, rfl, ino (by decide) ?_⟩
      refine ⟨_, rfl, rfl, _, rfl, iyes rfl ?_⟩
      obtain ⟨j, hj, ej⟩ := md 5 (by decide)
      have ej : nm % 5 = (j : Int) := ej
      have e2 : (0 : Int) < 2 := by decide
      refine Dd.run (K := K) (H0 := H) (.pick (.cons (.tup (.cons (.sc (tC (.int 256)) (.int 256)) (.cons (.sc (tC (.int 1)) (.int 1)) .nil))) (.cons (.tup (.cons (.sc (tUn (rU fun i => V.int (-i)) (tC (.int 1))) (.int (-1))) (.cons (.sc (tC (.int 1)) (.int 1)) .nil))) (.cons (.tup (.cons (.sc (tC (.int 0)) (.int 0)) (.cons (.sc (tC (.int 65)) (.int 65)) .nil))) (.cons (.tup (.cons (.sc (tC (.int 0)) (.int 0)) (.cons (.sc (tUn (rU fun i => V.int (-i)) (tC (.int 1))) (.int (-1))) .nil))) (.cons (.tup (.cons (.sc (tC (.int 300)) (.int 300)) (.cons (.sc (tC (.int 4)) (.int 4)) .nil))) .nil))))) (tOp (rI (fun x j => 0 < j) fun i j => V.int (i % j)) (tCB rInt1 (tCons (tVar 1) tNil)) (tC (.int 5))) j) ⟨(Nat.le_of_ble_eq_true rfl), ⟨⟨(Nat.le_of_ble_eq_true rfl), ⟨(fun _ _ _ q => q), ⟨(fun _ _ _ q => q), trivial⟩⟩⟩, ⟨⟨(Nat.le_of_ble_eq_true rfl), ⟨(fun _ _ _ q => ⟨_, rfl, q⟩), ⟨(fun _ _ _ q => q), trivial⟩⟩⟩, ⟨⟨(Nat.le_of_ble_eq_true rfl), ⟨(fun _ _ _ q => q), ⟨(fun _ _ _ q => q), trivial⟩⟩⟩, ⟨⟨(Nat.le_of_ble_eq_true rfl), ⟨(fun _ _ _ q => q), ⟨(fun _ _ _ q => ⟨_, rfl, q⟩), trivial⟩⟩⟩, ⟨⟨(Nat.le_of_ble_eq_true rfl), ⟨(fun _ _ _ q => q), ⟨(fun _ _ _ q => q), trivial⟩⟩⟩, trivial⟩⟩⟩⟩⟩, hj, (fun _ Q _ q => ⟨_, rfl, .inl ⟨_, rfl, _, _, rfl, rfl, (by show (0 : Int) < 5; decide), (by show Q (.int (nm % 5)) _; rw [ej]; exact q)⟩⟩)⟩ (Same.refl _) fun v H1 s1 h => ?_
      match j, hj, h with
      | 0, _, h =>
        simp only [Dd.at, Dds.at, Dds.atN] at h
        obtain ⟨p, _, rfl, hp, _, _, rfl, rfl, _, _, rfl, rfl, rfl⟩ := h
        refine ⟨p, _, rfl, SqT.of hp, rfl, _, _, rfl, _, _, rfl, rfl, ?_⟩
        refine Dd.run (K := K) (H0 := H1) (.tup (.cons (.sc (tC (.str "text")) (.str "text")) (.cons (.sc (tVar 3) (.str z0)) (.cons (.sc (tVar 6) (.int (256))) (.cons (.sc (tVar 7) (.int (1))) .nil))))) ⟨(Nat.le_of_ble_eq_true rfl), ⟨(fun _ _ _ q => q), ⟨(fun _ _ _ q => ⟨_, rfl, q⟩), ⟨(fun _ _ _ q => ⟨_, rfl, q⟩), ⟨(fun _ _ _ q => ⟨_, rfl, q⟩), trivial⟩⟩⟩⟩⟩ (Same.refl _) fun v H2 s2 h => ?_
        exact q v H2 (.txt z0 (256) (1)) (s1.trans s2) (MI.at (by exact (.txt rfl)) h) (bad_txt (by omega)) (by simp only [It.tame, It.name]; exact l0) (by simp [It.flat])
      | 1, _, h =>
        simp only [Dd.at, Dds.at, Dds.atN] at h
        obtain ⟨p, _, rfl, hp, _, _, rfl, rfl, _, _, rfl, rfl, rfl⟩ := h
        refine ⟨p, _, rfl, SqT.of hp, rfl, _, _, rfl, _, _, rfl, rfl, ?_⟩
        refine Dd.run (K := K) (H0 := H1) (.tup (.cons (.sc (tC (.str "text")) (.str "text")) (.cons (.sc (tVar 3) (.str z0)) (.cons (.sc (tVar 6) (.int (-1))) (.cons (.sc (tVar 7) (.int (1))) .nil))))) ⟨(Nat.le_of_ble_eq_true rfl), ⟨(fun _ _ _ q => q), ⟨(fun _ _ _ q => ⟨_, rfl, q⟩), ⟨(fun _ _ _ q => ⟨_, rfl, q⟩), ⟨(fun _ _ _ q => ⟨_, rfl, q⟩), trivial⟩⟩⟩⟩⟩ (Same.refl _) fun v H2 s2 h => ?_
        exact q v H2 (.txt z0 (-1) (1)) (s1.trans s2) (MI.at (by exact (.txt rfl)) h) (bad_txt (by omega)) (by simp only [It.tame, It.name]; exact l0) (by simp [It.flat])
      | 2, _, h =>
        simp only [Dd.at, Dds.at, Dds.atN] at h
        obtain ⟨p, _, rfl, hp, _, _, rfl, rfl, _, _, rfl, rfl, rfl⟩ := h
        refine ⟨p, _, rfl, SqT.of hp, rfl, _, _, rfl, _, _, rfl, rfl, ?_⟩
        refine Dd.run (K := K) (H0 := H1) (.tup (.cons (.sc (tC (.str "text")) (.str "text")) (.cons (.sc (tVar 3) (.str z0)) (.cons (.sc (tVar 6) (.int (0))) (.cons (.sc (tVar 7) (.int (65))) .nil))))) ⟨(Nat.le_of_ble_eq_true rfl), ⟨(fun _ _ _ q => q), ⟨(fun _ _ _ q => ⟨_, rfl, q⟩), ⟨(fun _ _ _ q => ⟨_, rfl, q⟩), ⟨(fun _ _ _ q => ⟨_, rfl, q⟩), trivial⟩⟩⟩⟩⟩ (Same.refl _) fun v H2 s2 h => ?_
        exact q v H2 (.txt z0 (0) (65)) (s1.trans s2) (MI.at (by exact (.txt rfl)) h) (bad_txt (by omega)) (by simp only [It.tame, It.name]; exact l0) (by simp [It.flat])
      | 3, _, h =>
        simp only [Dd.at, Dds.at, Dds.atN] at h
        obtain ⟨p, _, rfl, hp, _, _, rfl, rfl, _, _, rfl, rfl, rfl⟩ := h
        refine ⟨p, _, rfl, SqT.of hp, rfl, _, _, rfl, _, _, rfl, rfl, ?_⟩
        refine Dd.run (K := K) (H0 := H1) (.tup (.cons (.sc (tC (.str "text")) (.str "text")) (.cons (.sc (tVar 3) (.str z0)) (.cons (.sc (tVar 6) (.int (0))) (.cons (.sc (tVar 7) (.int (-1))) .nil))))) ⟨(Nat.le_of_ble_eq_true rfl), ⟨(fun _ _ _ q => q), ⟨(fun _ _ _ q => ⟨_, rfl, q⟩), ⟨(fun _ _ _ q => ⟨_, rfl, q⟩), ⟨(fun _ _ _ q => ⟨_, rfl, q⟩), trivial⟩⟩⟩⟩⟩ (Same.refl _) fun v H2 s2 h => ?_
        exact q v H2 (.txt z0 (0) (-1)) (s1.trans s2) (MI.at (by exact (.txt rfl)) h) (bad_txt (by omega)) (by simp only [It.tame, It.name]; exact l0) (by simp [It.flat])
      | 4, _, h =>
        simp only [Dd.at, Dds.at, Dds.atN] at h
        obtain ⟨p, _, rfl, hp, _, _, rfl, rfl, _, _, rfl, rfl, rfl⟩ := h
        refine ⟨p, _, rfl, SqT.of hp, rfl, _, _, rfl, _, _, rfl, rfl, ?_⟩
        refine Dd.run (K := K) (H0 := H1) (.tup (.cons (.sc (tC (.str "text")) (.str "text")) (.cons (.sc (tVar 3) (.str z0)) (.cons (.sc (tVar 6) (.int (300))) (.cons (.sc (tVar 7) (.int (4))) .nil))))) ⟨(Nat.le_of_ble_eq_true rfl), ⟨(fun _ _ _ q => q), ⟨(fun _ _ _ q => ⟨_, rfl, q⟩), ⟨(fun _ _ _ q => ⟨_, rfl, q⟩), ⟨(fun _ _ _ q => ⟨_, rfl, q⟩), trivial⟩⟩⟩⟩⟩ (Same.refl _) fun v H2 s2 h => ?_
        exact q v H2 (.txt z0 (300) (4)) (s1.trans s2) (MI.at (by exact (.txt rfl)) h) (bad_txt (by omega)) (by simp only [It.tame, It.name]; exact l0) (by simp [It.flat])
      | n + 5, hj, _ => exact absurd hj (by omega)
    | 9, _ =>
      refine ⟨_, rfl, rfl, _, rfl, ino (by decide) ?_⟩
      refine ⟨_, rfl, rfl, _, rfl, ino (by decide) ?_⟩
      refine ⟨_, rfl, rfl, _, rfl, ino (by decide) ?_⟩
      refine ⟨_, rfl, rfl, _, rfl, ino (by decide) ?_⟩
      refine ⟨_, rfl, rfl, _, rfl, ino (by decide) ?_⟩
      refine ⟨_, rfl, rfl, _, rfl, ino (by decide) ?_⟩
      refine ⟨_, rfl, rfl, _, rfl, ino (by decide) ?_⟩
      refine ⟨_, rfl, rfl, _, rfl, ino (by decide) ?_⟩
      refine ⟨_, rfl, rfl, _, rfl, ino (by decide) ?_⟩
      refine ⟨_, rfl, rfl, _, rfl, iyes rfl ?_⟩
      obtain ⟨j, hj, ej⟩ := md 4 (by decide)
      have ej : nm % 4 = (j : Int) := ej
      have e2 : (0 : Int) < 2 := by decide
      refine Dd.run (K := K) (H0 := H) (.tup (.cons (.sc (tC (.str "check")) (.str "check")) (.cons (.sc (tVar 3) (.str z0)) (.cons (.pick (.cons (.sc (tC (.int 0)) (.int 0)) (.cons (.sc (tC (.int 17)) (.int 17)) (.cons (.sc (tUn (rU fun i => V.int (-i)) (tC (.int 1))) (.int (-1))) (.cons (.sc (tOp (rI0 fun i j => V.int (i + j)) (tC (.int 17)) (tVar 1)) (.int (17 + nm))) .nil)))) (tOp (rI (fun x j => 0 < j) fun i j => V.int (i % j)) (tCB rInt1 (tCons (tVar 1) tNil)) (tC (.int 4))) j) .nil)))) ⟨(Nat.le_of_ble_eq_true rfl), ⟨(fun _ _ _ q => q), ⟨(fun _ _ _ q => ⟨_, rfl, q⟩), ⟨⟨(Nat.le_of_ble_eq_true rfl), ⟨(fun _ _ _ q => q), ⟨(fun _ _ _ q => q), ⟨(fun _ _ _ q => ⟨_, rfl, q⟩), ⟨(fun _ _ _ q => ⟨_, rfl, _, _, rfl, rfl, q⟩), trivial⟩⟩⟩⟩, hj, (fun _ Q _ q => ⟨_, rfl, .inl ⟨_, rfl, _, _, rfl, rfl, (by show (0 : Int) < 4; decide), (by show Q (.int (nm % 4)) _; rw [ej]; exact q)⟩⟩)⟩, trivial⟩⟩⟩⟩ (Same.refl _) fun v H1 s1 h => ?_
      match j, hj, h with
      | 0, _, h => exact q v H1 (.chk z0 0) s1 (MI.at (by exact (.chk rfl)) h) (bad_chk (by omega)) (by simp only [It.tame, It.name]; exact l0) (by simp [It.flat])
      | 1, _, h => exact q v H1 (.chk z0 17) s1 (MI.at (by exact (.chk rfl)) h) (bad_chk (by omega)) (by simp only [It.tame, It.name]; exact l0) (by simp [It.flat])
      | 2, _, h => exact q v H1 (.chk z0 (-1)) s1 (MI.at (by exact (.chk rfl)) h) (bad_chk (by omega)) (by simp only [It.tame, It.name]; exact l0) (by simp [It.flat])
      | 3, _, h => exact q v H1 (.chk z0 (17 + nm)) s1 (MI.at (by exact (.chk rfl)) h) (bad_chk (by omega)) (by simp only [It.tame, It.name]; exact l0) (by simp [It.flat])
      | n + 4, hj, _ => exact absurd hj (by omega)
    | 10, _ =>
      refine ⟨_, rfl, rfl, _, rfl, ino (by decide) ?_⟩
      refine ⟨_, rfl, rfl, _, rfl, ino (by decide) ?_⟩
      refine ⟨_, rfl, rfl, _, rfl, ino (by decide) ?_⟩
      refine ⟨_, rfl, rfl, _, rfl, ino (by decide) ?_⟩
      refine ⟨_, rfl, rfl, _, rfl, ino (by decide) ?_⟩
      refine ⟨_, rfl, rfl, _, rfl, ino (by decide) ?_⟩
      refine ⟨_, rfl, rfl, _, rfl, ino (by decide) ?_⟩
      refine ⟨_, rfl, rfl, _, rfl, ino (by decide) ?_⟩
      refine ⟨_, rfl, rfl, _, rfl, ino (by decide) ?_⟩
      refine ⟨_, rfl, rfl, _, rfl, ino (by decide) ?_⟩
      obtain ⟨j, hj, ej⟩ := md 6 (by decide)
      have ej : nm % 6 = (j : Int) := ej
      have e2 : (0 : Int) < 2 := by decide
      refine Dd.run (K := K) (H0 := H) (.tup (.cons (.sc (tC (.str "pad")) (.str "pad")) (.cons (.sc (tVar 3) (.str z0)) (.cons (.pick (.cons (.sc (tC (.int 3)) (.int 3)) (.cons (.sc (tC (.int 0)) (.int 0)) (.cons (.sc (tC (.int 32)) (.int 32)) (.cons (.sc (tC (.int 4)) (.int 4)) (.cons (.sc (tC (.int 4)) (.int 4)) (.cons (.sc (tUn (rU fun i => V.int (-i)) (tC (.int 4))) (.int (-4))) .nil)))))) (tOp (rI (fun x j => 0 < j) fun i j => V.int (i % j)) (tCB rInt1 (tCons (tVar 1) tNil)) (tC (.int 6))) j) (.cons (.pick (.cons (.sc (tC (.int 0)) (.int 0)) (.cons (.sc (tC (.int 0)) (.int 0)) (.cons (.sc (tC (.int 0)) (.int 0)) (.cons (.sc (tC (.int 256)) (.int 256)) (.cons (.sc (tUn (rU fun i => V.int (-i)) (tC (.int 1))) (.int (-1))) (.cons (.sc (tC (.int 0)) (.int 0)) .nil)))))) (tOp (rI (fun x j => 0 < j) fun i j => V.int (i % j)) (tCB rInt1 (tCons (tVar 1) tNil)) (tC (.int 6))) j) .nil))))) ⟨(Nat.le_of_ble_eq_true rfl), ⟨(fun _ _ _ q => q), ⟨(fun _ _ _ q => ⟨_, rfl, q⟩), ⟨⟨(Nat.le_of_ble_eq_true rfl), ⟨(fun _ _ _ q => q), ⟨(fun _ _ _ q => q), ⟨(fun _ _ _ q => q), ⟨(fun _ _ _ q => q), ⟨(fun _ _ _ q => q), ⟨(fun _ _ _ q => ⟨_, rfl, q⟩), trivial⟩⟩⟩⟩⟩⟩, hj, (fun _ Q _ q => ⟨_, rfl, .inl ⟨_, rfl, _, _, rfl, rfl, (by show (0 : Int) < 6; decide), (by show Q (.int (nm % 6)) _; rw [ej]; exact q)⟩⟩)⟩, ⟨⟨(Nat.le_of_ble_eq_true rfl), ⟨(fun _ _ _ q => q), ⟨(fun _ _ _ q => q), ⟨(fun _ _ _ q => q), ⟨(fun _ _ _ q => q), ⟨(fun _ _ _ q => ⟨_, rfl, q⟩), ⟨(fun _ _ _ q => q), trivial⟩⟩⟩⟩⟩⟩, hj, (fun _ Q _ q => ⟨_, rfl, .inl ⟨_, rfl, _, _, rfl, rfl, (by show (0 : Int) < 6; decide), (by show Q (.int (nm % 6)) _; rw [ej]; exact q)⟩⟩)⟩, trivial⟩⟩⟩⟩⟩ (Same.refl _) fun v H1 s1 h => ?_
      match j, hj, h with
      | 0, _, h => exact q v H1 (.pad z0 (3) (0)) s1 (MI.at (by exact (.pad rfl)) h) (bad_pad (by omega)) (by simp only [It.tame, It.name]; exact l0) (by simp [It.flat])
      | 1, _, h => exact q v H1 (.pad z0 (0) (0)) s1 (MI.at (by exact (.pad rfl)) h) (bad_pad (by omega)) (by simp only [It.tame, It.name]; exact l0) (by simp [It.flat])
      | 2, _, h => exact q v H1 (.pad z0 (32) (0)) s1 (MI.at (by exact (.pad rfl)) h) (bad_pad (by omega)) (by simp only [It.tame, It.name]; exact l0) (by simp [It.flat])
      | 3, _, h => exact q v H1 (.pad z0 (4) (256)) s1 (MI.at (by exact (.pad rfl)) h) (bad_pad (by omega)) (by simp only [It.tame, It.name]; exact l0) (by simp [It.flat])
      | 4, _, h => exact q v H1 (.pad z0 (4) (-1)) s1 (MI.at (by exact (.pad rfl)) h) (bad_pad (by omega)) (by simp only [It.tame, It.name]; exact l0) (by simp [It.flat])
      | 5, _, h => exact q v H1 (.pad z0 (-4) (0)) s1 (MI.at (by exact (.pad rfl)) h) (bad_pad (by omega)) (by simp only [It.tame, It.name]; exact l0) (by simp [It.flat])
      | n + 6, hj, _ => exact absurd hj (by omega)
    | n + 11, hc => exact absurd hc (by omega)
end
end Bs

set_option Elab.async false
set_option linter.all false
set_option maxRecDepth 100000
set_option maxHeartbeats 8000000
namespace Bs
open PySem L2
/-! ### items with blocks that break a rule -/
abbrev sWithB : Stmt := top 60
theorem LAt.same {H H' : Hp} (s : Same H H') {x : Its} {v : V} (h : LAt H x v) : LAt H' x v := by
  obtain ⟨a, xs, e, h1, h2⟩ := h
  exact ⟨a, xs, e, s _ _ h1, h2.same s⟩
theorem BAtS.same {H H' : Hp} (s : Same H H') {x : Blks} {v : V} (h : BAtS H x v) : BAtS H' x v := by
  obtain ⟨a, xs, e, h1, h2⟩ := h
  exact ⟨a, xs, e, s _ _ h1, h2.same s⟩
abbrev Dd.ls (te : TE) (x : Its) : Dd := .gen te (fun H v => LAt H x v) fun _ _ _ s h => LAt.same s h
abbrev Dd.itm (te : TE) (y : It) : Dd := .gen te (fun H v => y.At false H v) fun _ _ _ s h => It.At.same s h
abbrev Dd.blS (te : TE) (x : Blks) : Dd := .gen te (fun H v => BAtS H x v) fun _ _ _ s h => BAtS.same s h
section
variable {S : List Str} {n : Str} {r : Its}
theorem bad_rep_am {a : Key} {b : Its} (h : ∀ f, NoS S f → amount f 16 a = none) : Bd S (.cons (.rep n a b) r) := .ln ⟨fun f nf => by rw [lens_cons]; simp [It.lens, h f nf]⟩
theorem bad_rep_zero {a : Key} {b : Its} (h : ∀ f, ∃ g, b.lens f = some (0, g)) : Bd S (.cons (.rep n a b) r) := .ln ⟨fun f nf => by
  rw [lens_cons]
  obtain ⟨g, e⟩ := h f
  simp only [It.lens, e]
  cases amount f 16 a <;> simp⟩
theorem bad_eit_len {bs : Blks} (h : ¬ (2 ≤ bs.len ∧ bs.len ≤ 4)) : Bd S (.cons (.eit n bs) r) := .ok fun d _ => by simp only [Its.ok, It.ok]; rw [decide_eq_false h]; simp
theorem bad_eit_zero {bs : Blks} (h : ∀ f, ∃ l, bs.lens f = some l ∧ 2 ≤ (l.filter fun p => decide (p.1 = 0)).length) : Bd S (.cons (.eit n bs) r) := .ln ⟨fun f nf => by
  rw [lens_cons]
  obtain ⟨l, e, h2⟩ := h f
  simp only [It.lens, e]
  rw [if_neg (by omega)]⟩
theorem bad_eit_none {bs : Blks} (h : ∀ f, NoS S f → bs.lens f = none) : Bd S (.cons (.eit n bs) r) := .ln ⟨fun f nf => by rw [lens_cons]; simp [It.lens, h f nf]⟩
theorem bad_tail {x : It} (h : ∀ f, NoS S f → r.lens (x.seen f) = none) : Bd S (.cons x r) := .ln ⟨fun f nf => by rw [lens_cons, h f nf]; cases x.lens f <;> rfl⟩
theorem bad_tail_ok {x : It} (h : ∀ d : Int, 0 ≤ d → r.ok d = false) : Bd S (.cons x r) := .ok fun d hd => by simp [Its.ok, h d hd]
theorem bad_swi {t : Str} {bs : Blks} (h : ∀ f, NoS S f → f t = none) : Bd S (.cons (.swi n t bs) r) := .ln ⟨fun f nf => by rw [lens_cons]; simp only [It.lens]; rw [if_neg (fun z => by rw [h f nf] at z; cases z.1)]⟩
end
theorem bad_swi_none {n t : Str} {bs : Blks} {r : Its} {f : Env} (h : f t = none) : (Its.cons (.swi n t bs) r).lens f = none := by rw [lens_cons]; simp only [It.lens]; rw [if_neg (fun z => by rw [h] at z; cases z.1)]
theorem swi_len {n t : Str} {bs : Blks} {r : Its} (h : ¬ (1 ≤ bs.len ∧ bs.len ≤ 8)) (d : Int) : (Its.cons (.swi n t bs) r).ok d = false := by simp only [Its.ok, It.ok]; rw [decide_eq_false h]; simp
theorem swi_vals {n t : Str} {bs : Blks} {r : Its} {f : Env} (h : ¬ ((∀ v ∈ bs.vals, 0 ≤ v ∧ v ≤ 65535) ∧ bs.vals.Nodup)) : (Its.cons (.swi n t bs) r).lens f = none := by
  rw [lens_cons]; simp only [It.lens]; rw [if_neg (fun z => h z.2)]
theorem am_put {f : Env} {n : Str} {lo hi most : Int} (h : most < hi) : amount (f.put n (lo, hi)) most (.inr n) = none := by
  simp only [amount, Env.put, if_pos]
  rw [if_neg (by show ¬ hi ≤ most; omega)]
def nineB : Nat → Nat → Blks
  | _, 0 => .nil
  | k, n + 1 => .cons (k : Int) .nil (nineB (k + 1) n)
theorem nine_len : ∀ (n k : Nat), (nineB k n).len = n
  | 0, _ => rfl
  | n + 1, k => by simp [nineB, Blks.len, nine_len n (k + 1)]
theorem nine_tame : ∀ (n k : Nat), (nineB k n).tame
  | 0, _ => by simp only [nineB, Blks.tame]
  | n + 1, k => by simp only [nineB, Blks.tame, Its.tame]; exact ⟨trivial, nine_tame n (k + 1)⟩
theorem nine_flat : ∀ (n k : Nat), (nineB k n).flat = []
  | 0, _ => rfl
  | n + 1, k => by simp [nineB, Blks.flat, Its.flat, nine_flat n (k + 1)]
theorem snocS_at {fz : Bool} {H : Hp} {v : V} {c : Int} (h : ∃ p q, v = .ref p ∧ H p = some (.tup [.int c, .ref q]) ∧ RowAt fz H q []) : ∀ {bs : Blks} {l : List V}, bs.AtS fz H l → ∀ {k n : Nat}, bs = nineB k n → (k : Int) + n = c → (nineB k (n + 1)).AtS fz H (l ++ [v])
  | .nil, l, hb, k, n, e, ec => by
    simp only [Blks.AtS] at hb
    subst hb
    cases n with
    | succ n => cases e
    | zero =>
      obtain ⟨p, q, rfl, h1, h2⟩ := h
      simp only [nineB, Blks.AtS, List.nil_append]
      exact ⟨p, q, [], [], rfl, by rw [← ec] at h1; simpa using h1, h2, by simp only [Its.At], rfl⟩
  | .cons v0 b0 r0, l, hb, k, n, e, ec => by
    cases n with
    | zero => cases e
    | succ n =>
      simp only [nineB] at e
      injection e with e1 e2 e3
      subst e1 e2
      simp only [Blks.AtS] at hb
      obtain ⟨p, q, xs, l', rfl, h1, h2, h3, h4⟩ := hb
      have := snocS_at h h4 (k := k + 1) (n := n) e3 (by omega)
      show (Blks.cons (k : Int) .nil (nineB (k + 1) (n + 1))).AtS fz H _
      simp only [Blks.AtS, List.cons_append]
      exact ⟨p, q, xs, l' ++ [v], rfl, h1, h2, h3, this⟩
theorem nine_run {a0 a1 a2 a3 a4 a5 a6 a7 a8 a9 a10 a11 a12 a13 a14 a15 : Option V} {H : Hp} {Q : VK} (q : ∀ v H', Same H H' → BAtS H' (nineB 0 9) v → Q v H') :
    tLc (iRng1 (tCons (tC (.int 9)) tNil)) (gName 15) tYes (tTup (tCons (tVar 15) (tCons (tLst tNil) tNil))) [15] [a0, a1, a2, a3, a4, a5, a6, a7, a8, a9, a10, a11, a12, a13, a14, a15] H Q := by
  refine ⟨9, rfl, by decide, by decide, fun L hL => lc_range (lo := 0) (n := 9) (fun i H' => Same H H' ∧ ∃ acc, H' L = some (.lst acc) ∧ acc.length = i ∧ (nineB 0 i).AtS false (cut1 L H') acc) ⟨same_new hL _, [], upd_same, rfl, by simp only [nineB, Blks.AtS]⟩ ?_ ?_⟩
  · rintro i H1 hi ⟨s1, acc, hacc, hlen, hat⟩
    refine ⟨rfl, yes_go ?_⟩
    refine ⟨_, rfl, by show 0 ≤ sizeLine; decide, fun e he => ⟨by show 2 ≤ sizeLine; decide, fun t ht => ?_⟩⟩
    have s2 := same_new he (.lst [])
    have s3 := same_new ht (.tup [.int (0 + (i : Int)), .ref e])
    have eL : e ≠ L := (ne_of_none hacc he).symm
    have tL : t ≠ L := (ne_of_none (s2 _ _ hacc) ht).symm
    have ee : H1 e = none := he
    have hacc3 := s3 _ _ (s2 _ _ hacc)
    have he3 := s3 _ _ (upd_same (H := H1) (a := e) (o := .lst []))
    have ht3 : upd (upd H1 e (.lst [])) t (.tup [.int (0 + (i : Int)), .ref e]) t = some (.tup [.int (0 + (i : Int)), .ref e]) := upd_same
    have hat3 := hat.same (cut1_same (L := L) (s2.trans s3))
    refine ⟨_, hacc3, small1000 (by omega), same_set (s1.trans (s2.trans s3)) hL, _, upd_same, by rw [List.length_append, hlen]; rfl, ?_⟩
    generalize upd (upd H1 e (.lst [])) t (.tup [.int (0 + (i : Int)), .ref e]) = H3 at hacc3 he3 ht3 hat3 ⊢
    have ec : ∀ u, cut1 L (upd H3 L u) = cut1 L H3 := fun u => by
      funext b
      unfold cut1
      by_cases c : b = L
      · rw [if_pos c, if_pos c]
      · rw [if_neg c, if_neg c, upd_ne c]
    rw [ec]
    have at_ : ∀ {b : Addr} {u : HO}, H3 b = some u → b ≠ L → cut1 L H3 b = some u := fun h n => by unfold cut1; rw [if_neg n]; exact h
    exact snocS_at (c := 0 + (i : Int)) ⟨t, e, rfl, at_ ht3 tL, .inr ⟨rfl, at_ he3 eL⟩⟩ hat3 rfl (by omega)
  · rintro H1 ⟨s1, acc, hacc, hlen, hat⟩
    exact q _ _ s1 ⟨L, acc, rfl, hacc, hat.same cut1_le⟩
theorem Dd.go {K : PySem.W.Frag} {σ : L2.St} {H0 : Hp} (d : Dd) {t : TE} {H : Hp} {Q : VK} (ht : d.te K = t) (ok : d.ok σ H0) (s : Same H0 H) (q : ∀ v H', Same H H' → d.at H' v → Q v H') : t σ H Q := by
  rw [← ht]; exact d.run ok s q
theorem nx_go {D : Ends} {σ : L2.St} {H : Hp} (h : D.nx σ H) : tNext D σ H := h
theorem tOp_go {r : R2} {ta tb : TE} {σ : L2.St} {H : Hp} {Q : VK} (h : ta σ H fun x H1 => tb σ H1 fun y H2 => r x y H2 Q) : tOp r ta tb σ H Q := h
theorem asg_go {te : TE} {g : TG} {D : Ends} {σ : L2.St} {H : Hp} (h : te σ H fun x H1 => g x σ H1 D.nx) : tAsg te g D σ H := h
def x20 (zj : Str) (i : Nat) (x : Its) : Its := if i = 0 then x else .cons (.byt zj (.inl 1)) x
theorem x20_tame {zj : Str} {i : Nat} {x : Its} (h : zj.length ≤ 1000) (t : x.tame) : (x20 zj i x).tame := by
  unfold x20
  split
  · exact t
  · simp only [Its.tame, It.tame]; exact ⟨⟨h, fun z e => by cases e⟩, t⟩
theorem x20_flat (zj : Str) (i : Nat) (x : Its) : (x20 zj i x).flat.length ≤ x.flat.length + 1 := by
  unfold x20
  split
  · omega
  · simp [Its.flat, It.flat]
theorem x20_ok {zj : Str} {i : Nat} {x : Its} {d : Int} (h : x.ok d = false) : (x20 zj i x).ok d = false := by
  unfold x20
  split
  · exact h
  · simp [Its.ok, h]
theorem len_flat : ∀ (x : Its), x.len ≤ x.flat.length
  | .nil => by simp [Its.len]
  | .cons x r => by
    have := len_flat r
    have c : 1 ≤ x.flat.length := by cases x <;> simp [It.flat]
    simp only [Its.len, Its.flat, List.length_append]
    omega
def spWithB : Sp := fun vs H Q _ => ∃ (ch nm : Int) (nl : Addr) (zs : List Str), vs = [.int ch, .int nm, .ref nl] ∧ (11 ≤ ch ∧ ch ≤ 20) ∧ 0 ≤ nm ∧ H nl = some (.lst (zs.map V.str)) ∧ 13 ≤ zs.length ∧ (∀ z ∈ zs, isName z = true) ∧
  ∀ v H' x, Same H H' → LAt H' x v → Bd zs x → x.tame → x.flat.length ≤ 20 → Q v H'
section
variable {P : Program} {w : World} {K : PySem.W.Frag} {mg : Str → Option Value} {base : Heap} {f : Addr} {fd : FuncData}
abbrev nWithB : List Str := ["choice", "number", "names", "name", "one", "two", "count", "tag", "cases", "use", "inner", "block", "most", "number_item", "item", "k"]
theorem scWithB : FnScope nWithB ["choice", "number", "names"] (defScope sWithB) := ⟨rfl, rfl, rfl, by decide +kernel, rfl, by decide +kernel, by decide +kernel⟩
theorem ok_withb (F : Fun K "_law_with_blocks" "_law_with_blocks" sWithB f fd) (mint : mg "int" = none) (mr : mg "range" = none) : FnOk P w K mg base CX0 1 f fd ["choice", "number", "names"] spWithB := by
  refine F.ok scWithB (fun vs H Q E h => ?_) (fun cdv A outer s H vs Q E hr h => ?_)
  · obtain ⟨ch, nm, nl, zs, rfl, _⟩ := h
    rfl
  · obtain ⟨ch, nm, nl, zs, rfl, hch, hnm, hnl, hz13, hzn, q⟩ := h
    refine ⟨_, (pss_cons (ps_set (i := 3) scWithB.nd rfl (.inl rfl) (pe_ix (r := rIxL K) ix_list (pv 2) pe_int (fun _ _ => rfl)))
      (pss_cons (ps_set (i := 4) scWithB.nd rfl (.inl rfl) (pe_lst (pa_cons (pe_tup (pa_cons pe_str (pa_cons (pe_ix (r := rIxL K) ix_list (pv 2) pe_int (fun _ _ => rfl)) (pa_cons pe_int pa_nil)))) pa_nil)))
      (pss_cons (ps_set (i := 5) scWithB.nd rfl (.inl rfl) (pe_lst (pa_cons (pe_tup (pa_cons pe_str (pa_cons (pe_ix (r := rIxL K) ix_list (pv 2) pe_int (fun _ _ => rfl)) (pa_cons pe_int pa_nil)))) pa_nil)))
      (pss_cons (ps_if (pt_cmpR op_eq (pv 0) pe_int (nomark _)) (pss_cons (ps_set (i := 6) scWithB.nd rfl (.inl rfl) (pe_ix (r := rIxL K) ix_list (pe_lst (pa_cons pe_int (pa_cons (pe_un un_neg pe_int) (pa_cons (pe_op op_add pe_int (pv 1)) (pa_cons (pe_ix (r := rIxL K) ix_list (pv 2) pe_int (fun _ _ => rfl)) pa_nil))))) (pe_op op_mod (pe_callTy (r := rInt1) call_int1 (by rfl) mint (by decide +kernel) (pa_cons (pv 1) pa_nil)) pe_int) (fun _ _ => rfl)))
      (pss_one (ps_ret (pe_lst (pa_cons (pe_tup (pa_cons pe_str (pa_cons (pv 3) (pa_cons (pv 6) (pa_cons (pv 4) pa_nil))))) pa_nil))))) pss_nil)
      (pss_cons (ps_if (pt_cmpR op_eq (pv 0) pe_int (nomark _)) (pss_one (ps_ret (pe_lst (pa_cons (pe_tup (pa_cons pe_str (pa_cons (pv 3) (pa_cons pe_int (pa_cons (pe_ix (r := rIxL K) ix_list (pe_lst (pa_cons (pe_lst pa_nil) (pa_cons (pv 5) (pa_cons (pe_lst (pa_cons (pe_tup (pa_cons pe_str (pa_cons (pe_ix (r := rIxL K) ix_list (pv 2) pe_int (fun _ _ => rfl)) (pa_cons pe_int (pa_cons pe_int pa_nil))))) pa_nil)) (pa_cons (pe_lst (pa_cons (pe_tup (pa_cons pe_str (pa_cons (pe_ix (r := rIxL K) ix_list (pv 2) pe_int (fun _ _ => rfl)) (pa_cons pe_int (pa_cons (pe_lst (pa_cons (pe_tup (pa_cons pe_str (pa_cons (pe_ix (r := rIxL K) ix_list (pv 2) pe_int (fun _ _ => rfl)) (pa_cons pe_int pa_nil)))) pa_nil)) pa_nil))))) pa_nil)) pa_nil))))) (pe_op op_mod (pe_callTy (r := rInt1) call_int1 (by rfl) mint (by decide +kernel) (pa_cons (pv 1) pa_nil)) pe_int) (fun _ _ => rfl)) pa_nil))))) pa_nil)))) pss_nil)
      (pss_cons (ps_if (pt_cmpR op_eq (pv 0) pe_int (nomark _)) (pss_one (ps_ret (pe_lst (pa_cons (pe_tup (pa_cons pe_str (pa_cons (pv 3) (pa_cons (pe_ix (r := rIxL K) ix_list (pe_lst (pa_cons (pe_lst (pa_cons (pv 4) pa_nil)) (pa_cons (pe_lst pa_nil) (pa_cons (pe_lst (pa_cons (pv 4) (pa_cons (pe_lst pa_nil) (pa_cons (pv 5) (pa_cons (pe_lst pa_nil) (pa_cons (pe_lst pa_nil) pa_nil)))))) (pa_cons (pe_lst (pa_cons (pe_lst pa_nil) (pa_cons (pv 5) pa_nil))) (pa_cons (pe_lst (pa_cons (pv 5) (pa_cons (pe_lst pa_nil) pa_nil))) (pa_cons (pe_lst (pa_cons (pv 4) (pa_cons (pe_lst pa_nil) (pa_cons (pv 5) pa_nil)))) pa_nil))))))) (pe_op op_mod (pe_callTy (r := rInt1) call_int1 (by rfl) mint (by decide +kernel) (pa_cons (pv 1) pa_nil)) pe_int) (fun _ _ => rfl)) pa_nil)))) pa_nil)))) pss_nil)
      (pss_cons (ps_if (pt_cmpR op_eq (pv 0) pe_int (nomark _)) (pss_cons (ps_set (i := 7) scWithB.nd rfl (.inl rfl) (pe_tup (pa_cons pe_str (pa_cons (pe_ix (r := rIxL K) ix_list (pv 2) pe_int (fun _ _ => rfl)) (pa_cons pe_int (pa_cons pe_str (pa_cons pe_int (pa_cons pe_int pa_nil))))))))
      (pss_cons (ps_set (i := 8) scWithB.nd rfl (.inl rfl) (pe_ix (r := rIxL K) ix_list (pe_lst (pa_cons (pe_lst pa_nil) (pa_cons (pe_lc (own := [("k", 15)]) (g := gName 15) (tt := tYes) rfl scWithB.nd (pi_range1 (by rfl) mr (pa_cons pe_int pa_nil)) (blkOk_by (own := [("k", 15)]) (N := nWithB) (sc := defScope sWithB) (by decide +kernel)) (fun _ _ _ _ _ => pg_name (i := 15) scWithB.nd rfl (Or.inl rfl)) (fun _ _ _ _ _ => pts_nil) (fun _ _ _ _ _ => (pe_tup (pa_cons (pv 15) (pa_cons (pe_lst pa_nil) pa_nil))))) (pa_cons (pe_lst (pa_cons (pe_tup (pa_cons (pv 1) (pa_cons (pv 4) pa_nil))) (pa_cons (pe_tup (pa_cons pe_int (pa_cons (pe_lst pa_nil) pa_nil))) (pa_cons (pe_tup (pa_cons (pv 1) (pa_cons (pe_lst pa_nil) pa_nil))) pa_nil)))) (pa_cons (pe_lst (pa_cons (pe_tup (pa_cons pe_int (pa_cons (pe_lst pa_nil) pa_nil))) pa_nil)) (pa_cons (pe_lst (pa_cons (pe_tup (pa_cons (pe_un un_neg pe_int) (pa_cons (pv 4) pa_nil))) pa_nil)) pa_nil)))))) (pe_op op_mod (pe_callTy (r := rInt1) call_int1 (by rfl) mint (by decide +kernel) (pa_cons (pv 1) pa_nil)) pe_int) (fun _ _ => rfl)))
      (pss_one (ps_ret (pe_lst (pa_cons (pv 7) (pa_cons (pe_tup (pa_cons pe_str (pa_cons (pv 3) (pa_cons (pe_ix (r := rIxL K) ix_list (pv 2) pe_int (fun _ _ => rfl)) (pa_cons (pv 8) pa_nil))))) pa_nil))))))) pss_nil)
      (pss_cons (ps_if (pt_cmpR op_eq (pv 0) pe_int (nomark _)) (pss_one (ps_ret (pe_lst (pa_cons (pe_tup (pa_cons pe_str (pa_cons (pe_ix (r := rIxL K) ix_list (pv 2) pe_int (fun _ _ => rfl)) (pa_cons pe_int pa_nil)))) (pa_cons (pe_tup (pa_cons pe_str (pa_cons (pv 3) (pa_cons (pe_ix (r := rIxL K) ix_list (pe_lst (pa_cons (pe_ix (r := rIxL K) ix_list (pv 2) pe_int (fun _ _ => rfl)) (pa_cons (pe_ix (r := rIxL K) ix_list (pv 2) pe_int (fun _ _ => rfl)) (pa_cons (pv 3) pa_nil)))) (pe_op op_mod (pe_callTy (r := rInt1) call_int1 (by rfl) mint (by decide +kernel) (pa_cons (pv 1) pa_nil)) pe_int) (fun _ _ => rfl)) (pa_cons (pe_lst (pa_cons (pe_tup (pa_cons pe_int (pa_cons (pe_lst pa_nil) pa_nil))) pa_nil)) pa_nil))))) pa_nil))))) pss_nil)
      (pss_cons (ps_if (pt_cmpR op_eq (pv 0) pe_int (nomark _)) (pss_one (ps_ret (pe_lst (pa_cons (pe_tup (pa_cons pe_str (pa_cons (pv 3) (pa_cons pe_int pa_nil)))) (pa_cons (pe_tup (pa_cons pe_str (pa_cons (pe_ix (r := rIxL K) ix_list (pv 2) pe_int (fun _ _ => rfl)) (pa_cons pe_int pa_nil)))) pa_nil))))) pss_nil)
      (pss_cons (ps_if (pt_cmpR op_eq (pv 0) pe_int (nomark _)) (pss_cons (ps_set (i := 9) scWithB.nd rfl (.inl rfl) (pe_ix (r := rIxL K) ix_list (pe_lst (pa_cons (pe_tup (pa_cons pe_str (pa_cons (pv 3) (pa_cons (pe_ix (r := rIxL K) ix_list (pv 2) pe_int (fun _ _ => rfl)) pa_nil)))) (pa_cons (pe_tup (pa_cons pe_str (pa_cons (pv 3) (pa_cons (pe_ix (r := rIxL K) ix_list (pv 2) pe_int (fun _ _ => rfl)) (pa_cons (pe_lst (pa_cons (pe_tup (pa_cons pe_str (pa_cons (pe_ix (r := rIxL K) ix_list (pv 2) pe_int (fun _ _ => rfl)) (pa_cons pe_int pa_nil)))) pa_nil)) pa_nil))))) (pa_cons (pe_tup (pa_cons pe_str (pa_cons (pv 3) (pa_cons (pe_ix (r := rIxL K) ix_list (pv 2) pe_int (fun _ _ => rfl)) (pa_cons (pe_lst (pa_cons (pe_tup (pa_cons pe_int (pa_cons (pe_lst pa_nil) pa_nil))) pa_nil)) pa_nil))))) pa_nil)))) (pe_op op_mod (pe_callTy (r := rInt1) call_int1 (by rfl) mint (by decide +kernel) (pa_cons (pv 1) pa_nil)) pe_int) (fun _ _ => rfl)))
      (pss_one (ps_ret (pe_lst (pa_cons (pv 9) (pa_cons (pe_tup (pa_cons pe_str (pa_cons (pe_ix (r := rIxL K) ix_list (pv 2) pe_int (fun _ _ => rfl)) (pa_cons pe_int (pa_cons pe_str (pa_cons pe_int (pa_cons pe_int pa_nil))))))) pa_nil)))))) pss_nil)
      (pss_cons (ps_if (pt_cmpR op_eq (pv 0) pe_int (nomark _)) (pss_cons (ps_set (i := 10) scWithB.nd rfl (.inl rfl) (pe_tup (pa_cons pe_str (pa_cons (pe_ix (r := rIxL K) ix_list (pv 2) pe_int (fun _ _ => rfl)) (pa_cons pe_int (pa_cons pe_str (pa_cons pe_int (pa_cons pe_int pa_nil))))))))
      (pss_cons (ps_if (pt_cmpR op_eq (pe_op op_mod (pe_callTy (r := rInt1) call_int1 (by rfl) mint (by decide +kernel) (pa_cons (pv 1) pa_nil)) pe_int) pe_int (nomark _)) (pss_one (ps_ret (pe_lst (pa_cons (pe_tup (pa_cons pe_str (pa_cons (pv 3) (pa_cons (pe_lst (pa_cons (pe_lst (pa_cons (pv 10) pa_nil)) (pa_cons (pe_lst (pa_cons (pe_tup (pa_cons pe_str (pa_cons (pe_ix (r := rIxL K) ix_list (pv 2) pe_int (fun _ _ => rfl)) (pa_cons (pe_ix (r := rIxL K) ix_list (pv 2) pe_int (fun _ _ => rfl)) pa_nil)))) pa_nil)) pa_nil))) pa_nil)))) pa_nil)))) pss_nil)
      (pss_cons (ps_set (i := 11) scWithB.nd rfl (.inl rfl) (pe_ix (r := rIxL K) ix_list (pe_lst (pa_cons (pe_tup (pa_cons pe_str (pa_cons (pv 3) (pa_cons (pe_lst (pa_cons (pe_lst (pa_cons (pv 10) pa_nil)) (pa_cons (pe_lst pa_nil) pa_nil))) pa_nil)))) (pa_cons (pe_tup (pa_cons pe_str (pa_cons (pv 3) (pa_cons pe_int (pa_cons (pe_lst (pa_cons (pv 10) pa_nil)) pa_nil))))) pa_nil))) (pe_op op_mod (pe_callTy (r := rInt1) call_int1 (by rfl) mint (by decide +kernel) (pa_cons (pv 1) pa_nil)) pe_int) (fun _ _ => rfl)))
      (pss_one (ps_ret (pe_lst (pa_cons (pv 11) (pa_cons (pe_ix (r := rIxL K) ix_list (pe_lst (pa_cons (pe_tup (pa_cons pe_str (pa_cons (pe_ix (r := rIxL K) ix_list (pv 2) pe_int (fun _ _ => rfl)) (pa_cons (pe_ix (r := rIxL K) ix_list (pv 2) pe_int (fun _ _ => rfl)) pa_nil)))) (pa_cons (pe_tup (pa_cons pe_str (pa_cons (pe_ix (r := rIxL K) ix_list (pv 2) pe_int (fun _ _ => rfl)) (pa_cons (pe_ix (r := rIxL K) ix_list (pv 2) pe_int (fun _ _ => rfl)) (pa_cons (pe_lst (pa_cons (pe_tup (pa_cons pe_int (pa_cons (pe_lst pa_nil) pa_nil))) pa_nil)) pa_nil))))) pa_nil))) (pe_op op_mod (pe_op op_fdiv (pv 1) pe_int) pe_int) (fun _ _ => rfl)) pa_nil)))))))) pss_nil)
      (pss_cons (ps_if (pt_cmpR op_eq (pv 0) pe_int (nomark _)) (pss_cons (ps_set (i := 12) scWithB.nd rfl (.inl rfl) (pe_ix (r := rIxL K) ix_list (pe_lst (pa_cons pe_int (pa_cons pe_int pa_nil))) (pe_op op_mod (pe_callTy (r := rInt1) call_int1 (by rfl) mint (by decide +kernel) (pa_cons (pv 1) pa_nil)) pe_int) (fun _ _ => rfl)))
      (pss_cons (ps_set (i := 13) scWithB.nd rfl (.inl rfl) (pe_tup (pa_cons pe_str (pa_cons (pe_ix (r := rIxL K) ix_list (pv 2) pe_int (fun _ _ => rfl)) (pa_cons pe_int (pa_cons pe_str (pa_cons pe_int (pa_cons (pv 12) pa_nil))))))))
      (pss_one (ps_ret (pe_lst (pa_cons (pv 13) (pa_cons (pe_ix (r := rIxL K) ix_list (pe_lst (pa_cons (pe_tup (pa_cons pe_str (pa_cons (pv 3) (pa_cons (pe_ix (r := rIxL K) ix_list (pv 2) pe_int (fun _ _ => rfl)) pa_nil)))) (pa_cons (pe_tup (pa_cons pe_str (pa_cons (pv 3) (pa_cons (pe_ix (r := rIxL K) ix_list (pv 2) pe_int (fun _ _ => rfl)) (pa_cons (pe_op op_cat (pe_slice sl_list (pv 4) po_none (po_some pe_int)) (pe_lst (pa_cons (pe_tup (pa_cons pe_str (pa_cons (pe_ix (r := rIxL K) ix_list (pv 2) pe_int (fun _ _ => rfl)) (pa_cons pe_int pa_nil)))) pa_nil))) pa_nil))))) pa_nil))) (pe_op op_mod (pe_callTy (r := rInt1) call_int1 (by rfl) mint (by decide +kernel) (pa_cons (pv 1) pa_nil)) pe_int) (fun _ _ => rfl)) pa_nil))))))) pss_nil)
      (pss_cons (ps_if (pt_cmpR op_eq (pe_op op_mod (pe_callTy (r := rInt1) call_int1 (by rfl) mint (by decide +kernel) (pa_cons (pv 1) pa_nil)) pe_int) pe_int (nomark _)) (pss_cons (ps_set (i := 10) scWithB.nd rfl (.inl rfl) (pe_lst (pa_cons (pe_tup (pa_cons pe_str (pa_cons (pe_ix (r := rIxL K) ix_list (pv 2) pe_int (fun _ _ => rfl)) (pa_cons pe_int (pa_cons pe_str (pa_cons pe_int (pa_cons pe_int pa_nil))))))) (pa_cons (pe_tup (pa_cons pe_str (pa_cons (pe_ix (r := rIxL K) ix_list (pv 2) pe_int (fun _ _ => rfl)) (pa_cons (pe_ix (r := rIxL K) ix_list (pv 2) pe_int (fun _ _ => rfl)) (pa_cons (pe_lst (pa_cons (pe_tup (pa_cons pe_int (pa_cons (pe_lst pa_nil) pa_nil))) pa_nil)) pa_nil))))) pa_nil))))
      (pss_cons (ps_for PassesOwn.never rfl (pi_range1 (by rfl) mr (pa_cons pe_int pa_nil)) (pg_name (i := 15) scWithB.nd rfl (.inl rfl))
        (pss_one (ps_set (i := 10) scWithB.nd rfl (.inl rfl) (pe_lst (pa_cons (pe_tup (pa_cons pe_str (pa_cons (pe_ix (r := rIxL K) ix_list (pv 2) (pv 15) (fun _ _ => rfl)) (pa_cons pe_int (pa_cons (pe_op op_cat (pe_op op_rep (pe_lst (pa_cons (pe_tup (pa_cons pe_str (pa_cons (pe_ix (r := rIxL K) ix_list (pv 2) (pe_op op_add pe_int (pv 15)) (fun _ _ => rfl)) (pa_cons pe_int pa_nil)))) pa_nil)) (pe_callTy (r := rInt1) call_int1 (by rfl) mint (by decide +kernel) (pa_cons (pe_cmpR op_gt (pv 15) pe_int (nomark _)) pa_nil))) (pv 10)) pa_nil))))) pa_nil)))))
      (pss_one (ps_ret (pv 10))))) pss_nil)
      (pss_cons (ps_set (i := 14) scWithB.nd rfl (.inl rfl) (pe_tup (pa_cons pe_str (pa_cons (pe_ix (r := rIxL K) ix_list (pv 2) pe_int (fun _ _ => rfl)) (pa_cons pe_int pa_nil)))))
      (pss_cons (ps_for PassesOwn.never rfl (pi_range1 (by rfl) mr (pa_cons pe_int pa_nil)) (pg_name (i := 15) scWithB.nd rfl (.inl rfl))
        (pss_one (ps_set (i := 14) scWithB.nd rfl (.inl rfl) (pe_ix (r := rIxL K) ix_list (pe_lst (pa_cons (pe_tup (pa_cons pe_str (pa_cons (pe_ix (r := rIxL K) ix_list (pv 2) (pv 15) (fun _ _ => rfl)) (pa_cons pe_int (pa_cons (pe_lst (pa_cons (pv 14) pa_nil)) pa_nil))))) (pa_cons (pe_tup (pa_cons pe_str (pa_cons (pe_ix (r := rIxL K) ix_list (pv 2) (pv 15) (fun _ _ => rfl)) (pa_cons (pe_lst (pa_cons (pe_lst (pa_cons (pv 14) pa_nil)) (pa_cons (pe_lst pa_nil) pa_nil))) pa_nil)))) pa_nil))) (pe_op op_mod (pe_op op_fdiv (pv 1) (pe_op op_add (pv 15) pe_int)) pe_int) (fun _ _ => rfl)))))
      (pss_one (ps_ret (pe_lst (pa_cons (pv 14) pa_nil))))))))))))))))))), ?_⟩
    have gz : ∀ (i : Nat) (hi : i < 13), ∃ z, zs[i]? = some z ∧ isName z = true ∧ z ∈ zs := fun i hi => by
      have g : zs[i]? = some (zs[i]'(by omega)) := List.getElem?_eq_getElem (by omega)
      exact ⟨_, g, hzn _ (List.mem_of_getElem? g), List.mem_of_getElem? g⟩
    obtain ⟨z0, g0', n0, m0⟩ := gz 0 (by decide)
    have gz0 : atI (zs.map V.str) 0 = some (.str z0) := atI_nat (j := 0) (by rw [List.getElem?_map, g0']; rfl)
    obtain ⟨z1, g1', n1, m1⟩ := gz 1 (by decide)
    have gz1 : atI (zs.map V.str) 1 = some (.str z1) := atI_nat (j := 1) (by rw [List.getElem?_map, g1']; rfl)
    obtain ⟨z2, g2', n2, m2⟩ := gz 2 (by decide)
    have gz2 : atI (zs.map V.str) 2 = some (.str z2) := atI_nat (j := 2) (by rw [List.getElem?_map, g2']; rfl)
    obtain ⟨z3, g3', n3, m3⟩ := gz 3 (by decide)
    have gz3 : atI (zs.map V.str) 3 = some (.str z3) := atI_nat (j := 3) (by rw [List.getElem?_map, g3']; rfl)
    obtain ⟨z4, g4', n4, m4⟩ := gz 4 (by decide)
    have gz4 : atI (zs.map V.str) 4 = some (.str z4) := atI_nat (j := 4) (by rw [List.getElem?_map, g4']; rfl)
    obtain ⟨z5, g5', n5, m5⟩ := gz 5 (by decide)
    have gz5 : atI (zs.map V.str) 5 = some (.str z5) := atI_nat (j := 5) (by rw [List.getElem?_map, g5']; rfl)
    obtain ⟨z6, g6', n6, m6⟩ := gz 6 (by decide)
    have gz6 : atI (zs.map V.str) 6 = some (.str z6) := atI_nat (j := 6) (by rw [List.getElem?_map, g6']; rfl)
    obtain ⟨z7, g7', n7, m7⟩ := gz 7 (by decide)
    have gz7 : atI (zs.map V.str) 7 = some (.str z7) := atI_nat (j := 7) (by rw [List.getElem?_map, g7']; rfl)
    have md : ∀ m : Nat, 0 < m → ∃ j : Nat, j < m ∧ nm % (m : Int) = (j : Int) := fun m hm => ⟨(nm % (m : Int)).toNat, by have := Int.emod_lt_of_pos nm (show (0 : Int) < m by omega); have := Int.emod_nonneg nm (show (m : Int) ≠ 0 by omega); omega, by have := Int.emod_nonneg nm (show (m : Int) ≠ 0 by omega); omega⟩
    have l0 := nm_tame n0
    have l1 := nm_tame n1
    have l2 := nm_tame n2
    have l3 := nm_tame n3
    have l4 := nm_tame n4
    have t1 : ∀ z : Str, z = z1 → z.length ≤ 1000 ∧ (reprText z).length ≤ 1000 := fun z e => by rw [e]; exact ⟨l1, (name_repr n1).2⟩
    have e02 : (0 : Int) < 2 := by decide
    refine ⟨_, rfl, nl, _, _, _, rfl, rfl, SqL.of hnl, gz0, ?_⟩
    refine g_nx ?_; (try dsimp only); refine seq_asg ?_; refine Dd.go (K := K) (H0 := H) (.lst (.cons (.tup (.cons (.sc (tC (.str "bytes")) (.str "bytes")) (.cons (.sc (tOp (rIxL K) (tVar 2) (tC (.int 1))) (.str z1)) (.cons (.sc (tC (.int 1)) (.int 1)) .nil)))) .nil)) rfl ?_ (Same.refl _) fun v1 H1 s1 h => ?_; exact ⟨(Nat.le_of_ble_eq_true rfl), ⟨⟨(Nat.le_of_ble_eq_true rfl), ⟨(fun _ _ _ q => q), ⟨(fun _ _ s q => ⟨_, rfl, nl, _, _, _, rfl, rfl, SqL.of (s _ _ hnl), gz1, q⟩), ⟨(fun _ _ _ q => q), trivial⟩⟩⟩⟩, trivial⟩⟩
    have h1 : LAt H1 (.cons (.byt z1 (.inl 1)) .nil) v1 := ML.at (by exact (.lst (.cons (.byt rfl) .nil))) h
    have hnl := s1 _ _ hnl
    refine g_nx ?_; (try dsimp only); refine seq_asg ?_; refine Dd.go (K := K) (H0 := H1) (.lst (.cons (.tup (.cons (.sc (tC (.str "bytes")) (.str "bytes")) (.cons (.sc (tOp (rIxL K) (tVar 2) (tC (.int 2))) (.str z2)) (.cons (.sc (tC (.int 0)) (.int 0)) .nil)))) .nil)) rfl ?_ (Same.refl _) fun v2 H2 s2 h => ?_; exact ⟨(Nat.le_of_ble_eq_true rfl), ⟨⟨(Nat.le_of_ble_eq_true rfl), ⟨(fun _ _ _ q => q), ⟨(fun _ _ s q => ⟨_, rfl, nl, _, _, _, rfl, rfl, SqL.of (s _ _ hnl), gz2, q⟩), ⟨(fun _ _ _ q => q), trivial⟩⟩⟩⟩, trivial⟩⟩
    have h2 : LAt H2 (.cons (.byt z2 (.inl 0)) .nil) v2 := ML.at (by exact (.lst (.cons (.byt rfl) .nil))) h
    have h1 := LAt.same s2 h1
    have hnl := s2 _ _ hnl
    have s12 := s1.trans s2
    obtain ⟨c, hc, rfl⟩ : ∃ c : Nat, c ≤ 9 ∧ ch = (11 : Int) + (c : Int) := ⟨(ch - 11).toNat, by omega, by omega⟩
    match c, hc with
    | 0, _ =>
      refine ⟨_, rfl, rfl, _, rfl, iyes rfl ?_⟩
      obtain ⟨j, hj, ej⟩ := md 4 (by decide)
      have ej : nm % 4 = (j : Int) := ej
      (try dsimp only); refine seq_asg ?_; refine Dd.go (K := K) (H0 := H2) (.pick (.cons (.sc (tC (.int 17)) (.int 17)) (.cons (.sc (tUn (rU fun i => V.int (-i)) (tC (.int 1))) (.int (-1))) (.cons (.sc (tOp (rI0 fun i j => V.int (i + j)) (tC (.int 17)) (tVar 1)) (.int (17 + nm))) (.cons (.sc (tOp (rIxL K) (tVar 2) (tC (.int 3))) (.str z3)) .nil)))) (tOp (rI (fun x j => 0 < j) fun i j => V.int (i % j)) (tCB rInt1 (tCons (tVar 1) tNil)) (tC (.int 4))) j) rfl ?_ (Same.refl _) fun vc H3 s3 h => ?_; exact ⟨(Nat.le_of_ble_eq_true rfl), ⟨(fun _ _ _ q => q), ⟨(fun _ _ _ q => ⟨_, rfl, q⟩), ⟨(fun _ _ _ q => ⟨_, rfl, _, _, rfl, rfl, q⟩), ⟨(fun _ _ s q => ⟨_, rfl, nl, _, _, _, rfl, rfl, SqL.of (s _ _ hnl), gz3, q⟩), trivial⟩⟩⟩⟩, hj, (fun _ Q _ q => ⟨_, rfl, .inl ⟨_, rfl, _, _, rfl, rfl, (by show (0 : Int) < 4; decide), (by show Q (.int (nm % 4)) _; rw [ej]; exact q)⟩⟩)⟩
      have hnl := s3 _ _ hnl
      have h1 := LAt.same s3 h1
      match j, hj, h with
      | 0, _, h =>
        simp only [Dd.at, Dds.atN] at h
        subst h
        refine g_nx ?_; (try dsimp only); refine Dd.run (K := K) (H0 := H3) (.lst (.cons (.tup (.cons (.sc (tC (.str "repeat")) (.str "repeat")) (.cons (.sc (tVar 3) (.str z0)) (.cons (.sc (tVar 6) (.int 17)) (.cons (Dd.ls (tVar 4) (.cons (.byt z1 (.inl 1)) .nil)) .nil))))) .nil)) ?_ (Same.refl _) fun v H' s4 h => ?_; exact ⟨(Nat.le_of_ble_eq_true rfl), ⟨⟨(Nat.le_of_ble_eq_true rfl), ⟨(fun _ _ _ q => q), ⟨(fun _ _ _ q => ⟨_, rfl, q⟩), ⟨(fun _ _ _ q => ⟨_, rfl, q⟩), ⟨(fun _ _ s q => ⟨_, rfl, q _ _ (Same.refl _) (LAt.same s h1)⟩), trivial⟩⟩⟩⟩⟩, trivial⟩⟩
        exact q v H' (.cons (.rep z0 (.inl 17) (.cons (.byt z1 (.inl 1)) .nil)) .nil) (s12.trans (s3.trans s4)) (ML.at (by exact (.lst (.cons (.rep rfl rfl rfl (.gen fun _ h => h)) .nil))) h) (bad_rep_am fun f nf => am_int (by omega)) (by simp only [Its.tame, It.tame, Blks.tame, It.name]; exact ⟨⟨l0, (fun z e => (by cases e)), ⟨l1, (fun z e => (by cases e))⟩, trivial⟩, trivial⟩) (by simp [Its.flat, It.flat, Blks.flat])
      | 1, _, h =>
        simp only [Dd.at, Dds.atN] at h
        subst h
        refine g_nx ?_; (try dsimp only); refine Dd.run (K := K) (H0 := H3) (.lst (.cons (.tup (.cons (.sc (tC (.str "repeat")) (.str "repeat")) (.cons (.sc (tVar 3) (.str z0)) (.cons (.sc (tVar 6) (.int (-1))) (.cons (Dd.ls (tVar 4) (.cons (.byt z1 (.inl 1)) .nil)) .nil))))) .nil)) ?_ (Same.refl _) fun v H' s4 h => ?_; exact ⟨(Nat.le_of_ble_eq_true rfl), ⟨⟨(Nat.le_of_ble_eq_true rfl), ⟨(fun _ _ _ q => q), ⟨(fun _ _ _ q => ⟨_, rfl, q⟩), ⟨(fun _ _ _ q => ⟨_, rfl, q⟩), ⟨(fun _ _ s q => ⟨_, rfl, q _ _ (Same.refl _) (LAt.same s h1)⟩), trivial⟩⟩⟩⟩⟩, trivial⟩⟩
        exact q v H' (.cons (.rep z0 (.inl (-1)) (.cons (.byt z1 (.inl 1)) .nil)) .nil) (s12.trans (s3.trans s4)) (ML.at (by exact (.lst (.cons (.rep rfl rfl rfl (.gen fun _ h => h)) .nil))) h) (bad_rep_am fun f nf => am_int (by omega)) (by simp only [Its.tame, It.tame, Blks.tame, It.name]; exact ⟨⟨l0, (fun z e => (by cases e)), ⟨l1, (fun z e => (by cases e))⟩, trivial⟩, trivial⟩) (by simp [Its.flat, It.flat, Blks.flat])
      | 2, _, h =>
        simp only [Dd.at, Dds.atN] at h
        subst h
        refine g_nx ?_; (try dsimp only); refine Dd.run (K := K) (H0 := H3) (.lst (.cons (.tup (.cons (.sc (tC (.str "repeat")) (.str "repeat")) (.cons (.sc (tVar 3) (.str z0)) (.cons (.sc (tVar 6) (.int (17 + nm))) (.cons (Dd.ls (tVar 4) (.cons (.byt z1 (.inl 1)) .nil)) .nil))))) .nil)) ?_ (Same.refl _) fun v H' s4 h => ?_; exact ⟨(Nat.le_of_ble_eq_true rfl), ⟨⟨(Nat.le_of_ble_eq_true rfl), ⟨(fun _ _ _ q => q), ⟨(fun _ _ _ q => ⟨_, rfl, q⟩), ⟨(fun _ _ _ q => ⟨_, rfl, q⟩), ⟨(fun _ _ s q => ⟨_, rfl, q _ _ (Same.refl _) (LAt.same s h1)⟩), trivial⟩⟩⟩⟩⟩, trivial⟩⟩
        exact q v H' (.cons (.rep z0 (.inl (17 + nm)) (.cons (.byt z1 (.inl 1)) .nil)) .nil) (s12.trans (s3.trans s4)) (ML.at (by exact (.lst (.cons (.rep rfl rfl rfl (.gen fun _ h => h)) .nil))) h) (bad_rep_am fun f nf => am_int (by omega)) (by simp only [Its.tame, It.tame, Blks.tame, It.name]; exact ⟨⟨l0, (fun z e => (by cases e)), ⟨l1, (fun z e => (by cases e))⟩, trivial⟩, trivial⟩) (by simp [Its.flat, It.flat, Blks.flat])
      | 3, _, h =>
        simp only [Dd.at, Dds.atN] at h
        subst h
        refine g_nx ?_; (try dsimp only); refine Dd.run (K := K) (H0 := H3) (.lst (.cons (.tup (.cons (.sc (tC (.str "repeat")) (.str "repeat")) (.cons (.sc (tVar 3) (.str z0)) (.cons (.sc (tVar 6) (.str z3)) (.cons (Dd.ls (tVar 4) (.cons (.byt z1 (.inl 1)) .nil)) .nil))))) .nil)) ?_ (Same.refl _) fun v H' s4 h => ?_; exact ⟨(Nat.le_of_ble_eq_true rfl), ⟨⟨(Nat.le_of_ble_eq_true rfl), ⟨(fun _ _ _ q => q), ⟨(fun _ _ _ q => ⟨_, rfl, q⟩), ⟨(fun _ _ _ q => ⟨_, rfl, q⟩), ⟨(fun _ _ s q => ⟨_, rfl, q _ _ (Same.refl _) (LAt.same s h1)⟩), trivial⟩⟩⟩⟩⟩, trivial⟩⟩
        exact q v H' (.cons (.rep z0 (.inr z3) (.cons (.byt z1 (.inl 1)) .nil)) .nil) (s12.trans (s3.trans s4)) (ML.at (by exact (.lst (.cons (.rep rfl rfl rfl (.gen fun _ h => h)) .nil))) h) (bad_rep_am fun f nf => am_str m3 nf) (by simp only [Its.tame, It.tame, Blks.tame, It.name]; exact ⟨⟨l0, (fun z e => (by cases e; exact ⟨l3, (name_repr n3).2⟩)), ⟨l1, (fun z e => (by cases e))⟩, trivial⟩, trivial⟩) (by simp [Its.flat, It.flat, Blks.flat])
      | n + 4, hj, _ => exact absurd hj (by omega)
    | 1, _ =>
      refine ⟨_, rfl, rfl, _, rfl, ino (by decide) ?_⟩
      refine ⟨_, rfl, rfl, _, rfl, iyes rfl ?_⟩
      obtain ⟨j, hj, ej⟩ := md 4 (by decide)
      have ej : nm % 4 = (j : Int) := ej
      refine Dd.run (K := K) (H0 := H2) (.lst (.cons (.tup (.cons (.sc (tC (.str "repeat")) (.str "repeat")) (.cons (.sc (tVar 3) (.str z0)) (.cons (.sc (tC (.int 2)) (.int 2)) (.cons (.pick (.cons (.lst .nil) (.cons (Dd.ls (tVar 5) (.cons (.byt z2 (.inl 0)) .nil)) (.cons (.lst (.cons (.tup (.cons (.sc (tC (.str "pad")) (.str "pad")) (.cons (.sc (tOp (rIxL K) (tVar 2) (tC (.int 1))) (.str z1)) (.cons (.sc (tC (.int 8)) (.int 8)) (.cons (.sc (tC (.int 0)) (.int 0)) .nil))))) .nil)) (.cons (.lst (.cons (.tup (.cons (.sc (tC (.str "repeat")) (.str "repeat")) (.cons (.sc (tOp (rIxL K) (tVar 2) (tC (.int 1))) (.str z1)) (.cons (.sc (tC (.int 0)) (.int 0)) (.cons (.lst (.cons (.tup (.cons (.sc (tC (.str "check")) (.str "check")) (.cons (.sc (tOp (rIxL K) (tVar 2) (tC (.int 2))) (.str z2)) (.cons (.sc (tC (.int 3)) (.int 3)) .nil)))) .nil)) .nil))))) .nil)) .nil)))) (tOp (rI (fun x j => 0 < j) fun i j => V.int (i % j)) (tCB rInt1 (tCons (tVar 1) tNil)) (tC (.int 4))) j) .nil))))) .nil)) ?_ (Same.refl _) fun v H' s3 h => ?_; exact ⟨(Nat.le_of_ble_eq_true rfl), ⟨⟨(Nat.le_of_ble_eq_true rfl), ⟨(fun _ _ _ q => q), ⟨(fun _ _ _ q => ⟨_, rfl, q⟩), ⟨(fun _ _ _ q => q), ⟨⟨(Nat.le_of_ble_eq_true rfl), ⟨⟨(Nat.le_of_ble_eq_true rfl), trivial⟩, ⟨(fun _ _ s q => ⟨_, rfl, q _ _ (Same.refl _) (LAt.same s h2)⟩), ⟨⟨(Nat.le_of_ble_eq_true rfl), ⟨⟨(Nat.le_of_ble_eq_true rfl), ⟨(fun _ _ _ q => q), ⟨(fun _ _ s q => ⟨_, rfl, nl, _, _, _, rfl, rfl, SqL.of (s _ _ hnl), gz1, q⟩), ⟨(fun _ _ _ q => q), ⟨(fun _ _ _ q => q), trivial⟩⟩⟩⟩⟩, trivial⟩⟩, ⟨⟨(Nat.le_of_ble_eq_true rfl), ⟨⟨(Nat.le_of_ble_eq_true rfl), ⟨(fun _ _ _ q => q), ⟨(fun _ _ s q => ⟨_, rfl, nl, _, _, _, rfl, rfl, SqL.of (s _ _ hnl), gz1, q⟩), ⟨(fun _ _ _ q => q), ⟨⟨(Nat.le_of_ble_eq_true rfl), ⟨⟨(Nat.le_of_ble_eq_true rfl), ⟨(fun _ _ _ q => q), ⟨(fun _ _ s q => ⟨_, rfl, nl, _, _, _, rfl, rfl, SqL.of (s _ _ hnl), gz2, q⟩), ⟨(fun _ _ _ q => q), trivial⟩⟩⟩⟩, trivial⟩⟩, trivial⟩⟩⟩⟩⟩, trivial⟩⟩, trivial⟩⟩⟩⟩, hj, (fun _ Q _ q => ⟨_, rfl, .inl ⟨_, rfl, _, _, rfl, rfl, (by show (0 : Int) < 4; decide), (by show Q (.int (nm % 4)) _; rw [ej]; exact q)⟩⟩)⟩, trivial⟩⟩⟩⟩⟩, trivial⟩⟩
      match j, hj, h with
      | 0, _, h => exact q v H' (.cons (.rep z0 (.inl 2) .nil) .nil) (s12.trans s3) (ML.at (by exact (.lst (.cons (.rep rfl rfl rfl (.pick rfl (.lst .nil))) .nil))) h) (bad_rep_zero (fun f => ⟨0, by simp [Its.lens]⟩)) (by simp only [Its.tame, It.tame, Blks.tame, It.name]; exact ⟨⟨l0, (fun z e => (by cases e)), trivial⟩, trivial⟩) (by simp [Its.flat, It.flat, Blks.flat])
      | 1, _, h => exact q v H' (.cons (.rep z0 (.inl 2) (.cons (.byt z2 (.inl 0)) .nil)) .nil) (s12.trans s3) (ML.at (by exact (.lst (.cons (.rep rfl rfl rfl (.pick rfl (.gen fun _ h => h))) .nil))) h) (bad_rep_zero (fun f => ⟨0, by rw [lens_cons]; simp [It.lens, amount, Its.lens]⟩)) (by simp only [Its.tame, It.tame, Blks.tame, It.name]; exact ⟨⟨l0, (fun z e => (by cases e)), ⟨⟨l2, (fun z e => (by cases e))⟩, trivial⟩⟩, trivial⟩) (by simp [Its.flat, It.flat, Blks.flat])
      | 2, _, h => exact q v H' (.cons (.rep z0 (.inl 2) (.cons (.pad z1 8 0) .nil)) .nil) (s12.trans s3) (ML.at (by exact (.lst (.cons (.rep rfl rfl rfl (.pick rfl (.lst (.cons (.pad rfl) .nil)))) .nil))) h) (bad_rep_zero (fun f => ⟨7, by rw [lens_cons]; simp [It.lens, Its.lens]⟩)) (by simp only [Its.tame, It.tame, Blks.tame, It.name]; exact ⟨⟨l0, (fun z e => (by cases e)), ⟨l1, trivial⟩⟩, trivial⟩) (by simp [Its.flat, It.flat, Blks.flat])
      | 3, _, h => exact q v H' (.cons (.rep z0 (.inl 2) (.cons (.rep z1 (.inl 0) (.cons (.chk z2 3) .nil)) .nil)) .nil) (s12.trans s3) (ML.at (by exact (.lst (.cons (.rep rfl rfl rfl (.pick rfl (.lst (.cons (.rep rfl rfl rfl (.lst (.cons (.chk rfl) .nil))) .nil)))) .nil))) h) (bad_rep_zero (fun f => ⟨0, by rw [lens_cons]; simp [It.lens, Its.lens, lens_cons, amount]⟩)) (by simp only [Its.tame, It.tame, Blks.tame, It.name]; exact ⟨⟨l0, (fun z e => (by cases e)), ⟨⟨l1, (fun z e => (by cases e)), l2, trivial⟩, trivial⟩⟩, trivial⟩) (by simp [Its.flat, It.flat, Blks.flat])
      | n + 4, hj, _ => exact absurd hj (by omega)
    | 2, _ =>
      refine ⟨_, rfl, rfl, _, rfl, ino (by decide) ?_⟩
      refine ⟨_, rfl, rfl, _, rfl, ino (by decide) ?_⟩
      refine ⟨_, rfl, rfl, _, rfl, iyes rfl ?_⟩
      obtain ⟨j, hj, ej⟩ := md 6 (by decide)
      have ej : nm % 6 = (j : Int) := ej
      refine Dd.run (K := K) (H0 := H2) (.lst (.cons (.tup (.cons (.sc (tC (.str "either")) (.str "either")) (.cons (.sc (tVar 3) (.str z0)) (.cons (.pick (.cons (.lst (.cons (Dd.ls (tVar 4) (.cons (.byt z1 (.inl 1)) .nil)) .nil)) (.cons (.lst .nil) (.cons (.lst (.cons (Dd.ls (tVar 4) (.cons (.byt z1 (.inl 1)) .nil)) (.cons (.lst .nil) (.cons (Dd.ls (tVar 5) (.cons (.byt z2 (.inl 0)) .nil)) (.cons (.lst .nil) (.cons (.lst .nil) .nil)))))) (.cons (.lst (.cons (.lst .nil) (.cons (Dd.ls (tVar 5) (.cons (.byt z2 (.inl 0)) .nil)) .nil))) (.cons (.lst (.cons (Dd.ls (tVar 5) (.cons (.byt z2 (.inl 0)) .nil)) (.cons (.lst .nil) .nil))) (.cons (.lst (.cons (Dd.ls (tVar 4) (.cons (.byt z1 (.inl 1)) .nil)) (.cons (.lst .nil) (.cons (Dd.ls (tVar 5) (.cons (.byt z2 (.inl 0)) .nil)) .nil)))) .nil)))))) (tOp (rI (fun x j => 0 < j) fun i j => V.int (i % j)) (tCB rInt1 (tCons (tVar 1) tNil)) (tC (.int 6))) j) .nil)))) .nil)) ?_ (Same.refl _) fun v H' s3 h => ?_; exact ⟨(Nat.le_of_ble_eq_true rfl), ⟨⟨(Nat.le_of_ble_eq_true rfl), ⟨(fun _ _ _ q => q), ⟨(fun _ _ _ q => ⟨_, rfl, q⟩), ⟨⟨(Nat.le_of_ble_eq_true rfl), ⟨⟨(Nat.le_of_ble_eq_true rfl), ⟨(fun _ _ s q => ⟨_, rfl, q _ _ (Same.refl _) (LAt.same s h1)⟩), trivial⟩⟩, ⟨⟨(Nat.le_of_ble_eq_true rfl), trivial⟩, ⟨⟨(Nat.le_of_ble_eq_true rfl), ⟨(fun _ _ s q => ⟨_, rfl, q _ _ (Same.refl _) (LAt.same s h1)⟩), ⟨⟨(Nat.le_of_ble_eq_true rfl), trivial⟩, ⟨(fun _ _ s q => ⟨_, rfl, q _ _ (Same.refl _) (LAt.same s h2)⟩), ⟨⟨(Nat.le_of_ble_eq_true rfl), trivial⟩, ⟨⟨(Nat.le_of_ble_eq_true rfl), trivial⟩, trivial⟩⟩⟩⟩⟩⟩, ⟨⟨(Nat.le_of_ble_eq_true rfl), ⟨⟨(Nat.le_of_ble_eq_true rfl), trivial⟩, ⟨(fun _ _ s q => ⟨_, rfl, q _ _ (Same.refl _) (LAt.same s h2)⟩), trivial⟩⟩⟩, ⟨⟨(Nat.le_of_ble_eq_true rfl), ⟨(fun _ _ s q => ⟨_, rfl, q _ _ (Same.refl _) (LAt.same s h2)⟩), ⟨⟨(Nat.le_of_ble_eq_true rfl), trivial⟩, trivial⟩⟩⟩, ⟨⟨(Nat.le_of_ble_eq_true rfl), ⟨(fun _ _ s q => ⟨_, rfl, q _ _ (Same.refl _) (LAt.same s h1)⟩), ⟨⟨(Nat.le_of_ble_eq_true rfl), trivial⟩, ⟨(fun _ _ s q => ⟨_, rfl, q _ _ (Same.refl _) (LAt.same s h2)⟩), trivial⟩⟩⟩⟩, trivial⟩⟩⟩⟩⟩⟩, hj, (fun _ Q _ q => ⟨_, rfl, .inl ⟨_, rfl, _, _, rfl, rfl, (by show (0 : Int) < 6; decide), (by show Q (.int (nm % 6)) _; rw [ej]; exact q)⟩⟩)⟩, trivial⟩⟩⟩⟩, trivial⟩⟩
      match j, hj, h with
      | 0, _, h => exact q v H' (.cons (.eit z0 (.cons 0 (.cons (.byt z1 (.inl 1)) .nil) .nil)) .nil) (s12.trans s3) (ML.at (by exact (.lst (.cons (.eit rfl rfl (.pick rfl (.lst (.cons (.gen fun _ h => h) .nil)))) .nil))) h) (bad_eit_len (by simp [Blks.len])) (by simp only [Its.tame, It.tame, Blks.tame, It.name]; exact ⟨⟨l0, ⟨⟨⟨l1, (fun z e => (by cases e))⟩, trivial⟩, trivial⟩⟩, trivial⟩) (by simp [Its.flat, It.flat, Blks.flat])
      | 1, _, h => exact q v H' (.cons (.eit z0 .nil) .nil) (s12.trans s3) (ML.at (by exact (.lst (.cons (.eit rfl rfl (.pick rfl (.lst .nil))) .nil))) h) (bad_eit_len (by simp [Blks.len])) (by simp only [Its.tame, It.tame, Blks.tame, It.name]; exact ⟨⟨l0, trivial⟩, trivial⟩) (by simp [Its.flat, It.flat, Blks.flat])
      | 2, _, h => exact q v H' (.cons (.eit z0 (.cons 0 (.cons (.byt z1 (.inl 1)) .nil) (.cons 0 .nil (.cons 0 (.cons (.byt z2 (.inl 0)) .nil) (.cons 0 .nil (.cons 0 .nil .nil)))))) .nil) (s12.trans s3) (ML.at (by exact (.lst (.cons (.eit rfl rfl (.pick rfl (.lst (.cons (.gen fun _ h => h) (.cons (.lst .nil) (.cons (.gen fun _ h => h) (.cons (.lst .nil) (.cons (.lst .nil) .nil)))))))) .nil))) h) (bad_eit_len (by simp [Blks.len])) (by simp only [Its.tame, It.tame, Blks.tame, It.name]; exact ⟨⟨l0, ⟨⟨⟨l1, (fun z e => (by cases e))⟩, trivial⟩, ⟨trivial, ⟨⟨⟨l2, (fun z e => (by cases e))⟩, trivial⟩, ⟨trivial, ⟨trivial, trivial⟩⟩⟩⟩⟩⟩, trivial⟩) (by simp [Its.flat, It.flat, Blks.flat])
      | 3, _, h => exact q v H' (.cons (.eit z0 (.cons 0 .nil (.cons 0 (.cons (.byt z2 (.inl 0)) .nil) .nil))) .nil) (s12.trans s3) (ML.at (by exact (.lst (.cons (.eit rfl rfl (.pick rfl (.lst (.cons (.lst .nil) (.cons (.gen fun _ h => h) .nil))))) .nil))) h) (bad_eit_zero fun f => ⟨_, by simp only [Blks.lens, lens_cons, It.lens, amount, Its.lens]; rfl, by decide⟩) (by simp only [Its.tame, It.tame, Blks.tame, It.name]; exact ⟨⟨l0, ⟨trivial, ⟨⟨⟨l2, (fun z e => (by cases e))⟩, trivial⟩, trivial⟩⟩⟩, trivial⟩) (by simp [Its.flat, It.flat, Blks.flat])
      | 4, _, h => exact q v H' (.cons (.eit z0 (.cons 0 (.cons (.byt z2 (.inl 0)) .nil) (.cons 0 .nil .nil))) .nil) (s12.trans s3) (ML.at (by exact (.lst (.cons (.eit rfl rfl (.pick rfl (.lst (.cons (.gen fun _ h => h) (.cons (.lst .nil) .nil))))) .nil))) h) (bad_eit_zero fun f => ⟨_, by simp only [Blks.lens, lens_cons, It.lens, amount, Its.lens]; rfl, by decide⟩) (by simp only [Its.tame, It.tame, Blks.tame, It.name]; exact ⟨⟨l0, ⟨⟨⟨l2, (fun z e => (by cases e))⟩, trivial⟩, ⟨trivial, trivial⟩⟩⟩, trivial⟩) (by simp [Its.flat, It.flat, Blks.flat])
      | 5, _, h => exact q v H' (.cons (.eit z0 (.cons 0 (.cons (.byt z1 (.inl 1)) .nil) (.cons 0 .nil (.cons 0 (.cons (.byt z2 (.inl 0)) .nil) .nil)))) .nil) (s12.trans s3) (ML.at (by exact (.lst (.cons (.eit rfl rfl (.pick rfl (.lst (.cons (.gen fun _ h => h) (.cons (.lst .nil) (.cons (.gen fun _ h => h) .nil)))))) .nil))) h) (bad_eit_zero fun f => ⟨_, by simp only [Blks.lens, lens_cons, It.lens, amount, Its.lens]; rfl, by decide⟩) (by simp only [Its.tame, It.tame, Blks.tame, It.name]; exact ⟨⟨l0, ⟨⟨⟨l1, (fun z e => (by cases e))⟩, trivial⟩, ⟨trivial, ⟨⟨⟨l2, (fun z e => (by cases e))⟩, trivial⟩, trivial⟩⟩⟩⟩, trivial⟩) (by simp [Its.flat, It.flat, Blks.flat])
      | n + 6, hj, _ => exact absurd hj (by omega)
    | 3, _ =>
      refine ⟨_, rfl, rfl, _, rfl, ino (by decide) ?_⟩
      refine ⟨_, rfl, rfl, _, rfl, ino (by decide) ?_⟩
      refine ⟨_, rfl, rfl, _, rfl, ino (by decide) ?_⟩
      refine ⟨_, rfl, rfl, _, rfl, iyes rfl ?_⟩
      (try dsimp only); refine seq_asg ?_; refine Dd.go (K := K) (H0 := H2) (.tup (.cons (.sc (tC (.str "number")) (.str "number")) (.cons (.sc (tOp (rIxL K) (tVar 2) (tC (.int 4))) (.str z4)) (.cons (.sc (tC (.int 1)) (.int 1)) (.cons (.sc (tC (.str "big")) (.str "big")) (.cons (.sc (tC (.int 0)) (.int 0)) (.cons (.sc (tC (.int 9)) (.int 9)) .nil))))))) rfl ?_ (Same.refl _) fun vt H3 s3 h => ?_; exact ⟨(Nat.le_of_ble_eq_true rfl), ⟨(fun _ _ _ q => q), ⟨(fun _ _ s q => ⟨_, rfl, nl, _, _, _, rfl, rfl, SqL.of (s _ _ hnl), gz4, q⟩), ⟨(fun _ _ _ q => q), ⟨(fun _ _ _ q => q), ⟨(fun _ _ _ q => q), ⟨(fun _ _ _ q => q), trivial⟩⟩⟩⟩⟩⟩⟩
      have ht : It.At false H3 (.num z4 1 "big" 0 9) vt := MI.at (.num rfl) h
      have hnl := s3 _ _ hnl
      have h1 := LAt.same s3 h1
      obtain ⟨j, hj, ej⟩ := md 5 (by decide)
      have ej : nm % 5 = (j : Int) := ej
      refine g_nx ?_; (try dsimp only); refine seq_asg ?_; refine Dd.go (K := K) (H0 := H3) (.pick (.cons (.lst .nil) (.cons (Dd.blS (tLc (iRng1 (tCons (tC (.int 9)) tNil)) (gName 15) tYes (tTup (tCons (tVar 15) (tCons (tLst tNil) tNil))) [15]) (nineB 0 9)) (.cons (.lst (.cons (.tup (.cons (.sc (tVar 1) (.int nm)) (.cons (Dd.ls (tVar 4) (.cons (.byt z1 (.inl 1)) .nil)) .nil))) (.cons (.tup (.cons (.sc (tC (.int 5)) (.int 5)) (.cons (.lst .nil) .nil))) (.cons (.tup (.cons (.sc (tVar 1) (.int nm)) (.cons (.lst .nil) .nil))) .nil)))) (.cons (.lst (.cons (.tup (.cons (.sc (tC (.int 65536)) (.int 65536)) (.cons (.lst .nil) .nil))) .nil)) (.cons (.lst (.cons (.tup (.cons (.sc (tUn (rU fun i => V.int (-i)) (tC (.int 1))) (.int (-1))) (.cons (Dd.ls (tVar 4) (.cons (.byt z1 (.inl 1)) .nil)) .nil))) .nil)) .nil))))) (tOp (rI (fun x j => 0 < j) fun i j => V.int (i % j)) (tCB rInt1 (tCons (tVar 1) tNil)) (tC (.int 5))) j) rfl ?_ (Same.refl _) fun vc H4 s4 h => ?_; exact ⟨(Nat.le_of_ble_eq_true rfl), ⟨⟨(Nat.le_of_ble_eq_true rfl), trivial⟩, ⟨(fun _ _ _ q => nine_run q), ⟨⟨(Nat.le_of_ble_eq_true rfl), ⟨⟨(Nat.le_of_ble_eq_true rfl), ⟨(fun _ _ _ q => ⟨_, rfl, q⟩), ⟨(fun _ _ s q => ⟨_, rfl, q _ _ (Same.refl _) (LAt.same s h1)⟩), trivial⟩⟩⟩, ⟨⟨(Nat.le_of_ble_eq_true rfl), ⟨(fun _ _ _ q => q), ⟨⟨(Nat.le_of_ble_eq_true rfl), trivial⟩, trivial⟩⟩⟩, ⟨⟨(Nat.le_of_ble_eq_true rfl), ⟨(fun _ _ _ q => ⟨_, rfl, q⟩), ⟨⟨(Nat.le_of_ble_eq_true rfl), trivial⟩, trivial⟩⟩⟩, trivial⟩⟩⟩⟩, ⟨⟨(Nat.le_of_ble_eq_true rfl), ⟨⟨(Nat.le_of_ble_eq_true rfl), ⟨(fun _ _ _ q => q), ⟨⟨(Nat.le_of_ble_eq_true rfl), trivial⟩, trivial⟩⟩⟩, trivial⟩⟩, ⟨⟨(Nat.le_of_ble_eq_true rfl), ⟨⟨(Nat.le_of_ble_eq_true rfl), ⟨(fun _ _ _ q => ⟨_, rfl, q⟩), ⟨(fun _ _ s q => ⟨_, rfl, q _ _ (Same.refl _) (LAt.same s h1)⟩), trivial⟩⟩⟩, trivial⟩⟩, trivial⟩⟩⟩⟩⟩, hj, (fun _ Q _ q => ⟨_, rfl, .inl ⟨_, rfl, _, _, rfl, rfl, (by show (0 : Int) < 5; decide), (by show Q (.int (nm % 5)) _; rw [ej]; exact q)⟩⟩)⟩
      have hnl := s4 _ _ hnl
      have ht := It.At.same s4 ht
      match j, hj, h with
      | 0, _, h =>
        have hc : BAtS H4 .nil vc := MS.at (by exact (.pick rfl (.lst .nil))) h
        refine g_nx ?_; (try dsimp only); refine Dd.run (K := K) (H0 := H4) (.lst (.cons (Dd.itm (tVar 7) (.num z4 1 "big" 0 9)) (.cons (.tup (.cons (.sc (tC (.str "switch")) (.str "switch")) (.cons (.sc (tVar 3) (.str z0)) (.cons (.sc (tOp (rIxL K) (tVar 2) (tC (.int 4))) (.str z4)) (.cons (Dd.blS (tVar 8) .nil) .nil))))) .nil))) ?_ (Same.refl _) fun v H' s5 h => ?_; exact ⟨(Nat.le_of_ble_eq_true rfl), ⟨(fun _ _ s q => ⟨_, rfl, q _ _ (Same.refl _) (It.At.same s ht)⟩), ⟨⟨(Nat.le_of_ble_eq_true rfl), ⟨(fun _ _ _ q => q), ⟨(fun _ _ _ q => ⟨_, rfl, q⟩), ⟨(fun _ _ s q => ⟨_, rfl, nl, _, _, _, rfl, rfl, SqL.of (s _ _ hnl), gz4, q⟩), ⟨(fun _ _ s q => ⟨_, rfl, q _ _ (Same.refl _) (BAtS.same s hc)⟩), trivial⟩⟩⟩⟩⟩, trivial⟩⟩⟩
        exact q v H' (.cons (.num z4 1 "big" 0 9) (.cons (.swi z0 z4 .nil) .nil)) (s12.trans (s3.trans (s4.trans s5))) (ML.at (by exact (.lst (.cons (.gen fun _ h => h) (.cons (.swi rfl rfl rfl (.gen fun _ h => h)) .nil)))) h) (bad_tail_ok fun d _ => swi_len (by simp [Blks.len]) d) (by simp only [Its.tame, It.tame, Blks.tame, It.name]; exact ⟨l4, ⟨l0, trivial, trivial⟩, trivial⟩) (by simp [Its.flat, It.flat, Blks.flat])
      | 1, _, h =>
        have hc : BAtS H4 (nineB 0 9) vc := MS.at (by exact (.pick rfl (.gen fun _ h => h))) h
        refine g_nx ?_; (try dsimp only); refine Dd.run (K := K) (H0 := H4) (.lst (.cons (Dd.itm (tVar 7) (.num z4 1 "big" 0 9)) (.cons (.tup (.cons (.sc (tC (.str "switch")) (.str "switch")) (.cons (.sc (tVar 3) (.str z0)) (.cons (.sc (tOp (rIxL K) (tVar 2) (tC (.int 4))) (.str z4)) (.cons (Dd.blS (tVar 8) (nineB 0 9)) .nil))))) .nil))) ?_ (Same.refl _) fun v H' s5 h => ?_; exact ⟨(Nat.le_of_ble_eq_true rfl), ⟨(fun _ _ s q => ⟨_, rfl, q _ _ (Same.refl _) (It.At.same s ht)⟩), ⟨⟨(Nat.le_of_ble_eq_true rfl), ⟨(fun _ _ _ q => q), ⟨(fun _ _ _ q => ⟨_, rfl, q⟩), ⟨(fun _ _ s q => ⟨_, rfl, nl, _, _, _, rfl, rfl, SqL.of (s _ _ hnl), gz4, q⟩), ⟨(fun _ _ s q => ⟨_, rfl, q _ _ (Same.refl _) (BAtS.same s hc)⟩), trivial⟩⟩⟩⟩⟩, trivial⟩⟩⟩
        exact q v H' (.cons (.num z4 1 "big" 0 9) (.cons (.swi z0 z4 (nineB 0 9)) .nil)) (s12.trans (s3.trans (s4.trans s5))) (ML.at (by exact (.lst (.cons (.gen fun _ h => h) (.cons (.swi rfl rfl rfl (.gen fun _ h => h)) .nil)))) h) (bad_tail_ok fun d _ => swi_len (by rw [nine_len]; omega) d) (by simp only [Its.tame, It.tame, It.name]; exact ⟨l4, ⟨l0, trivial, nine_tame 9 0⟩, trivial⟩) (by simp [Its.flat, It.flat, nine_flat])
      | 2, _, h =>
        have hc : BAtS H4 (.cons nm (.cons (.byt z1 (.inl 1)) .nil) (.cons 5 .nil (.cons nm .nil .nil))) vc := MS.at (by exact (.pick rfl (.lst (.cons rfl (.gen fun _ h => h) (.cons rfl (.lst .nil) (.cons rfl (.lst .nil) .nil)))))) h
        refine g_nx ?_; (try dsimp only); refine Dd.run (K := K) (H0 := H4) (.lst (.cons (Dd.itm (tVar 7) (.num z4 1 "big" 0 9)) (.cons (.tup (.cons (.sc (tC (.str "switch")) (.str "switch")) (.cons (.sc (tVar 3) (.str z0)) (.cons (.sc (tOp (rIxL K) (tVar 2) (tC (.int 4))) (.str z4)) (.cons (Dd.blS (tVar 8) (.cons nm (.cons (.byt z1 (.inl 1)) .nil) (.cons 5 .nil (.cons nm .nil .nil)))) .nil))))) .nil))) ?_ (Same.refl _) fun v H' s5 h => ?_; exact ⟨(Nat.le_of_ble_eq_true rfl), ⟨(fun _ _ s q => ⟨_, rfl, q _ _ (Same.refl _) (It.At.same s ht)⟩), ⟨⟨(Nat.le_of_ble_eq_true rfl), ⟨(fun _ _ _ q => q), ⟨(fun _ _ _ q => ⟨_, rfl, q⟩), ⟨(fun _ _ s q => ⟨_, rfl, nl, _, _, _, rfl, rfl, SqL.of (s _ _ hnl), gz4, q⟩), ⟨(fun _ _ s q => ⟨_, rfl, q _ _ (Same.refl _) (BAtS.same s hc)⟩), trivial⟩⟩⟩⟩⟩, trivial⟩⟩⟩
        exact q v H' (.cons (.num z4 1 "big" 0 9) (.cons (.swi z0 z4 (.cons nm (.cons (.byt z1 (.inl 1)) .nil) (.cons 5 .nil (.cons nm .nil .nil)))) .nil)) (s12.trans (s3.trans (s4.trans s5))) (ML.at (by exact (.lst (.cons (.gen fun _ h => h) (.cons (.swi rfl rfl rfl (.gen fun _ h => h)) .nil)))) h) (bad_tail fun f nf => swi_vals (fun z => by have := z.2; simp [Blks.vals] at this)) (by simp only [Its.tame, It.tame, Blks.tame, It.name]; exact ⟨l4, ⟨l0, trivial, ⟨⟨⟨l1, (fun z e => (by cases e))⟩, trivial⟩, trivial, trivial, trivial⟩⟩, trivial⟩) (by simp [Its.flat, It.flat, Blks.flat])
      | 3, _, h =>
        have hc : BAtS H4 (.cons 65536 .nil .nil) vc := MS.at (by exact (.pick rfl (.lst (.cons rfl (.lst .nil) .nil)))) h
        refine g_nx ?_; (try dsimp only); refine Dd.run (K := K) (H0 := H4) (.lst (.cons (Dd.itm (tVar 7) (.num z4 1 "big" 0 9)) (.cons (.tup (.cons (.sc (tC (.str "switch")) (.str "switch")) (.cons (.sc (tVar 3) (.str z0)) (.cons (.sc (tOp (rIxL K) (tVar 2) (tC (.int 4))) (.str z4)) (.cons (Dd.blS (tVar 8) (.cons 65536 .nil .nil)) .nil))))) .nil))) ?_ (Same.refl _) fun v H' s5 h => ?_; exact ⟨(Nat.le_of_ble_eq_true rfl), ⟨(fun _ _ s q => ⟨_, rfl, q _ _ (Same.refl _) (It.At.same s ht)⟩), ⟨⟨(Nat.le_of_ble_eq_true rfl), ⟨(fun _ _ _ q => q), ⟨(fun _ _ _ q => ⟨_, rfl, q⟩), ⟨(fun _ _ s q => ⟨_, rfl, nl, _, _, _, rfl, rfl, SqL.of (s _ _ hnl), gz4, q⟩), ⟨(fun _ _ s q => ⟨_, rfl, q _ _ (Same.refl _) (BAtS.same s hc)⟩), trivial⟩⟩⟩⟩⟩, trivial⟩⟩⟩
        exact q v H' (.cons (.num z4 1 "big" 0 9) (.cons (.swi z0 z4 (.cons 65536 .nil .nil)) .nil)) (s12.trans (s3.trans (s4.trans s5))) (ML.at (by exact (.lst (.cons (.gen fun _ h => h) (.cons (.swi rfl rfl rfl (.gen fun _ h => h)) .nil)))) h) (bad_tail fun f nf => swi_vals (fun z => by have := z.1 65536 (by simp [Blks.vals]); omega)) (by simp only [Its.tame, It.tame, Blks.tame, It.name]; exact ⟨l4, ⟨l0, trivial, ⟨trivial, trivial⟩⟩, trivial⟩) (by simp [Its.flat, It.flat, Blks.flat])
      | 4, _, h =>
        have hc : BAtS H4 (.cons (-1) (.cons (.byt z1 (.inl 1)) .nil) .nil) vc := MS.at (by exact (.pick rfl (.lst (.cons rfl (.gen fun _ h => h) .nil)))) h
        refine g_nx ?_; (try dsimp only); refine Dd.run (K := K) (H0 := H4) (.lst (.cons (Dd.itm (tVar 7) (.num z4 1 "big" 0 9)) (.cons (.tup (.cons (.sc (tC (.str "switch")) (.str "switch")) (.cons (.sc (tVar 3) (.str z0)) (.cons (.sc (tOp (rIxL K) (tVar 2) (tC (.int 4))) (.str z4)) (.cons (Dd.blS (tVar 8) (.cons (-1) (.cons (.byt z1 (.inl 1)) .nil) .nil)) .nil))))) .nil))) ?_ (Same.refl _) fun v H' s5 h => ?_; exact ⟨(Nat.le_of_ble_eq_true rfl), ⟨(fun _ _ s q => ⟨_, rfl, q _ _ (Same.refl _) (It.At.same s ht)⟩), ⟨⟨(Nat.le_of_ble_eq_true rfl), ⟨(fun _ _ _ q => q), ⟨(fun _ _ _ q => ⟨_, rfl, q⟩), ⟨(fun _ _ s q => ⟨_, rfl, nl, _, _, _, rfl, rfl, SqL.of (s _ _ hnl), gz4, q⟩), ⟨(fun _ _ s q => ⟨_, rfl, q _ _ (Same.refl _) (BAtS.same s hc)⟩), trivial⟩⟩⟩⟩⟩, trivial⟩⟩⟩
        exact q v H' (.cons (.num z4 1 "big" 0 9) (.cons (.swi z0 z4 (.cons (-1) (.cons (.byt z1 (.inl 1)) .nil) .nil)) .nil)) (s12.trans (s3.trans (s4.trans s5))) (ML.at (by exact (.lst (.cons (.gen fun _ h => h) (.cons (.swi rfl rfl rfl (.gen fun _ h => h)) .nil)))) h) (bad_tail fun f nf => swi_vals (fun z => by have := z.1 (-1) (by simp [Blks.vals]); omega)) (by simp only [Its.tame, It.tame, Blks.tame, It.name]; exact ⟨l4, ⟨l0, trivial, ⟨⟨⟨l1, (fun z e => (by cases e))⟩, trivial⟩, trivial⟩⟩, trivial⟩) (by simp [Its.flat, It.flat, Blks.flat])
      | n + 5, hj, _ => exact absurd hj (by omega)
    | 4, _ =>
      refine ⟨_, rfl, rfl, _, rfl, ino (by decide) ?_⟩
      refine ⟨_, rfl, rfl, _, rfl, ino (by decide) ?_⟩
      refine ⟨_, rfl, rfl, _, rfl, ino (by decide) ?_⟩
      refine ⟨_, rfl, rfl, _, rfl, ino (by decide) ?_⟩
      refine ⟨_, rfl, rfl, _, rfl, iyes rfl ?_⟩
      obtain ⟨j, hj, ej⟩ := md 3 (by decide)
      have ej : nm % 3 = (j : Int) := ej
      refine Dd.run (K := K) (H0 := H2) (.lst (.cons (.tup (.cons (.sc (tC (.str "bytes")) (.str "bytes")) (.cons (.sc (tOp (rIxL K) (tVar 2) (tC (.int 1))) (.str z1)) (.cons (.sc (tC (.int 3)) (.int 3)) .nil)))) (.cons (.tup (.cons (.sc (tC (.str "switch")) (.str "switch")) (.cons (.sc (tVar 3) (.str z0)) (.cons (.pick (.cons (.sc (tOp (rIxL K) (tVar 2) (tC (.int 1))) (.str z1)) (.cons (.sc (tOp (rIxL K) (tVar 2) (tC (.int 3))) (.str z3)) (.cons (.sc (tVar 3) (.str z0)) .nil))) (tOp (rI (fun x j => 0 < j) fun i j => V.int (i % j)) (tCB rInt1 (tCons (tVar 1) tNil)) (tC (.int 3))) j) (.cons (.lst (.cons (.tup (.cons (.sc (tC (.int 0)) (.int 0)) (.cons (.lst .nil) .nil))) .nil)) .nil))))) .nil))) ?_ (Same.refl _) fun v H' s3 h => ?_; exact ⟨(Nat.le_of_ble_eq_true rfl), ⟨⟨(Nat.le_of_ble_eq_true rfl), ⟨(fun _ _ _ q => q), ⟨(fun _ _ s q => ⟨_, rfl, nl, _, _, _, rfl, rfl, SqL.of (s _ _ hnl), gz1, q⟩), ⟨(fun _ _ _ q => q), trivial⟩⟩⟩⟩, ⟨⟨(Nat.le_of_ble_eq_true rfl), ⟨(fun _ _ _ q => q), ⟨(fun _ _ _ q => ⟨_, rfl, q⟩), ⟨⟨(Nat.le_of_ble_eq_true rfl), ⟨(fun _ _ s q => ⟨_, rfl, nl, _, _, _, rfl, rfl, SqL.of (s _ _ hnl), gz1, q⟩), ⟨(fun _ _ s q => ⟨_, rfl, nl, _, _, _, rfl, rfl, SqL.of (s _ _ hnl), gz3, q⟩), ⟨(fun _ _ _ q => ⟨_, rfl, q⟩), trivial⟩⟩⟩, hj, (fun _ Q _ q => ⟨_, rfl, .inl ⟨_, rfl, _, _, rfl, rfl, (by show (0 : Int) < 3; decide), (by show Q (.int (nm % 3)) _; rw [ej]; exact q)⟩⟩)⟩, ⟨⟨(Nat.le_of_ble_eq_true rfl), ⟨⟨(Nat.le_of_ble_eq_true rfl), ⟨(fun _ _ _ q => q), ⟨⟨(Nat.le_of_ble_eq_true rfl), trivial⟩, trivial⟩⟩⟩, trivial⟩⟩, trivial⟩⟩⟩⟩⟩, trivial⟩⟩⟩
      match j, hj, h with
      | 0, _, h => exact q v H' (.cons (.byt z1 (.inl 3)) (.cons (.swi z0 z1 (.cons 0 .nil .nil)) .nil)) (s12.trans s3) (ML.at (by exact (.lst (.cons (.byt rfl) (.cons (.swi rfl rfl rfl (.lst (.cons rfl (.lst .nil) .nil))) .nil)))) h) (bad_tail fun f nf => (bad_swi_none (nf z1 m1))) (by simp only [Its.tame, It.tame, Blks.tame, It.name]; exact ⟨⟨l1, (fun z e => (by cases e))⟩, ⟨l0, trivial, trivial, trivial⟩, trivial⟩) (by simp [Its.flat, It.flat, Blks.flat])
      | 1, _, h => exact q v H' (.cons (.byt z1 (.inl 3)) (.cons (.swi z0 z3 (.cons 0 .nil .nil)) .nil)) (s12.trans s3) (ML.at (by exact (.lst (.cons (.byt rfl) (.cons (.swi rfl rfl rfl (.lst (.cons rfl (.lst .nil) .nil))) .nil)))) h) (bad_tail fun f nf => (bad_swi_none (nf z3 m3))) (by simp only [Its.tame, It.tame, Blks.tame, It.name]; exact ⟨⟨l1, (fun z e => (by cases e))⟩, ⟨l0, trivial, trivial, trivial⟩, trivial⟩) (by simp [Its.flat, It.flat, Blks.flat])
      | 2, _, h => exact q v H' (.cons (.byt z1 (.inl 3)) (.cons (.swi z0 z0 (.cons 0 .nil .nil)) .nil)) (s12.trans s3) (ML.at (by exact (.lst (.cons (.byt rfl) (.cons (.swi rfl rfl rfl (.lst (.cons rfl (.lst .nil) .nil))) .nil)))) h) (bad_tail fun f nf => (bad_swi_none (nf z0 m0))) (by simp only [Its.tame, It.tame, Blks.tame, It.name]; exact ⟨⟨l1, (fun z e => (by cases e))⟩, ⟨l0, trivial, trivial, trivial⟩, trivial⟩) (by simp [Its.flat, It.flat, Blks.flat])
      | n + 3, hj, _ => exact absurd hj (by omega)
    | 5, _ =>
      refine ⟨_, rfl, rfl, _, rfl, ino (by decide) ?_⟩
      refine ⟨_, rfl, rfl, _, rfl, ino (by decide) ?_⟩
      refine ⟨_, rfl, rfl, _, rfl, ino (by decide) ?_⟩
      refine ⟨_, rfl, rfl, _, rfl, ino (by decide) ?_⟩
      refine ⟨_, rfl, rfl, _, rfl, ino (by decide) ?_⟩
      refine ⟨_, rfl, rfl, _, rfl, iyes rfl ?_⟩
      refine Dd.run (K := K) (H0 := H2) (.lst (.cons (.tup (.cons (.sc (tC (.str "check")) (.str "check")) (.cons (.sc (tVar 3) (.str z0)) (.cons (.sc (tC (.int 3)) (.int 3)) .nil)))) (.cons (.tup (.cons (.sc (tC (.str "check")) (.str "check")) (.cons (.sc (tOp (rIxL K) (tVar 2) (tC (.int 1))) (.str z1)) (.cons (.sc (tC (.int 3)) (.int 3)) .nil)))) .nil))) ?_ (Same.refl _) fun v H' s3 h => ?_; exact ⟨(Nat.le_of_ble_eq_true rfl), ⟨⟨(Nat.le_of_ble_eq_true rfl), ⟨(fun _ _ _ q => q), ⟨(fun _ _ _ q => ⟨_, rfl, q⟩), ⟨(fun _ _ _ q => q), trivial⟩⟩⟩⟩, ⟨⟨(Nat.le_of_ble_eq_true rfl), ⟨(fun _ _ _ q => q), ⟨(fun _ _ s q => ⟨_, rfl, nl, _, _, _, rfl, rfl, SqL.of (s _ _ hnl), gz1, q⟩), ⟨(fun _ _ _ q => q), trivial⟩⟩⟩⟩, trivial⟩⟩⟩
      exact q v H' (.cons (.chk z0 3) (.cons (.chk z1 3) .nil)) (s12.trans s3) (ML.at (by exact (.lst (.cons (.chk rfl) (.cons (.chk rfl) .nil)))) h) (.ck (by simp [Its.flat, It.flat, It.isChk, List.filter_cons])) (by simp only [Its.tame, It.tame, Blks.tame, It.name]; exact ⟨l0, l1, trivial⟩) (by simp [Its.flat, It.flat, Blks.flat])
    | 6, _ =>
      refine ⟨_, rfl, rfl, _, rfl, ino (by decide) ?_⟩
      refine ⟨_, rfl, rfl, _, rfl, ino (by decide) ?_⟩
      refine ⟨_, rfl, rfl, _, rfl, ino (by decide) ?_⟩
      refine ⟨_, rfl, rfl, _, rfl, ino (by decide) ?_⟩
      refine ⟨_, rfl, rfl, _, rfl, ino (by decide) ?_⟩
      refine ⟨_, rfl, rfl, _, rfl, ino (by decide) ?_⟩
      refine ⟨_, rfl, rfl, _, rfl, iyes rfl ?_⟩
      obtain ⟨j, hj, ej⟩ := md 3 (by decide)
      have ej : nm % 3 = (j : Int) := ej
      (try dsimp only); refine seq_asg ?_; refine Dd.go (K := K) (H0 := H2) (.pick (.cons (.tup (.cons (.sc (tC (.str "bytes")) (.str "bytes")) (.cons (.sc (tVar 3) (.str z0)) (.cons (.sc (tOp (rIxL K) (tVar 2) (tC (.int 1))) (.str z1)) .nil)))) (.cons (.tup (.cons (.sc (tC (.str "repeat")) (.str "repeat")) (.cons (.sc (tVar 3) (.str z0)) (.cons (.sc (tOp (rIxL K) (tVar 2) (tC (.int 1))) (.str z1)) (.cons (.lst (.cons (.tup (.cons (.sc (tC (.str "bytes")) (.str "bytes")) (.cons (.sc (tOp (rIxL K) (tVar 2) (tC (.int 2))) (.str z2)) (.cons (.sc (tC (.int 1)) (.int 1)) .nil)))) .nil)) .nil))))) (.cons (.tup (.cons (.sc (tC (.str "switch")) (.str "switch")) (.cons (.sc (tVar 3) (.str z0)) (.cons (.sc (tOp (rIxL K) (tVar 2) (tC (.int 1))) (.str z1)) (.cons (.lst (.cons (.tup (.cons (.sc (tC (.int 0)) (.int 0)) (.cons (.lst .nil) .nil))) .nil)) .nil))))) .nil))) (tOp (rI (fun x j => 0 < j) fun i j => V.int (i % j)) (tCB rInt1 (tCons (tVar 1) tNil)) (tC (.int 3))) j) rfl ?_ (Same.refl _) fun vu H3 s3 h => ?_; exact ⟨(Nat.le_of_ble_eq_true rfl), ⟨⟨(Nat.le_of_ble_eq_true rfl), ⟨(fun _ _ _ q => q), ⟨(fun _ _ _ q => ⟨_, rfl, q⟩), ⟨(fun _ _ s q => ⟨_, rfl, nl, _, _, _, rfl, rfl, SqL.of (s _ _ hnl), gz1, q⟩), trivial⟩⟩⟩⟩, ⟨⟨(Nat.le_of_ble_eq_true rfl), ⟨(fun _ _ _ q => q), ⟨(fun _ _ _ q => ⟨_, rfl, q⟩), ⟨(fun _ _ s q => ⟨_, rfl, nl, _, _, _, rfl, rfl, SqL.of (s _ _ hnl), gz1, q⟩), ⟨⟨(Nat.le_of_ble_eq_true rfl), ⟨⟨(Nat.le_of_ble_eq_true rfl), ⟨(fun _ _ _ q => q), ⟨(fun _ _ s q => ⟨_, rfl, nl, _, _, _, rfl, rfl, SqL.of (s _ _ hnl), gz2, q⟩), ⟨(fun _ _ _ q => q), trivial⟩⟩⟩⟩, trivial⟩⟩, trivial⟩⟩⟩⟩⟩, ⟨⟨(Nat.le_of_ble_eq_true rfl), ⟨(fun _ _ _ q => q), ⟨(fun _ _ _ q => ⟨_, rfl, q⟩), ⟨(fun _ _ s q => ⟨_, rfl, nl, _, _, _, rfl, rfl, SqL.of (s _ _ hnl), gz1, q⟩), ⟨⟨(Nat.le_of_ble_eq_true rfl), ⟨⟨(Nat.le_of_ble_eq_true rfl), ⟨(fun _ _ _ q => q), ⟨⟨(Nat.le_of_ble_eq_true rfl), trivial⟩, trivial⟩⟩⟩, trivial⟩⟩, trivial⟩⟩⟩⟩⟩, trivial⟩⟩⟩, hj, (fun _ Q _ q => ⟨_, rfl, .inl ⟨_, rfl, _, _, rfl, rfl, (by show (0 : Int) < 3; decide), (by show Q (.int (nm % 3)) _; rw [ej]; exact q)⟩⟩)⟩
      have hnl := s3 _ _ hnl
      match j, hj, h with
      | 0, _, h =>
        have hu : It.At false H3 (.byt z0 (.inr z1)) vu := MI.at (by exact (.pick rfl (.byt rfl))) h
        refine g_nx ?_; (try dsimp only); refine Dd.run (K := K) (H0 := H3) (.lst (.cons (Dd.itm (tVar 9) (.byt z0 (.inr z1))) (.cons (.tup (.cons (.sc (tC (.str "number")) (.str "number")) (.cons (.sc (tOp (rIxL K) (tVar 2) (tC (.int 1))) (.str z1)) (.cons (.sc (tC (.int 1)) (.int 1)) (.cons (.sc (tC (.str "big")) (.str "big")) (.cons (.sc (tC (.int 0)) (.int 0)) (.cons (.sc (tC (.int 1)) (.int 1)) .nil))))))) .nil))) ?_ (Same.refl _) fun v H' s4 h => ?_; exact ⟨(Nat.le_of_ble_eq_true rfl), ⟨(fun _ _ s q => ⟨_, rfl, q _ _ (Same.refl _) (It.At.same s hu)⟩), ⟨⟨(Nat.le_of_ble_eq_true rfl), ⟨(fun _ _ _ q => q), ⟨(fun _ _ s q => ⟨_, rfl, nl, _, _, _, rfl, rfl, SqL.of (s _ _ hnl), gz1, q⟩), ⟨(fun _ _ _ q => q), ⟨(fun _ _ _ q => q), ⟨(fun _ _ _ q => q), ⟨(fun _ _ _ q => q), trivial⟩⟩⟩⟩⟩⟩⟩, trivial⟩⟩⟩
        exact q v H' (.cons (.byt z0 (.inr z1)) (.cons (.num z1 1 "big" 0 1) .nil)) (s12.trans (s3.trans s4)) (ML.at (by exact (.lst (.cons (.gen fun _ h => h) (.cons (.num rfl) .nil)))) h) (bad_byt fun f nf => am_str m1 nf) (by simp only [Its.tame, It.tame, Blks.tame, It.name]; exact ⟨⟨l0, fun z e => t1 z (by cases e; rfl)⟩, l1, trivial⟩) (by simp [Its.flat, It.flat, Blks.flat])
      | 1, _, h =>
        have hu : It.At false H3 (.rep z0 (.inr z1) (.cons (.byt z2 (.inl 1)) .nil)) vu := MI.at (by exact (.pick rfl (.rep rfl rfl rfl (.lst (.cons (.byt rfl) .nil))))) h
        refine g_nx ?_; (try dsimp only); refine Dd.run (K := K) (H0 := H3) (.lst (.cons (Dd.itm (tVar 9) (.rep z0 (.inr z1) (.cons (.byt z2 (.inl 1)) .nil))) (.cons (.tup (.cons (.sc (tC (.str "number")) (.str "number")) (.cons (.sc (tOp (rIxL K) (tVar 2) (tC (.int 1))) (.str z1)) (.cons (.sc (tC (.int 1)) (.int 1)) (.cons (.sc (tC (.str "big")) (.str "big")) (.cons (.sc (tC (.int 0)) (.int 0)) (.cons (.sc (tC (.int 1)) (.int 1)) .nil))))))) .nil))) ?_ (Same.refl _) fun v H' s4 h => ?_; exact ⟨(Nat.le_of_ble_eq_true rfl), ⟨(fun _ _ s q => ⟨_, rfl, q _ _ (Same.refl _) (It.At.same s hu)⟩), ⟨⟨(Nat.le_of_ble_eq_true rfl), ⟨(fun _ _ _ q => q), ⟨(fun _ _ s q => ⟨_, rfl, nl, _, _, _, rfl, rfl, SqL.of (s _ _ hnl), gz1, q⟩), ⟨(fun _ _ _ q => q), ⟨(fun _ _ _ q => q), ⟨(fun _ _ _ q => q), ⟨(fun _ _ _ q => q), trivial⟩⟩⟩⟩⟩⟩⟩, trivial⟩⟩⟩
        exact q v H' (.cons (.rep z0 (.inr z1) (.cons (.byt z2 (.inl 1)) .nil)) (.cons (.num z1 1 "big" 0 1) .nil)) (s12.trans (s3.trans s4)) (ML.at (by exact (.lst (.cons (.gen fun _ h => h) (.cons (.num rfl) .nil)))) h) (bad_rep_am fun f nf => am_str m1 nf) (by simp only [Its.tame, It.tame, Blks.tame, It.name]; exact ⟨⟨l0, fun z e => t1 z (by cases e; rfl), ⟨l2, (fun z e => (by cases e))⟩, trivial⟩, l1, trivial⟩) (by simp [Its.flat, It.flat, Blks.flat])
      | 2, _, h =>
        have hu : It.At false H3 (.swi z0 z1 (.cons 0 .nil .nil)) vu := MI.at (by exact (.pick rfl (.swi rfl rfl rfl (.lst (.cons rfl (.lst .nil) .nil))))) h
        refine g_nx ?_; (try dsimp only); refine Dd.run (K := K) (H0 := H3) (.lst (.cons (Dd.itm (tVar 9) (.swi z0 z1 (.cons 0 .nil .nil))) (.cons (.tup (.cons (.sc (tC (.str "number")) (.str "number")) (.cons (.sc (tOp (rIxL K) (tVar 2) (tC (.int 1))) (.str z1)) (.cons (.sc (tC (.int 1)) (.int 1)) (.cons (.sc (tC (.str "big")) (.str "big")) (.cons (.sc (tC (.int 0)) (.int 0)) (.cons (.sc (tC (.int 1)) (.int 1)) .nil))))))) .nil))) ?_ (Same.refl _) fun v H' s4 h => ?_; exact ⟨(Nat.le_of_ble_eq_true rfl), ⟨(fun _ _ s q => ⟨_, rfl, q _ _ (Same.refl _) (It.At.same s hu)⟩), ⟨⟨(Nat.le_of_ble_eq_true rfl), ⟨(fun _ _ _ q => q), ⟨(fun _ _ s q => ⟨_, rfl, nl, _, _, _, rfl, rfl, SqL.of (s _ _ hnl), gz1, q⟩), ⟨(fun _ _ _ q => q), ⟨(fun _ _ _ q => q), ⟨(fun _ _ _ q => q), ⟨(fun _ _ _ q => q), trivial⟩⟩⟩⟩⟩⟩⟩, trivial⟩⟩⟩
        exact q v H' (.cons (.swi z0 z1 (.cons 0 .nil .nil)) (.cons (.num z1 1 "big" 0 1) .nil)) (s12.trans (s3.trans s4)) (ML.at (by exact (.lst (.cons (.gen fun _ h => h) (.cons (.num rfl) .nil)))) h) (bad_swi fun f nf => nf z1 m1) (by simp only [Its.tame, It.tame, Blks.tame, It.name]; exact ⟨⟨l0, trivial, trivial, trivial⟩, l1, trivial⟩) (by simp [Its.flat, It.flat, Blks.flat])
      | n + 3, hj, _ => exact absurd hj (by omega)
    | 7, _ =>
      refine ⟨_, rfl, rfl, _, rfl, ino (by decide) ?_⟩
      refine ⟨_, rfl, rfl, _, rfl, ino (by decide) ?_⟩
      refine ⟨_, rfl, rfl, _, rfl, ino (by decide) ?_⟩
      refine ⟨_, rfl, rfl, _, rfl, ino (by decide) ?_⟩
      refine ⟨_, rfl, rfl, _, rfl, ino (by decide) ?_⟩
      refine ⟨_, rfl, rfl, _, rfl, ino (by decide) ?_⟩
      refine ⟨_, rfl, rfl, _, rfl, ino (by decide) ?_⟩
      refine ⟨_, rfl, rfl, _, rfl, iyes rfl ?_⟩
      (try dsimp only); refine seq_asg ?_; refine Dd.go (K := K) (H0 := H2) (.tup (.cons (.sc (tC (.str "number")) (.str "number")) (.cons (.sc (tOp (rIxL K) (tVar 2) (tC (.int 1))) (.str z1)) (.cons (.sc (tC (.int 1)) (.int 1)) (.cons (.sc (tC (.str "big")) (.str "big")) (.cons (.sc (tC (.int 0)) (.int 0)) (.cons (.sc (tC (.int 1)) (.int 1)) .nil))))))) rfl ?_ (Same.refl _) fun vi H3 s3 h => ?_; exact ⟨(Nat.le_of_ble_eq_true rfl), ⟨(fun _ _ _ q => q), ⟨(fun _ _ s q => ⟨_, rfl, nl, _, _, _, rfl, rfl, SqL.of (s _ _ hnl), gz1, q⟩), ⟨(fun _ _ _ q => q), ⟨(fun _ _ _ q => q), ⟨(fun _ _ _ q => q), ⟨(fun _ _ _ q => q), trivial⟩⟩⟩⟩⟩⟩⟩
      have hnl := s3 _ _ hnl
      have hi : It.At false H3 (.num z1 1 "big" 0 1) vi := MI.at (.num rfl) h
      refine ⟨_, rfl, .inl ⟨_, rfl, _, _, rfl, rfl, (by show (0 : Int) < 3; decide), rfl, _, rfl, ite2 (fun _ => ?_) (fun _ => ?_)⟩⟩
      · refine Dd.run (K := K) (H0 := H3) (.lst (.cons (.tup (.cons (.sc (tC (.str "either")) (.str "either")) (.cons (.sc (tVar 3) (.str z0)) (.cons (.lst (.cons (.lst (.cons (Dd.itm (tVar 10) (.num z1 1 "big" 0 1)) .nil)) (.cons (.lst (.cons (.tup (.cons (.sc (tC (.str "bytes")) (.str "bytes")) (.cons (.sc (tOp (rIxL K) (tVar 2) (tC (.int 2))) (.str z2)) (.cons (.sc (tOp (rIxL K) (tVar 2) (tC (.int 1))) (.str z1)) .nil)))) .nil)) .nil))) .nil)))) .nil)) ?_ (Same.refl _) fun v H' s4 h => ?_; exact ⟨(Nat.le_of_ble_eq_true rfl), ⟨⟨(Nat.le_of_ble_eq_true rfl), ⟨(fun _ _ _ q => q), ⟨(fun _ _ _ q => ⟨_, rfl, q⟩), ⟨⟨(Nat.le_of_ble_eq_true rfl), ⟨⟨(Nat.le_of_ble_eq_true rfl), ⟨(fun _ _ s q => ⟨_, rfl, q _ _ (Same.refl _) (It.At.same s hi)⟩), trivial⟩⟩, ⟨⟨(Nat.le_of_ble_eq_true rfl), ⟨⟨(Nat.le_of_ble_eq_true rfl), ⟨(fun _ _ _ q => q), ⟨(fun _ _ s q => ⟨_, rfl, nl, _, _, _, rfl, rfl, SqL.of (s _ _ hnl), gz2, q⟩), ⟨(fun _ _ s q => ⟨_, rfl, nl, _, _, _, rfl, rfl, SqL.of (s _ _ hnl), gz1, q⟩), trivial⟩⟩⟩⟩, trivial⟩⟩, trivial⟩⟩⟩, trivial⟩⟩⟩⟩, trivial⟩⟩
        exact q v H' (.cons (.eit z0 (.cons 0 (.cons (.num z1 1 "big" 0 1) .nil) (.cons 0 (.cons (.byt z2 (.inr z1)) .nil) .nil))) .nil) (s12.trans (s3.trans s4)) (ML.at (by exact (.lst (.cons (.eit rfl rfl (.lst (.cons (.lst (.cons (.gen fun _ h => h) .nil)) (.cons (.lst (.cons (.byt rfl) .nil)) .nil)))) .nil))) h) (bad_eit_none fun f nf => by have e := am_str (most := 64) m1 nf; simp only [Blks.lens, lens_cons, It.lens, e]; simp [numOk]) (by simp only [Its.tame, It.tame, Blks.tame, It.name]; exact ⟨⟨l0, ⟨l1, trivial⟩, ⟨⟨l2, fun z e => t1 z (by cases e; rfl)⟩, trivial⟩, trivial⟩, trivial⟩) (by simp [Its.flat, It.flat, Blks.flat])
      · obtain ⟨j2, hj2, ej2⟩ := md 2 (by decide)
        have ej2 : nm % 2 = (j2 : Int) := ej2
        obtain ⟨j3, hj3, ej3⟩ : ∃ j : Nat, j < 2 ∧ nm / 2 % 2 = (j : Int) := ⟨(nm / 2 % 2).toNat, by omega, by omega⟩
        refine nx_go ?_; (try dsimp only); refine seq_asg ?_; refine Dd.go (K := K) (H0 := H3) (.pick (.cons (.tup (.cons (.sc (tC (.str "either")) (.str "either")) (.cons (.sc (tVar 3) (.str z0)) (.cons (.lst (.cons (.lst (.cons (Dd.itm (tVar 10) (.num z1 1 "big" 0 1)) .nil)) (.cons (.lst .nil) .nil))) .nil)))) (.cons (.tup (.cons (.sc (tC (.str "repeat")) (.str "repeat")) (.cons (.sc (tVar 3) (.str z0)) (.cons (.sc (tC (.int 1)) (.int 1)) (.cons (.lst (.cons (Dd.itm (tVar 10) (.num z1 1 "big" 0 1)) .nil)) .nil))))) .nil)) (tOp (rI (fun x j => 0 < j) fun i j => V.int (i % j)) (tCB rInt1 (tCons (tVar 1) tNil)) (tC (.int 2))) j2) rfl ?_ (Same.refl _) fun vb H4 s4 h => ?_; exact ⟨(Nat.le_of_ble_eq_true rfl), ⟨⟨(Nat.le_of_ble_eq_true rfl), ⟨(fun _ _ _ q => q), ⟨(fun _ _ _ q => ⟨_, rfl, q⟩), ⟨⟨(Nat.le_of_ble_eq_true rfl), ⟨⟨(Nat.le_of_ble_eq_true rfl), ⟨(fun _ _ s q => ⟨_, rfl, q _ _ (Same.refl _) (It.At.same s hi)⟩), trivial⟩⟩, ⟨⟨(Nat.le_of_ble_eq_true rfl), trivial⟩, trivial⟩⟩⟩, trivial⟩⟩⟩⟩, ⟨⟨(Nat.le_of_ble_eq_true rfl), ⟨(fun _ _ _ q => q), ⟨(fun _ _ _ q => ⟨_, rfl, q⟩), ⟨(fun _ _ _ q => q), ⟨⟨(Nat.le_of_ble_eq_true rfl), ⟨(fun _ _ s q => ⟨_, rfl, q _ _ (Same.refl _) (It.At.same s hi)⟩), trivial⟩⟩, trivial⟩⟩⟩⟩⟩, trivial⟩⟩, hj2, (fun _ Q _ q => ⟨_, rfl, .inl ⟨_, rfl, _, _, rfl, rfl, (by show (0 : Int) < 2; decide), (by show Q (.int (nm % 2)) _; rw [ej2]; exact q)⟩⟩)⟩
        have hnl := s4 _ _ hnl
        match j2, hj2, h with
        | 0, _, h =>
          have hb : It.At false H4 (.eit z0 (.cons 0 (.cons (.num z1 1 "big" 0 1) .nil) (.cons 0 .nil .nil))) vb := MI.at (by exact (.pick rfl (.eit rfl rfl (.lst (.cons (.lst (.cons (.gen fun _ h => h) .nil)) (.cons (.lst .nil) .nil)))))) h
          refine g_nx ?_; (try dsimp only); refine Dd.run (K := K) (H0 := H4) (.lst (.cons (Dd.itm (tVar 11) (.eit z0 (.cons 0 (.cons (.num z1 1 "big" 0 1) .nil) (.cons 0 .nil .nil)))) (.cons (.pick (.cons (.tup (.cons (.sc (tC (.str "bytes")) (.str "bytes")) (.cons (.sc (tOp (rIxL K) (tVar 2) (tC (.int 2))) (.str z2)) (.cons (.sc (tOp (rIxL K) (tVar 2) (tC (.int 1))) (.str z1)) .nil)))) (.cons (.tup (.cons (.sc (tC (.str "switch")) (.str "switch")) (.cons (.sc (tOp (rIxL K) (tVar 2) (tC (.int 2))) (.str z2)) (.cons (.sc (tOp (rIxL K) (tVar 2) (tC (.int 1))) (.str z1)) (.cons (.lst (.cons (.tup (.cons (.sc (tC (.int 0)) (.int 0)) (.cons (.lst .nil) .nil))) .nil)) .nil))))) .nil)) (tOp (rI (fun x j => 0 < j) fun i j => V.int (i % j)) (tOp (rI CDiv fun i j => V.int (i / j)) (tVar 1) (tC (.int 2))) (tC (.int 2))) j3) .nil))) ?_ (Same.refl _) fun v H' s5 h => ?_; exact ⟨(Nat.le_of_ble_eq_true rfl), ⟨(fun _ _ s q => ⟨_, rfl, q _ _ (Same.refl _) (It.At.same s hb)⟩), ⟨⟨(Nat.le_of_ble_eq_true rfl), ⟨⟨(Nat.le_of_ble_eq_true rfl), ⟨(fun _ _ _ q => q), ⟨(fun _ _ s q => ⟨_, rfl, nl, _, _, _, rfl, rfl, SqL.of (s _ _ hnl), gz2, q⟩), ⟨(fun _ _ s q => ⟨_, rfl, nl, _, _, _, rfl, rfl, SqL.of (s _ _ hnl), gz1, q⟩), trivial⟩⟩⟩⟩, ⟨⟨(Nat.le_of_ble_eq_true rfl), ⟨(fun _ _ _ q => q), ⟨(fun _ _ s q => ⟨_, rfl, nl, _, _, _, rfl, rfl, SqL.of (s _ _ hnl), gz2, q⟩), ⟨(fun _ _ s q => ⟨_, rfl, nl, _, _, _, rfl, rfl, SqL.of (s _ _ hnl), gz1, q⟩), ⟨⟨(Nat.le_of_ble_eq_true rfl), ⟨⟨(Nat.le_of_ble_eq_true rfl), ⟨(fun _ _ _ q => q), ⟨⟨(Nat.le_of_ble_eq_true rfl), trivial⟩, trivial⟩⟩⟩, trivial⟩⟩, trivial⟩⟩⟩⟩⟩, trivial⟩⟩, hj3, (fun _ Q _ q => ⟨_, rfl, _, _, rfl, rfl, (show CDiv nm 2 from ⟨by decide, by decide⟩), _, _, rfl, rfl, (by show (0 : Int) < 2; decide), (by show Q (.int (nm / 2 % 2)) _; rw [ej3]; exact q)⟩)⟩, trivial⟩⟩⟩
          match j3, hj3, h with
          | 0, _, h => exact q v H' (.cons (.eit z0 (.cons 0 (.cons (.num z1 1 "big" 0 1) .nil) (.cons 0 .nil .nil))) (.cons (.byt z2 (.inr z1)) .nil)) (s12.trans (s3.trans (s4.trans s5))) (ML.at (by exact (.lst (.cons (.gen fun _ h => h) (.cons (.pick rfl (.byt rfl)) .nil)))) h) (bad_tail fun f nf => by rw [lens_cons]; simp only [It.seen, It.lens]; rw [am_str (S := zs) m1 nf]) (by simp only [Its.tame, It.tame, Blks.tame, It.name]; exact ⟨⟨l0, ⟨l1, trivial⟩, trivial, trivial⟩, ⟨l2, fun z e => t1 z (by cases e; rfl)⟩, trivial⟩) (by simp [Its.flat, It.flat, Blks.flat])
          | 1, _, h => exact q v H' (.cons (.eit z0 (.cons 0 (.cons (.num z1 1 "big" 0 1) .nil) (.cons 0 .nil .nil))) (.cons (.swi z2 z1 (.cons 0 .nil .nil)) .nil)) (s12.trans (s3.trans (s4.trans s5))) (ML.at (by exact (.lst (.cons (.gen fun _ h => h) (.cons (.pick rfl (.swi rfl rfl rfl (.lst (.cons rfl (.lst .nil) .nil)))) .nil)))) h) (bad_tail fun f nf => bad_swi_none (nf z1 m1)) (by simp only [Its.tame, It.tame, Blks.tame, It.name]; exact ⟨⟨l0, ⟨l1, trivial⟩, trivial, trivial⟩, ⟨l2, trivial, trivial, trivial⟩, trivial⟩) (by simp [Its.flat, It.flat, Blks.flat])
          | n + 2, hj, _ => exact absurd hj (by omega)
        | 1, _, h =>
          have hb : It.At false H4 (.rep z0 (.inl 1) (.cons (.num z1 1 "big" 0 1) .nil)) vb := MI.at (by exact (.pick rfl (.rep rfl rfl rfl (.lst (.cons (.gen fun _ h => h) .nil))))) h
          refine g_nx ?_; (try dsimp only); refine Dd.run (K := K) (H0 := H4) (.lst (.cons (Dd.itm (tVar 11) (.rep z0 (.inl 1) (.cons (.num z1 1 "big" 0 1) .nil))) (.cons (.pick (.cons (.tup (.cons (.sc (tC (.str "bytes")) (.str "bytes")) (.cons (.sc (tOp (rIxL K) (tVar 2) (tC (.int 2))) (.str z2)) (.cons (.sc (tOp (rIxL K) (tVar 2) (tC (.int 1))) (.str z1)) .nil)))) (.cons (.tup (.cons (.sc (tC (.str "switch")) (.str "switch")) (.cons (.sc (tOp (rIxL K) (tVar 2) (tC (.int 2))) (.str z2)) (.cons (.sc (tOp (rIxL K) (tVar 2) (tC (.int 1))) (.str z1)) (.cons (.lst (.cons (.tup (.cons (.sc (tC (.int 0)) (.int 0)) (.cons (.lst .nil) .nil))) .nil)) .nil))))) .nil)) (tOp (rI (fun x j => 0 < j) fun i j => V.int (i % j)) (tOp (rI CDiv fun i j => V.int (i / j)) (tVar 1) (tC (.int 2))) (tC (.int 2))) j3) .nil))) ?_ (Same.refl _) fun v H' s5 h => ?_; exact ⟨(Nat.le_of_ble_eq_true rfl), ⟨(fun _ _ s q => ⟨_, rfl, q _ _ (Same.refl _) (It.At.same s hb)⟩), ⟨⟨(Nat.le_of_ble_eq_true rfl), ⟨⟨(Nat.le_of_ble_eq_true rfl), ⟨(fun _ _ _ q => q), ⟨(fun _ _ s q => ⟨_, rfl, nl, _, _, _, rfl, rfl, SqL.of (s _ _ hnl), gz2, q⟩), ⟨(fun _ _ s q => ⟨_, rfl, nl, _, _, _, rfl, rfl, SqL.of (s _ _ hnl), gz1, q⟩), trivial⟩⟩⟩⟩, ⟨⟨(Nat.le_of_ble_eq_true rfl), ⟨(fun _ _ _ q => q), ⟨(fun _ _ s q => ⟨_, rfl, nl, _, _, _, rfl, rfl, SqL.of (s _ _ hnl), gz2, q⟩), ⟨(fun _ _ s q => ⟨_, rfl, nl, _, _, _, rfl, rfl, SqL.of (s _ _ hnl), gz1, q⟩), ⟨⟨(Nat.le_of_ble_eq_true rfl), ⟨⟨(Nat.le_of_ble_eq_true rfl), ⟨(fun _ _ _ q => q), ⟨⟨(Nat.le_of_ble_eq_true rfl), trivial⟩, trivial⟩⟩⟩, trivial⟩⟩, trivial⟩⟩⟩⟩⟩, trivial⟩⟩, hj3, (fun _ Q _ q => ⟨_, rfl, _, _, rfl, rfl, (show CDiv nm 2 from ⟨by decide, by decide⟩), _, _, rfl, rfl, (by show (0 : Int) < 2; decide), (by show Q (.int (nm / 2 % 2)) _; rw [ej3]; exact q)⟩)⟩, trivial⟩⟩⟩
          match j3, hj3, h with
          | 0, _, h => exact q v H' (.cons (.rep z0 (.inl 1) (.cons (.num z1 1 "big" 0 1) .nil)) (.cons (.byt z2 (.inr z1)) .nil)) (s12.trans (s3.trans (s4.trans s5))) (ML.at (by exact (.lst (.cons (.gen fun _ h => h) (.cons (.pick rfl (.byt rfl)) .nil)))) h) (bad_tail fun f nf => by rw [lens_cons]; simp only [It.seen, It.lens]; rw [am_str (S := zs) m1 nf]) (by simp only [Its.tame, It.tame, Blks.tame, It.name]; exact ⟨⟨l0, (fun z e => (by cases e)), l1, trivial⟩, ⟨l2, fun z e => t1 z (by cases e; rfl)⟩, trivial⟩) (by simp [Its.flat, It.flat, Blks.flat])
          | 1, _, h => exact q v H' (.cons (.rep z0 (.inl 1) (.cons (.num z1 1 "big" 0 1) .nil)) (.cons (.swi z2 z1 (.cons 0 .nil .nil)) .nil)) (s12.trans (s3.trans (s4.trans s5))) (ML.at (by exact (.lst (.cons (.gen fun _ h => h) (.cons (.pick rfl (.swi rfl rfl rfl (.lst (.cons rfl (.lst .nil) .nil)))) .nil)))) h) (bad_tail fun f nf => bad_swi_none (nf z1 m1)) (by simp only [Its.tame, It.tame, Blks.tame, It.name]; exact ⟨⟨l0, (fun z e => (by cases e)), l1, trivial⟩, ⟨l2, trivial, trivial, trivial⟩, trivial⟩) (by simp [Its.flat, It.flat, Blks.flat])
          | n + 2, hj, _ => exact absurd hj (by omega)
        | n + 2, hj, _ => exact absurd hj (by omega)
    | 8, _ =>
      refine ⟨_, rfl, rfl, _, rfl, ino (by decide) ?_⟩
      refine ⟨_, rfl, rfl, _, rfl, ino (by decide) ?_⟩
      refine ⟨_, rfl, rfl, _, rfl, ino (by decide) ?_⟩
      refine ⟨_, rfl, rfl, _, rfl, ino (by decide) ?_⟩
      refine ⟨_, rfl, rfl, _, rfl, ino (by decide) ?_⟩
      refine ⟨_, rfl, rfl, _, rfl, ino (by decide) ?_⟩
      refine ⟨_, rfl, rfl, _, rfl, ino (by decide) ?_⟩
      refine ⟨_, rfl, rfl, _, rfl, ino (by decide) ?_⟩
      refine ⟨_, rfl, rfl, _, rfl, iyes rfl ?_⟩
      obtain ⟨a1, xs1, rfl, ho1, hx1⟩ := id h1
      obtain ⟨j, hj, ej⟩ := md 2 (by decide)
      have ej : nm % 2 = (j : Int) := ej
      (try dsimp only); refine seq_asg ?_; refine Dd.go (K := K) (H0 := H2) (.pick (.cons (.sc (tC (.int 65)) (.int 65)) (.cons (.sc (tC (.int 17)) (.int 17)) .nil)) (tOp (rI (fun x j => 0 < j) fun i j => V.int (i % j)) (tCB rInt1 (tCons (tVar 1) tNil)) (tC (.int 2))) j) rfl ?_ (Same.refl _) fun vm H3 s3 h => ?_; exact ⟨(Nat.le_of_ble_eq_true rfl), ⟨(fun _ _ _ q => q), ⟨(fun _ _ _ q => q), trivial⟩⟩, hj, (fun _ Q _ q => ⟨_, rfl, .inl ⟨_, rfl, _, _, rfl, rfl, (by show (0 : Int) < 2; decide), (by show Q (.int (nm % 2)) _; rw [ej]; exact q)⟩⟩)⟩
      have hnl := s3 _ _ hnl
      have ho1 := s3 _ _ ho1
      match j, hj, ej, h with
      | 0, hj, ej, h =>
        simp only [Dd.at, Dds.atN] at h
        subst h
        refine g_nx ?_; (try dsimp only); refine seq_asg ?_; refine Dd.go (K := K) (H0 := H3) (.tup (.cons (.sc (tC (.str "number")) (.str "number")) (.cons (.sc (tOp (rIxL K) (tVar 2) (tC (.int 1))) (.str z1)) (.cons (.sc (tC (.int 1)) (.int 1)) (.cons (.sc (tC (.str "big")) (.str "big")) (.cons (.sc (tC (.int 0)) (.int 0)) (.cons (.sc (tVar 12) (.int 65)) .nil))))))) rfl ?_ (Same.refl _) fun vi H4 s4 h => ?_; exact ⟨(Nat.le_of_ble_eq_true rfl), ⟨(fun _ _ _ q => q), ⟨(fun _ _ s q => ⟨_, rfl, nl, _, _, _, rfl, rfl, SqL.of (s _ _ hnl), gz1, q⟩), ⟨(fun _ _ _ q => q), ⟨(fun _ _ _ q => q), ⟨(fun _ _ _ q => q), ⟨(fun _ _ _ q => ⟨_, rfl, q⟩), trivial⟩⟩⟩⟩⟩⟩⟩
        have hy : It.At false H4 (.num z1 1 "big" 0 65) vi := MI.at (.num rfl) h
        have hnl := s4 _ _ hnl
        have ho1 := s4 _ _ ho1
        have ck : ∀ (σ : L2.St), σ[2]? = some (some (.ref nl)) → σ[4]? = some (some (.ref a1)) → ∀ (Hc : Hp) (Qc : VK), Same H4 Hc → (∀ v H', Same Hc H' → LAt H' (.cons (.byt z2 (.inl 1)) .nil) v → Qc v H') → (tOp rCat (tSl (rSlL K) (tVar 4) tNoPart (tPart (tC (.int 0)))) (Dd.te K (.lst (.cons (.tup (.cons (.sc (tC (.str "bytes")) (.str "bytes")) (.cons (.sc (tOp (rIxL K) (tVar 2) (tC (.int 2))) (.str z2)) (.cons (.sc (tC (.int 1)) (.int 1)) .nil)))) .nil)))) σ Hc Qc := fun σ h2σ h4σ Hc Qc sc qc => by
          refine ⟨_, h4σ, _, rfl, _, _, rfl, SqL.of (sc _ _ ho1), fun p hp => ?_⟩
          rw [show cutV xs1 none (some 0) = [] from by rw [show (some (0 : Int)) = some ((0 : Nat) : Int) from rfl]; unfold cutV; rw [HT.sIx_none, HT.sIx_nat]; simp]
          have sp := same_new hp (.lst [])
          refine Dd.run (K := K) (σ := σ) (H0 := upd Hc p (.lst [])) (.lst (.cons (.tup (.cons (.sc (tC (.str "bytes")) (.str "bytes")) (.cons (.sc (tOp (rIxL K) (tVar 2) (tC (.int 2))) (.str z2)) (.cons (.sc (tC (.int 1)) (.int 1)) .nil)))) .nil)) ⟨(Nat.le_of_ble_eq_true rfl), ⟨⟨(Nat.le_of_ble_eq_true rfl), ⟨(fun _ _ _ q => q), ⟨(fun _ _ s q => ⟨_, h2σ, nl, _, _, _, rfl, rfl, SqL.of ((sc.trans (sp.trans s)) _ _ hnl), gz2, q⟩), ⟨(fun _ _ _ q => q), trivial⟩⟩⟩⟩, trivial⟩⟩ (Same.refl _) fun v2 H5 s5 h5 => ?_
          obtain ⟨a5, xs5, rfl, h51, h52⟩ := ML.at (d := (.lst (.cons (.tup (.cons (.sc (tC (.str "bytes")) (.str "bytes")) (.cons (.sc (tOp (rIxL K) (tVar 2) (tC (.int 2))) (.str z2)) (.cons (.sc (tC (.int 1)) (.int 1)) .nil)))) .nil))) (x := (.cons (.byt z2 (.inl 1)) .nil)) (by exact (.lst (.cons (.byt rfl) .nil))) h5
          have hl5 := h52.len
          refine ⟨p, a5, _, _, rfl, rfl, s5 _ _ upd_same, h51, le_line (by rw [hl5]; simp [Its.len]), fun p3 hp3 => ?_⟩
          rw [List.nil_append]
          have s6 := same_new hp3 (.lst xs5)
          exact qc _ _ (sp.trans (s5.trans s6)) ⟨p3, xs5, rfl, upd_same, h52.same s6⟩
        refine g_nx ?_; (try dsimp only); refine Dd.run (K := K) (H0 := H4) (.lst (.cons (Dd.itm (tVar 13) (.num z1 1 "big" 0 65)) (.cons (.pick (.cons (.tup (.cons (.sc (tC (.str "bytes")) (.str "bytes")) (.cons (.sc (tVar 3) (.str z0)) (.cons (.sc (tOp (rIxL K) (tVar 2) (tC (.int 1))) (.str z1)) .nil)))) (.cons (.tup (.cons (.sc (tC (.str "repeat")) (.str "repeat")) (.cons (.sc (tVar 3) (.str z0)) (.cons (.sc (tOp (rIxL K) (tVar 2) (tC (.int 1))) (.str z1)) (.cons (Dd.ls (tOp rCat (tSl (rSlL K) (tVar 4) tNoPart (tPart (tC (.int 0)))) (Dd.te K (.lst (.cons (.tup (.cons (.sc (tC (.str "bytes")) (.str "bytes")) (.cons (.sc (tOp (rIxL K) (tVar 2) (tC (.int 2))) (.str z2)) (.cons (.sc (tC (.int 1)) (.int 1)) .nil)))) .nil)))) (.cons (.byt z2 (.inl 1)) .nil)) .nil))))) .nil)) (tOp (rI (fun x j => 0 < j) fun i j => V.int (i % j)) (tCB rInt1 (tCons (tVar 1) tNil)) (tC (.int 2))) 0) .nil))) ?_ (Same.refl _) fun v H' s5 h => ?_; exact ⟨(Nat.le_of_ble_eq_true rfl), ⟨(fun _ _ s q => ⟨_, rfl, q _ _ (Same.refl _) (It.At.same s hy)⟩), ⟨⟨(Nat.le_of_ble_eq_true rfl), ⟨⟨(Nat.le_of_ble_eq_true rfl), ⟨(fun _ _ _ q => q), ⟨(fun _ _ _ q => ⟨_, rfl, q⟩), ⟨(fun _ _ s q => ⟨_, rfl, nl, _, _, _, rfl, rfl, SqL.of (s _ _ hnl), gz1, q⟩), trivial⟩⟩⟩⟩, ⟨⟨(Nat.le_of_ble_eq_true rfl), ⟨(fun _ _ _ q => q), ⟨(fun _ _ _ q => ⟨_, rfl, q⟩), ⟨(fun _ _ s q => ⟨_, rfl, nl, _, _, _, rfl, rfl, SqL.of (s _ _ hnl), gz1, q⟩), ⟨(fun Hc Qc sc qc => ck _ rfl rfl Hc Qc sc qc), trivial⟩⟩⟩⟩⟩, trivial⟩⟩, (Nat.le_of_ble_eq_true rfl), (fun _ Q _ q => ⟨_, rfl, .inl ⟨_, rfl, _, _, rfl, rfl, (by show (0 : Int) < 2; decide), (by show Q (.int (nm % 2)) _; rw [ej]; exact q)⟩⟩)⟩, trivial⟩⟩⟩
        exact q v H' (.cons (.num z1 1 "big" 0 65) (.cons (.byt z0 (.inr z1)) .nil)) (s12.trans (s3.trans (s4.trans s5))) (ML.at (by exact (.lst (.cons (.gen fun _ h => h) (.cons (.pick rfl (.byt rfl)) .nil)))) h) (bad_tail fun f nf => by rw [lens_cons]; simp only [It.seen, It.lens]; rw [am_put (by decide)]) (by simp only [Its.tame, It.tame, Blks.tame, It.name]; exact ⟨l1, ⟨l0, fun z e => t1 z (by cases e; rfl)⟩, trivial⟩) (by simp [Its.flat, It.flat, Blks.flat])
      | 1, hj, ej, h =>
        simp only [Dd.at, Dds.atN] at h
        subst h
        refine g_nx ?_; (try dsimp only); refine seq_asg ?_; refine Dd.go (K := K) (H0 := H3) (.tup (.cons (.sc (tC (.str "number")) (.str "number")) (.cons (.sc (tOp (rIxL K) (tVar 2) (tC (.int 1))) (.str z1)) (.cons (.sc (tC (.int 1)) (.int 1)) (.cons (.sc (tC (.str "big")) (.str "big")) (.cons (.sc (tC (.int 0)) (.int 0)) (.cons (.sc (tVar 12) (.int 17)) .nil))))))) rfl ?_ (Same.refl _) fun vi H4 s4 h => ?_; exact ⟨(Nat.le_of_ble_eq_true rfl), ⟨(fun _ _ _ q => q), ⟨(fun _ _ s q => ⟨_, rfl, nl, _, _, _, rfl, rfl, SqL.of (s _ _ hnl), gz1, q⟩), ⟨(fun _ _ _ q => q), ⟨(fun _ _ _ q => q), ⟨(fun _ _ _ q => q), ⟨(fun _ _ _ q => ⟨_, rfl, q⟩), trivial⟩⟩⟩⟩⟩⟩⟩
        have hy : It.At false H4 (.num z1 1 "big" 0 17) vi := MI.at (.num rfl) h
        have hnl := s4 _ _ hnl
        have ho1 := s4 _ _ ho1
        have ck : ∀ (σ : L2.St), σ[2]? = some (some (.ref nl)) → σ[4]? = some (some (.ref a1)) → ∀ (Hc : Hp) (Qc : VK), Same H4 Hc → (∀ v H', Same Hc H' → LAt H' (.cons (.byt z2 (.inl 1)) .nil) v → Qc v H') → (tOp rCat (tSl (rSlL K) (tVar 4) tNoPart (tPart (tC (.int 0)))) (Dd.te K (.lst (.cons (.tup (.cons (.sc (tC (.str "bytes")) (.str "bytes")) (.cons (.sc (tOp (rIxL K) (tVar 2) (tC (.int 2))) (.str z2)) (.cons (.sc (tC (.int 1)) (.int 1)) .nil)))) .nil)))) σ Hc Qc := fun σ h2σ h4σ Hc Qc sc qc => by
          refine ⟨_, h4σ, _, rfl, _, _, rfl, SqL.of (sc _ _ ho1), fun p hp => ?_⟩
          rw [show cutV xs1 none (some 0) = [] from by rw [show (some (0 : Int)) = some ((0 : Nat) : Int) from rfl]; unfold cutV; rw [HT.sIx_none, HT.sIx_nat]; simp]
          have sp := same_new hp (.lst [])
          refine Dd.run (K := K) (σ := σ) (H0 := upd Hc p (.lst [])) (.lst (.cons (.tup (.cons (.sc (tC (.str "bytes")) (.str "bytes")) (.cons (.sc (tOp (rIxL K) (tVar 2) (tC (.int 2))) (.str z2)) (.cons (.sc (tC (.int 1)) (.int 1)) .nil)))) .nil)) ⟨(Nat.le_of_ble_eq_true rfl), ⟨⟨(Nat.le_of_ble_eq_true rfl), ⟨(fun _ _ _ q => q), ⟨(fun _ _ s q => ⟨_, h2σ, nl, _, _, _, rfl, rfl, SqL.of ((sc.trans (sp.trans s)) _ _ hnl), gz2, q⟩), ⟨(fun _ _ _ q => q), trivial⟩⟩⟩⟩, trivial⟩⟩ (Same.refl _) fun v2 H5 s5 h5 => ?_
          obtain ⟨a5, xs5, rfl, h51, h52⟩ := ML.at (d := (.lst (.cons (.tup (.cons (.sc (tC (.str "bytes")) (.str "bytes")) (.cons (.sc (tOp (rIxL K) (tVar 2) (tC (.int 2))) (.str z2)) (.cons (.sc (tC (.int 1)) (.int 1)) .nil)))) .nil))) (x := (.cons (.byt z2 (.inl 1)) .nil)) (by exact (.lst (.cons (.byt rfl) .nil))) h5
          have hl5 := h52.len
          refine ⟨p, a5, _, _, rfl, rfl, s5 _ _ upd_same, h51, le_line (by rw [hl5]; simp [Its.len]), fun p3 hp3 => ?_⟩
          rw [List.nil_append]
          have s6 := same_new hp3 (.lst xs5)
          exact qc _ _ (sp.trans (s5.trans s6)) ⟨p3, xs5, rfl, upd_same, h52.same s6⟩
        refine g_nx ?_; (try dsimp only); refine Dd.run (K := K) (H0 := H4) (.lst (.cons (Dd.itm (tVar 13) (.num z1 1 "big" 0 17)) (.cons (.pick (.cons (.tup (.cons (.sc (tC (.str "bytes")) (.str "bytes")) (.cons (.sc (tVar 3) (.str z0)) (.cons (.sc (tOp (rIxL K) (tVar 2) (tC (.int 1))) (.str z1)) .nil)))) (.cons (.tup (.cons (.sc (tC (.str "repeat")) (.str "repeat")) (.cons (.sc (tVar 3) (.str z0)) (.cons (.sc (tOp (rIxL K) (tVar 2) (tC (.int 1))) (.str z1)) (.cons (Dd.ls (tOp rCat (tSl (rSlL K) (tVar 4) tNoPart (tPart (tC (.int 0)))) (Dd.te K (.lst (.cons (.tup (.cons (.sc (tC (.str "bytes")) (.str "bytes")) (.cons (.sc (tOp (rIxL K) (tVar 2) (tC (.int 2))) (.str z2)) (.cons (.sc (tC (.int 1)) (.int 1)) .nil)))) .nil)))) (.cons (.byt z2 (.inl 1)) .nil)) .nil))))) .nil)) (tOp (rI (fun x j => 0 < j) fun i j => V.int (i % j)) (tCB rInt1 (tCons (tVar 1) tNil)) (tC (.int 2))) 1) .nil))) ?_ (Same.refl _) fun v H' s5 h => ?_; exact ⟨(Nat.le_of_ble_eq_true rfl), ⟨(fun _ _ s q => ⟨_, rfl, q _ _ (Same.refl _) (It.At.same s hy)⟩), ⟨⟨(Nat.le_of_ble_eq_true rfl), ⟨⟨(Nat.le_of_ble_eq_true rfl), ⟨(fun _ _ _ q => q), ⟨(fun _ _ _ q => ⟨_, rfl, q⟩), ⟨(fun _ _ s q => ⟨_, rfl, nl, _, _, _, rfl, rfl, SqL.of (s _ _ hnl), gz1, q⟩), trivial⟩⟩⟩⟩, ⟨⟨(Nat.le_of_ble_eq_true rfl), ⟨(fun _ _ _ q => q), ⟨(fun _ _ _ q => ⟨_, rfl, q⟩), ⟨(fun _ _ s q => ⟨_, rfl, nl, _, _, _, rfl, rfl, SqL.of (s _ _ hnl), gz1, q⟩), ⟨(fun Hc Qc sc qc => ck _ rfl rfl Hc Qc sc qc), trivial⟩⟩⟩⟩⟩, trivial⟩⟩, (Nat.le_of_ble_eq_true rfl), (fun _ Q _ q => ⟨_, rfl, .inl ⟨_, rfl, _, _, rfl, rfl, (by show (0 : Int) < 2; decide), (by show Q (.int (nm % 2)) _; rw [ej]; exact q)⟩⟩)⟩, trivial⟩⟩⟩
        exact q v H' (.cons (.num z1 1 "big" 0 17) (.cons (.rep z0 (.inr z1) (.cons (.byt z2 (.inl 1)) .nil)) .nil)) (s12.trans (s3.trans (s4.trans s5))) (ML.at (by exact (.lst (.cons (.gen fun _ h => h) (.cons (.pick rfl (.rep rfl rfl rfl (.gen fun _ h => h))) .nil)))) h) (bad_tail fun f nf => by rw [lens_cons]; simp only [It.seen, It.lens]; rw [am_put (by decide)]) (by simp only [Its.tame, It.tame, Blks.tame, It.name]; exact ⟨l1, ⟨l0, fun z e => t1 z (by cases e; rfl), ⟨l2, (fun z e => (by cases e))⟩, trivial⟩, trivial⟩) (by simp [Its.flat, It.flat, Blks.flat])
      | n + 2, hj, _, _ => exact absurd hj (by omega)
    | 9, _ =>
      refine ⟨_, rfl, rfl, _, rfl, ino (by decide) ?_⟩
      refine ⟨_, rfl, rfl, _, rfl, ino (by decide) ?_⟩
      refine ⟨_, rfl, rfl, _, rfl, ino (by decide) ?_⟩
      refine ⟨_, rfl, rfl, _, rfl, ino (by decide) ?_⟩
      refine ⟨_, rfl, rfl, _, rfl, ino (by decide) ?_⟩
      refine ⟨_, rfl, rfl, _, rfl, ino (by decide) ?_⟩
      refine ⟨_, rfl, rfl, _, rfl, ino (by decide) ?_⟩
      refine ⟨_, rfl, rfl, _, rfl, ino (by decide) ?_⟩
      refine ⟨_, rfl, rfl, _, rfl, ino (by decide) ?_⟩
      refine ⟨_, rfl, .inl ⟨_, rfl, _, _, rfl, rfl, (by show (0 : Int) < 4; decide), rfl, _, rfl, ite2 (fun _ => ?_) (fun _ => ?_)⟩⟩
      · (try dsimp only); refine seq_asg ?_; refine Dd.go (K := K) (H0 := H2) (.lst (.cons (.tup (.cons (.sc (tC (.str "number")) (.str "number")) (.cons (.sc (tOp (rIxL K) (tVar 2) (tC (.int 4))) (.str z4)) (.cons (.sc (tC (.int 1)) (.int 1)) (.cons (.sc (tC (.str "big")) (.str "big")) (.cons (.sc (tC (.int 0)) (.int 0)) (.cons (.sc (tC (.int 1)) (.int 1)) .nil))))))) (.cons (.tup (.cons (.sc (tC (.str "switch")) (.str "switch")) (.cons (.sc (tOp (rIxL K) (tVar 2) (tC (.int 3))) (.str z3)) (.cons (.sc (tOp (rIxL K) (tVar 2) (tC (.int 4))) (.str z4)) (.cons (.lst (.cons (.tup (.cons (.sc (tC (.int 0)) (.int 0)) (.cons (.lst .nil) .nil))) .nil)) .nil))))) .nil))) rfl ?_ (Same.refl _) fun vb H3 s3 h => ?_; exact ⟨(Nat.le_of_ble_eq_true rfl), ⟨⟨(Nat.le_of_ble_eq_true rfl), ⟨(fun _ _ _ q => q), ⟨(fun _ _ s q => ⟨_, rfl, nl, _, _, _, rfl, rfl, SqL.of (s _ _ hnl), gz4, q⟩), ⟨(fun _ _ _ q => q), ⟨(fun _ _ _ q => q), ⟨(fun _ _ _ q => q), ⟨(fun _ _ _ q => q), trivial⟩⟩⟩⟩⟩⟩⟩, ⟨⟨(Nat.le_of_ble_eq_true rfl), ⟨(fun _ _ _ q => q), ⟨(fun _ _ s q => ⟨_, rfl, nl, _, _, _, rfl, rfl, SqL.of (s _ _ hnl), gz3, q⟩), ⟨(fun _ _ s q => ⟨_, rfl, nl, _, _, _, rfl, rfl, SqL.of (s _ _ hnl), gz4, q⟩), ⟨⟨(Nat.le_of_ble_eq_true rfl), ⟨⟨(Nat.le_of_ble_eq_true rfl), ⟨(fun _ _ _ q => q), ⟨⟨(Nat.le_of_ble_eq_true rfl), trivial⟩, trivial⟩⟩⟩, trivial⟩⟩, trivial⟩⟩⟩⟩⟩, trivial⟩⟩⟩
        have hb : LAt H3 (.cons (.num z4 1 "big" 0 1) (.cons (.swi z3 z4 (.cons 0 .nil .nil)) .nil)) vb := ML.at (by exact (.lst (.cons (.num rfl) (.cons (.swi rfl rfl rfl (.lst (.cons rfl (.lst .nil) .nil))) .nil)))) h
        have hnl := s3 _ _ hnl
        refine ⟨3, rfl, by decide, by decide, for_range (lo := 0) (n := 3) (fun i σ H' => ∃ (vv : V) (o15 : Option V) (x : Its), σ = [some (.int ((11 : Int) + ((9 : Nat) : Int))), some (.int nm), some (.ref nl), some (.str z0), some v1, some v2, none, none, none, none, some vv, none, none, none, none, o15] ∧ Same H3 H' ∧ LAt H' x vv ∧ x.tame ∧ x.flat.length ≤ 2 + 2 * i ∧ ∀ d : Int, 3 - (i : Int) ≤ d → x.ok d = false)
          ⟨vb, none, (.cons (.num z4 1 "big" 0 1) (.cons (.swi z3 z4 (.cons 0 .nil .nil)) .nil)), rfl, Same.refl _, hb, by simp only [Its.tame, It.tame, Blks.tame, It.name]; exact ⟨l4, ⟨l3, trivial, trivial, trivial⟩, trivial⟩, by simp [Its.flat, It.flat, Blks.flat], fun d hd => by simp only [Its.ok, It.ok]; rw [decide_eq_false (show ¬ d ≤ 2 by omega)]; simp⟩ ?_ ?_⟩
        · rintro i σ H4 hi ⟨vv, o15, x, rfl, s4, hv, tx, fx, okx⟩
          have hnl := s4 _ _ hnl
          obtain ⟨zk, gk, nk, _⟩ := gz i (by omega)
          obtain ⟨zj, gj, nj, _⟩ := gz (5 + i) (by omega)
          have gzk : atI (zs.map V.str) (0 + (i : Int)) = some (.str zk) := by rw [show (0 + (i : Int)) = ((i : Nat) : Int) by omega]; exact atI_nat (by rw [List.getElem?_map, gk]; rfl)
          have gzj : atI (zs.map V.str) ((5 : Int) + (0 + (i : Int))) = some (.str zj) := by rw [show (5 : Int) + (0 + (i : Int)) = ((5 + i : Nat) : Int) by omega]; exact atI_nat (by rw [List.getElem?_map, gj]; rfl)
          obtain ⟨ax, xsx, rfl, hax, hxx⟩ := id hv
          have ck : ∀ (σ : L2.St), σ[2]? = some (some (.ref nl)) → σ[10]? = some (some (.ref ax)) → σ[15]? = some (some (.int (0 + (i : Int)))) → ∀ (Hc : Hp) (Qc : VK), Same H4 Hc → (∀ v H', Same Hc H' → LAt H' (x20 zj i x) v → Qc v H') → (tOp rCat (tOp rRep (Dd.te K (.lst (.cons (.tup (.cons (.sc (tC (.str "bytes")) (.str "bytes")) (.cons (.sc (tOp (rIxL K) (tVar 2) (tOp (rI0 fun i j => V.int (i + j)) (tC (.int 5)) (tVar 15))) (.str zj)) (.cons (.sc (tC (.int 1)) (.int 1)) .nil)))) .nil))) (tCB rInt1 (tCons (tOp (rI0 fun i j => V.bl (decide (j < i))) (tVar 15) (tC (.int 0))) tNil))) (tVar 10)) σ Hc Qc := fun σ h2σ h10σ h15σ Hc Qc sc qc => by
            refine tOp_go (tOp_go ?_)
            refine Dd.run (K := K) (σ := σ) (H0 := Hc) (.lst (.cons (.tup (.cons (.sc (tC (.str "bytes")) (.str "bytes")) (.cons (.sc (tOp (rIxL K) (tVar 2) (tOp (rI0 fun i j => V.int (i + j)) (tC (.int 5)) (tVar 15))) (.str zj)) (.cons (.sc (tC (.int 1)) (.int 1)) .nil)))) .nil)) ⟨(Nat.le_of_ble_eq_true rfl), ⟨⟨(Nat.le_of_ble_eq_true rfl), ⟨(fun _ _ _ q => q), ⟨(fun _ _ s q => ⟨_, h2σ, _, h15σ, _, _, rfl, rfl, nl, _, _, _, rfl, rfl, SqL.of ((sc.trans s) _ _ hnl), gzj, q⟩), ⟨(fun _ _ _ q => q), trivial⟩⟩⟩⟩, trivial⟩⟩ (Same.refl _) fun v2 H5 s5 h5 => ?_
            obtain ⟨a5, xs5, rfl, h51, h52⟩ := ML.at (d := (.lst (.cons (.tup (.cons (.sc (tC (.str "bytes")) (.str "bytes")) (.cons (.sc (tOp (rIxL K) (tVar 2) (tOp (rI0 fun i j => V.int (i + j)) (tC (.int 5)) (tVar 15))) (.str zj)) (.cons (.sc (tC (.int 1)) (.int 1)) .nil)))) .nil))) (x := (.cons (.byt zj (.inl 1)) .nil)) (by exact (.lst (.cons (.byt rfl) .nil))) h5
            have l5 : xs5.length = 1 := h52.len
            have hax5 := s5 _ _ (sc _ _ hax)
            have hx5 := hxx.same (sc.trans s5)
            refine ⟨_, h15σ, _, _, rfl, rfl, .inr ⟨_, rfl, a5, _, xs5, rfl, rfl, h51, ?_, ?_, ?_, fun p hp => ?_⟩⟩
            · split <;> decide
            · split <;> decide
            · rw [l5]; split <;> decide
            have s6 := same_new hp (.lst (List.replicate (if decide (0 < 0 + (i : Int)) = true then (1 : Int) else 0).toNat xs5).flatten)
            refine ⟨_, h10σ, p, ax, _, _, rfl, rfl, upd_same, s6 _ _ hax5, le_line (by rw [hx5.len]; simp only [List.length_flatten, List.map_replicate, l5]; have := len_flat x; split <;> simp <;> omega), fun p2 hp2 => ?_⟩
            have s7 := same_new hp2 (.lst ((List.replicate (if decide (0 < 0 + (i : Int)) = true then (1 : Int) else 0).toNat xs5).flatten ++ xsx))
            refine qc _ _ (s5.trans (s6.trans s7)) ⟨p2, _, rfl, upd_same, ?_⟩
            have hx7 := hx5.same (s6.trans s7)
            have h57 := h52.same (s6.trans s7)
            generalize upd (upd H5 p _) p2 _ = G at hx7 h57 ⊢
            unfold x20
            by_cases c : i = 0
            · subst c
              rw [if_pos rfl]
              simpa using hx7
            · rw [if_neg c]
              have e1 : (if decide (0 < 0 + (i : Int)) = true then (1 : Int) else 0).toNat = 1 := by rw [if_pos (decide_eq_true (by omega))]; rfl
              rw [e1]
              have := app_at h57 hx7
              simpa [Its.app] using this
          (try refine g_nx ?_); (try dsimp only); refine asg_go ?_; refine Dd.go (K := K) (H0 := H4) (.lst (.cons (.tup (.cons (.sc (tC (.str "repeat")) (.str "repeat")) (.cons (.sc (tOp (rIxL K) (tVar 2) (tVar 15)) (.str zk)) (.cons (.sc (tC (.int 1)) (.int 1)) (.cons (Dd.ls (tOp rCat (tOp rRep (Dd.te K (.lst (.cons (.tup (.cons (.sc (tC (.str "bytes")) (.str "bytes")) (.cons (.sc (tOp (rIxL K) (tVar 2) (tOp (rI0 fun i j => V.int (i + j)) (tC (.int 5)) (tVar 15))) (.str zj)) (.cons (.sc (tC (.int 1)) (.int 1)) .nil)))) .nil))) (tCB rInt1 (tCons (tOp (rI0 fun i j => V.bl (decide (j < i))) (tVar 15) (tC (.int 0))) tNil))) (tVar 10)) (x20 zj i x)) .nil))))) .nil)) rfl ?_ (Same.refl _) fun v H5 s5 h => ?_; exact ⟨(Nat.le_of_ble_eq_true rfl), ⟨⟨(Nat.le_of_ble_eq_true rfl), ⟨(fun _ _ _ q => q), ⟨(fun _ _ s q => ⟨_, rfl, _, rfl, nl, _, _, _, rfl, rfl, SqL.of (s _ _ hnl), gzk, q⟩), ⟨(fun _ _ _ q => q), ⟨(fun Hc Qc sc qc => ck _ rfl rfl rfl Hc Qc sc qc), trivial⟩⟩⟩⟩⟩, trivial⟩⟩
          have hv5 : LAt H5 (.cons (.rep zk (.inl 1) (x20 zj i x)) .nil) v := ML.at (by exact (.lst (.cons (.rep rfl rfl rfl (.gen fun _ h => h)) .nil))) h
          refine ⟨v, _, _, rfl, s4.trans s5, hv5, ?_, ?_, fun d hd => ?_⟩
          · simp only [Its.tame, It.tame]
            exact ⟨⟨nm_tame nk, (fun z e => (by cases e)), x20_tame (nm_tame nj) tx⟩, trivial⟩
          · have := x20_flat zj i x
            simp only [Its.flat, It.flat, List.append_nil, List.length_cons]
            omega
          · simp only [Its.ok, It.ok]
            by_cases c : d ≤ 2
            · rw [x20_ok (okx (d + 1) (by omega))]; simp
            · rw [decide_eq_false c]; simp
        · rintro σ H4 ⟨vv, o15, x, rfl, s4, hv, tx, fx, okx⟩
          exact ⟨_, rfl, q vv H4 x (s12.trans (s3.trans s4)) hv (.ok fun d hd => okx d (by omega)) tx (by omega)⟩
      · refine nx_go ?_; (try dsimp only); refine seq_asg ?_; refine Dd.go (K := K) (H0 := H2) (.tup (.cons (.sc (tC (.str "bytes")) (.str "bytes")) (.cons (.sc (tOp (rIxL K) (tVar 2) (tC (.int 4))) (.str z4)) (.cons (.sc (tC (.int 1)) (.int 1)) .nil)))) rfl ?_ (Same.refl _) fun vi H3 s3 h => ?_; exact ⟨(Nat.le_of_ble_eq_true rfl), ⟨(fun _ _ _ q => q), ⟨(fun _ _ s q => ⟨_, rfl, nl, _, _, _, rfl, rfl, SqL.of (s _ _ hnl), gz4, q⟩), ⟨(fun _ _ _ q => q), trivial⟩⟩⟩⟩
        have hi0 : It.At false H3 (.byt z4 (.inl 1)) vi := MI.at (.byt rfl) h
        have hnl := s3 _ _ hnl
        refine ⟨4, rfl, by decide, by decide, for_range (lo := 0) (n := 4) (fun i σ H' => ∃ (vv : V) (o15 : Option V) (y : It), σ = [some (.int ((11 : Int) + ((9 : Nat) : Int))), some (.int nm), some (.ref nl), some (.str z0), some v1, some v2, none, none, none, none, none, none, none, none, some vv, o15] ∧ Same H3 H' ∧ y.At false H' vv ∧ y.tame ∧ y.flat.length ≤ 1 + i ∧ (1 ≤ i → ∀ d : Int, 4 - (i : Int) ≤ d → y.ok d = false))
          ⟨vi, none, _, rfl, Same.refl _, hi0, by simp only [It.tame]; exact ⟨l4, fun z e => by cases e⟩, by simp [It.flat], fun h => by omega⟩ ?_ ?_⟩
        · rintro i σ H4 hi ⟨vv, o15, y, rfl, s4, hy, ty, fy, oky⟩
          have hnl := s4 _ _ hnl
          obtain ⟨zk, gk, nk, _⟩ := gz i (by omega)
          have gzk : atI (zs.map V.str) (0 + (i : Int)) = some (.str zk) := by rw [show (0 + (i : Int)) = ((i : Nat) : Int) by omega]; exact atI_nat (by rw [List.getElem?_map, gk]; rfl)
          have hk1 : (0 : Int) < 0 + (i : Int) + 1 := by omega
          obtain ⟨j, hj, ej⟩ : ∃ j : Nat, j < 2 ∧ nm / (0 + (i : Int) + 1) % 2 = (j : Int) := ⟨(nm / (0 + (i : Int) + 1) % 2).toNat, by omega, by omega⟩
          have okn : ∀ d : Int, 3 - (i : Int) ≤ d → d ≤ 2 → y.ok (d + 1) = false := fun d h1 h2 => oky (by omega) (d + 1) (by omega)
          (try refine g_nx ?_); (try dsimp only); refine asg_go ?_; refine Dd.go (K := K) (H0 := H4) (.pick (.cons (.tup (.cons (.sc (tC (.str "repeat")) (.str "repeat")) (.cons (.sc (tOp (rIxL K) (tVar 2) (tVar 15)) (.str zk)) (.cons (.sc (tC (.int 1)) (.int 1)) (.cons (.lst (.cons (Dd.itm (tVar 14) y) .nil)) .nil))))) (.cons (.tup (.cons (.sc (tC (.str "either")) (.str "either")) (.cons (.sc (tOp (rIxL K) (tVar 2) (tVar 15)) (.str zk)) (.cons (.lst (.cons (.lst (.cons (Dd.itm (tVar 14) y) .nil)) (.cons (.lst .nil) .nil))) .nil)))) .nil)) (tOp (rI (fun x j => 0 < j) fun i j => V.int (i % j)) (tOp (rI CDiv fun i j => V.int (i / j)) (tVar 1) (tOp (rI0 fun i j => V.int (i + j)) (tVar 15) (tC (.int 1)))) (tC (.int 2))) j) rfl ?_ (Same.refl _) fun v H5 s5 h => ?_; exact ⟨(Nat.le_of_ble_eq_true rfl), ⟨⟨(Nat.le_of_ble_eq_true rfl), ⟨(fun _ _ _ q => q), ⟨(fun _ _ s q => ⟨_, rfl, _, rfl, nl, _, _, _, rfl, rfl, SqL.of (s _ _ hnl), gzk, q⟩), ⟨(fun _ _ _ q => q), ⟨⟨(Nat.le_of_ble_eq_true rfl), ⟨(fun _ _ s q => ⟨_, rfl, q _ _ (Same.refl _) (It.At.same s hy)⟩), trivial⟩⟩, trivial⟩⟩⟩⟩⟩, ⟨⟨(Nat.le_of_ble_eq_true rfl), ⟨(fun _ _ _ q => q), ⟨(fun _ _ s q => ⟨_, rfl, _, rfl, nl, _, _, _, rfl, rfl, SqL.of (s _ _ hnl), gzk, q⟩), ⟨⟨(Nat.le_of_ble_eq_true rfl), ⟨⟨(Nat.le_of_ble_eq_true rfl), ⟨(fun _ _ s q => ⟨_, rfl, q _ _ (Same.refl _) (It.At.same s hy)⟩), trivial⟩⟩, ⟨⟨(Nat.le_of_ble_eq_true rfl), trivial⟩, trivial⟩⟩⟩, trivial⟩⟩⟩⟩, trivial⟩⟩, hj, (fun _ Q _ q => ⟨_, rfl, _, rfl, _, _, rfl, rfl, _, _, rfl, rfl, (show CDiv nm (0 + (i : Int) + 1) from ⟨hk1, (by omega)⟩), _, _, rfl, rfl, (by show (0 : Int) < 2; decide), (by show Q (.int (nm / (0 + (i : Int) + 1) % 2)) _; rw [ej]; exact q)⟩)⟩
          match j, hj, h with
          | 0, _, h =>
            refine ⟨v, _, .rep zk (.inl 1) (.cons y .nil), rfl, s4.trans s5, MI.at (by exact (.pick rfl (.rep rfl rfl rfl (.lst (.cons (.gen fun _ h => h) .nil))))) h, ?_, ?_, fun _ d hd => ?_⟩
            · simp only [It.tame, Its.tame]; exact ⟨nm_tame nk, (fun z e => (by cases e)), ty, trivial⟩
            · simp only [It.flat, Its.flat, List.append_nil, List.length_cons]; omega
            · by_cases c : d ≤ 2
              · simp [It.ok, Its.ok, okn d (by omega) c]
              · simp [It.ok, c]
          | 1, _, h =>
            refine ⟨v, _, .eit zk (.cons 0 (.cons y .nil) (.cons 0 .nil .nil)), rfl, s4.trans s5, MI.at (by exact (.pick rfl (.eit rfl rfl (.lst (.cons (.lst (.cons (.gen fun _ h => h) .nil)) (.cons (.lst .nil) .nil)))))) h, ?_, ?_, fun _ d hd => ?_⟩
            · simp only [It.tame, Its.tame, Blks.tame]; exact ⟨nm_tame nk, ⟨ty, trivial⟩, trivial, trivial⟩
            · simp only [It.flat, Its.flat, Blks.flat, List.append_nil, List.length_cons]; omega
            · by_cases c : d ≤ 2
              · simp [It.ok, Its.ok, Blks.ok, okn d (by omega) c]
              · simp [It.ok, c]
          | n + 2, hj, _ => exact absurd hj (by omega)
        · rintro σ H4 ⟨vv, o15, y, rfl, s4, hy, ty, fy, oky⟩
          refine Dd.run (K := K) (H0 := H4) (.lst (.cons (Dd.itm (tVar 14) y) .nil)) ?_ (Same.refl _) fun v H' s5 h => ?_; exact ⟨(Nat.le_of_ble_eq_true rfl), ⟨(fun _ _ s q => ⟨_, rfl, q _ _ (Same.refl _) (It.At.same s hy)⟩), trivial⟩⟩
          exact q v H' (.cons y .nil) (s12.trans (s3.trans (s4.trans s5))) (ML.at (by exact (.lst (.cons (.gen fun _ h => h) .nil))) h) (.ok fun d hd => by simp [Its.ok, oky (by omega) d (by omega)]) (by simp only [Its.tame]; exact ⟨ty, trivial⟩) (by simp only [Its.flat, List.append_nil]; omega)
    | n + 10, hc => exact absurd hc (by omega)
end
end Bs

set_option Elab.async false
set_option linter.all false
set_option maxRecDepth 100000
set_option maxHeartbeats 8000000
namespace Bs
open PySem L2
/-! ### within one or two blocks -/
abbrev sWrapped : Stmt := top 61
theorem app_nil : ∀ (x : Its), x.app .nil = x
  | .nil => rfl
  | .cons x r => by simp [Its.app, app_nil r]
def spWrapped : Sp := fun vs H Q _ => ∃ (S : List Str) (v : V) (nm : Int) (nl : Addr) (zs : List Str) (x : Its), vs = [v, .int nm, .ref nl] ∧ 0 ≤ nm ∧ H nl = some (.lst (zs.map V.str)) ∧ 8 ≤ zs.length ∧ (∀ z ∈ zs, isName z = true) ∧ LAt H x v ∧ Bd S x ∧ x.tame ∧ x.flat.length ≤ 20 ∧
  ∀ v' H' y, Same H H' → LAt H' y v' → Bd S y → y.tame → y.flat.length ≤ 24 → Q v' H'
section
variable {P : Program} {w : World} {K : PySem.W.Frag} {mg : Str → Option Value} {base : Heap} {f : Addr} {fd : FuncData}
abbrev nWrapped : List Str := ["bad", "number", "names", "k", "inner"]
theorem scWrapped : FnScope nWrapped ["bad", "number", "names"] (defScope sWrapped) := ⟨rfl, rfl, rfl, by decide +kernel, rfl, by decide +kernel, by decide +kernel⟩
theorem ok_wrapped (F : Fun K "_law_wrapped" "_law_wrapped" sWrapped f fd) (mint : mg "int" = none) (mr : mg "range" = none) : FnOk P w K mg base CX0 1 f fd ["bad", "number", "names"] spWrapped := by
  refine F.ok scWrapped (fun vs H Q E h => ?_) (fun cdv A outer s H vs Q E hr h => ?_)
  · obtain ⟨S, v, nm, nl, zs, x, rfl, _⟩ := h
    rfl
  · obtain ⟨S, v, nm, nl, zs, x, rfl, hnm, hnl, hz8, hzn, hx, bx, tx, fx, q⟩ := h
    refine ⟨_, (pss_cons (ps_for PassesOwn.never rfl (pi_range1 (by rfl) mr (pa_cons (pe_op op_mod (pe_callTy (r := rInt1) call_int1 (by rfl) mint (by decide +kernel) (pa_cons (pv 1) pa_nil)) pe_int) pa_nil)) (pg_name (i := 3) scWrapped.nd rfl (.inl rfl))
        (pss_cons (ps_set (i := 4) scWrapped.nd rfl (.inl rfl) (pe_op op_cat (pe_lst (pa_cons (pe_tup (pa_cons pe_str (pa_cons (pe_ix (r := rIxL K) ix_list (pv 2) (pe_op op_mul pe_int (pv 3)) (fun _ _ => rfl)) (pa_cons pe_int pa_nil)))) pa_nil)) (pv 0)))
      (pss_one (ps_set (i := 0) scWrapped.nd rfl (.inl rfl) (pe_ix (r := rIxL K) ix_list (pe_lst (pa_cons (pe_lst (pa_cons (pe_tup (pa_cons pe_str (pa_cons (pe_ix (r := rIxL K) ix_list (pv 2) (pe_op op_add (pe_op op_mul pe_int (pv 3)) pe_int) (fun _ _ => rfl)) (pa_cons pe_int (pa_cons (pv 4) pa_nil))))) pa_nil)) (pa_cons (pe_lst (pa_cons (pe_tup (pa_cons pe_str (pa_cons (pe_ix (r := rIxL K) ix_list (pv 2) (pe_op op_add (pe_op op_mul pe_int (pv 3)) pe_int) (fun _ _ => rfl)) (pa_cons (pe_lst (pa_cons (pv 4) (pa_cons (pe_lst pa_nil) pa_nil))) pa_nil)))) pa_nil)) pa_nil))) (pe_op op_mod (pe_op op_fdiv (pv 1) pe_int) pe_int) (fun _ _ => rfl))))))
      (pss_one (ps_ret (pv 0)))), ?_⟩
    have gz : ∀ (i : Nat) (hi : i < 8), ∃ z, zs[i]? = some z ∧ isName z = true := fun i hi => by
      have g : zs[i]? = some (zs[i]'(by omega)) := List.getElem?_eq_getElem (by omega)
      exact ⟨_, g, hzn _ (List.mem_of_getElem? g)⟩
    obtain ⟨j3, hj3, ej3⟩ : ∃ j : Nat, j < 2 ∧ nm / 3 % 2 = (j : Int) := ⟨(nm / 3 % 2).toNat, by omega, by omega⟩
    refine ⟨_, rfl, .inl ⟨_, rfl, _, _, rfl, rfl, (by show (0 : Int) < 3; decide), _, rfl, by omega, by omega, for_range (lo := 0) (n := (nm % 3).toNat) (fun i σ H' => ∃ (vv : V) (o3 o4 : Option V) (y : Its), σ = [some vv, some (.int nm), some (.ref nl), o3, o4] ∧ Same H H' ∧ LAt H' y vv ∧ Bd S y ∧ y.tame ∧ y.flat.length ≤ 20 + 2 * i)
      ⟨v, none, none, x, rfl, Same.refl _, hx, bx, tx, fx⟩ ?_ ?_⟩⟩
    · rintro i σ H1 hi ⟨vv, o3, o4, y, rfl, s1, hy, by_, ty, fy⟩
      have hi : i < 2 := by omega
      have hnl := s1 _ _ hnl
      obtain ⟨za, ga, na⟩ := gz (2 * i) (by omega)
      obtain ⟨zb, gb, nb⟩ := gz (2 * i + 1) (by omega)
      have gza : atI (zs.map V.str) ((2 : Int) * (0 + (i : Int))) = some (.str za) := by rw [show (2 : Int) * (0 + (i : Int)) = ((2 * i : Nat) : Int) by omega]; exact atI_nat (by rw [List.getElem?_map, ga]; rfl)
      have gzb : atI (zs.map V.str) ((2 : Int) * (0 + (i : Int)) + 1) = some (.str zb) := by rw [show (2 : Int) * (0 + (i : Int)) + 1 = ((2 * i + 1 : Nat) : Int) by omega]; exact atI_nat (by rw [List.getElem?_map, gb]; rfl)
      obtain ⟨ay, xsy, rfl, hay, hyy⟩ := id hy
      (try refine g_nx ?_); (try dsimp only); refine seq_asg ?_
      refine tOp_go ?_
      refine Dd.go (K := K) (H0 := H1) (.lst (.cons (.tup (.cons (.sc (tC (.str "bytes")) (.str "bytes")) (.cons (.sc (tOp (rIxL K) (tVar 2) (tOp (rI CMul fun i j => V.int (i * j)) (tC (.int 2)) (tVar 3))) (.str za)) (.cons (.sc (tC (.int 1)) (.int 1)) .nil)))) .nil)) rfl ?_ (Same.refl _) fun v2 H2 s2 h2 => ?_; exact ⟨(Nat.le_of_ble_eq_true rfl), ⟨⟨(Nat.le_of_ble_eq_true rfl), ⟨(fun _ _ _ q => q), ⟨(fun _ _ s q => ⟨_, rfl, _, rfl, _, _, rfl, rfl, .inl ⟨by decide, by decide⟩, nl, _, _, _, rfl, rfl, SqL.of (s _ _ hnl), gza, q⟩), ⟨(fun _ _ _ q => q), trivial⟩⟩⟩⟩, trivial⟩⟩
      obtain ⟨a5, xs5, rfl, h51, h52⟩ := ML.at (d := (.lst (.cons (.tup (.cons (.sc (tC (.str "bytes")) (.str "bytes")) (.cons (.sc (tOp (rIxL K) (tVar 2) (tOp (rI CMul fun i j => V.int (i * j)) (tC (.int 2)) (tVar 3))) (.str za)) (.cons (.sc (tC (.int 1)) (.int 1)) .nil)))) .nil))) (x := .cons (.byt za (.inl 1)) .nil) (by exact (.lst (.cons (.byt rfl) .nil))) h2
      have hay2 := s2 _ _ hay
      have hyy2 := hyy.same s2
      have ly := len_flat y
      refine ⟨_, rfl, a5, ay, _, _, rfl, rfl, h51, hay2, le_line (by rw [h52.len, hyy2.len]; simp only [Its.len]; omega), fun p hp => ?_⟩
      have s3 := same_new hp (.lst (xs5 ++ xsy))
      have hin : LAt (upd H2 p (.lst (xs5 ++ xsy))) ((Its.cons (.byt za (.inl 1)) .nil).app y) (.ref p) := ⟨p, _, rfl, upd_same, (app_at h52 hyy2).same s3⟩
      have s23 := s2.trans s3
      have hnl := s23 _ _ hnl
      generalize upd H2 p (.lst (xs5 ++ xsy)) = H3 at s3 s23 hnl hin ⊢
      have bin : Bd S ((Its.cons (.byt za (.inl 1)) .nil).app y) := by
        have := by_.ctx (pre := .cons (.byt za (.inl 1)) .nil) (post := .nil) fun u hu => by
          simp only [Its.toL, List.mem_singleton] at hu
          subst hu; trivial
        rwa [app_nil] at this
      have tin : ((Its.cons (.byt za (.inl 1)) .nil).app y).tame := app_tame (by simp only [Its.tame, It.tame]; exact ⟨⟨nm_tame na, fun z e => (by cases e)⟩, trivial⟩) ty
      have fin : ((Its.cons (.byt za (.inl 1)) .nil).app y).flat.length = y.flat.length + 1 := by rw [app_flat]; (simp [Its.flat, It.flat]) <;> omega
      generalize (Its.cons (.byt za (.inl 1)) .nil).app y = yi at hin bin tin fin
      (try refine g_nx ?_); (try dsimp only); refine asg_go ?_
      refine Dd.go (K := K) (H0 := H3) (.pick (.cons (.lst (.cons (.tup (.cons (.sc (tC (.str "repeat")) (.str "repeat")) (.cons (.sc (tOp (rIxL K) (tVar 2) (tOp (rI0 fun i j => V.int (i + j)) (tOp (rI CMul fun i j => V.int (i * j)) (tC (.int 2)) (tVar 3)) (tC (.int 1)))) (.str zb)) (.cons (.sc (tC (.int 1)) (.int 1)) (.cons (Dd.ls (tVar 4) yi) .nil))))) .nil)) (.cons (.lst (.cons (.tup (.cons (.sc (tC (.str "either")) (.str "either")) (.cons (.sc (tOp (rIxL K) (tVar 2) (tOp (rI0 fun i j => V.int (i + j)) (tOp (rI CMul fun i j => V.int (i * j)) (tC (.int 2)) (tVar 3)) (tC (.int 1)))) (.str zb)) (.cons (.lst (.cons (Dd.ls (tVar 4) yi) (.cons (.lst .nil) .nil))) .nil)))) .nil)) .nil)) (tOp (rI (fun x j => 0 < j) fun i j => V.int (i % j)) (tOp (rI CDiv fun i j => V.int (i / j)) (tVar 1) (tC (.int 3))) (tC (.int 2))) j3) rfl ?_ (Same.refl _) fun v4 H4 s4 h4 => ?_; exact ⟨(Nat.le_of_ble_eq_true rfl), ⟨⟨(Nat.le_of_ble_eq_true rfl), ⟨⟨(Nat.le_of_ble_eq_true rfl), ⟨(fun _ _ _ q => q), ⟨(fun _ _ s q => ⟨_, rfl, _, rfl, _, _, rfl, rfl, .inl ⟨by decide, by decide⟩, _, _, rfl, rfl, nl, _, _, _, rfl, rfl, SqL.of (s _ _ hnl), gzb, q⟩), ⟨(fun _ _ _ q => q), ⟨(fun _ _ s q => ⟨_, rfl, q _ _ (Same.refl _) (LAt.same s hin)⟩), trivial⟩⟩⟩⟩⟩, trivial⟩⟩, ⟨⟨(Nat.le_of_ble_eq_true rfl), ⟨⟨(Nat.le_of_ble_eq_true rfl), ⟨(fun _ _ _ q => q), ⟨(fun _ _ s q => ⟨_, rfl, _, rfl, _, _, rfl, rfl, .inl ⟨by decide, by decide⟩, _, _, rfl, rfl, nl, _, _, _, rfl, rfl, SqL.of (s _ _ hnl), gzb, q⟩), ⟨⟨(Nat.le_of_ble_eq_true rfl), ⟨(fun _ _ s q => ⟨_, rfl, q _ _ (Same.refl _) (LAt.same s hin)⟩), ⟨⟨(Nat.le_of_ble_eq_true rfl), trivial⟩, trivial⟩⟩⟩, trivial⟩⟩⟩⟩, trivial⟩⟩, trivial⟩⟩, hj3, (fun _ Q _ q => ⟨_, rfl, _, _, rfl, rfl, (show CDiv nm 3 from ⟨by decide, by decide⟩), _, _, rfl, rfl, (by show (0 : Int) < 2; decide), (by show Q (.int (nm / 3 % 2)) _; rw [ej3]; exact q)⟩)⟩
      match j3, hj3, h4 with
      | 0, _, h =>
        exact ⟨v4, _, _, .cons (.rep zb (.inl 1) yi) .nil, rfl, s1.trans (s23.trans s4), ML.at (by exact (.pick rfl (.lst (.cons (.rep rfl rfl rfl (.gen fun _ h => h)) .nil)))) h, bin.rep, by simp only [Its.tame, It.tame]; exact ⟨⟨nm_tame nb, fun z e => (by cases e), tin⟩, trivial⟩, by simp only [Its.flat, It.flat, List.append_nil, List.length_cons]; omega⟩
      | 1, _, h =>
        exact ⟨v4, _, _, .cons (.eit zb (.cons 0 yi (.cons 0 .nil .nil))) .nil, rfl, s1.trans (s23.trans s4), ML.at (by exact (.pick rfl (.lst (.cons (.eit rfl rfl (.lst (.cons (.gen fun _ h => h) (.cons (.lst .nil) .nil)))) .nil)))) h, bin.eit, by simp only [Its.tame, It.tame, Blks.tame]; exact ⟨⟨nm_tame nb, tin, trivial, trivial⟩, trivial⟩, by simp only [Its.flat, It.flat, Blks.flat, List.append_nil, List.length_cons]; omega⟩
      | n + 2, hj, _ => exact absurd hj (by omega)
    · rintro σ H1 ⟨vv, o3, o4, y, rfl, s1, hy, by_, ty, fy⟩
      exact ⟨_, rfl, q vv H1 y s1 hy by_ ty (by omega)⟩
end
end Bs

set_option Elab.async false
set_option linter.all false
set_option maxRecDepth 100000
set_option maxHeartbeats 8000000
namespace Bs
open PySem L2
/-! ### the whole list is bad: none, too many, a name twice -/
abbrev sAll : Stmt := top 62
/-- so many items of bytes, their names by a function -/
def nmL (f : Nat → Str) : Nat → Nat → Its
  | _, 0 => .nil
  | a, n + 1 => .cons (.byt (f a) (.inl 1)) (nmL f (a + 1) n)
theorem nmL_len (f : Nat → Str) : ∀ (n a : Nat), (nmL f a n).len = n
  | 0, _ => rfl
  | n + 1, a => by simp [nmL, Its.len, nmL_len f n (a + 1)]
theorem nmL_flat (f : Nat → Str) : ∀ (n a : Nat), (nmL f a n).flat.length = n
  | 0, _ => rfl
  | n + 1, a => by simp only [nmL, Its.flat, It.flat, List.length_append, List.length_singleton, nmL_flat f n (a + 1)]; omega
theorem nmL_tame {f : Nat → Str} : ∀ (n a : Nat), (∀ k, k < a + n → (f k).length ≤ 1000) → (nmL f a n).tame
  | 0, _, _ => by simp only [nmL, Its.tame]
  | n + 1, a, h => by simp only [nmL, Its.tame, It.tame]; exact ⟨⟨h a (by omega), fun z e => (by cases e)⟩, nmL_tame n (a + 1) fun k hk => h k (by omega)⟩
theorem nmL_kp {f : Nat → Str} {H H' : Hp} (k : ∀ b xs, H b = some (.tup xs) → H' b = some (.tup xs)) : ∀ {n a : Nat} {l : List V}, (nmL f a n).At false H l → (nmL f a n).At false H' l
  | 0, _, _, h => by simp only [nmL, Its.At] at h ⊢; exact h
  | n + 1, a, _, h => by
    simp only [nmL, Its.At, It.At] at h ⊢
    obtain ⟨v, l', e, ⟨p, e2, h1⟩, h2⟩ := h
    exact ⟨v, l', e, ⟨p, e2, k _ _ h1⟩, nmL_kp k h2⟩
theorem nmL_snoc {f : Nat → Str} {H : Hp} {v : V} : ∀ {n a : Nat} {l : List V}, (nmL f a n).At false H l → (It.byt (f (a + n)) (.inl 1)).At false H v → (nmL f a (n + 1)).At false H (l ++ [v])
  | 0, a, _, h, g => by
    simp only [nmL, Its.At] at h
    subst h
    simp only [nmL, Its.At, List.nil_append]
    exact ⟨v, [], rfl, g, rfl⟩
  | n + 1, a, _, h, g => by
    simp only [nmL, Its.At] at h
    obtain ⟨u, l', rfl, h1, h2⟩ := h
    have g' : (It.byt (f (a + 1 + n)) (.inl 1)).At false H v := by rw [show a + 1 + n = a + (n + 1) by omega]; exact g
    have := nmL_snoc h2 g'
    show (Its.cons (.byt (f a) (.inl 1)) (nmL f (a + 1) (n + 1))).At false H _
    simp only [Its.At, List.cons_append]
    exact ⟨u, l' ++ [v], rfl, h1, this⟩
/-- the comprehension that makes them; te tells a name -/
theorem nml_lc {f : Nat → Str} {n i : Nat} {te : TE} {lo : Int} {σ : L2.St} {H : Hp} {D : Addr} {Qd : Hp → Prop} (hD : H D = none) (hi : i < σ.length) (hn : n ≤ 1000)
    (ht : ∀ (k : Nat) (H' : Hp) (Q' : VK), k < n → Same H H' → Q' (.str (f k)) H' → te ((wipe σ [i]).set i (some (.int (lo + k)))) H' Q') (hd : ∀ H' acc, Same H H' → H' D = some (.lst acc) → (nmL f 0 n).At false H' acc → Qd H') :
    ∃ W : Nat → Nat → Hp → Prop, (∃ m, W 0 m (upd H D (.lst []))) ∧ ∀ i_1 m H, W i_1 m H →
      ((Itr lo n).stop i_1 H ∧ Qd H) ∨ ((Itr lo n).go i_1 H ∧ ∃ Nx : Hp → Prop, (∀ H', Nx H' → ∃ m', m' < m ∧ W (i_1 + 1) m' H') ∧ ∀ x H', (Itr lo n).yld i_1 H x H' → gName i x (wipe σ [i]) H' fun σ2 H2 => wipe σ2 [i] = wipe σ [i] ∧ tYes σ2 H2 fun b H3 =>
        if b = true then (tTup (tCons (tC (.str "bytes")) (tCons te (tCons (tC (.int 1)) tNil)))) σ2 H3 fun y H4 => ∃ acc, H4 D = some (.lst acc) ∧ acc.length < sizeLine ∧ Nx (upd H4 D (.lst (acc ++ [y]))) else Nx H3) := by
  refine lc_range (fun k H' => Same H H' ∧ ∃ acc, H' D = some (.lst acc) ∧ acc.length = k ∧ (nmL f 0 k).At false H' acc) ⟨same_new hD _, [], upd_same, rfl, by simp only [nmL, Its.At]⟩ ?_ ?_
  · rintro k H1 hk ⟨s1, acc, hacc, hlen, hat⟩
    have hw : ((wipe σ [i]).set i (some (.int (lo + (k : Int))))).length = σ.length := by simp [wipe]
    refine ⟨?_, yes_go ?_⟩
    · simp [wipe]
    · refine ht k H1 _ hk s1 ⟨by show 3 ≤ sizeLine; decide, fun t ht' => ?_⟩
      have s2 := same_new ht' (.tup [.str "bytes", .str (f k), .int 1])
      have hacc2 := s2 _ _ hacc
      have ht2 : upd H1 t (.tup [.str "bytes", .str (f k), .int 1]) t = some (.tup [.str "bytes", .str (f k), .int 1]) := upd_same
      have hat2 := hat.same s2
      generalize upd H1 t (.tup [.str "bytes", .str (f k), .int 1]) = H2 at s2 hacc2 ht2 hat2 ⊢
      have kk : ∀ b xs u, H2 b = some (.tup xs) → (upd H2 D u) b = some (.tup xs) := fun b xs u e => by rw [upd_ne (ne_of e hacc2 (by intro z; cases z))]; exact e
      refine ⟨acc, hacc2, small1000 (by omega), same_set (s1.trans s2) hD, acc ++ [.ref t], upd_same, by rw [List.length_append, hlen]; rfl, ?_⟩
      refine nmL_snoc (nmL_kp (fun b xs e => kk b xs _ e) hat2) ?_
      simp only [It.At]
      exact ⟨t, rfl, by rw [Nat.zero_add]; exact kk _ _ _ ht2⟩
  · rintro H1 ⟨s1, acc, hacc, hlen, hat⟩
    exact hd H1 acc s1 hacc hat
end Bs

set_option Elab.async false
set_option linter.all false
set_option maxRecDepth 100000
set_option maxHeartbeats 8000000
namespace Bs
open PySem L2
theorem shape_parts {x : Its} (h : x.shape = true) : x.len ≤ 12 ∧ x.ok 0 = true ∧ 1 ≤ x.len ∧ x.flat.length ≤ 30 ∧ x.names.Nodup := by
  unfold Its.shape at h
  simp only [Bool.and_eq_true] at h
  obtain ⟨⟨h1, h2⟩, h3, h4, h5, _⟩ := h
  have := of_decide_eq_true h4
  refine ⟨of_decide_eq_true h1, h2, of_decide_eq_true h3, ?_, of_decide_eq_true h5⟩
  rw [← Its.walk_flat x 0, List.length_map]; exact this
theorem shape_len {x : Its} (h : 12 < x.len) : x.shape = false := by
  cases e : x.shape with
  | false => rfl
  | true => have := (shape_parts e).1; omega
theorem shape_no0 {x : Its} (h : x.ok 0 = false) : x.shape = false := by
  cases e : x.shape with
  | false => rfl
  | true => rw [(shape_parts e).2.1] at h; cases h
theorem shape_many {x : Its} (h : 30 < x.flat.length) : x.shape = false := by
  cases e : x.shape with
  | false => rfl
  | true => have := (shape_parts e).2.2.2.1; omega
theorem shape_dup {x : Its} (h : ¬ (x.flat.map It.name).Nodup) : x.shape = false := by
  cases e : x.shape with
  | false => rfl
  | true => have := (shape_parts e).2.2.2.2; rw [Its.names_flat] at this; exact absurd this h
theorem take_atF {H : Hp} : ∀ {x : Its} {n : Nat} {l : List V}, x.At false H l → (x.take n).At false H (l.take n)
  | .nil, n, l, h => by simp only [Its.At] at h; subst h; cases n <;> simp [Its.take, Its.At]
  | .cons x r, 0, l, h => by simp [Its.take, Its.At]
  | .cons x r, n + 1, l, h => by
    simp only [Its.At] at h
    obtain ⟨v, l', rfl, h1, h2⟩ := h
    simp only [Its.take, Its.At, List.take_succ_cons]
    exact ⟨v, l'.take n, rfl, h1, take_atF h2⟩
theorem take_tame : ∀ {x : Its} {n : Nat}, x.tame → (x.take n).tame
  | .nil, n, h => by cases n <;> simp [Its.take, Its.tame]
  | .cons x r, 0, h => by simp [Its.take, Its.tame]
  | .cons x r, n + 1, h => by simp only [Its.take, Its.tame] at h ⊢; exact ⟨h.1, take_tame h.2⟩
theorem take_flat : ∀ (x : Its) (n : Nat), (x.take n).flat.length ≤ x.flat.length
  | .nil, n => by cases n <;> simp [Its.take, Its.flat]
  | .cons x r, 0 => by simp [Its.take, Its.flat]
  | .cons x r, n + 1 => by simp only [Its.take, Its.flat, List.length_append]; have := take_flat r n; omega
theorem cut_to2 (xs : List V) : cutV xs none (some 2) = xs.take 2 := by
  rw [show (some (2 : Int)) = some ((2 : Nat) : Int) from rfl]
  unfold cutV
  rw [HT.sIx_none, HT.sIx_nat, List.drop_zero, Nat.sub_zero]
  by_cases hh : 2 ≤ xs.length
  · rw [Nat.min_eq_left hh]
  · rw [Nat.min_eq_right (by omega), List.take_length, List.take_of_length_le (by omega)]
theorem tret_go {te : TE} {D : Ends} {σ : L2.St} {H : Hp} (h : te σ H fun v H1 => D.rt v H1) : tRet te D σ H := h
mutual
theorem tame_flatI : ∀ {x : It} {y : It}, x.tame → y ∈ x.flat → y.tame
  | .rep n a b, y, h, hy => by
    simp only [It.flat, List.mem_cons] at hy
    rcases hy with rfl | hy
    · exact h
    · simp only [It.tame] at h; exact tame_flat h.2.2 hy
  | .eit n bs, y, h, hy => by
    simp only [It.flat, List.mem_cons] at hy
    rcases hy with rfl | hy
    · exact h
    · simp only [It.tame] at h; exact tame_flatB h.2 hy
  | .swi n t bs, y, h, hy => by
    simp only [It.flat, List.mem_cons] at hy
    rcases hy with rfl | hy
    · exact h
    · simp only [It.tame] at h; exact tame_flatB h.2.2 hy
  | .num .., y, h, hy => by simp only [It.flat, List.mem_singleton] at hy; subst hy; exact h
  | .byt .., y, h, hy => by simp only [It.flat, List.mem_singleton] at hy; subst hy; exact h
  | .txt .., y, h, hy => by simp only [It.flat, List.mem_singleton] at hy; subst hy; exact h
  | .chk .., y, h, hy => by simp only [It.flat, List.mem_singleton] at hy; subst hy; exact h
  | .pad .., y, h, hy => by simp only [It.flat, List.mem_singleton] at hy; subst hy; exact h
  | .odd .., y, h, hy => by simp only [It.flat, List.mem_singleton] at hy; subst hy; exact h
theorem tame_flat : ∀ {x : Its} {y : It}, x.tame → y ∈ x.flat → y.tame
  | .nil, y, h, hy => by simp [Its.flat] at hy
  | .cons x r, y, h, hy => by
    simp only [Its.tame] at h
    simp only [Its.flat, List.mem_append] at hy
    rcases hy with hy | hy
    · exact tame_flatI h.1 hy
    · exact tame_flat h.2 hy
theorem tame_flatB : ∀ {x : Blks} {y : It}, x.tame → y ∈ x.flat → y.tame
  | .nil, y, h, hy => by simp [Blks.flat] at hy
  | .cons v b r, y, h, hy => by
    simp only [Blks.tame] at h
    simp only [Blks.flat, List.mem_append] at hy
    rcases hy with hy | hy
    · exact tame_flat h.1 hy
    · exact tame_flatB h.2 hy
end
def iT (i : Int) : Str := Str.ofString (toString i)
def bq (a k : Nat) : Str := "b" ++ iT ((a : Int) + (k : Int)) ++ "q"
theorem iT_len : ∀ a : Nat, a < 60 → (iT (a : Int)).length ≤ 10 := by decide +kernel
theorem app_slen (a b : Str) : (a ++ b).length = a.length + b.length := by rw [slenL, str_app, List.length_append, ← slenL, ← slenL]
theorem len_b : ("b" : Str).length = 1 ∧ ("q" : Str).length = 1 ∧ ("r" : Str).length = 1 := by decide +kernel
theorem bq_len {a k : Nat} (h : a + k < 60) : ("b" ++ iT ((a : Int) + (k : Int)) : Str).length ≤ 11 ∧ (bq a k).length ≤ 12 := by
  have e := iT_len (a + k) h
  rw [show ((a + k : Nat) : Int) = (a : Int) + (k : Int) by omega] at e
  have := len_b
  have e1 : ("b" ++ iT ((a : Int) + (k : Int)) : Str).length ≤ 11 := by rw [app_slen]; omega
  refine ⟨e1, ?_⟩
  unfold bq
  rw [app_slen]
  omega
def rStrI : List V → Hp → VK → Prop := fun xs H Q => ∃ i : Int, xs = [.int i] ∧ i.natAbs.log2 < 1920 ∧ Q (.str (iT i)) H
def spAll : Sp := fun vs H Q _ => ∃ (ip nl : Addr) (ch nm : Int) (zs : List Str) (x : Its) (xs : List V), vs = [.ref ip, .int ch, .int nm, .ref nl] ∧ (21 ≤ ch ∧ ch ≤ 24) ∧ 0 ≤ nm ∧ H ip = some (.lst xs) ∧ x.At false H xs ∧ x.shape = true ∧ x.tame ∧ H nl = some (.lst (zs.map V.str)) ∧ 13 ≤ zs.length ∧ (∀ z ∈ zs, isName z = true) ∧
  ∀ v H' y, Same H H' → LAt H' y v → y.shape = false → y.tame → y.flat.length ≤ 1000 → Q v H'
section
variable {P : Program} {w : World} {K : PySem.W.Frag} {mg : Str → Option Value} {base : Heap} {f : Addr} {fd : FuncData}
abbrev nAll : List Str := ["items", "choice", "number", "names", "inner", "n", "k", "blocks", "walked", "one", "again"]
theorem scAll : FnScope nAll ["items", "choice", "number", "names"] (defScope sAll) := ⟨rfl, rfl, rfl, by decide +kernel, rfl, by decide +kernel, by decide +kernel⟩
theorem ok_all {k : Nat} (F : Fun K "_law_all" "_law_all" sAll f fd) (gW : Cal P w K mg base CX0 k "_law_walk" ["items", "depth"] (spLWalk 3)) (mint : mg "int" = none) (mr : mg "range" = none) (ms : mg "str" = none) (ml : mg "len" = none) : FnOk P w K mg base CX0 (k + 1) f fd ["items", "choice", "number", "names"] spAll := by
  refine F.ok scAll (fun vs H Q E h => ?_) (fun cdv A outer s H vs Q E hr h => ?_)
  · obtain ⟨ip, nl, ch, nm, zs, x, xs, rfl, _⟩ := h
    rfl
  · obtain ⟨ip, nl, ch, nm, zs, x, xs, rfl, hch, hnm, hip, hat, hsh, htx, hnl, hz13, hzn, q⟩ := h
    refine ⟨_, (pss_cons (ps_if (pt_cmpR op_eq (pv 1) pe_int (nomark _)) (pss_one (ps_ret (pe_lst pa_nil))) pss_nil)
      (pss_cons (ps_if (PW.pt (pw_and (pt_cmpR op_eq (pv 1) pe_int (nomark _)) (pw_and1 (pt_cmpR op_eq (pe_op op_mod (pe_callTy (r := rInt1) call_int1 (by rfl) mint (by decide +kernel) (pa_cons (pv 2) pa_nil)) pe_int) pe_int (nomark _))))) (pss_cons (ps_setLc (i := 4) (own := [("n", 5)]) (g := gName 5) (tt := tYes) rfl scAll.nd rfl rfl (sw_true rfl rfl rfl (by decide +kernel)) (pi_range1 (by rfl) mr (pa_cons pe_int pa_nil)) (blkOk_by (own := [("n", 5)]) (N := nAll) (sc := defScope sAll) (by decide +kernel)) (fun _ _ _ _ _ => pg_name (i := 5) scAll.nd rfl (Or.inl rfl)) (fun _ _ _ _ _ => pts_nil) (fun _ _ _ _ _ => (pe_tup (pa_cons pe_str (pa_cons (pe_op op_add_str (pe_op op_add_str pe_str (pe_callTy (r := rStrI) call_str_int (by rfl) ms (by decide +kernel) (pa_cons (pe_op op_add pe_int (pv 5)) pa_nil))) pe_str) (pa_cons pe_int pa_nil))))))
      (pss_one (ps_ret (pe_op op_cat (pe_slice sl_list (pv 0) po_none (po_some pe_int)) (pe_lst (pa_cons (pe_tup (pa_cons pe_str (pa_cons (pe_ix (r := rIxL K) ix_list (pv 3) pe_int (fun _ _ => rfl)) (pa_cons pe_int (pa_cons (pv 4) pa_nil))))) pa_nil)))))) pss_nil)
      (pss_cons (ps_if (pt_cmpR op_eq (pv 1) pe_int (nomark _)) (pss_one (ps_ret (pe_op op_cat (pv 0) (pe_lc (own := [("k", 6)]) (g := gName 6) (tt := tYes) rfl scAll.nd (pi_range1 (by rfl) mr (pa_cons (pe_op op_sub pe_int (pe_callB (r := rLen K) call_len (by rfl) ml boot_len (pa_cons (pv 0) pa_nil))) pa_nil)) (blkOk_by (own := [("k", 6)]) (N := nAll) (sc := defScope sAll) (by decide +kernel)) (fun _ _ _ _ _ => pg_name (i := 6) scAll.nd rfl (Or.inl rfl)) (fun _ _ _ _ _ => pts_nil) (fun _ _ _ _ _ => (pe_tup (pa_cons pe_str (pa_cons (pe_ix (r := rIxL K) ix_list (pv 3) (pv 6) (fun _ _ => rfl)) (pa_cons pe_int pa_nil))))))))) pss_nil)
      (pss_cons (ps_if (pt_cmpR op_eq (pv 1) pe_int (nomark _)) (pss_cons (ps_set (i := 7) scAll.nd rfl (.inl rfl) (pe_lst pa_nil))
      (pss_cons (ps_for PassesOwn.never rfl (pi_range1 (by rfl) mr (pa_cons pe_int pa_nil)) (pg_name (i := 6) scAll.nd rfl (.inr rfl))
        (pss_one (ps_expr (pe_bm PySem.F.plainAttrs_list PySem.F.slot_list_append PySem.F.type_list_append mt_append (pv 7) (pa_cons (pe_tup (pa_cons pe_str (pa_cons (pe_op op_add_str pe_str (pe_callTy (r := rStrI) call_str_int (by rfl) ms (by decide +kernel) (pa_cons (pv 6) pa_nil))) (pa_cons pe_int (pa_cons (pe_lc (own := [("n", 5)]) (g := gName 5) (tt := tYes) rfl scAll.nd (pi_range1 (by rfl) mr (pa_cons (pe_op op_add pe_int (pe_op op_fdiv (pv 6) pe_int)) pa_nil)) (blkOk_by (own := [("n", 5)]) (N := nAll) (sc := defScope sAll) (by decide +kernel)) (fun _ _ _ _ _ => pg_name (i := 5) scAll.nd rfl (Or.inl rfl)) (fun _ _ _ _ _ => pts_nil) (fun _ _ _ _ _ => (pe_tup (pa_cons pe_str (pa_cons (pe_op op_add_str (pe_op op_add_str pe_str (pe_callTy (r := rStrI) call_str_int (by rfl) ms (by decide +kernel) (pa_cons (pe_op op_add (pe_op op_mul pe_int (pv 6)) (pv 5)) pa_nil))) pe_str) (pa_cons pe_int pa_nil)))))) pa_nil))))) pa_nil)))))
      (pss_one (ps_ret (pv 7))))) pss_nil)
      (pss_cons (ps_setLc (i := 8) (own := [("one", 9)]) (g := gName 9) (tt := tYes) rfl scAll.nd rfl rfl (sw_true rfl rfl rfl (by decide +kernel)) (pi_list (pe_cal gW hr pass0 (pa_cons (pv 0) (pa_cons pe_int pa_nil)))) (blkOk_by (own := [("one", 9)]) (N := nAll) (sc := defScope sAll) (by decide +kernel)) (fun _ _ _ _ _ => pg_name (i := 9) scAll.nd rfl (Or.inl rfl)) (fun _ _ _ _ _ => pts_nil) (fun _ _ _ _ _ => (pe_ix (r := rIxT K) ix_tup (pv 9) pe_int (fun _ _ => rfl))))
      (pss_cons (ps_set (i := 10) scAll.nd rfl (.inl rfl) (pe_ix ix_tup (pe_ix ix_list (pv 8) (pe_op op_mod (pe_callTy (r := rInt1) call_int1 (by rfl) mint (by decide +kernel) (pa_cons (pv 2) pa_nil)) (pe_callB (r := rLen K) call_len (by rfl) ml boot_len (pa_cons (pv 8) pa_nil))) (fun _ _ => rfl)) pe_int (fun _ _ => rfl)))
      (pss_cons (ps_if (pt_cmpR op_eq (pe_op op_mod (pe_op op_fdiv (pe_callTy (r := rInt1) call_int1 (by rfl) mint (by decide +kernel) (pa_cons (pv 2) pa_nil)) pe_int) pe_int) pe_int (nomark _)) (pss_one (ps_ret (pe_op op_cat (pv 0) (pe_lst (pa_cons (pe_tup (pa_cons pe_str (pa_cons (pe_ix (r := rIxL K) ix_list (pv 3) pe_int (fun _ _ => rfl)) (pa_cons pe_int (pa_cons (pe_lst (pa_cons (pe_tup (pa_cons pe_str (pa_cons (pv 10) (pa_cons pe_int pa_nil)))) pa_nil)) pa_nil))))) pa_nil))))) pss_nil)
      (pss_cons (ps_if (pt_cmpR op_eq (pe_op op_mod (pe_op op_fdiv (pe_callTy (r := rInt1) call_int1 (by rfl) mint (by decide +kernel) (pa_cons (pv 2) pa_nil)) pe_int) pe_int) pe_int (nomark _)) (pss_one (ps_ret (pe_op op_cat (pe_lst (pa_cons (pe_tup (pa_cons pe_str (pa_cons (pe_ix (r := rIxL K) ix_list (pv 3) pe_int (fun _ _ => rfl)) (pa_cons (pe_lst (pa_cons (pe_lst (pa_cons (pe_tup (pa_cons pe_str (pa_cons (pv 10) (pa_cons pe_int pa_nil)))) pa_nil)) (pa_cons (pe_lst (pa_cons (pe_tup (pa_cons pe_str (pa_cons (pe_ix (r := rIxL K) ix_list (pv 3) pe_int (fun _ _ => rfl)) (pa_cons pe_int pa_nil)))) pa_nil)) pa_nil))) pa_nil)))) pa_nil)) (pv 0)))) pss_nil)
      (pss_one (ps_ret (pe_op op_cat (pv 0) (pe_lst (pa_cons (pe_ix (r := rIxL K) ix_list (pe_lst (pa_cons (pe_tup (pa_cons pe_str (pa_cons (pv 10) (pa_cons pe_int pa_nil)))) (pa_cons (pe_tup (pa_cons pe_str (pa_cons (pv 10) (pa_cons pe_int (pa_cons pe_str (pa_cons pe_int (pa_cons pe_int pa_nil))))))) (pa_cons (pe_tup (pa_cons pe_str (pa_cons (pv 10) (pa_cons pe_int pa_nil)))) pa_nil)))) (pe_op op_mod (pe_callTy (r := rInt1) call_int1 (by rfl) mint (by decide +kernel) (pa_cons (pv 2) pa_nil)) pe_int) (fun _ _ => rfl)) pa_nil))))))))))))), ?_⟩
    obtain ⟨x12, xok, x1, x30, xnd⟩ := shape_parts hsh
    have gz : ∀ (i : Nat) (hi : i < 13), ∃ z, zs[i]? = some z ∧ isName z = true ∧ atI (zs.map V.str) (i : Int) = some (.str z) := fun i hi => by
      have g : zs[i]? = some (zs[i]'(by omega)) := List.getElem?_eq_getElem (by omega)
      exact ⟨_, g, hzn _ (List.mem_of_getElem? g), atI_nat (by rw [List.getElem?_map, g]; rfl)⟩
    obtain ⟨z0, g0', n0, gz0⟩ := gz 0 (by decide)
    obtain ⟨z1, g1', n1, gz1⟩ := gz 1 (by decide)
    have gz0 : atI (zs.map V.str) 0 = some (.str z0) := gz0
    have gz1 : atI (zs.map V.str) 1 = some (.str z1) := gz1
    have l0 := nm_tame n0
    have l1 := nm_tame n1
    have el := hat.len
    have e02 : (0 : Int) < 2 := by decide
    obtain ⟨c, hc, rfl⟩ : ∃ c : Nat, c ≤ 3 ∧ ch = (21 : Int) + (c : Int) := ⟨(ch - 21).toNat, by omega, by omega⟩
    match c, hc with
    | 0, _ =>
      refine ⟨_, rfl, rfl, _, rfl, iyes rfl ?_⟩
      refine ⟨by show 0 ≤ sizeLine; decide, fun p hp => ?_⟩
      exact q _ _ .nil (same_new hp _) ⟨p, [], rfl, upd_same, by simp only [Its.At]⟩ (by decide +kernel) (by simp only [Its.tame]) (by simp [Its.flat])
    | 1, _ =>
      refine ⟨_, rfl, rfl, _, rfl, ino (by decide) ?_⟩
      refine ⟨_, rfl, rfl, _, rfl, iyes rfl ?_⟩
      refine ⟨_, rfl, .inl ⟨_, rfl, _, _, rfl, rfl, (by show (0 : Int) < 2; decide), rfl, _, rfl, ite2 (fun _ => ?_) (fun _ => ?_)⟩⟩
      · -- thirteen items in a block
        refine seq_asg ?_
        refine ⟨13, rfl, by decide, by decide, fun D hD => nml_lc (f := bq 10) (n := 13) (i := 5) (lo := 0) hD (Nat.le_of_ble_eq_true rfl) (by decide) (fun k H' Q' hk s q => ?_) fun H3 acc s3 h3 hat3 => ?_⟩
        · have e : (10 : Int) + (0 + (k : Int)) = ((10 : Nat) : Int) + (k : Int) := by omega
          obtain ⟨b1, b2⟩ := bq_len (a := 10) (k := k) (by omega)
          have b1' := b1
          rw [app_slen] at b1'
          have lq := len_b
          refine ⟨_, rfl, _, _, rfl, rfl, _, rfl, Nat.lt_of_le_of_lt (Nat.log2_le_self _) (by omega), _, _, rfl, rfl, le_line (by rw [e]; omega), _, _, rfl, rfl, le_line (by rw [e]; omega), ?_⟩
          rw [e]
          exact q
        · refine g_nx ?_
          have hip3 := s3 _ _ hip
          have hnl := s3 _ _ hnl
          have hin : LAt H3 (nmL (bq 10) 0 13) (.ref D) := ⟨D, acc, rfl, h3, hat3⟩
          refine ⟨_, rfl, _, rfl, ip, xs, rfl, SqL.of hip3, fun p hp => ?_⟩
          rw [cut_to2 xs]
          have sp := same_new hp (.lst (xs.take 2))
          have hp4 : upd H3 p (.lst (xs.take 2)) p = some (.lst (xs.take 2)) := upd_same
          have hnl := sp _ _ hnl
          have hin := LAt.same sp hin
          have hx4 := (take_atF (n := 2) (hat.same s3)).same sp
          generalize upd H3 p (.lst (xs.take 2)) = H4 at sp hp4 hnl hin hx4 ⊢
          (try dsimp only)
          refine Dd.go (K := K) (H0 := H4) (.lst (.cons (.tup (.cons (.sc (tC (.str "repeat")) (.str "repeat")) (.cons (.sc (tOp (rIxL K) (tVar 3) (tC (.int 0))) (.str z0)) (.cons (.sc (tC (.int 1)) (.int 1)) (.cons (Dd.ls (tVar 4) (nmL (bq 10) 0 13)) .nil))))) .nil)) rfl ?_ (Same.refl _) fun v5 H5 s5 h5 => ?_; exact ⟨(Nat.le_of_ble_eq_true rfl), ⟨⟨(Nat.le_of_ble_eq_true rfl), ⟨(fun _ _ _ q => q), ⟨(fun _ _ s q => ⟨_, rfl, nl, _, _, _, rfl, rfl, SqL.of (s _ _ hnl), gz0, q⟩), ⟨(fun _ _ _ q => q), ⟨(fun _ _ s q => ⟨_, rfl, q _ _ (Same.refl _) (LAt.same s hin)⟩), trivial⟩⟩⟩⟩⟩, trivial⟩⟩
          obtain ⟨a5, xs5, rfl, h51, h52⟩ := ML.at (d := (.lst (.cons (.tup (.cons (.sc (tC (.str "repeat")) (.str "repeat")) (.cons (.sc (tOp (rIxL K) (tVar 3) (tC (.int 0))) (.str z0)) (.cons (.sc (tC (.int 1)) (.int 1)) (.cons (Dd.ls (tVar 4) (nmL (bq 10) 0 13)) .nil))))) .nil))) (x := .cons (.rep z0 (.inl 1) (nmL (bq 10) 0 13)) .nil) (by exact (.lst (.cons (.rep rfl rfl rfl (.gen fun _ h => h)) .nil))) h5
          refine ⟨p, a5, _, _, rfl, rfl, s5 _ _ hp4, h51, le_line (by rw [h52.len, List.length_take]; simp only [Its.len]; omega), fun p6 hp6 => ?_⟩
          have s6 := same_new hp6 (.lst (xs.take 2 ++ xs5))
          refine q _ _ ((x.take 2).app (.cons (.rep z0 (.inl 1) (nmL (bq 10) 0 13)) .nil)) (s3.trans (sp.trans (s5.trans s6))) ⟨p6, _, rfl, upd_same, (app_at (hx4.same s5) h52).same s6⟩ (shape_no0 ?_) (app_tame (take_tame htx) ?_) ?_
          · rw [app_ok]; simp only [Its.ok, It.ok, nmL_len]; simp
          · simp only [Its.tame, It.tame]; exact ⟨⟨l0, fun z e => (by cases e), nmL_tame 13 0 fun k hk => by have := (bq_len (a := 10) (k := k) (by omega)).2; omega⟩, trivial⟩
          · have := take_flat x 2
            have e := nmL_flat (bq 10) 13 0
            rw [app_flat, List.length_append]
            simp only [Its.flat, It.flat, List.append_nil, List.length_cons]
            omega
      · -- too many items
        refine ⟨_, rfl, rfl, _, rfl, iyes rfl ?_⟩
        have e13 : (13 : Int) - ((xs.length : Nat) : Int) = ((13 - xs.length : Nat) : Int) := by omega
        refine ⟨_, rfl, _, rfl, _, _, rfl, .inl ⟨_, SqL.of hip, rfl⟩, _, _, rfl, rfl, _, rfl, by omega, by omega, fun D hD => ?_⟩
        rw [e13]
        refine nml_lc (f := fun k => zs.getD k Str.empty) (n := 13 - xs.length) (i := 6) (lo := 0) hD (Nat.le_of_ble_eq_true rfl) (by omega) (fun k H' Q' hk s q => ?_) fun H3 acc s3 h3 hat3 => ?_
        · have g : zs[k]? = some (zs[k]'(by omega)) := List.getElem?_eq_getElem (by omega)
          have eg : zs.getD k Str.empty = zs[k]'(by omega) := by rw [List.getD_eq_getElem?_getD, g]; rfl
          refine ⟨_, rfl, _, rfl, nl, _, _, _, rfl, rfl, SqL.of (s _ _ hnl), ?_, q⟩
          rw [show (0 : Int) + (k : Int) = ((k : Nat) : Int) by omega]
          exact atI_nat (by rw [List.getElem?_map, g, eg]; rfl)
        · have hl3 := hat3.len
          rw [nmL_len] at hl3
          refine ⟨ip, D, _, _, rfl, rfl, s3 _ _ hip, h3, le_line (by omega), fun p6 hp6 => ?_⟩
          have s6 := same_new hp6 (.lst (xs ++ acc))
          refine q _ _ (x.app (nmL (fun k => zs.getD k Str.empty) 0 (13 - xs.length))) (s3.trans s6) ⟨p6, _, rfl, upd_same, (app_at (hat.same s3) hat3).same s6⟩ (shape_len ?_) (app_tame htx (nmL_tame _ 0 fun k hk => ?_)) ?_
          · rw [app_len, nmL_len]; omega
          · have g : zs[k]? = some (zs[k]'(by omega)) := List.getElem?_eq_getElem (by omega)
            have eg : zs.getD k Str.empty = zs[k]'(by omega) := by rw [List.getD_eq_getElem?_getD, g]; rfl
            show (zs.getD k Str.empty).length ≤ 1000
            rw [eg]
            exact nm_tame (hzn _ (List.mem_of_getElem? g))
          · rw [app_flat, List.length_append, nmL_flat]; omega
    | 2, _ =>
      refine ⟨_, rfl, rfl, _, rfl, ino (by decide) ?_⟩
      refine ⟨_, rfl, rfl, _, rfl, ino (by decide) (iteF ?_)⟩
      refine ⟨_, rfl, rfl, _, rfl, ino (by decide) ?_⟩
      refine ⟨_, rfl, rfl, _, rfl, iyes rfl ?_⟩
      refine ⟨by show 0 ≤ sizeLine; decide, fun B hB => ?_⟩
      have sB := same_new hB (.lst [])
      refine ⟨3, rfl, by decide, by decide, for_range (lo := 0) (n := 3) (fun i σ H' => ∃ (o6 : Option V) (y : Its) (acc : List V), σ = [some (.ref ip), some (.int ((21 : Int) + ((2 : Nat) : Int))), some (.int nm), some (.ref nl), none, none, o6, some (.ref B), none, none, none] ∧ Same H H' ∧ H' B = some (.lst acc) ∧ acc.length = i ∧ y.At false (cut1 B H') acc ∧ y.tame ∧ y.flat.length = 10 * i + (if i = 3 then 1 else 0))
        ⟨none, .nil, [], rfl, sB, upd_same, rfl, by simp only [Its.At], by simp only [Its.tame], by simp [Its.flat]⟩ ?_ ?_⟩
      · rintro i σ H1 hi ⟨o6, y, acc, rfl, s1, hacc, hlen, hya, ty, fy⟩
        have e9 : (9 : Int) + (0 + (i : Int)) / 2 = ((9 + i / 2 : Nat) : Int) := by omega
        have lr := len_b
        have lk := iT_len i (by omega)
        refine ⟨_, rfl, .inl ⟨rfl, _, SqL.of hacc⟩, _, rfl, _, rfl, Nat.lt_of_le_of_lt (Nat.log2_le_self _) (by omega), _, _, rfl, rfl, le_line (by rw [show (0 : Int) + (i : Int) = ((i : Nat) : Int) by omega]; omega), _, rfl, _, _, rfl, rfl, ⟨by decide, by decide⟩, _, _, rfl, rfl, _, rfl, by omega, by omega, fun D hD => ?_⟩
        rw [e9]
        have DB : D ≠ B := (ne_of_none hacc hD).symm
        refine nml_lc (f := bq (10 * i)) (n := 9 + i / 2) (i := 5) (lo := 0) hD (Nat.le_of_ble_eq_true rfl) (by omega) (fun k H' Q' hk s q => ?_) fun H3 ac3 s3 h3 hat3 => ?_
        · have e : (10 : Int) * (0 + (i : Int)) + (0 + (k : Int)) = ((10 * i : Nat) : Int) + (k : Int) := by omega
          obtain ⟨b1, b2⟩ := bq_len (a := 10 * i) (k := k) (by omega)
          have b1' := b1
          rw [app_slen] at b1'
          refine ⟨_, rfl, _, _, rfl, rfl, .inl ⟨by decide, by decide⟩, _, rfl, _, _, rfl, rfl, _, rfl, Nat.lt_of_le_of_lt (Nat.log2_le_self _) (by omega), _, _, rfl, rfl, le_line (by rw [e]; omega), _, _, rfl, rfl, le_line (by rw [e]; omega), ?_⟩
          rw [e]
          exact q
        · have hacc3 := s3 _ _ hacc
          refine ⟨by show 4 ≤ sizeLine; decide, fun t ht => ?_⟩
          have s4 := same_new ht (.tup [.str "repeat", .str ("r" ++ iT (0 + (i : Int))), .int 1, .ref D])
          have tB : t ≠ B := (ne_of_none hacc3 ht).symm
          have hacc4 := s4 _ _ hacc3
          have h34 := s4 _ _ h3
          have ht4 : upd H3 t (.tup [.str "repeat", .str ("r" ++ iT (0 + (i : Int))), .int 1, .ref D]) t = some (.tup [.str "repeat", .str ("r" ++ iT (0 + (i : Int))), .int 1, .ref D]) := upd_same
          have hat4 := hat3.same s4
          have hya4 := hya.same (cut1_same (L := B) (s3.trans s4))
          show ∃ x y z, _
          generalize upd H3 t (.tup [.str "repeat", .str ("r" ++ iT (0 + (i : Int))), .int 1, .ref D]) = H4 at s4 hacc4 h34 ht4 hat4 hya4 ⊢
          refine ⟨B, acc, _, rfl, rfl, hacc4, small1000 (by omega), ?_⟩
          have ec : cut1 B (upd H4 B (.lst (acc ++ [.ref t]))) = cut1 B H4 := by
            funext b
            unfold cut1
            by_cases c : b = B
            · rw [if_pos c, if_pos c]
            · rw [if_neg c, if_neg c, upd_ne c]
          have at_ : ∀ {b : Addr} {u : HO}, H4 b = some u → b ≠ B → cut1 B H4 b = some u := fun h n => by unfold cut1; rw [if_neg n]; exact h
          have hin : (It.rep ("r" ++ iT (0 + (i : Int))) (.inl 1) (nmL (bq (10 * i)) 0 (9 + i / 2))).At false (cut1 B H4) (.ref t) := by
            simp only [It.At]
            exact ⟨t, D, ac3, rfl, at_ ht4 tB, .inr ⟨rfl, at_ h34 DB⟩, nmL_kp (fun b xs e => at_ e (fun z => by rw [z, hacc4] at e; cases e)) hat4⟩
          refine ⟨_, y.app (.cons (.rep ("r" ++ iT (0 + (i : Int))) (.inl 1) (nmL (bq (10 * i)) 0 (9 + i / 2))) .nil), _, rfl, same_set (s1.trans (s3.trans s4)) hB, upd_same, by rw [List.length_append, hlen]; rfl, by rw [ec]; exact app_at hya4 (by simp only [Its.At]; exact ⟨_, _, rfl, hin, rfl⟩), app_tame ty ?_, ?_⟩
          · simp only [Its.tame, It.tame]
            refine ⟨⟨?_, fun z e => (by cases e), nmL_tame _ 0 fun k hk => ?_⟩, trivial⟩
            · rw [app_slen, show (0 : Int) + (i : Int) = ((i : Nat) : Int) by omega]; omega
            · have := (bq_len (a := 10 * i) (k := k) (by omega)).2; omega
          · rw [app_flat, List.length_append, fy]
            simp only [Its.flat, It.flat, List.append_nil, List.length_cons, nmL_flat]
            have h3 : i = 0 ∨ i = 1 ∨ i = 2 := by omega
            rcases h3 with rfl | rfl | rfl <;> decide
      · rintro σ H1 ⟨o6, y, acc, rfl, s1, hacc, hlen, hya, ty, fy⟩
        exact ⟨_, rfl, q _ _ y s1 ⟨B, acc, rfl, hacc, hya.same cut1_le⟩ (shape_many (by rw [fy]; decide)) ty (by rw [fy]; decide)⟩
    | 3, _ =>
      refine ⟨_, rfl, rfl, _, rfl, ino (by decide) ?_⟩
      refine ⟨_, rfl, rfl, _, rfl, ino (by decide) (iteF ?_)⟩
      refine ⟨_, rfl, rfl, _, rfl, ino (by decide) ?_⟩
      refine ⟨_, rfl, rfl, _, rfl, ino (by decide) ?_⟩
      refine nx_go ?_
      (try dsimp only)
      refine seq_asg ?_
      have wl : (x.walk 0).length = x.flat.length := by rw [← Its.walk_flat x 0, List.length_map]
      refine ⟨_, rfl, H, ip, x, xs, 0, rfl, by decide, xok, Same.refl _, .inr ⟨rfl, hip⟩, hat, by omega, fun wr rows H2 s2 _ hw2 wf => ?_⟩
      have rl := wf.len
      have xf1 : 1 ≤ x.flat.length := Nat.le_trans x1 (len_flat x)
      refine ⟨wr, rfl, ⟨_, SqL.of hw2⟩, fun D hD => lc_list (K := K) (a := wr) (xs := rows) (fun j H' => Same H2 H' ∧ ∃ acc, H' D = some (.lst acc) ∧ acc.length = j ∧ ∀ (m : Nat) (u : V), acc[m]? = some u → ∃ d y, (x.walk 0)[m]? = some (d, y) ∧ y.At false H u) ⟨same_new hD _, [], upd_same, rfl, fun m u e => by simp at e⟩ (fun _ _ _ h => SqL.of (h.1 _ _ hw2)) ?_ ?_⟩
      · rintro j v H1 hv ⟨s1, acc, hacc, hlen, hall⟩
        obtain ⟨d, y, t, u, gy, rfl, ht, ay⟩ := (wf.kp fun b xs e => s1 _ _ e).get hv
        have jl : j < rows.length := (List.getElem?_eq_some_iff.mp hv).1
        refine ⟨rfl, yes_go ?_⟩
        refine ⟨_, rfl, t, _, 1, _, rfl, rfl, SqT.of ht, atI_nat (j := 1) rfl, ?_⟩
        refine ⟨acc, hacc, small1000 (by omega), same_set s1 hD, acc ++ [u], upd_same, by rw [List.length_append, hlen]; rfl, fun m u' e => ?_⟩
        by_cases hm : m < acc.length
        · rw [List.getElem?_append_left hm] at e
          exact hall m u' e
        · rw [List.getElem?_append_right (by omega)] at e
          have m0 : m - acc.length = 0 := by
            apply Decidable.byContradiction
            intro z
            rw [List.getElem?_eq_none (by rw [List.length_singleton]; omega)] at e
            cases e
          rw [m0] at e
          have e : u = u' := Option.some.inj e
          subst e
          exact ⟨d, y, by rw [show m = j by omega]; exact gy, ay⟩
      · rintro H3 ⟨s3, acc, hacc, hlen, hall⟩
        have s23 := s2.trans s3
        have al1 : (0 : Int) < ((acc.length : Nat) : Int) := by omega
        obtain ⟨j, hj, ej⟩ : ∃ j : Nat, j < acc.length ∧ nm % ((acc.length : Nat) : Int) = (j : Int) := ⟨(nm % ((acc.length : Nat) : Int)).toNat, by have := Int.emod_lt_of_pos nm al1; have := Int.emod_nonneg nm (show ((acc.length : Nat) : Int) ≠ 0 by omega); omega, by have := Int.emod_nonneg nm (show ((acc.length : Nat) : Int) ≠ 0 by omega); omega⟩
        have gj : acc[j]? = some acc[j] := List.getElem?_eq_getElem hj
        generalize acc[j] = u at gj
        obtain ⟨dd, y, gy, ay⟩ := hall j u gj
        have ho : y.isOdd = false := x.walk_odd 0 0 xok (dd, y) (List.mem_of_getElem? gy)
        obtain ⟨p, rest, rfl, hp, _⟩ := At_head ay ho
        have yin : y.name ∈ x.flat.map It.name := by
          rw [← Its.walk_flat x 0, List.map_map]
          exact List.mem_map.mpr ⟨(dd, y), List.mem_of_getElem? gy, rfl⟩
        have yf : y ∈ x.flat := by rw [← Its.walk_flat x 0]; exact List.mem_map.mpr ⟨(dd, y), List.mem_of_getElem? gy, rfl⟩
        have ytm : y.name.length ≤ 1000 := It.tame_name (tame_flat htx yf)
        refine g_nx ?_
        (try dsimp only)
        refine seq_asg ?_
        refine ⟨_, rfl, _, rfl, .inl ⟨_, rfl, _, rfl, _, _, rfl, .inl ⟨_, SqL.of hacc, rfl⟩, _, _, rfl, rfl, al1, D, _, _, _, rfl, rfl, SqL.of hacc, ?_, p, _, 1, _, rfl, rfl, SqT.of (s23 _ _ hp), atI_nat (j := 1) rfl, ?_⟩⟩
        · rw [ej]; exact atI_nat gj
        have hip3 := s23 _ _ hip
        have hat3 := hat.same s23
        have hnl := s23 _ _ hnl
        generalize hyn : y.name = ag at yin ytm
        have dup : ∀ {z : Its} {n : Str}, n = ag → n ∈ z.flat.map It.name → (x.app z).shape = false := fun {z n} e h => shape_dup fun nd => by
          subst e
          rw [app_flat, List.map_append, List.nodup_append] at nd
          exact nd.2.2 _ yin _ h rfl
        have dup2 : ∀ {z : Its} {n : Str}, n = ag → n ∈ z.flat.map It.name → (z.app x).shape = false := fun {z n} e h => shape_dup fun nd => by
          subst e
          rw [app_flat, List.map_append, List.nodup_append] at nd
          exact nd.2.2 _ h _ yin rfl
        refine g_nx ?_
        have five : CDiv nm 5 := ⟨by decide, by decide⟩
        refine ⟨_, rfl, .inl ⟨_, rfl, _, _, rfl, rfl, five, _, _, rfl, rfl, (by show (0 : Int) < 3; decide), rfl, _, rfl, ite2 (fun _ => ?_) (fun _ => ?_)⟩⟩
        · refine ⟨_, rfl, ?_⟩
          (try dsimp only)
          refine Dd.go (K := K) (H0 := H3) (.lst (.cons (.tup (.cons (.sc (tC (.str "repeat")) (.str "repeat")) (.cons (.sc (tOp (rIxL K) (tVar 3) (tC (.int 0))) (.str z0)) (.cons (.sc (tC (.int 1)) (.int 1)) (.cons (.lst (.cons (.tup (.cons (.sc (tC (.str "bytes")) (.str "bytes")) (.cons (.sc (tVar 10) (.str ag)) (.cons (.sc (tC (.int 1)) (.int 1)) .nil)))) .nil)) .nil))))) .nil)) rfl ?_ (Same.refl _) fun v5 H5 s5 h5 => ?_; exact ⟨(Nat.le_of_ble_eq_true rfl), ⟨⟨(Nat.le_of_ble_eq_true rfl), ⟨(fun _ _ _ q => q), ⟨(fun _ _ s q => ⟨_, rfl, nl, _, _, _, rfl, rfl, SqL.of (s _ _ hnl), gz0, q⟩), ⟨(fun _ _ _ q => q), ⟨⟨(Nat.le_of_ble_eq_true rfl), ⟨⟨(Nat.le_of_ble_eq_true rfl), ⟨(fun _ _ _ q => q), ⟨(fun _ _ _ q => ⟨_, rfl, q⟩), ⟨(fun _ _ _ q => q), trivial⟩⟩⟩⟩, trivial⟩⟩, trivial⟩⟩⟩⟩⟩, trivial⟩⟩
          obtain ⟨a5, xs5, rfl, h51, h52⟩ := ML.at (d := (.lst (.cons (.tup (.cons (.sc (tC (.str "repeat")) (.str "repeat")) (.cons (.sc (tOp (rIxL K) (tVar 3) (tC (.int 0))) (.str z0)) (.cons (.sc (tC (.int 1)) (.int 1)) (.cons (.lst (.cons (.tup (.cons (.sc (tC (.str "bytes")) (.str "bytes")) (.cons (.sc (tVar 10) (.str ag)) (.cons (.sc (tC (.int 1)) (.int 1)) .nil)))) .nil)) .nil))))) .nil))) (x := .cons (.rep z0 (.inl 1) (.cons (.byt ag (.inl 1)) .nil)) .nil) (by exact (.lst (.cons (.rep rfl rfl rfl (.lst (.cons (.byt rfl) .nil))) .nil))) h5
          refine ⟨ip, a5, _, _, rfl, rfl, s5 _ _ hip3, h51, le_line (by rw [h52.len]; simp only [Its.len]; omega), fun p6 hp6 => ?_⟩
          have s6 := same_new hp6 (.lst (xs ++ xs5))
          refine q _ _ (x.app (.cons (.rep z0 (.inl 1) (.cons (.byt ag (.inl 1)) .nil)) .nil)) (s23.trans (s5.trans s6)) ⟨p6, _, rfl, upd_same, (app_at (hat3.same s5) h52).same s6⟩ (dup rfl (by simp [Its.flat, It.flat, It.name])) (app_tame htx (by simp only [Its.tame, It.tame]; exact ⟨⟨l0, fun z e => (by cases e), ⟨ytm, fun z e => (by cases e)⟩, trivial⟩, trivial⟩)) (by rw [app_flat, List.length_append]; simp only [Its.flat, It.flat, List.append_nil, List.length_cons, List.length_nil]; omega)
        · refine ⟨_, rfl, .inl ⟨_, rfl, _, _, rfl, rfl, five, _, _, rfl, rfl, (by show (0 : Int) < 3; decide), rfl, _, rfl, ite2 (fun _ => ?_) (fun _ => ?_)⟩⟩
          · refine tret_go (tOp_go ?_)
            refine Dd.go (K := K) (H0 := H3) (.lst (.cons (.tup (.cons (.sc (tC (.str "either")) (.str "either")) (.cons (.sc (tOp (rIxL K) (tVar 3) (tC (.int 0))) (.str z0)) (.cons (.lst (.cons (.lst (.cons (.tup (.cons (.sc (tC (.str "bytes")) (.str "bytes")) (.cons (.sc (tVar 10) (.str ag)) (.cons (.sc (tC (.int 1)) (.int 1)) .nil)))) .nil)) (.cons (.lst (.cons (.tup (.cons (.sc (tC (.str "check")) (.str "check")) (.cons (.sc (tOp (rIxL K) (tVar 3) (tC (.int 1))) (.str z1)) (.cons (.sc (tC (.int 2)) (.int 2)) .nil)))) .nil)) .nil))) .nil)))) .nil)) rfl ?_ (Same.refl _) fun v5 H5 s5 h5 => ?_; exact ⟨(Nat.le_of_ble_eq_true rfl), ⟨⟨(Nat.le_of_ble_eq_true rfl), ⟨(fun _ _ _ q => q), ⟨(fun _ _ s q => ⟨_, rfl, nl, _, _, _, rfl, rfl, SqL.of (s _ _ hnl), gz0, q⟩), ⟨⟨(Nat.le_of_ble_eq_true rfl), ⟨⟨(Nat.le_of_ble_eq_true rfl), ⟨⟨(Nat.le_of_ble_eq_true rfl), ⟨(fun _ _ _ q => q), ⟨(fun _ _ _ q => ⟨_, rfl, q⟩), ⟨(fun _ _ _ q => q), trivial⟩⟩⟩⟩, trivial⟩⟩, ⟨⟨(Nat.le_of_ble_eq_true rfl), ⟨⟨(Nat.le_of_ble_eq_true rfl), ⟨(fun _ _ _ q => q), ⟨(fun _ _ s q => ⟨_, rfl, nl, _, _, _, rfl, rfl, SqL.of (s _ _ hnl), gz1, q⟩), ⟨(fun _ _ _ q => q), trivial⟩⟩⟩⟩, trivial⟩⟩, trivial⟩⟩⟩, trivial⟩⟩⟩⟩, trivial⟩⟩
            obtain ⟨a5, xs5, rfl, h51, h52⟩ := ML.at (d := (.lst (.cons (.tup (.cons (.sc (tC (.str "either")) (.str "either")) (.cons (.sc (tOp (rIxL K) (tVar 3) (tC (.int 0))) (.str z0)) (.cons (.lst (.cons (.lst (.cons (.tup (.cons (.sc (tC (.str "bytes")) (.str "bytes")) (.cons (.sc (tVar 10) (.str ag)) (.cons (.sc (tC (.int 1)) (.int 1)) .nil)))) .nil)) (.cons (.lst (.cons (.tup (.cons (.sc (tC (.str "check")) (.str "check")) (.cons (.sc (tOp (rIxL K) (tVar 3) (tC (.int 1))) (.str z1)) (.cons (.sc (tC (.int 2)) (.int 2)) .nil)))) .nil)) .nil))) .nil)))) .nil))) (x := .cons (.eit z0 (.cons 0 (.cons (.byt ag (.inl 1)) .nil) (.cons 0 (.cons (.chk z1 2) .nil) .nil))) .nil) (by exact (.lst (.cons (.eit rfl rfl (.lst (.cons (.lst (.cons (.byt rfl) .nil)) (.cons (.lst (.cons (.chk rfl) .nil)) .nil)))) .nil))) h5
            refine ⟨_, rfl, a5, ip, _, _, rfl, rfl, h51, s5 _ _ hip3, le_line (by rw [h52.len]; simp only [Its.len]; omega), fun p6 hp6 => ?_⟩
            have s6 := same_new hp6 (.lst (xs5 ++ xs))
            refine q _ _ ((Its.cons (.eit z0 (.cons 0 (.cons (.byt ag (.inl 1)) .nil) (.cons 0 (.cons (.chk z1 2) .nil) .nil))) .nil).app x) (s23.trans (s5.trans s6)) ⟨p6, _, rfl, upd_same, (app_at h52 (hat3.same s5)).same s6⟩ (dup2 rfl (by simp [Its.flat, It.flat, Blks.flat, It.name])) (app_tame (by simp only [Its.tame, It.tame, Blks.tame, It.name]; exact ⟨⟨l0, ⟨⟨ytm, fun z e => (by cases e)⟩, trivial⟩, ⟨l1, trivial⟩, trivial⟩, trivial⟩) htx) (by rw [app_flat, List.length_append]; simp only [Its.flat, It.flat, Blks.flat, List.append_nil, List.length_cons, List.length_nil, List.length_append]; omega)
          · refine nx_go ?_
            (try dsimp only)
            refine tret_go (tOp_go ⟨_, rfl, ?_⟩)
            (try dsimp only)
            obtain ⟨j3, hj3, ej3⟩ : ∃ j : Nat, j < 3 ∧ nm % 3 = (j : Int) := ⟨(nm % 3).toNat, by omega, by omega⟩
            refine Dd.go (K := K) (H0 := H3) (.lst (.cons (.pick (.cons (.tup (.cons (.sc (tC (.str "bytes")) (.str "bytes")) (.cons (.sc (tVar 10) (.str ag)) (.cons (.sc (tC (.int 1)) (.int 1)) .nil)))) (.cons (.tup (.cons (.sc (tC (.str "number")) (.str "number")) (.cons (.sc (tVar 10) (.str ag)) (.cons (.sc (tC (.int 1)) (.int 1)) (.cons (.sc (tC (.str "big")) (.str "big")) (.cons (.sc (tC (.int 0)) (.int 0)) (.cons (.sc (tC (.int 1)) (.int 1)) .nil))))))) (.cons (.tup (.cons (.sc (tC (.str "check")) (.str "check")) (.cons (.sc (tVar 10) (.str ag)) (.cons (.sc (tC (.int 2)) (.int 2)) .nil)))) .nil))) (tOp (rI (fun x j => 0 < j) fun i j => V.int (i % j)) (tCB rInt1 (tCons (tVar 2) tNil)) (tC (.int 3))) j3) .nil)) rfl ?_ (Same.refl _) fun v5 H5 s5 h5 => ?_; exact ⟨(Nat.le_of_ble_eq_true rfl), ⟨⟨(Nat.le_of_ble_eq_true rfl), ⟨⟨(Nat.le_of_ble_eq_true rfl), ⟨(fun _ _ _ q => q), ⟨(fun _ _ _ q => ⟨_, rfl, q⟩), ⟨(fun _ _ _ q => q), trivial⟩⟩⟩⟩, ⟨⟨(Nat.le_of_ble_eq_true rfl), ⟨(fun _ _ _ q => q), ⟨(fun _ _ _ q => ⟨_, rfl, q⟩), ⟨(fun _ _ _ q => q), ⟨(fun _ _ _ q => q), ⟨(fun _ _ _ q => q), ⟨(fun _ _ _ q => q), trivial⟩⟩⟩⟩⟩⟩⟩, ⟨⟨(Nat.le_of_ble_eq_true rfl), ⟨(fun _ _ _ q => q), ⟨(fun _ _ _ q => ⟨_, rfl, q⟩), ⟨(fun _ _ _ q => q), trivial⟩⟩⟩⟩, trivial⟩⟩⟩, hj3, (fun _ Q _ q => ⟨_, rfl, .inl ⟨_, rfl, _, _, rfl, rfl, (by show (0 : Int) < 3; decide), (by show Q (.int (nm % 3)) _; rw [ej3]; exact q)⟩⟩)⟩, trivial⟩⟩
            have fin : ∀ y1 : It, LAt H5 (.cons y1 .nil) v5 → y1.name = ag → y1.flat = [y1] → y1.tame → (fun y H2 => rCat (.ref ip) y H2 fun v H1 => ({ nx := fun x H' => Q V.non H', rt := Q } : Ends).rt v H1) v5 H5 := fun y1 h5 en ef tm => by
              obtain ⟨a5, xs5, rfl, h51, h52⟩ := h5
              refine ⟨ip, a5, _, _, rfl, rfl, s5 _ _ hip3, h51, le_line (by rw [h52.len]; simp only [Its.len]; omega), fun p6 hp6 => ?_⟩
              have s6 := same_new hp6 (.lst (xs ++ xs5))
              exact q _ _ (x.app (.cons y1 .nil)) (s23.trans (s5.trans s6)) ⟨p6, _, rfl, upd_same, (app_at (hat3.same s5) h52).same s6⟩ (dup en (by simp only [Its.flat, ef, List.append_nil, List.map_cons, List.map_nil]; exact List.mem_singleton.mpr rfl)) (app_tame htx (by simp only [Its.tame]; exact ⟨tm, trivial⟩)) (by rw [app_flat, List.length_append]; simp only [Its.flat, ef, List.append_nil, List.length_cons, List.length_nil]; omega)
            match j3, hj3, h5 with
            | 0, _, h => exact fin (.byt ag (.inl 1)) (ML.at (by exact (.lst (.cons (.pick rfl (.byt rfl)) .nil))) h) rfl rfl (by simp only [It.tame]; exact ⟨ytm, fun z e => (by cases e)⟩)
            | 1, _, h => exact fin (.num ag 1 "big" 0 1) (ML.at (by exact (.lst (.cons (.pick rfl (.num rfl)) .nil))) h) rfl rfl (by simp only [It.tame, It.name]; exact ytm)
            | 2, _, h => exact fin (.chk ag 2) (ML.at (by exact (.lst (.cons (.pick rfl (.chk rfl)) .nil))) h) rfl rfl (by simp only [It.tame, It.name]; exact ytm)
            | n + 3, hj, _ => exact absurd hj (by omega)
    | n + 4, hc => exact absurd hc (by omega)
end
end Bs

set_option Elab.async false
set_option linter.all false
set_option maxRecDepth 100000
set_option maxHeartbeats 4000000
namespace Bs
open PySem L2
/-! ### items as data -/
def kP : Key → PyData
  | .inl i => .int i
  | .inr z => .str z
mutual
def It.data : It → PyData
  | .num n s o lo hi => .tuple [.str "number", .str n, .int s, .str o, .int lo, .int hi]
  | .byt n a => .tuple [.str "bytes", .str n, kP a]
  | .txt n st m => .tuple [.str "text", .str n, .int st, .int m]
  | .chk n m => .tuple [.str "check", .str n, .int m]
  | .pad n m b => .tuple [.str "pad", .str n, .int m, .int b]
  | .rep n a b => .tuple [.str "repeat", .str n, kP a, .tuple b.data]
  | .eit n bs => .tuple [.str "either", .str n, .tuple bs.dataE]
  | .swi n t bs => .tuple [.str "switch", .str n, .str t, .tuple bs.dataS]
  | .odd .. => .none
def Its.data : Its → List PyData
  | .nil => []
  | .cons x r => x.data :: r.data
def Blks.dataE : Blks → List PyData
  | .nil => []
  | .cons _ b r => .tuple b.data :: r.dataE
def Blks.dataS : Blks → List PyData
  | .nil => []
  | .cons v b r => .tuple [.int v, .tuple b.data] :: r.dataS
end
theorem rowT {H : Hp} {q : Addr} {xs : List V} (h : RowAt true H q xs) : H q = some (.tup xs) := h.elim id fun z => by cases z.1
theorem dp_k {K : PySem.W.Frag} {H : Hp} (a : Key) : Dp K H (kV a) (kP a) := by cases a <;> constructor
mutual
theorem It.dp {K : PySem.W.Frag} {H : Hp} : ∀ {x : It} {v : V} {d : Int}, x.ok d = true → x.At true H v → Dp K H v x.data
  | .num .., _, _, ok, h => by simp only [It.At] at h; obtain ⟨p, rfl, h⟩ := h; simp only [It.data]; exact .tup (SqT.of h) (.cons (.str _) (.cons (.str _) (.cons (.int _) (.cons (.str _) (.cons (.int _) (.cons (.int _) .nil))))))
  | .byt .., _, _, ok, h => by simp only [It.At] at h; obtain ⟨p, rfl, h⟩ := h; simp only [It.data]; exact .tup (SqT.of h) (.cons (.str _) (.cons (.str _) (.cons (dp_k _) .nil)))
  | .txt .., _, _, ok, h => by simp only [It.At] at h; obtain ⟨p, rfl, h⟩ := h; simp only [It.data]; exact .tup (SqT.of h) (.cons (.str _) (.cons (.str _) (.cons (.int _) (.cons (.int _) .nil))))
  | .chk .., _, _, ok, h => by simp only [It.At] at h; obtain ⟨p, rfl, h⟩ := h; simp only [It.data]; exact .tup (SqT.of h) (.cons (.str _) (.cons (.str _) (.cons (.int _) .nil)))
  | .pad .., _, _, ok, h => by simp only [It.At] at h; obtain ⟨p, rfl, h⟩ := h; simp only [It.data]; exact .tup (SqT.of h) (.cons (.str _) (.cons (.str _) (.cons (.int _) (.cons (.int _) .nil))))
  | .rep .., _, _, ok, h => by rw [It.ok, Bool.and_eq_true, Bool.and_eq_true, Bool.and_eq_true] at ok; simp only [It.At] at h; obtain ⟨p, q, xs, rfl, h, r, b⟩ := h; simp only [It.data]; exact .tup (SqT.of h) (.cons (.str _) (.cons (.str _) (.cons (dp_k _) (.cons (.tup (SqT.of (rowT r)) (Its.dp ok.2.2.2 b)) .nil))))
  | .eit .., _, _, ok, h => by rw [It.ok, Bool.and_eq_true, Bool.and_eq_true, Bool.and_eq_true] at ok; simp only [It.At] at h; obtain ⟨p, q, xs, rfl, h, r, b⟩ := h; simp only [It.data]; exact .tup (SqT.of h) (.cons (.str _) (.cons (.str _) (.cons (.tup (SqT.of (rowT r)) (Blks.dpE ok.2.2.2 b)) .nil)))
  | .swi .., _, _, ok, h => by rw [It.ok, Bool.and_eq_true, Bool.and_eq_true, Bool.and_eq_true] at ok; simp only [It.At] at h; obtain ⟨p, q, xs, rfl, h, r, b⟩ := h; simp only [It.data]; exact .tup (SqT.of h) (.cons (.str _) (.cons (.str _) (.cons (.str _) (.cons (.tup (SqT.of (rowT r)) (Blks.dpS ok.2.2.2 b)) .nil))))
  | .odd .., _, _, ok, _ => by simp [It.ok] at ok
theorem Its.dp {K : PySem.W.Frag} {H : Hp} : ∀ {x : Its} {l : List V} {d : Int}, x.ok d = true → x.At true H l → DpAll K H l x.data
  | .nil, _, _, ok, h => by simp only [Its.At] at h; subst h; simp only [Its.data]; exact .nil
  | .cons .., _, _, ok, h => by simp only [Its.At] at h; obtain ⟨v, l', rfl, h, r⟩ := h; simp only [Its.data]; rw [Its.ok, Bool.and_eq_true] at ok; exact .cons (It.dp ok.1 h) (Its.dp ok.2 r)
theorem Blks.dpE {K : PySem.W.Frag} {H : Hp} : ∀ {x : Blks} {l : List V} {d : Int}, x.ok d = true → x.AtE true H l → DpAll K H l x.dataE
  | .nil, _, _, ok, h => by simp only [Blks.AtE] at h; subst h; simp only [Blks.dataE]; exact .nil
  | .cons .., _, _, ok, h => by simp only [Blks.AtE] at h; obtain ⟨q, xs, l', rfl, r, h, t⟩ := h; simp only [Blks.dataE]; rw [Blks.ok, Bool.and_eq_true, Bool.and_eq_true] at ok; exact .cons (.tup (SqT.of (rowT r)) (Its.dp ok.1.2 h)) (Blks.dpE ok.2 t)
theorem Blks.dpS {K : PySem.W.Frag} {H : Hp} : ∀ {x : Blks} {l : List V} {d : Int}, x.ok d = true → x.AtS true H l → DpAll K H l x.dataS
  | .nil, _, _, ok, h => by simp only [Blks.AtS] at h; subst h; simp only [Blks.dataS]; exact .nil
  | .cons .., _, _, ok, h => by simp only [Blks.AtS] at h; obtain ⟨p, q, xs, l', rfl, hp, r, h, t⟩ := h; simp only [Blks.dataS]; rw [Blks.ok, Bool.and_eq_true, Bool.and_eq_true] at ok; exact .cons (.tup (SqT.of hp) (.cons (.int _) (.cons (.tup (SqT.of (rowT r)) (Its.dp ok.1.2 h)) .nil))) (Blks.dpS ok.2 t)
end
/-! ### it is shaped -/
theorem sign_uni {c : Nat} (h : isSign c = true) : c < 1114112 := by
  unfold isSign isLetter isDigit at h
  rw [Bool.or_eq_true] at h
  have a : ∀ c ∈ letters.cps.toList, c < 1114112 := by decide +kernel
  have b : ∀ c ∈ digits.cps.toList, c < 1114112 := by decide +kernel
  exact h.elim (fun h => a c (of_decide_eq_true h)) fun h => b c (of_decide_eq_true h)
theorem name_lay {z : Str} (h : isName z = true) : PyData.strOk z = true := by
  unfold isName at h
  unfold PyData.strOk
  rw [← Array.all_toList]
  revert h
  generalize z.cps.toList = l
  intro h
  cases l with
  | nil => rfl
  | cons c r =>
    unfold nameOk at h
    rw [Bool.and_eq_true, Bool.and_eq_true] at h
    rw [List.all_eq_true]
    intro x hx
    exact decide_eq_true (sign_uni (List.all_eq_true.mp h.2.2 x hx))
theorem ok_isName {x : It} {d : Int} (h : x.ok d = true) : isName x.name = true := by
  cases e : isName x.name with
  | true => rfl
  | false => rw [ok_name e] at h; cases h
def EnvC (f : Env) : Prop := ∀ z p, f z = some p → PyData.strOk z = true
theorem envC_seen {f : Env} (hf : EnvC f) {y : It} (h : isName y.name = true) : EnvC (y.seen f) := by
  cases y with
  | num n s o lo hi =>
    intro z p e
    have e : (if z = n then some (lo, hi) else f z) = some p := e
    by_cases c : z = n
    · rw [c]; exact name_lay h
    · rw [if_neg c] at e; exact hf z p e
  | _ => exact hf
theorem amount_lay {f : Env} (hf : EnvC f) {most : Int} {a : Key} {l : Int × Int} (e : amount f most a = some l) : (kP a).canLay0 = true := by
  cases a with
  | inl i => rfl
  | inr z =>
    simp only [amount] at e
    cases h : f z with
    | none => rw [h] at e; cases e
    | some p => simp only [kP, PyData.canLay0]; exact hf z p h
theorem kw_lay : PyData.strOk "number" = true ∧ PyData.strOk "bytes" = true ∧ PyData.strOk "text" = true ∧ PyData.strOk "check" = true ∧ PyData.strOk "pad" = true ∧ PyData.strOk "repeat" = true ∧ PyData.strOk "either" = true ∧ PyData.strOk "switch" = true ∧ PyData.strOk "big" = true ∧ PyData.strOk "little" = true := by decide +kernel
mutual
theorem It.lay : ∀ (x : It) (f : Env) (l : Int × Int) (d : Int), EnvC f → x.ok d = true → x.lens f = some l → x.data.canLay0 = true
  | .num n s o lo hi, f, l, d, hf, ok, e => by
    have nm : PyData.strOk n = true := name_lay (ok_isName ok)
    simp only [It.lens] at e
    by_cases c : numOk s o lo hi = true
    · unfold numOk at c
      rw [Bool.and_eq_true, Bool.and_eq_true] at c
      have c2 := of_decide_eq_true c.2.1
      have os : PyData.strOk o = true := by rcases c2 with rfl | rfl <;> decide +kernel
      simp only [It.data, PyData.canLay0, PyData.canLayAll0, nm, os, kw_lay.1, Bool.and_true]
    · rw [if_neg c] at e; cases e
  | .byt n a, f, l, d, hf, ok, e => by
    have nm : PyData.strOk n = true := name_lay (ok_isName ok)
    simp only [It.lens] at e
    simp only [It.data, PyData.canLay0, PyData.canLayAll0, nm, amount_lay hf e, kw_lay.2.1, Bool.and_true]
  | .txt n st m, f, l, d, hf, ok, e => by
    have nm : PyData.strOk n = true := name_lay (ok_isName ok)
    simp only [It.data, PyData.canLay0, PyData.canLayAll0, nm, kw_lay.2.2.1, Bool.and_true]
  | .chk n m, f, l, d, hf, ok, e => by
    have nm : PyData.strOk n = true := name_lay (ok_isName ok)
    simp only [It.data, PyData.canLay0, PyData.canLayAll0, nm, kw_lay.2.2.2.1, Bool.and_true]
  | .pad n m b, f, l, d, hf, ok, e => by
    have nm : PyData.strOk n = true := name_lay (ok_isName ok)
    simp only [It.data, PyData.canLay0, PyData.canLayAll0, nm, kw_lay.2.2.2.2.1, Bool.and_true]
  | .rep n a b, f, l, d, hf, ok, e => by
    have nm : PyData.strOk n = true := name_lay (ok_isName ok)
    simp only [It.lens] at e
    rw [It.ok, Bool.and_eq_true, Bool.and_eq_true, Bool.and_eq_true] at ok
    cases ha : amount f 16 a with
    | none => rw [ha] at e; cases e
    | some q =>
      cases hb : b.lens f with
      | none => rw [ha, hb] at e; cases e
      | some p => simp only [It.data, PyData.canLay0, PyData.canLayAll0, nm, amount_lay hf ha, Its.lay b f p _ hf ok.2.2.2 hb, kw_lay.2.2.2.2.2.1, Bool.and_true]
  | .eit n bs, f, l, d, hf, ok, e => by
    have nm : PyData.strOk n = true := name_lay (ok_isName ok)
    simp only [It.lens] at e
    rw [It.ok, Bool.and_eq_true, Bool.and_eq_true, Bool.and_eq_true] at ok
    cases hb : bs.lens f with
    | none => rw [hb] at e; cases e
    | some p => simp only [It.data, PyData.canLay0, PyData.canLayAll0, nm, Blks.layE bs f p _ hf ok.2.2.2 hb, kw_lay.2.2.2.2.2.2.1, Bool.and_true]
  | .swi n tag bs, f, l, d, hf, ok, e => by
    have nm : PyData.strOk n = true := name_lay (ok_isName ok)
    simp only [It.lens] at e
    rw [It.ok, Bool.and_eq_true, Bool.and_eq_true, Bool.and_eq_true] at ok
    by_cases c : (f tag).isSome = true ∧ (∀ v ∈ bs.vals, 0 ≤ v ∧ v ≤ 65535) ∧ bs.vals.Nodup
    · rw [if_pos c] at e
      obtain ⟨q, hq⟩ := Option.isSome_iff_exists.mp c.1
      have ht := hf tag q hq
      cases hb : bs.lens f with
      | none => rw [hb] at e; cases e
      | some p => simp only [It.data, PyData.canLay0, PyData.canLayAll0, nm, ht, Blks.layS bs f p _ hf ok.2.2.2 hb, kw_lay.2.2.2.2.2.2.2.1, Bool.and_true]
    · rw [if_neg c] at e; cases e
theorem Its.lay : ∀ (x : Its) (f : Env) (l : Int × Int) (d : Int), EnvC f → x.ok d = true → x.lens f = some l → PyData.canLayAll0 x.data = true
  | .nil, f, l, d, hf, ok, e => by simp only [Its.data, PyData.canLayAll0]
  | .cons x r, f, l, d, hf, ok, e => by
    rw [lens_cons] at e
    rw [Its.ok, Bool.and_eq_true] at ok
    cases hx : x.lens f with
    | none => rw [hx] at e; cases e
    | some a =>
      rw [hx] at e
      simp only at e
      cases hr : r.lens (x.seen f) with
      | none => rw [hr] at e; cases e
      | some b => simp only [Its.data, PyData.canLayAll0, It.lay x f a d hf ok.1 hx, Its.lay r _ b d (envC_seen hf (ok_isName ok.1)) ok.2 hr, Bool.and_true]
theorem Blks.layE : ∀ (x : Blks) (f : Env) (l : List (Int × Int)) (d : Int), EnvC f → x.ok d = true → x.lens f = some l → PyData.canLayAll0 x.dataE = true
  | .nil, f, l, d, hf, ok, e => by simp only [Blks.dataE, PyData.canLayAll0]
  | .cons v b r, f, l, d, hf, ok, e => by
    rw [lensB_cons] at e
    rw [Blks.ok, Bool.and_eq_true, Bool.and_eq_true] at ok
    cases hx : b.lens f with
    | none => rw [hx] at e; cases e
    | some a =>
      rw [hx] at e
      simp only at e
      cases hr : r.lens f with
      | none => rw [hr] at e; cases e
      | some c => simp only [Blks.dataE, PyData.canLay0, PyData.canLayAll0, Its.lay b f a d hf ok.1.2 hx, Blks.layE r f c d hf ok.2 hr, Bool.and_true]
theorem Blks.layS : ∀ (x : Blks) (f : Env) (l : List (Int × Int)) (d : Int), EnvC f → x.ok d = true → x.lens f = some l → PyData.canLayAll0 x.dataS = true
  | .nil, f, l, d, hf, ok, e => by simp only [Blks.dataS, PyData.canLayAll0]
  | .cons v b r, f, l, d, hf, ok, e => by
    rw [lensB_cons] at e
    rw [Blks.ok, Bool.and_eq_true, Bool.and_eq_true] at ok
    cases hx : b.lens f with
    | none => rw [hx] at e; cases e
    | some a =>
      rw [hx] at e
      simp only at e
      cases hr : r.lens f with
      | none => rw [hr] at e; cases e
      | some c => simp only [Blks.dataS, PyData.canLay0, PyData.canLayAll0, Its.lay b f a d hf ok.1.2 hx, Blks.layS r f c d hf ok.2 hr, Bool.and_true]
end
theorem dep_k (a : Key) : (kP a).depth = 0 := by cases a <;> simp only [kP, PyData.depth]
theorem ok_d {x : It} {d : Int} (h : x.ok d = true) : d ≤ 3 := by
  cases x with
  | rep => rw [It.ok, Bool.and_eq_true, Bool.and_eq_true] at h; have := of_decide_eq_true h.2.1; omega
  | eit => rw [It.ok, Bool.and_eq_true, Bool.and_eq_true] at h; have := of_decide_eq_true h.2.1; omega
  | swi => rw [It.ok, Bool.and_eq_true, Bool.and_eq_true] at h; have := of_decide_eq_true h.2.1; omega
  | odd => simp [It.ok] at h
  | _ => simp only [It.ok, Bool.and_eq_true] at h; exact of_decide_eq_true h.2
mutual
theorem It.dep : ∀ (x : It) (d : Int), x.ok d = true → (x.data.depth : Int) ≤ 13 - 4 * d
  | .num .., d, h => by have := ok_d h; simp only [It.data, PyData.depth, PyData.depthAll]; omega
  | .byt n a, d, h => by have := ok_d h; simp only [It.data, PyData.depth, PyData.depthAll, dep_k]; omega
  | .txt .., d, h => by have := ok_d h; simp only [It.data, PyData.depth, PyData.depthAll]; omega
  | .chk .., d, h => by have := ok_d h; simp only [It.data, PyData.depth, PyData.depthAll]; omega
  | .pad .., d, h => by have := ok_d h; simp only [It.data, PyData.depth, PyData.depthAll]; omega
  | .rep n a b, d, h => by
    rw [It.ok, Bool.and_eq_true, Bool.and_eq_true, Bool.and_eq_true] at h
    have d2 := of_decide_eq_true h.2.1
    have := Its.dep b (d + 1) (by omega) h.2.2.2
    simp only [It.data, PyData.depth, PyData.depthAll, dep_k]
    omega
  | .eit n bs, d, h => by
    rw [It.ok, Bool.and_eq_true, Bool.and_eq_true, Bool.and_eq_true] at h
    have d2 := of_decide_eq_true h.2.1
    have := Blks.depE bs (d + 1) (by omega) h.2.2.2
    simp only [It.data, PyData.depth, PyData.depthAll]
    omega
  | .swi n t bs, d, h => by
    rw [It.ok, Bool.and_eq_true, Bool.and_eq_true, Bool.and_eq_true] at h
    have d2 := of_decide_eq_true h.2.1
    have := Blks.depS bs (d + 1) (by omega) h.2.2.2
    simp only [It.data, PyData.depth, PyData.depthAll]
    omega
theorem Its.dep : ∀ (x : Its) (d : Int), d ≤ 3 → x.ok d = true → (PyData.depthAll x.data : Int) ≤ 13 - 4 * d
  | .nil, d, h3, h => by simp only [Its.data, PyData.depthAll]; omega
  | .cons x r, d, h3, h => by
    rw [Its.ok, Bool.and_eq_true] at h
    have a := It.dep x d h.1
    have b := Its.dep r d h3 h.2
    simp only [Its.data, PyData.depthAll]
    omega
theorem Blks.depE : ∀ (x : Blks) (d : Int), d ≤ 3 → x.ok d = true → (PyData.depthAll x.dataE : Int) ≤ 14 - 4 * d
  | .nil, d, h3, h => by simp only [Blks.dataE, PyData.depthAll]; omega
  | .cons v b r, d, h3, h => by
    rw [Blks.ok, Bool.and_eq_true, Bool.and_eq_true] at h
    have a := Its.dep b d h3 h.1.2
    have c := Blks.depE r d h3 h.2
    simp only [Blks.dataE, PyData.depth, PyData.depthAll]
    omega
theorem Blks.depS : ∀ (x : Blks) (d : Int), d ≤ 3 → x.ok d = true → (PyData.depthAll x.dataS : Int) ≤ 15 - 4 * d
  | .nil, d, h3, h => by simp only [Blks.dataS, PyData.depthAll]; omega
  | .cons v b r, d, h3, h => by
    rw [Blks.ok, Bool.and_eq_true, Bool.and_eq_true] at h
    have a := Its.dep b d h3 h.1.2
    have c := Blks.depS r d h3 h.2
    simp only [Blks.dataS, PyData.depth, PyData.depthAll]
    omega
end
theorem shaped_data {x : Its} {l : Int × Int} (ok : x.ok 0 = true) (e : x.lens (fun _ => none) = some l) : SeqAt.shaped (.tuple x.data) = true := by
  have a := Its.lay x _ l 0 (fun z p h => by cases h) ok e
  have b := Its.dep x 0 (by decide) ok
  unfold SeqAt.shaped
  simp only [PyData.canLay0, PyData.depth, a, Bool.true_and]
  exact decide_eq_true (by omega)
theorem eqv_data {x : Its} {l : Int × Int} (ok : x.ok 0 = true) (e : x.lens (fun _ => none) = some l) : PyData.eqv (.tuple x.data) (.tuple x.data) = true := by
  have h := shaped_data ok e
  unfold SeqAt.shaped at h
  rw [Bool.and_eq_true] at h
  exact SeqAt.eqv_refl _ h.1
/-! ### the first items -/
theorem take_At {fz : Bool} {H : Hp} : ∀ {x : Its} {l : List V} (i : Nat), x.At fz H l → (x.take i).At fz H (l.take i)
  | x, l, 0, _ => by simp [Its.take, Its.At]
  | .nil, l, i + 1, h => by simp only [Its.At] at h; subst h; simp [Its.take, Its.At]
  | .cons x r, l, i + 1, h => by
    simp only [Its.At] at h
    obtain ⟨v, l', rfl, h1, h2⟩ := h
    show (Its.cons x (r.take i)).At fz H (v :: l'.take i)
    simp only [Its.At]
    exact ⟨v, _, rfl, h1, take_At i h2⟩
end Bs

set_option Elab.async false
set_option linter.all false
set_option maxRecDepth 100000
set_option maxHeartbeats 8000000
namespace Bs
open PySem L2
/-! ### the law -/
abbrev sLaw3 : Stmt := top 63
theorem passE0 {X : Cx} {P : Program} {w : World} : Passes (L2.CX P w) X E0 := fun _ _ _ _ _ _ _ h => by
  obtain ⟨_, _, _, _, _, _, _, _, _, _, _, _, h⟩ := h
  exact h.elim
def spLaw (K : PySem.W.Frag) : Sp := fun vs H Q _ => ∃ (a : Addr) (ns : List Int), vs = [.ref a] ∧ SqL K H a (ns.map V.int) ∧ ns.length ≤ 63 ∧ ∀ H', Q (.bl true) H'
theorem shape_l {x : Its} (h : x.shape = true) : x.ok 0 = true ∧ ∃ l, x.lens (fun _ => none) = some l := by
  unfold Its.shape at h
  simp only [Bool.and_eq_true] at h
  obtain ⟨⟨_, a⟩, _, _, _, _, b⟩ := h
  exact ⟨a, Option.isSome_iff_exists.mp b⟩
theorem DAt.renl {D : Dr4} {H : Hp} {N : List Str} {c : Nat} (d : DAt D H N c) {e : Addr} (i : Int) (M : List Str) (he : H e = none) :
    DAt ⟨D.a, D.u, e, D.ml⟩ (upd (upd H e (.lst (M.map V.str))) D.a (.lst [.ref D.u, .int i, .ref e, .ref D.ml])) M c := by
  obtain ⟨⟨j, a⟩, ⟨ns, u, ul⟩, nl, ⟨ms, ml, mlen⟩, d1, d2, d3, d4, d5, d6⟩ := d
  have ea : e ≠ D.a := fun z => by rw [z, a] at he; cases he
  have eu : e ≠ D.u := fun z => by rw [z, u] at he; cases he
  have em : e ≠ D.ml := fun z => by rw [z, ml] at he; cases he
  exact ⟨⟨i, upd_same⟩, ⟨ns, by rw [upd_ne d4, upd_ne eu.symm]; exact u, ul⟩, by show upd _ D.a _ e = _; rw [upd_ne ea, upd_same], ⟨ms, by rw [upd_ne d2.symm, upd_ne em.symm]; exact ml, mlen⟩, ea.symm, d2, em, d4, eu.symm, d6⟩
theorem cut_toN (xs : List V) (i : Nat) : cutV xs none (some (i : Int)) = xs.take i := by
  unfold cutV
  rw [HT.sIx_nat, HT.sIx_none, List.drop_zero, Nat.sub_zero, ← List.take_eq_take_min]
theorem cut_fromN (xs : List V) (i : Nat) : cutV xs (some (i : Int)) none = xs.drop i := by
  unfold cutV
  rw [HT.sIx_nat, HT.sIx_none, List.take_of_length_le (by rw [List.length_drop]; omega)]
  by_cases c : i ≤ xs.length
  · rw [Nat.min_eq_left c]
  · rw [Nat.min_eq_right (by omega), List.drop_of_length_le (Nat.le_refl _), List.drop_of_length_le (by omega)]
theorem cut_its {H : Hp} : ∀ (i : Nat) (x : Its) (l : List V), x.At false H l → ∃ a b : Its, x = a.app b ∧ a.At false H (l.take i) ∧ b.At false H (l.drop i)
  | 0, x, l, h => ⟨.nil, x, rfl, by simp [Its.At], h⟩
  | i + 1, .nil, l, h => by
    simp only [Its.At] at h
    subst h
    exact ⟨.nil, .nil, rfl, by simp [Its.At], by simp [Its.At]⟩
  | i + 1, .cons y r, l, h => by
    simp only [Its.At] at h
    obtain ⟨v, l', rfl, h1, h2⟩ := h
    obtain ⟨a, b, rfl, ha, hb⟩ := cut_its i r l' h2
    exact ⟨.cons y a, b, rfl, by simp only [List.take_succ_cons, Its.At]; exact ⟨v, _, rfl, h1, ha⟩, hb⟩
theorem toL_app : ∀ (x y : Its), (x.app y).toL = x.toL ++ y.toL
  | .nil, y => rfl
  | .cons x r, y => by show x :: (r.app y).toL = _; rw [toL_app r y]; rfl
theorem toL_flat : ∀ (x : Its) {u : It}, u ∈ x.toL → ∃ z ∈ x.flat, z.name = u.name
  | .nil, _, h => by cases h
  | .cons x r, u, h => by
    rcases List.mem_cons.mp h with rfl | h
    · refine ⟨(u.flat.head?.getD u), ?_, ?_⟩ <;> (cases u <;> simp [Its.flat, It.flat, It.name])
    · obtain ⟨z, hz, e⟩ := toL_flat r h
      exact ⟨z, by simp only [Its.flat]; exact List.mem_append_right _ hz, e⟩
theorem app_tame_l : ∀ {x y : Its}, (x.app y).tame → x.tame ∧ y.tame
  | .nil, y, h => ⟨by simp [Its.tame], h⟩
  | .cons x r, y, h => by
    simp only [Its.app, Its.tame] at h ⊢
    obtain ⟨a, b⟩ := app_tame_l h.2
    exact ⟨⟨h.1, a⟩, b⟩
theorem ltyes {p : Prop} [Decidable p] {X Y : Prop} (h : p) (x : X) : if decide p = true then X else Y := by
  rw [if_pos (decide_eq_true h)]; exact x
theorem ltno {p : Prop} [Decidable p] {X Y : Prop} (h : ¬ p) (y : Y) : if decide p = true then X else Y := by
  rw [if_neg (fun z => h (of_decide_eq_true z))]; exact y
theorem num_no {S : List Str} {u : It} (h : u.name ∉ S) : u.numNo S := by
  cases u <;> first | exact trivial | exact h
section
variable {P : Program} {w : World} {K : PySem.W.Frag} {mg : Str → Option Value} {base : Heap} {f fI C CS : Addr} {fd fdI : FuncData}
abbrev nLaw3 : List Str := ["script", "numbers", "draw", "items", "names", "good", "choice", "number", "bad", "place"]
theorem scLaw3 : FnScope nLaw3 ["script"] (defScope sLaw3) := ⟨rfl, rfl, rfl, by decide +kernel, rfl, by decide +kernel, by decide +kernel⟩
theorem ok_law {k : Nat} (hk : 2 ≤ k) (F : Fun K "law" "law" sLaw3 f fd) (gN : Cal P w K mg base CX0 2 "_law_numbers" ["script", "many"] (spNums K)) (gBg : Cal P w K mg base CX0 1 "_law_begin" ["numbers"] spBegin) (gI : Cal P w K mg base CX0 k "_law_items" ["draw", "ahead", "depth", "many"] (spItems 3))
    (T : ShapeC K CS) (M : Mk K CS fI) (GI : FnOk P w K mg base (L2.CX P w) (k - 1) fI fdI ["self", "items"] (spInit C CS)) (bI : Binds K fdI ["self", "items"] []) (gS : mg "Shape" = some (.ref CS))
    (gZ : Cal P w K mg base CX0 k "_law_frozen" ["items"] (spLFroz 3)) (gP : Cal P w K mg base CX0 1 "_law_plain" ["choice", "number", "names"] spPlain) (gB : Cal P w K mg base CX0 1 "_law_with_blocks" ["choice", "number", "names"] spWithB)
    (gWr : Cal P w K mg base CX0 1 "_law_wrapped" ["bad", "number", "names"] spWrapped) (gA : Cal P w K mg base CX0 k "_law_all" ["items", "choice", "number", "names"] spAll) (gR : Cal P w K mg base CX0 k "_law_refuses" ["items"] spRefuses)
    (mint : mg "int" = none) (ml : mg "len" = none) : FnOk P w K mg base CX0 (k + 1) f fd ["script"] (spLaw K) := by
  refine F.ok scLaw3 (fun vs H Q E h => ?_) (fun cdv A outer s H vs Q E hr h => ?_)
  · obtain ⟨a, ns, rfl, _⟩ := h
    rfl
  · obtain ⟨a, ns, rfl, ha, hlen, q⟩ := h
    have hu := hu_of hr
    have hr1 : Room 1 _ := hr.mono (by omega)
    have hr2 : Room 2 _ := hr.mono hk
    refine ⟨_, (pss_cons (ps_set (i := 1) scLaw3.nd rfl (.inl rfl) (pe_cal gN hr2 pass0 (pa_cons (pv 0) (pa_cons pe_int pa_nil))))
      (pss_cons (ps_set (i := 2) scLaw3.nd rfl (.inl rfl) (pe_cal gBg hr1 pass0 (pa_cons (pv 1) pa_nil)))
      (pss_cons (ps_asg (pe_slice sl_list (pe_ix ix_list (pv 2) pe_int (fun _ _ => rfl)) po_none (po_some pe_int)) (pg_sub (pv 2) pe_int set_list))
      (pss_cons (ps_set (i := 3) scLaw3.nd rfl (.inl rfl) (pe_cal gI hr pass0 (pa_cons (pv 2) (pa_cons (pe_lst pa_nil) (pa_cons pe_int (pa_cons (pe_op op_add pe_int (pe_op op_mod (pe_callTy (r := rInt1) call_int1 (by rfl) mint (by decide +kernel) (pa_cons (pe_ix ix_list (pv 1) pe_int (fun _ _ => rfl)) pa_nil)) pe_int)) pa_nil))))))
      (pss_cons (ps_set (i := 4) scLaw3.nd rfl (.inl rfl) (pe_op op_cat (pe_ix ix_list (pv 2) pe_int (fun _ _ => rfl)) (pe_slice sl_list (pe_ix ix_list (pe_cal gBg hr1 pass0 (pa_cons (pv 1) pa_nil)) pe_int (fun _ _ => rfl)) (po_some pe_int) po_none)))
      (pss_cons (ps_set (i := 5) scLaw3.nd rfl (.inl rfl) (pe_cal gZ hr pass0 (pa_cons (pv 3) pa_nil)))
      (pss_cons (ps_if (pt_cmpR (op_neD hr.units) (pe_fld (pe_make M GI (hr.mono (by omega)) (by rfl) gS bI .nil passE0 (pa_cons (pv 3) pa_nil)) rfl) (pv 5) (nomark _)) (pss_one (ps_ret pe_bl)) pss_nil)
      (pss_cons (ps_set (i := 6) scLaw3.nd rfl (.inl rfl) (pe_op op_mod (pe_callTy (r := rInt1) call_int1 (by rfl) mint (by decide +kernel) (pa_cons (pe_ix ix_list (pv 1) pe_int (fun _ _ => rfl)) pa_nil)) pe_int))
      (pss_cons (ps_set (i := 7) scLaw3.nd rfl (.inl rfl) (pe_callTy (r := rInt1) call_int1 (by rfl) mint (by decide +kernel) (pa_cons (pe_ix ix_list (pv 1) pe_int (fun _ _ => rfl)) pa_nil)))
      (pss_cons (ps_if (pt_cmpR op_lt (pv 6) pe_int (nomark _)) (pss_one (ps_set (i := 8) scLaw3.nd rfl (.inl rfl) (pe_lst (pa_cons (pe_cal gP hr1 pass0 (pa_cons (pv 6) (pa_cons (pv 7) (pa_cons (pv 4) pa_nil)))) pa_nil)))) (pss_one (ps_if (pt_cmpR op_lt (pv 6) pe_int (nomark _)) (pss_one (ps_set (i := 8) scLaw3.nd rfl (.inl rfl) (pe_cal gB hr1 pass0 (pa_cons (pv 6) (pa_cons (pv 7) (pa_cons (pv 4) pa_nil)))))) pss_nil)))
      (pss_cons (ps_if (pt_cmpR op_lt (pv 6) pe_int (nomark _)) (pss_cons (ps_set (i := 9) scLaw3.nd rfl (.inl rfl) (pe_op op_mod (pe_callTy (r := rInt1) call_int1 (by rfl) mint (by decide +kernel) (pa_cons (pe_ix ix_list (pv 1) pe_int (fun _ _ => rfl)) pa_nil)) (pe_op op_add (pe_callB (r := rLen K) call_len (by rfl) ml boot_len (pa_cons (pv 3) pa_nil)) pe_int)))
      (pss_one (ps_set (i := 8) scLaw3.nd rfl (.inl rfl) (pe_op op_cat (pe_op op_cat (pe_slice sl_list (pv 3) po_none (po_some (pv 9))) (pe_cal gWr hr1 pass0 (pa_cons (pv 8) (pa_cons (pe_callTy (r := rInt1) call_int1 (by rfl) mint (by decide +kernel) (pa_cons (pe_ix ix_list (pv 1) pe_int (fun _ _ => rfl)) pa_nil)) (pa_cons (pe_slice sl_list (pv 4) (po_some pe_int) po_none) pa_nil))))) (pe_slice sl_list (pv 3) (po_some (pv 9)) po_none))))) (pss_one (ps_set (i := 8) scLaw3.nd rfl (.inl rfl) (pe_cal gA hr pass0 (pa_cons (pv 3) (pa_cons (pv 6) (pa_cons (pv 7) (pa_cons (pv 4) pa_nil))))))))
      (pss_one (ps_ret (pe_and (pe_cal gR hr pass0 (pa_cons (pv 8) pa_nil)) (pe_and (pe_cal gR hr pass0 (pa_cons (pv 8) pa_nil)) (pe_one (pe_cmpR (op_eqD hr.units) (pe_fld (pe_make M GI (hr.mono (by omega)) (by rfl) gS bI .nil passE0 (pa_cons (pv 3) pa_nil)) rfl) (pv 5) (nomark _)))))))))))))))))), ?_⟩
    have small : ∀ n : Nat, n ≤ 2000 → n ≤ sizeLine := fun n h => Nat.le_trans h (by decide)
    refine ⟨_, rfl, a, ns, rfl, ha, hlen, fun pn rs H1 s1 hn hrl hnb => ?_⟩
    have g : ∀ (j : Nat) (hj : j < 160), atI (rs.map V.int) (j : Int) = some (.int (rs[j]'(by omega))) := fun j hj => atI_nat (by rw [List.getElem?_map, List.getElem?_eq_getElem (by omega)]; rfl)
    refine ⟨_, rfl, pn, rs, rfl, hn, hrl, fun D N H2 s2 du d2 h30 hnd hnm hnl hdet => ?_⟩
    have hn2 := s2 _ _ hn
    obtain ⟨i2, ha2⟩ := id d2.a
    refine ⟨_, rfl, D.a, _, 2, _, rfl, rfl, SqL.of ha2, atI_nat (j := 2) rfl, _, rfl, D.nl, _, rfl, SqL.of d2.nl, fun e1 he1 => ?_⟩
    have ce : cutV (N.map V.str) none (some 17) = (N.take 17).map V.str := by rw [show (17 : Int) = ((17 : Nat) : Int) from rfl, cut_toN, List.map_take]
    have nea : e1 ≠ D.a := fun z => by rw [z, ha2] at he1; cases he1
    refine ⟨_, rfl, D.a, [.ref D.u, .int i2, .ref D.nl, .ref D.ml], 2, 2, rfl, rfl, (by rw [upd_ne nea.symm]; exact ha2), ixN_nat (n := 4) (j := 2) (by decide), ?_⟩
    have dd := d2.renl i2 (N.take 17) he1
    rw [ce]
    have hn3 : upd (upd H2 e1 (.lst ((N.take 17).map V.str))) D.a (.lst [.ref D.u, .int i2, .ref e1, .ref D.ml]) pn = some (.lst (rs.map V.int)) := by
      rw [upd_ne (by rw [← du]; exact d2.d4), upd_ne (ne_of_none hn2 he1)]
      exact hn2
    rw [show ([V.ref D.u, V.int i2, V.ref D.nl, V.ref D.ml].set 2 (V.ref e1)) = [.ref D.u, .int i2, .ref e1, .ref D.ml] from rfl]
    generalize upd (upd H2 e1 (.lst ((N.take 17).map V.str))) D.a (.lst [.ref D.u, .int i2, .ref e1, .ref D.ml]) = H3 at dd hn3 ⊢
    have ndT : (N.take 17).Nodup := hnd.sublist (List.take_sublist _ _)
    have nmT : ∀ z ∈ N.take 17, isName z = true := fun z hz => hnm z (List.mem_of_mem_take hz)
    have lT : (N.take 17).length = 17 := by rw [List.length_take, h30]; rfl
    have hT1 : N.take 17 ≠ [] := fun z => by rw [z] at lT; cases lT
    have m0 := Int.emod_nonneg (rs[6]'(by omega)) (show (5 : Int) ≠ 0 by decide)
    have m1 := Int.emod_lt_of_pos (rs[6]'(by omega)) (show (0 : Int) < 5 by decide)
    obtain ⟨kk, hkk, hk1, hk5⟩ : ∃ kk : Nat, ((1 : Int) + rs[6]'(by omega) % 5) = (kk : Int) ∧ 1 ≤ kk ∧ kk ≤ 5 := by
      obtain ⟨j, hj⟩ := Int.eq_ofNat_of_zero_le m0
      exact ⟨1 + j, by rw [hj]; omega, by omega, by omega⟩
    have hk12 : kk ≤ 12 := by omega
    refine ⟨_, rfl, (by show 0 ≤ sizeLine; decide), fun e0 he0 => ?_⟩
    obtain ⟨d3, s3, g3⟩ := dd.new he0 (.lst [])
    have hn3' := (same_new he0 (.lst [])) _ _ hn3
    refine ⟨_, rfl, pn, _, 6, _, rfl, rfl, SqL.of hn3', g 6 (by decide), .inl ⟨_, rfl, _, _, rfl, rfl, (by show (0 : Int) < 5; decide), _, _, rfl, rfl, ?_⟩⟩
    refine ⟨⟨D.a, D.u, e1, D.ml⟩, N.take 17, 0, e0, [], [], 0, kk, by rw [← hkk], by decide, d3, g3, .nil, ⟨ndT, nmT, (fun p hp => by cases hp), (fun p hp => by cases hp), by simp [lT], Nat.zero_le 1⟩, hk12, fun r xs x bs H4 N' c' S4 d4 h4 a4 dr => ?_⟩
    obtain ⟨hsh, hw30, hnn⟩ := drawn_shape hk12 (by omega) (by omega) hT1 ndT dr
    have hr4 := neu_le _ _ h4
    have hx4 := a4.same neu_le
    have hn4 : H4 pn = some (.lst (rs.map V.int)) := by
      refine hid_le _ _ (S4 _ _ ?_)
      unfold Dr4.hid
      rw [if_neg (by rw [← du]; exact fun z => z.elim d3.d4 fun z => z.elim d3.d5 d3.d6)]
      exact hn3'
    obtain ⟨okx, l, el⟩ := shape_l hsh
    have tx := dr.tame
    have xl5 : x.len ≤ 5 := Nat.le_trans dr.len hk5
    have wl : (x.walk 0).length = x.flat.length := by rw [← Its.walk_flat x 0, List.length_map]
    obtain ⟨⟨ps, eN, pp⟩, _⟩ := dr.drn
    -- the names that are not used
    have hzs13 : 13 ≤ (N' ++ N.drop 17).length := by rw [List.length_append, List.length_drop]; omega
    have hzsn : ∀ z ∈ N' ++ N.drop 17, isName z = true := fun z hz => by
      rcases List.mem_append.mp hz with hz | hz
      · exact nmT z (by rw [eN]; exact List.mem_append_right _ hz)
      · exact hnm z (List.mem_of_mem_drop hz)
    have hNd : (ps ++ (N' ++ N.drop 17)).Nodup := by rw [← List.append_assoc, ← eN, List.take_append_drop]; exact hnd
    have hno : ∀ u ∈ x.toL, u.numNo (N' ++ N.drop 17) := fun u hm => num_no fun hin => by
      obtain ⟨z, hz, e⟩ := toL_flat x hm
      have hp : u.name ∈ ps := by
        have := pp.mem_iff.mp (List.mem_map.mpr ⟨z, hz, e⟩)
        simpa using this
      exact (List.nodup_append.mp hNd).2.2 _ hp _ hin rfl
    obtain ⟨i4, ha4⟩ := id d4.a
    have nl4 := d4.nl
    refine ⟨_, rfl, D.a, _, 2, _, rfl, rfl, SqL.of ha4, atI_nat (j := 2) rfl, ?_⟩
    refine ⟨_, rfl, pn, rs, rfl, hn4, hrl, fun D2 N2 H5 s5 du2 d5 h30' hnd' hnm' hnl' hdet' => ?_⟩
    obtain rfl := hdet.uniq hdet'
    obtain ⟨i5, ha5⟩ := id d5.a
    have f5 : e1 ≠ D.a := nea
    refine ⟨D2.a, _, 2, _, rfl, rfl, SqL.of ha5, atI_nat (j := 2) rfl, _, rfl, D2.nl, _, rfl, SqL.of d5.nl, fun e6 he6 => ?_⟩
    have ce2 : cutV (N.map V.str) (some 17) none = (N.drop 17).map V.str := by rw [show (17 : Int) = ((17 : Nat) : Int) from rfl, cut_fromN, List.map_drop]
    rw [ce2]
    have s6 := s5.trans (same_new he6 (.lst ((N.drop 17).map V.str)))
    have he6' : upd H5 e6 (.lst ((N.drop 17).map V.str)) e6 = some (.lst ((N.drop 17).map V.str)) := upd_same
    generalize upd H5 e6 (.lst ((N.drop 17).map V.str)) = H6 at s6 he6' ⊢
    refine ⟨e1, e6, _, _, rfl, rfl, s6 _ _ nl4, he6', small _ (by rw [List.length_map, List.length_map, List.length_drop]; have := congrArg List.length eN; rw [List.length_append, lT] at this; omega), fun nz hnz => ?_⟩
    rw [← List.map_append]
    have s7 := s6.trans (same_new hnz (.lst ((N' ++ N.drop 17).map V.str)))
    have hnz7 : upd H6 nz (.lst ((N' ++ N.drop 17).map V.str)) nz = some (.lst ((N' ++ N.drop 17).map V.str)) := upd_same
    generalize upd H6 nz (.lst ((N' ++ N.drop 17).map V.str)) = H7 at s7 hnz7 ⊢
    generalize hzs : N' ++ N.drop 17 = zs at hzs13 hzsn hno hnz7
    have hn7 := s7 _ _ hn4
    have hr7 := s7 _ _ hr4
    have hx7 := hx4.same s7
    clear hzs s7 s6 s5 he6' he6 hnz d5 ha5 nl4 ha4 d4 a4 h4 S4 d3 s3 g3 hn3' he0 dd hn3 nea f5 ha2 d2 hn2 hn s1 s2 ha hdet hdet' hnl hnl' hnm hnm' hnd hnd' ndT nmT hT1 ce ce2 hNd pp eN
    -- what is due
    refine ⟨_, rfl, H7, r, x, xs, 0, rfl, by decide, okx, by omega, Same.refl _, .inr ⟨rfl, hr7⟩, hx7, fun gd ys H8 s8 hg8 hy8 => ?_⟩
    have hn8 := s8 _ _ hn7
    have hr8 := s8 _ _ hr7
    have hx8 := hx7.same s8
    have hz8 := s8 _ _ hnz7
    -- the shape
    refine ⟨_, rfl, fun o dx no ndx nex => ?_⟩
    have t1 : Same H8 (upd (upd H8 dx (.own o)) o (.ins CS dx [])) := fun b u e => by
      rw [upd_ne (ne_of_none e no), upd_ne (ne_of_none e ndx)]
      exact e
    have z1 : ∀ H', Off o (upd (upd H8 dx (.own o)) o (.ins CS dx [])) H' → Same H8 H' := fun H' off b u e => off b u (ne_of_none e no) (t1 b u e)
    refine ⟨o, r, dx, x, xs, rfl, upd_same, .inr ⟨rfl, t1 _ _ hr8⟩, hx8.same t1, tx, by omega, fun _ H9 fs off ho sf row => ⟨rfl, ?_⟩, fun sh => by rw [hsh] at sh; cases sh⟩
    have s9 := z1 H9 off
    obtain ⟨p, vs, p1, p2, p3⟩ := sf.parts
    refine ⟨o, CS, dx, fs, _, rfl, ho, T.cl, T.n1, p1, _, rfl, ?_⟩
    refine ⟨.tuple x.data, .tuple x.data, .tup (SqT.of p2) (Its.dp okx p3), .tup (SqT.of (s9 _ _ hg8)) (Its.dp okx (hy8.same s9)), shaped_data okx el, shaped_data okx el, ?_⟩
    rw [eqv_data okx el]
    refine ⟨_, rfl, iteF ?_⟩
    have hn9 := s9 _ _ hn8
    have hr9 := s9 _ _ hr8
    have hx9 := hx8.same s9
    have hz9 := s9 _ _ hz8
    have hg9 := s9 _ _ hg8
    have hy9 := hy8.same s9
    clear s9 p1 p2 p3 sf row ho off z1 t1 nex ndx no hn8 hr8 hx8 hz8 hg8 hy8 hn7 hr7 hx7 hnz7 s8
    -- the numbers
    have c0 := Int.emod_nonneg (rs[150]'(by omega)) (show (25 : Int) ≠ 0 by decide)
    have c1 := Int.emod_lt_of_pos (rs[150]'(by omega)) (show (0 : Int) < 25 by decide)
    have n0 := (hnb _ (List.getElem_mem (by omega : 151 < rs.length))).1
    have w0 := (hnb _ (List.getElem_mem (by omega : 153 < rs.length))).1
    refine ⟨_, rfl, pn, _, 150, _, rfl, rfl, SqL.of hn9, g 150 (by decide), .inl ⟨_, rfl, _, _, rfl, rfl, (by show (0 : Int) < 25; decide), ?_⟩⟩
    refine ⟨_, rfl, pn, _, 151, _, rfl, rfl, SqL.of hn9, g 151 (by decide), .inl ⟨_, rfl, ?_⟩⟩
    dsimp only
    generalize rs[150]'(by omega) % 25 = ch at c0 c1 ⊢
    generalize rs[151]'(by omega) = nm at n0 ⊢
    have rng : (List.map V.str zs).length = zs.length := List.length_map ..
    refine with_rest (fun σ' Hx => ∃ ov : Option V, σ' = [some (.ref a), some (.ref pn), some (.ref D.a), some (.ref r), some (.ref nz), some (.ref gd), some (.int ch), some (.int nm), ov, none] ∧ Same H9 Hx ∧ (ch < 21 → ∃ v y, ov = some v ∧ LAt Hx y v ∧ Bd zs y ∧ y.tame ∧ y.flat.length ≤ 20)) ?_ fun rest => ?_
    rotate_left
    · by_cases c : ch < 11
      · refine ⟨_, rfl, _, _, rfl, rfl, _, rfl, ltyes c ?_⟩
        refine ⟨_, rfl, _, rfl, _, rfl, ch, nm, nz, zs, rfl, ⟨c0, by omega⟩, n0, hz9, hzs13, hzsn, fun v H' y s hy by_ ty fy => ?_⟩
        refine ⟨small _ (by show 1 ≤ 2000; decide), fun p hp => ?_⟩
        have s' := same_new hp (.lst [v])
        exact rest _ _ ⟨_, rfl, s.trans s', fun _ => ⟨_, .cons y .nil, rfl, ⟨p, [v], rfl, upd_same, by simp only [Its.At]; exact ⟨v, [], rfl, hy.same s', rfl⟩⟩, by_, by simp only [Its.tame]; exact ⟨ty, trivial⟩, by simp only [Its.flat, List.append_nil]; omega⟩⟩
      · refine ⟨_, rfl, _, _, rfl, rfl, _, rfl, ltno c ?_⟩
        by_cases c2 : ch < 21
        · refine ⟨_, rfl, _, _, rfl, rfl, _, rfl, ltyes c2 ?_⟩
          refine ⟨_, rfl, _, rfl, _, rfl, ch, nm, nz, zs, rfl, ⟨by omega, by omega⟩, n0, hz9, hzs13, hzsn, fun v H' y s hy by_ ty fy => ?_⟩
          exact rest _ _ ⟨_, rfl, s, fun _ => ⟨v, y, rfl, hy, by_, ty, fy⟩⟩
        · refine ⟨_, rfl, _, _, rfl, rfl, _, rfl, ltno c2 ?_⟩
          exact rest _ _ ⟨_, rfl, Same.refl _, fun z => absurd z c2⟩
    rintro σ H10 ⟨ov, rfl, s10, hov⟩
    have hn10 := s10 _ _ hn9
    have hr10 := s10 _ _ hr9
    have hx10 := hx9.same s10
    have hz10 := s10 _ _ hz9
    have hg10 := s10 _ _ hg9
    have hy10 := hy9.same s10
    clear hn9 hr9 hx9 hz9 hg9 hy9
    refine with_rest (fun σ' Hx => ∃ (bv : V) (y : Its) (o9 : Option V), σ' = [some (.ref a), some (.ref pn), some (.ref D.a), some (.ref r), some (.ref nz), some (.ref gd), some (.int ch), some (.int nm), some bv, o9] ∧ Same H10 Hx ∧ LAt Hx y bv ∧ y.shape = false ∧ y.tame ∧ y.flat.length ≤ 1000) ?_ fun rest => ?_
    rotate_left
    · by_cases c : ch < 21
      · refine ⟨_, rfl, _, _, rfl, rfl, _, rfl, ltyes c ?_⟩
        obtain ⟨v, y, rfl, hy, by_, ty, fy⟩ := hov c
        have xll := hx10.len
        refine ⟨_, rfl, pn, _, 152, _, rfl, rfl, SqL.of hn10, g 152 (by decide), .inl ⟨_, rfl, _, rfl, _, _, rfl, .inl ⟨_, SqL.of hr10, rfl⟩, _, _, rfl, rfl, _, _, rfl, rfl, (by show (0 : Int) < (xs.length : Int) + 1; omega), ?_⟩⟩
        dsimp only
        obtain ⟨pl, hpl⟩ := Int.eq_ofNat_of_zero_le (Int.emod_nonneg (rs[152]'(by omega)) (show (xs.length : Int) + 1 ≠ 0 by omega))
        rw [hpl]
        obtain ⟨xa, xb, ex, hxa, hxb⟩ := cut_its pl x xs hx10
        have lab : xa.toL ++ xb.toL = x.toL := by rw [ex, toL_app]
        refine ⟨_, rfl, _, rfl, _, rfl, r, xs, rfl, SqL.of hr10, fun p1 hp1 => ?_⟩
        rw [cut_toN]
        have u1 := same_new hp1 (.lst (xs.take pl))
        have h1 : upd H10 p1 (.lst (xs.take pl)) p1 = some (.lst (xs.take pl)) := upd_same
        generalize upd H10 p1 (.lst (xs.take pl)) = K1 at u1 h1 ⊢
        refine ⟨_, rfl, _, rfl, pn, _, 153, _, rfl, rfl, SqL.of (u1 _ _ hn10), g 153 (by decide), .inl ⟨_, rfl, ?_⟩⟩
        refine ⟨_, rfl, _, rfl, nz, _, rfl, SqL.of (u1 _ _ hz10), fun p2 hp2 => ?_⟩
        rw [show (5 : Int) = ((5 : Nat) : Int) from rfl, cut_fromN, ← List.map_drop]
        have u2 := u1.trans (same_new hp2 (.lst ((zs.drop 5).map V.str)))
        have h2 : upd K1 p2 (.lst ((zs.drop 5).map V.str)) p2 = some (.lst ((zs.drop 5).map V.str)) := upd_same
        have h1 := same_new hp2 (.lst ((zs.drop 5).map V.str)) _ _ h1
        generalize upd K1 p2 (.lst ((zs.drop 5).map V.str)) = K2 at u2 h2 h1 ⊢
        refine ⟨zs, v, _, p2, zs.drop 5, y, rfl, w0, h2, by rw [List.length_drop]; omega, fun z hz => hzsn z (List.mem_of_mem_drop hz), ?_, by_, ty, fy, fun v3 K3 y3 u3 hy3 b3 t3 f3 => ?_⟩
        · obtain ⟨q1, q2, q3, q4, q5⟩ := hy
          exact ⟨q1, q2, q3, u2 _ _ q4, q5.same u2⟩
        obtain ⟨p3, l3, rfl, g3, a3⟩ := hy3
        have l3l := a3.len
        have y3l := len_flat y3
        have U3 := u2.trans u3
        have xtl : (xs.take pl).length ≤ 12 := by rw [List.length_take]; omega
        have xdl : (xs.drop pl).length ≤ 12 := by rw [List.length_drop]; omega
        refine ⟨p1, p3, _, _, rfl, rfl, u3 _ _ h1, g3, small _ (by omega), fun p4 hp4 => ?_⟩
        have U4 := U3.trans (same_new hp4 (.lst (xs.take pl ++ l3)))
        have h4 : upd K3 p4 (.lst (xs.take pl ++ l3)) p4 = some (.lst (xs.take pl ++ l3)) := upd_same
        have a4 := a3.same (same_new hp4 (.lst (xs.take pl ++ l3)))
        generalize upd K3 p4 (.lst (xs.take pl ++ l3)) = K4 at U4 h4 a4 ⊢
        refine ⟨_, rfl, _, rfl, _, rfl, r, xs, rfl, SqL.of (U4 _ _ hr10), fun p5 hp5 => ?_⟩
        rw [cut_fromN]
        have v5 := same_new hp5 (.lst (xs.drop pl))
        have h5 : upd K4 p5 (.lst (xs.drop pl)) p5 = some (.lst (xs.drop pl)) := upd_same
        have h4 := v5 _ _ h4
        have a4 := a4.same v5
        have U5 := U4.trans v5
        generalize upd K4 p5 (.lst (xs.drop pl)) = K5 at U5 h5 h4 a4 ⊢
        refine ⟨p4, p5, _, _, rfl, rfl, h4, h5, small _ (by rw [List.length_append]; omega), fun p6 hp6 => ?_⟩
        have v6 := same_new hp6 (.lst (xs.take pl ++ l3 ++ xs.drop pl))
        have U6 := U5.trans v6
        refine rest _ _ ⟨_, xa.app (y3.app xb), _, rfl, U6, ⟨p6, _, rfl, upd_same, ?_⟩, (b3.ctx (fun u hu => hno u (by rw [← lab]; exact List.mem_append_left _ hu))).shape, ?_, ?_⟩
        · have z := app_at (hxa.same U6) (app_at (a4.same v6) (hxb.same U6))
          rw [← List.append_assoc] at z
          exact z
        · rw [ex] at tx
          exact app_tame (app_tame_l tx).1 (app_tame t3 (app_tame_l tx).2)
        · have fx : x.flat.length ≤ 30 := by omega
          rw [ex, app_flat, List.length_append] at fx
          rw [app_flat, app_flat, List.length_append, List.length_append]
          omega
      · refine ⟨_, rfl, _, _, rfl, rfl, _, rfl, ltno c ?_⟩
        refine ⟨_, rfl, _, rfl, _, rfl, _, rfl, r, nz, ch, nm, zs, x, xs, rfl, ⟨by omega, by omega⟩, n0, hr10, hx10, hsh, tx, hz10, hzs13, hzsn, fun v H' y s hy hsy ty fy => ?_⟩
        exact rest _ _ ⟨_, y, _, rfl, s, hy, hsy, ty, fy⟩
    rintro σ H11 ⟨bv, y, o9, rfl, s11, hbv, hys, hyt, hyf⟩
    obtain ⟨pb, lb, rfl, hpb, hab⟩ := hbv
    have hr11 := s11 _ _ hr10
    have hx11 := hx10.same s11
    have hg11 := s11 _ _ hg10
    have hy11 := hy10.same s11
    have wy : (y.walk 0).length ≤ 1000 := by rw [show (y.walk 0).length = y.flat.length by rw [← Its.walk_flat y 0, List.length_map]]; exact hyf
    refine ⟨_, rfl, pb, y, lb, rfl, hpb, hab, hyt, wy, hys, fun H12 s12 => ⟨true, rfl, iteT ?_⟩⟩
    refine ⟨_, rfl, pb, y, lb, rfl, s12 _ _ hpb, hab.same s12, hyt, wy, hys, fun H13 s13 => ⟨true, rfl, iteT ?_⟩⟩
    have S13 := s12.trans s13
    have hr13 := S13 _ _ hr11
    have hx13 := hx11.same S13
    refine ⟨_, rfl, fun o dx no ndx nex => ?_⟩
    have t1 : Same H13 (upd (upd H13 dx (.own o)) o (.ins CS dx [])) := fun b u e => by
      rw [upd_ne (ne_of_none e no), upd_ne (ne_of_none e ndx)]
      exact e
    have z1 : ∀ H', Off o (upd (upd H13 dx (.own o)) o (.ins CS dx [])) H' → Same H13 H' := fun H' off b u e => off b u (ne_of_none e no) (t1 b u e)
    refine ⟨o, r, dx, x, xs, rfl, upd_same, .inr ⟨rfl, t1 _ _ hr13⟩, hx13.same t1, tx, by omega, fun _ H9 fs off ho sf row => ⟨rfl, ?_⟩, fun sh => by rw [hsh] at sh; cases sh⟩
    have s9 := S13.trans (z1 H9 off)
    obtain ⟨p, vs, p1, p2, p3⟩ := sf.parts
    refine ⟨o, CS, dx, fs, _, rfl, ho, T.cl, T.n1, p1, _, rfl, ?_⟩
    refine ⟨.tuple x.data, .tuple x.data, .tup (SqT.of p2) (Its.dp okx p3), .tup (SqT.of (s9 _ _ hg11)) (Its.dp okx (hy11.same s9)), shaped_data okx el, shaped_data okx el, ?_⟩
    rw [eqv_data okx el]
    exact q _
end
end Bs

set_option Elab.async false
set_option linter.all false
set_option maxRecDepth 100000
set_option maxHeartbeats 0
namespace Bs
open PySem L2
/-! ### the head: what the top leaves -/
def gDef (x : Str) (i : Nat) : He.DefD := ⟨(x, none), x, x, defArgs (top i), defBody (top i), defScope (top i), [], []⟩
def dInit : He.DefD := ⟨("Shape", some "__init__"), "__init__", "Shape.__init__", defArgs sInit, defBody sInit, defScope sInit, [], []⟩
def fns : List He.DefD := [gDef "blocks_of" 6, gDef "listed" 7, gDef "is_integer" 15, gDef "require" 16, gDef "amount_bounds" 17, gDef "number_lengths" 18, gDef "bytes_lengths" 19, gDef "text_lengths" 20, gDef "repeat_lengths" 21, gDef "either_lengths" 22, gDef "switch_lengths" 23, gDef "check_lengths" 24, gDef "pad_lengths" 25,
  gDef "list_lengths" 27, gDef "is_name" 37, gDef "is_row" 38, gDef "copied_list" 39, gDef "copied_item" 40, gDef "copied_choices" 41, gDef "copied_cases" 42, gDef "_law_row" 45, gDef "_law_numbers" 46, gDef "_law_next" 47, gDef "law" 63, dInit, gDef "_law_begin" 48, gDef "_law_number" 49, gDef "_law_use" 50, gDef "_law_block" 51, gDef "_law_nested" 52, gDef "_law_item" 53, gDef "_law_items" 54, gDef "_law_blocks" 55, gDef "_law_frozen" 56, gDef "_law_walk" 57, gDef "_law_refuses" 58, gDef "_law_plain" 59, gDef "_law_with_blocks" 60, gDef "_law_wrapped" 61, gDef "_law_all" 62]
def fas : List He.Fa := [.glo "blocks_of", .glo "listed", .glo "is_integer", .glo "require", .glo "amount_bounds", .glo "number_lengths", .glo "bytes_lengths", .glo "text_lengths", .glo "repeat_lengths", .glo "either_lengths", .glo "switch_lengths", .glo "check_lengths", .glo "pad_lengths",
  .glo "list_lengths", .glo "is_name", .glo "is_row", .glo "copied_list", .glo "copied_item", .glo "copied_choices", .glo "copied_cases", .glo "_law_row", .glo "_law_numbers", .glo "_law_next", .glo "law",
  .glo "Shape", .glo "InvalidShape", .glo "ByteshapeError", .glo "PARTS", .glo "RULES", .glo "WITH_BLOCKS", .glo "MULTIPLES",
  .free "isinstance", .free "int", .free "bool", .free "str", .free "list", .free "tuple", .free "len", .free "all", .free "dict", .free "set", .free "min", .free "max", .free "range", .free "abs", .free "ValueError",
  .int "LONGEST_NAME" 12, .int "LONGEST_LIST" 12, .int "DEEPEST" 3, .int "MOST_ITEMS" 30, .int "GREATEST_BYTE" 255, .int "GREATEST_PAIR" 65535, .int "GREATEST_LENGTH" 64, .int "GREATEST_COUNT" 16, .int "GREATEST_MODULUS" 16,
  .str "LETTERS" letters, .str "DIGITS" digits, .cls "Shape", .noat "Shape" "parts", .noat "Shape" "_rows", .noat "Shape" "names", .noat "Shape" "_least", .noat "Shape" "_greatest", .noat "Shape" "_row_of", .mkr "Shape", .exc "InvalidShape", .exm "InvalidShape" "InvalidShape" true, .glo "_law_begin", .glo "_law_number", .glo "_law_use", .glo "_law_block", .glo "_law_nested", .glo "_law_item", .glo "_law_items", .glo "_law_blocks", .glo "_law_frozen", .glo "_law_walk", .glo "_law_refuses", .glo "_law_plain", .glo "_law_with_blocks", .glo "_law_wrapped", .glo "_law_all", .glo "ByteshapeError", .glo "UnknownName"]
def kinds : List (Str × He.Dv) := [("number", .int 6), ("bytes", .int 3), ("text", .int 4), ("repeat", .int 4), ("either", .int 3), ("switch", .int 4), ("check", .int 3), ("pad", .int 4)]
def rules : List (Str × He.Dv) := [("number", .glo "number_lengths"), ("bytes", .glo "bytes_lengths"), ("text", .glo "text_lengths"), ("repeat", .glo "repeat_lengths"), ("either", .glo "either_lengths"), ("switch", .glo "switch_lengths"), ("check", .glo "check_lengths"), ("pad", .glo "pad_lengths")]
def oddB (K : PySem.W.Frag) : Bool := oddWords.all fun z => He.eqO (PySem.W.nsIn K (He.ga K "PARTS") z) (some none)
def tbs : List He.Tab := [(fun K => He.ga K "PARTS", kinds.map (·.1)), (fun K => He.ga K "RULES", rules.map (·.1))]
def excB (K : PySem.W.Frag) (D : Addr) : Bool :=
  He.eqO (PySem.W.findIn K (.ref D) "__getattribute__") (some (some (.builtin "BaseException.__getattribute__"))) && (He.eqO (PySem.W.findIn K (.ref D) "__getattr__") (some none) && (decide (PySem.W.subIn K (.ref D) (.type "BaseException") = some true) && (PySem.W.hasDictIn K D &&
  (He.eqO (PySem.W.findIn K (.ref D) "__class__") (some (some (.builtin "object.__class__"))) && (He.eqO (PySem.W.specialIn K (.builtin "object.__class__") "__get__") (some (some (.builtin "getset_descriptor.__get__"))) && (decide (PySem.W.takesIn K (.builtin "object.__class__") = some true) && decide (PySem.W.mroIn K D (.type "object") = some true)))))))
def kitB2 (K : PySem.W.Frag) : Bool := oddB K && (decide (PySem.W.kitOne K (.ref (He.ga K "InvalidShape")) (.ref (He.ga K "ByteshapeError")) = some true) && (decide (PySem.W.kitOne K (.ref (He.ga K "InvalidShape")) (.type "ValueError") = some true) && decide (PySem.W.kitOne K (.ref (He.ga K "InvalidShape")) (.ref (He.ga K "UnknownName")) = some false)))
def exs (K : PySem.W.Frag) : Bool := He.tupB K "WITH_BLOCKS" [.str "repeat", .str "either", .str "switch"] && (He.tupB K "MULTIPLES" [.int 1, .int 2, .int 4, .int 8, .int 16] && (He.valsB K (He.ga K "PARTS") kinds && (He.valsB K (He.ga K "RULES") rules && (excB K (He.ga K "InvalidShape") && kitB2 K))))
end Bs

set_option Elab.async false
set_option linter.all false
set_option maxRecDepth 100000
set_option maxHeartbeats 4000000
namespace Bs
open PySem L2
/-! ### all defs together -/
section
variable {P : Program} {w : World} {K : PySem.W.Frag} {mg : Str → Option Value} {h base : Heap} {C : Addr}
theorem fun_of {x q : Str} {st : Stmt} {f : Addr} {fd : FuncData} (F : FunD K x q (defArgs st) (defBody st) (defScope st) [] [] f fd) : Fun K x q st f fd := by
  obtain ⟨oc, od, dV, kV, doc, pm, an, cdv, ct, osl, rfl, lk, c, d, _⟩ := F.ex
  have e : dV = .none := d.elim (·.2) (fun z => absurd rfl z.1)
  subst e
  exact ⟨⟨oc, od, kV, doc, pm, an, cdv, ct, osl, rfl, lk, c⟩, F.kp⟩
theorem def_of (c : He.SaysT fas fns tbs w K) (j : Nat) {x : Str} {i : Nat} (e : fns[j]? = some (gDef x i)) : ∃ fd, Fun K x x (top i) (He.ga K x) fd := by
  obtain ⟨fd, F⟩ := c.d.def_ j (d := gDef x i) e
  exact ⟨fd, fun_of F⟩
theorem cal_of (X : K.In h) (G : h.Ns mainGlobals mg) (c : He.SaysT fas fns tbs w K) (j jg : Nat) {x : Str} {i : Nat} (e : fns[j]? = some (gDef x i)) (eg : fas[jg]? = some (.glo x)) {CX : CXT} {k : Nat} {ps : List Str} {sp : Sp}
    (bn : ∀ (f : Addr) (fd : FuncData), Fun K x x (top i) f fd → Binds K fd ps []) (ok : ∀ (f : Addr) (fd : FuncData), Fun K x x (top i) f fd → FnOk P w K mg base CX k f fd ps sp) : Cal P w K mg base CX k x ps sp := by
  obtain ⟨fd, F⟩ := def_of c j e
  exact ⟨_, fd, He.glo_ok X G (c.d.fact jg eg), F.kp, bn _ fd F, ok _ fd F⟩
theorem Cal.mono {CX : CXT} {j k : Nat} {x : Str} {ps : List Str} {sp : Sp} (g : Cal P w K mg base CX j x ps sp) (h : j ≤ k) : Cal P w K mg base CX k x ps sp := by
  obtain ⟨f, fd, h1, h2, h3, h4⟩ := g.ex
  exact ⟨f, fd, h1, h2, h3, h4.mono h⟩
theorem Cal.no {CX : CXT} {j k : Nat} {x : Str} {ps : List Str} {sp sq : Sp} (g : Cal P w K mg base CX j x ps sp) (no : ∀ vs H Q E, ¬ sq vs H Q E) : Cal P w K mg base CX k x ps sq := by
  obtain ⟨f, fd, h1, h2, h3, h4⟩ := g.ex
  exact ⟨f, fd, h1, h2, h3, ⟨fun _ _ _ _ z => (no _ _ _ _ z).elim, fun _ _ _ _ _ _ _ _ _ _ _ _ _ z => (no _ _ _ _ z).elim⟩⟩
theorem shpC (X : K.In h) (G : h.Ns mainGlobals mg) (c : He.SaysT fas fns tbs w K) (ex : exs K = true) : ShpC K mg (He.ga K "InvalidShape") := by
  obtain ⟨h1, h2, h3, h4⟩ := He.exc_ok (c.d.fact 65 (f := .exc "InvalidShape") rfl)
  exact ⟨(He.glo_ok X G (c.d.fact 25 (f := .glo "InvalidShape") rfl)), h2, h1, h3, h4⟩
theorem shapeC (X : K.In h) (G : h.Ns mainGlobals mg) (c : He.SaysT fas fns tbs w K) (ex : exs K = true) : ShapeC K (He.ga K "Shape") := ⟨He.cls_ok (c.d.fact 57 (f := .cls "Shape") rfl), He.noat_ok (c.d.fact 58 (f := .noat "Shape" "parts") rfl), He.noat_ok (c.d.fact 59 (f := .noat "Shape" "_rows") rfl), He.noat_ok (c.d.fact 60 (f := .noat "Shape" "names") rfl), He.noat_ok (c.d.fact 61 (f := .noat "Shape" "_least") rfl), He.noat_ok (c.d.fact 62 (f := .noat "Shape" "_greatest") rfl), He.noat_ok (c.d.fact 63 (f := .noat "Shape" "_row_of") rfl)⟩
theorem ex_all (ex : exs K = true) : He.tupB K "WITH_BLOCKS" [.str "repeat", .str "either", .str "switch"] = true ∧ He.tupB K "MULTIPLES" [.int 1, .int 2, .int 4, .int 8, .int 16] = true ∧ He.valsB K (He.ga K "PARTS") kinds = true ∧ He.valsB K (He.ga K "RULES") rules = true ∧ excB K (He.ga K "InvalidShape") = true ∧ kitB2 K = true := by
  obtain ⟨h1, ex⟩ := He.ba ex
  obtain ⟨h2, ex⟩ := He.ba ex
  obtain ⟨h3, ex⟩ := He.ba ex
  obtain ⟨h4, ex⟩ := He.ba ex
  obtain ⟨h5, h6⟩ := He.ba ex
  exact ⟨h1, h2, h3, h4, h5, h6⟩
theorem excC_of {D : Addr} (e : excB K D = true) : ExcC K D := by
  obtain ⟨h1, e⟩ := He.ba e
  obtain ⟨h2, e⟩ := He.ba e
  obtain ⟨h3, e⟩ := He.ba e
  obtain ⟨h4, e⟩ := He.ba e
  obtain ⟨h5, e⟩ := He.ba e
  obtain ⟨h6, e⟩ := He.ba e
  obtain ⟨h7, h8⟩ := He.ba e
  exact ⟨He.eqO_ok h1, He.eqO_ok h2, of_decide_eq_true h3, h4, He.eqO_ok h5, He.eqO_ok h6, of_decide_eq_true h7, of_decide_eq_true h8⟩
theorem kindsC (X : K.In h) (G : h.Ns mainGlobals mg) (c : He.SaysT fas fns tbs w K) (ex : exs K = true) : Kinds K w mg := by
  obtain ⟨h1, h2, h3, h4, h5, h6⟩ := ex_all ex
  refine ⟨?_, ⟨_, (He.glo_ok X G (c.d.fact 29 (f := .glo "WITH_BLOCKS") rfl)), fun H => He.tupB_ok h1 H⟩⟩
  obtain ⟨es, n, D⟩ := c.tab 0 (t := (fun K => He.ga K "PARTS", kinds.map (·.1))) rfl
  refine ⟨_, es, n, (He.glo_ok X G (c.d.fact 27 (f := .glo "PARTS") rfl)), D, fun x ho => ?_, fun z hz => He.eqO_ok ((List.all_eq_true.mp (He.ba h6).1) z hz)⟩
  have f : ∀ (z : Str) (i : Int), (z, He.Dv.int i) ∈ kinds → ∃ t, PySem.W.nsIn K (He.ga K "PARTS") z = some (some (.int i t)) := fun z i hz => by
    obtain ⟨u, e, r⟩ := He.valsB_ok h3 hz
    obtain ⟨t, rfl⟩ := (show ∃ t, u = Value.int i t from r)
    exact ⟨t, e⟩
  cases x with
  | odd => cases ho
  | num => exact f "number" 6 (.head _)
  | byt => exact f "bytes" 3 (.tail _ (.head _))
  | txt => exact f "text" 4 (.tail _ (.tail _ (.head _)))
  | rep => exact f "repeat" 4 (.tail _ (.tail _ (.tail _ (.head _))))
  | eit => exact f "either" 3 (.tail _ (.tail _ (.tail _ (.tail _ (.head _)))))
  | swi => exact f "switch" 4 (.tail _ (.tail _ (.tail _ (.tail _ (.tail _ (.head _))))))
  | chk => exact f "check" 3 (.tail _ (.tail _ (.tail _ (.tail _ (.tail _ (.tail _ (.head _)))))))
  | pad => exact f "pad" 4 (.tail _ (.tail _ (.tail _ (.tail _ (.tail _ (.tail _ (.tail _ (.head _))))))))
theorem multsC (X : K.In h) (G : h.Ns mainGlobals mg) (c : He.SaysT fas fns tbs w K) (ex : exs K = true) : Mults K mg := ⟨_, (He.glo_ok X G (c.d.fact 30 (f := .glo "MULTIPLES") rfl)), fun H => He.tupB_ok (ex_all ex).2.1 H⟩
theorem cRequire (X : K.In h) (G : h.Ns mainGlobals mg) (c : He.SaysT fas fns tbs w K) (ex : exs K = true) : Cal P w K mg base (L2.CX P w) 1 "require" ["holds", "words"] (spRequire (He.ga K "InvalidShape")) := cal_of X G c 3 3 (i := 16) rfl rfl (fun _ _ F => F.binds fun _ _ _ _ _ _ us hl => match us, hl with | [_, _], _ => rfl) fun _ _ F => ok_require F (shpC X G c ex)
theorem cIsInt (X : K.In h) (G : h.Ns mainGlobals mg) (c : He.SaysT fas fns tbs w K) (ex : exs K = true) : Cal P w K mg base CX0 1 "is_integer" ["value", "low", "high"] spIsInt := cal_of X G c 2 2 (i := 15) rfl rfl (fun _ _ F => F.binds fun _ _ _ _ _ _ us hl => match us, hl with | [_, _, _], _ => rfl) fun _ _ F => ok_isint F (He.free_ok X G (c.d.fact 31 (f := .free "isinstance") rfl)) (He.free_ok X G (c.d.fact 32 (f := .free "int") rfl)) (He.free_ok X G (c.d.fact 33 (f := .free "bool") rfl))
theorem cIsName (X : K.In h) (G : h.Ns mainGlobals mg) (c : He.SaysT fas fns tbs w K) (ex : exs K = true) : Cal P w K mg base CX0 1 "is_name" ["text"] spIsName := cal_of X G c 14 14 (i := 37) rfl rfl (fun _ _ F => F.binds fun _ _ _ _ _ _ us hl => match us, hl with | [_], _ => rfl) fun _ _ F => ok_isname F (He.free_ok X G (c.d.fact 31 (f := .free "isinstance") rfl)) (He.free_ok X G (c.d.fact 34 (f := .free "str") rfl)) (He.free_ok X G (c.d.fact 37 (f := .free "len") rfl)) (He.free_ok X G (c.d.fact 38 (f := .free "all") rfl)) (He.str_ok X G (c.d.fact 55 (f := .str "LETTERS" letters) rfl)) (He.str_ok X G (c.d.fact 56 (f := .str "DIGITS" digits) rfl)) (He.int_ok X G (c.d.fact 46 (f := .int "LONGEST_NAME" 12) rfl))
theorem cIsRow (X : K.In h) (G : h.Ns mainGlobals mg) (c : He.SaysT fas fns tbs w K) (ex : exs K = true) : Cal P w K mg base CX0 1 "is_row" ["rows", "least", "most"] spIsRow := cal_of X G c 15 15 (i := 38) rfl rfl (fun _ _ F => F.binds fun _ _ _ _ _ _ us hl => match us, hl with | [_, _, _], _ => rfl) fun _ _ F => ok_isrow F (He.free_ok X G (c.d.fact 31 (f := .free "isinstance") rfl)) (He.free_ok X G (c.d.fact 37 (f := .free "len") rfl)) (He.free_ok X G (c.d.fact 35 (f := .free "list") rfl)) (He.free_ok X G (c.d.fact 36 (f := .free "tuple") rfl))
theorem cAmount (X : K.In h) (G : h.Ns mainGlobals mg) (c : He.SaysT fas fns tbs w K) (ex : exs K = true) : Cal P w K mg base (L2.CX P w) 2 "amount_bounds" ["amount", "visible", "most"] (spAmount (He.ga K "InvalidShape")) := cal_of X G c 4 4 (i := 17) rfl rfl (fun _ _ F => F.binds fun _ _ _ _ _ _ us hl => match us, hl with | [_, _, _], _ => rfl) fun _ _ F => ok_amount F (cRequire X G c ex) (cIsInt X G c ex) (He.free_ok X G (c.d.fact 31 (f := .free "isinstance") rfl)) (He.free_ok X G (c.d.fact 34 (f := .free "str") rfl))
theorem rulesC (X : K.In h) (G : h.Ns mainGlobals mg) (c : He.SaysT fas fns tbs w K) (ex : exs K = true) {n k : Nat} (hk : 3 ≤ k) (gL : Cal P w K mg base (L2.CX P w) (k - 1) "list_lengths" ["items", "visible"] (spSub (spLensList (He.ga K "InvalidShape")) n)) : Rules P w K mg base (He.ga K "InvalidShape") k n := by
  obtain ⟨h1, h2, h3, h4, h5, h6⟩ := ex_all ex
  obtain ⟨es, nn, D⟩ := c.tab 1 (t := (fun K => He.ga K "RULES", rules.map (·.1))) rfl
  refine ⟨_, es, nn, (He.glo_ok X G (c.d.fact 28 (f := .glo "RULES") rfl)), D, fun x ho => ?_⟩
  have f : ∀ (z y : Str), (z, He.Dv.glo y) ∈ rules → PySem.W.nsIn K (He.ga K "RULES") z = some (some (.ref (He.ga K y))) := fun z y hz => by
    obtain ⟨u, e, r⟩ := He.valsB_ok h4 hz
    have e2 : u = Value.ref (He.ga K y) := r
    rw [e, e2]
  have g : ∀ (j i : Nat) (y : Str), fns[j]? = some (gDef y i) → (y, x.kind) = (y, x.kind) → (x.kind, He.Dv.glo y) ∈ rules → (∀ (f : Addr) (fd : FuncData), Fun K y y (top i) f fd → Binds K fd ["item", "visible"] []) → (∀ (f : Addr) (fd : FuncData), Fun K y y (top i) f fd → FnOk P w K mg base (L2.CX P w) k f fd ["item", "visible"] (spLens (He.ga K "InvalidShape") x.kind n)) →
      ∃ f fd, PySem.W.nsIn K (He.ga K "RULES") x.kind = some (some (.ref f)) ∧ PySem.W.keepIn K (.ref f) = true ∧ Binds K fd ["item", "visible"] [] ∧ FnOk P w K mg base (L2.CX P w) k f fd ["item", "visible"] (spLens (He.ga K "InvalidShape") x.kind n) := fun j i y e _ hz bn ok => by
    obtain ⟨fd, F⟩ := def_of c j e
    exact ⟨_, fd, f _ _ hz, F.kp, bn _ fd F, ok _ fd F⟩
  obtain ⟨k, rfl⟩ : ∃ m, k = m + 1 := ⟨k - 1, by omega⟩
  rw [Nat.add_sub_cancel] at gL
  have hk2 : 2 ≤ k := by omega
  cases x with
  | odd => cases ho
  | num => exact g 5 18 "number_lengths" rfl rfl (.head _) (fun _ _ F => F.binds fun _ _ _ _ _ _ us hl => match us, hl with | [_, _], _ => rfl) fun _ _ F => (ok_number F (cRequire X G c ex) (cIsInt X G c ex) (He.int_ok X G (c.d.fact 50 (f := .int "GREATEST_BYTE" 255) rfl)) (He.int_ok X G (c.d.fact 51 (f := .int "GREATEST_PAIR" 65535) rfl))).mono (by omega)
  | byt => exact g 6 19 "bytes_lengths" rfl rfl (.tail _ (.head _)) (fun _ _ F => F.binds fun _ _ _ _ _ _ us hl => match us, hl with | [_, _], _ => rfl) fun _ _ F => (ok_bytes F (cAmount X G c ex) (He.int_ok X G (c.d.fact 52 (f := .int "GREATEST_LENGTH" 64) rfl))).mono (by omega)
  | txt => exact g 7 20 "text_lengths" rfl rfl (.tail _ (.tail _ (.head _))) (fun _ _ F => F.binds fun _ _ _ _ _ _ us hl => match us, hl with | [_, _], _ => rfl) fun _ _ F => (ok_text F (cRequire X G c ex) (cIsInt X G c ex) (He.int_ok X G (c.d.fact 52 (f := .int "GREATEST_LENGTH" 64) rfl)) (He.int_ok X G (c.d.fact 50 (f := .int "GREATEST_BYTE" 255) rfl))).mono (by omega)
  | rep => exact g 8 21 "repeat_lengths" rfl rfl (.tail _ (.tail _ (.tail _ (.head _)))) (fun _ _ F => F.binds fun _ _ _ _ _ _ us hl => match us, hl with | [_, _], _ => rfl) fun _ _ F => ok_repeat hk2 F (cRequire X G c ex) (cAmount X G c ex) (He.int_ok X G (c.d.fact 53 (f := .int "GREATEST_COUNT" 16) rfl)) gL
  | eit => exact g 9 22 "either_lengths" rfl rfl (.tail _ (.tail _ (.tail _ (.tail _ (.head _))))) (fun _ _ F => F.binds fun _ _ _ _ _ _ us hl => match us, hl with | [_, _], _ => rfl) fun _ _ F => ok_either hk2 F (cRequire X G c ex) (He.free_ok X G (c.d.fact 37 (f := .free "len") rfl)) (He.free_ok X G (c.d.fact 41 (f := .free "min") rfl)) (He.free_ok X G (c.d.fact 42 (f := .free "max") rfl)) gL
  | swi => exact g 10 23 "switch_lengths" rfl rfl (.tail _ (.tail _ (.tail _ (.tail _ (.tail _ (.head _)))))) (fun _ _ F => F.binds fun _ _ _ _ _ _ us hl => match us, hl with | [_, _], _ => rfl) fun _ _ F => ok_switch hk2 F (cRequire X G c ex) (cIsInt X G c ex) (He.int_ok X G (c.d.fact 51 (f := .int "GREATEST_PAIR" 65535) rfl)) (He.free_ok X G (c.d.fact 37 (f := .free "len") rfl)) (He.free_ok X G (c.d.fact 41 (f := .free "min") rfl)) (He.free_ok X G (c.d.fact 42 (f := .free "max") rfl)) (He.free_ok X G (c.d.fact 40 (f := .free "set") rfl)) (He.free_ok X G (c.d.fact 31 (f := .free "isinstance") rfl)) (He.free_ok X G (c.d.fact 34 (f := .free "str") rfl)) gL
  | chk => exact g 11 24 "check_lengths" rfl rfl (.tail _ (.tail _ (.tail _ (.tail _ (.tail _ (.tail _ (.head _))))))) (fun _ _ F => F.binds fun _ _ _ _ _ _ us hl => match us, hl with | [_, _], _ => rfl) fun _ _ F => (ok_check F (cRequire X G c ex) (cIsInt X G c ex) (He.int_ok X G (c.d.fact 54 (f := .int "GREATEST_MODULUS" 16) rfl))).mono (by omega)
  | pad => exact g 12 25 "pad_lengths" rfl rfl (.tail _ (.tail _ (.tail _ (.tail _ (.tail _ (.tail _ (.tail _ (.head _)))))))) (fun _ _ F => F.binds fun _ _ _ _ _ _ us hl => match us, hl with | [_, _], _ => rfl) fun _ _ F => (ok_pad F (cRequire X G c ex) (cIsInt X G c ex) (He.int_ok X G (c.d.fact 50 (f := .int "GREATEST_BYTE" 255) rfl)) (multsC X G c ex)).mono (by omega)
theorem cLens (X : K.In h) (G : h.Ns mainGlobals mg) (c : He.SaysT fas fns tbs w K) (ex : exs K = true) : ∀ n : Nat, Cal P w K mg base (L2.CX P w) (4 + 2 * n) "list_lengths" ["items", "visible"] (spLensList (He.ga K "InvalidShape") n) := by
  have st : ∀ {n k : Nat}, 3 ≤ k → Cal P w K mg base (L2.CX P w) (k - 1) "list_lengths" ["items", "visible"] (spSub (spLensList (He.ga K "InvalidShape")) n) → Cal P w K mg base (L2.CX P w) (k + 1) "list_lengths" ["items", "visible"] (spLensList (He.ga K "InvalidShape") n) := fun hk gL =>
    cal_of X G c 13 13 (i := 27) rfl rfl (fun _ _ F => F.binds fun _ _ _ _ _ _ us hl => match us, hl with | [_, _], _ => rfl) fun _ _ F => ok_listlen F (He.free_ok X G (c.d.fact 39 (f := .free "dict") rfl)) (rulesC X G c ex hk gL)
  intro n
  induction n with
  | zero =>
    exact st (k := 3) (by decide) (cal_of X G c 13 13 (i := 27) rfl rfl (fun _ _ F => F.binds fun _ _ _ _ _ _ us hl => match us, hl with | [_, _], _ => rfl) fun _ _ F => ⟨fun _ _ _ _ z => (show False from z).elim, fun _ _ _ _ _ _ _ _ _ _ _ _ _ z => (show False from z).elim⟩)
  | succ n ih =>
    rw [show 4 + 2 * (n + 1) = 5 + 2 * n + 1 by omega]
    exact st (n := n + 1) (k := 5 + 2 * n) (by omega) (ih.mono (by omega))
theorem cCop (X : K.In h) (G : h.Ns mainGlobals mg) (c : He.SaysT fas fns tbs w K) (ex : exs K = true) : ∀ n : Nat, Cal P w K mg base (L2.CX P w) (3 + 3 * n) "copied_list" ["items", "depth"] (spCopList (He.ga K "InvalidShape") n) ∧ Cal P w K mg base (L2.CX P w) (4 + 3 * n) "copied_choices" ["choices", "depth"] (spCopChoices (He.ga K "InvalidShape") n) ∧ Cal P w K mg base (L2.CX P w) (4 + 3 * n) "copied_cases" ["cases", "depth"] (spCopCases (He.ga K "InvalidShape") n) := by
  have st : ∀ {n k : Nat}, 1 ≤ k → Cal P w K mg base (L2.CX P w) k "copied_list" ["items", "depth"] (spSub (spCopList (He.ga K "InvalidShape")) n) → Cal P w K mg base (L2.CX P w) k "copied_choices" ["choices", "depth"] (spSub (spCopChoices (He.ga K "InvalidShape")) n) → Cal P w K mg base (L2.CX P w) k "copied_cases" ["cases", "depth"] (spSub (spCopCases (He.ga K "InvalidShape")) n) →
      Cal P w K mg base (L2.CX P w) (k + 2) "copied_list" ["items", "depth"] (spCopList (He.ga K "InvalidShape") n) ∧ Cal P w K mg base (L2.CX P w) (k + 3) "copied_choices" ["choices", "depth"] (spCopChoices (He.ga K "InvalidShape") n) ∧ Cal P w K mg base (L2.CX P w) (k + 3) "copied_cases" ["cases", "depth"] (spCopCases (He.ga K "InvalidShape") n) := fun {n k} hk gL gCh gCa => by
    have gI : Cal P w K mg base (L2.CX P w) (k + 1) "copied_item" ["item", "depth"] (spCopItem (He.ga K "InvalidShape") n) := cal_of X G c 17 17 (i := 40) rfl rfl (fun _ _ F => F.binds fun _ _ _ _ _ _ us hl => match us, hl with | [_, _], _ => rfl) fun _ _ F => ok_copitem F hk (kindsC X G c ex) (cRequire X G c ex) (cIsName X G c ex) (He.free_ok X G (c.d.fact 36 (f := .free "tuple") rfl)) (He.free_ok X G (c.d.fact 31 (f := .free "isinstance") rfl)) (He.free_ok X G (c.d.fact 37 (f := .free "len") rfl)) (He.free_ok X G (c.d.fact 34 (f := .free "str") rfl)) (He.int_ok X G (c.d.fact 48 (f := .int "DEEPEST" 3) rfl)) gL gCh gCa
    have gL2 : Cal P w K mg base (L2.CX P w) (k + 2) "copied_list" ["items", "depth"] (spCopList (He.ga K "InvalidShape") n) := cal_of X G c 16 16 (i := 39) rfl rfl (fun _ _ F => F.binds fun _ _ _ _ _ _ us hl => match us, hl with | [_, _], _ => rfl) fun _ _ F => ok_coplist F (by omega) (cRequire X G c ex) (cIsRow X G c ex) (He.int_ok X G (c.d.fact 47 (f := .int "LONGEST_LIST" 12) rfl)) (He.free_ok X G (c.d.fact 36 (f := .free "tuple") rfl)) gI
    exact ⟨gL2, cal_of X G c 18 18 (i := 41) rfl rfl (fun _ _ F => F.binds fun _ _ _ _ _ _ us hl => match us, hl with | [_, _], _ => rfl) fun _ _ F => ok_copchoices F (by omega) (cRequire X G c ex) (cIsRow X G c ex) (He.free_ok X G (c.d.fact 36 (f := .free "tuple") rfl)) gL2,
      cal_of X G c 19 19 (i := 42) rfl rfl (fun _ _ F => F.binds fun _ _ _ _ _ _ us hl => match us, hl with | [_, _], _ => rfl) fun _ _ F => ok_copcases F (by omega) (cRequire X G c ex) (cIsRow X G c ex) (He.free_ok X G (c.d.fact 36 (f := .free "tuple") rfl)) (He.free_ok X G (c.d.fact 31 (f := .free "isinstance") rfl)) (He.free_ok X G (c.d.fact 37 (f := .free "len") rfl)) gL2⟩
  intro n
  induction n with
  | zero =>
    exact st (k := 1) (by decide) (cal_of X G c 16 16 (i := 39) rfl rfl (fun _ _ F => F.binds fun _ _ _ _ _ _ us hl => match us, hl with | [_, _], _ => rfl) fun _ _ F => ⟨fun _ _ _ _ z => (show False from z).elim, fun _ _ _ _ _ _ _ _ _ _ _ _ _ z => (show False from z).elim⟩)
      (cal_of X G c 18 18 (i := 41) rfl rfl (fun _ _ F => F.binds fun _ _ _ _ _ _ us hl => match us, hl with | [_, _], _ => rfl) fun _ _ F => ⟨fun _ _ _ _ z => (show False from z).elim, fun _ _ _ _ _ _ _ _ _ _ _ _ _ z => (show False from z).elim⟩)
      (cal_of X G c 19 19 (i := 42) rfl rfl (fun _ _ F => F.binds fun _ _ _ _ _ _ us hl => match us, hl with | [_, _], _ => rfl) fun _ _ F => ⟨fun _ _ _ _ z => (show False from z).elim, fun _ _ _ _ _ _ _ _ _ _ _ _ _ z => (show False from z).elim⟩)
  | succ n ih =>
    obtain ⟨i1, i2, i3⟩ := ih
    rw [show 3 + 3 * (n + 1) = 4 + 3 * n + 2 by omega, show 4 + 3 * (n + 1) = 4 + 3 * n + 3 by omega]
    exact st (n := n + 1) (k := 4 + 3 * n) (by omega) (i1.mono (by omega)) i2 i3
theorem cListed (X : K.In h) (G : h.Ns mainGlobals mg) (c : He.SaysT fas fns tbs w K) (ex : exs K = true) : ∀ n : Nat, Cal P w K mg base CX0 (2 + n) "listed" ["items", "depth"] (spListed n) := by
  have gB : Cal P w K mg base CX0 1 "blocks_of" ["item"] spBlocks := cal_of X G c 0 0 (i := 6) rfl rfl (fun _ _ F => F.binds fun _ _ _ _ _ _ us hl => match us, hl with | [_], _ => rfl) fun _ _ F => ok_blocks F (He.free_ok X G (c.d.fact 36 (f := .free "tuple") rfl))
  have st : ∀ {n k : Nat}, 1 ≤ k → Cal P w K mg base CX0 k "listed" ["items", "depth"] (spSub spListed n) → Cal P w K mg base CX0 (k + 1) "listed" ["items", "depth"] (spListed n) := fun hk gS =>
    cal_of X G c 1 1 (i := 7) rfl rfl (fun _ _ F => F.binds fun _ _ _ _ _ _ us hl => match us, hl with | [_, _], _ => rfl) fun _ _ F => ok_listed hk F gB gS
  intro n
  induction n with
  | zero => exact st (k := 1) (by decide) (cal_of X G c 1 1 (i := 7) rfl rfl (fun _ _ F => F.binds fun _ _ _ _ _ _ us hl => match us, hl with | [_, _], _ => rfl) fun _ _ F => ⟨fun _ _ _ _ z => (show False from z).elim, fun _ _ _ _ _ _ _ _ _ _ _ _ _ z => (show False from z).elim⟩)
  | succ n ih =>
    rw [show 2 + (n + 1) = 2 + n + 1 by omega]
    exact st (n := n + 1) (k := 2 + n) (by omega) ih
theorem cInit (X : K.In h) (G : h.Ns mainGlobals mg) (c : He.SaysT fas fns tbs w K) (ex : exs K = true) {f : Addr} {fdI : FuncData} (FI : Fun K "__init__" "Shape.__init__" sInit f fdI) : FnOk P w K mg base (L2.CX P w) 13 f fdI ["self", "items"] (spInit (He.ga K "InvalidShape") (He.ga K "Shape")) :=
  ok_init (k := 12) (by decide) FI (shapeC X G c ex) (cRequire X G c ex) (cCop X G c ex 3).1 ((cListed X G c ex 3).mono (by decide)) ((cLens X G c ex 3).mono (by decide)) (He.free_ok X G (c.d.fact 37 (f := .free "len") rfl)) (He.free_ok X G (c.d.fact 36 (f := .free "tuple") rfl)) (He.free_ok X G (c.d.fact 40 (f := .free "set") rfl)) (He.int_ok X G (c.d.fact 49 (f := .int "MOST_ITEMS" 30) rfl))
theorem cNums (X : K.In h) (G : h.Ns mainGlobals mg) (c : He.SaysT fas fns tbs w K) : Cal P w K mg base CX0 2 "_law_numbers" ["script", "many"] (spNums K) := by
  have gRow : Cal P w K mg base CX0 1 "_law_row" ["cell", "many"] spRow := cal_of X G c 20 20 (i := 45) rfl rfl (fun _ _ F => F.binds fun _ _ _ _ _ _ us hl => match us, hl with | [_, _], _ => rfl) fun _ _ F => ok_lawrow F (He.free_ok X G (c.d.fact 44 (f := .free "abs") rfl)) (He.free_ok X G (c.d.fact 32 (f := .free "int") rfl)) (He.free_ok X G (c.d.fact 43 (f := .free "range") rfl))
  exact cal_of X G c 21 21 (i := 46) rfl rfl (fun _ _ F => F.binds fun _ _ _ _ _ _ us hl => match us, hl with | [_, _], _ => rfl) fun _ _ F => ok_lawnums (k := 1) (by decide) F gRow (He.free_ok X G (c.d.fact 42 (f := .free "max") rfl)) (He.free_ok X G (c.d.fact 37 (f := .free "len") rfl))
theorem cNext (X : K.In h) (G : h.Ns mainGlobals mg) (c : He.SaysT fas fns tbs w K) : Cal P w K mg base CX0 1 "_law_next" ["draw", "many"] spNext := cal_of X G c 22 22 (i := 47) rfl rfl (fun _ _ F => F.binds fun _ _ _ _ _ _ us hl => match us, hl with | [_, _], _ => rfl) fun _ _ F => ok_next F (He.free_ok X G (c.d.fact 32 (f := .free "int") rfl)) (He.free_ok X G (c.d.fact 37 (f := .free "len") rfl))
theorem cBegin (X : K.In h) (G : h.Ns mainGlobals mg) (c : He.SaysT fas fns tbs w K) : Cal P w K mg base CX0 1 "_law_begin" ["numbers"] spBegin := cal_of X G c 25 67 (i := 48) rfl rfl (fun _ _ F => F.binds fun _ _ _ _ _ _ us hl => match us, hl with | [_], _ => rfl) fun _ _ F => ok_begin F (He.free_ok X G (c.d.fact 37 (f := .free "len") rfl)) (He.free_ok X G (c.d.fact 43 (f := .free "range") rfl)) (He.free_ok X G (c.d.fact 32 (f := .free "int") rfl))
theorem cNumber (X : K.In h) (G : h.Ns mainGlobals mg) (c : He.SaysT fas fns tbs w K) : Cal P w K mg base CX0 2 "_law_number" ["draw", "name"] spNumber := cal_of X G c 26 68 (i := 49) rfl rfl (fun _ _ F => F.binds fun _ _ _ _ _ _ us hl => match us, hl with | [_, _], _ => rfl) fun _ _ F => ok_lawnumber F (cNext X G c) (He.free_ok X G (c.d.fact 41 (f := .free "min") rfl)) (He.free_ok X G (c.d.fact 42 (f := .free "max") rfl))
theorem cUse (X : K.In h) (G : h.Ns mainGlobals mg) (c : He.SaysT fas fns tbs w K) : Cal P w K mg base CX0 2 "_law_use" ["draw", "ahead", "most"] spUse := cal_of X G c 27 69 (i := 50) rfl rfl (fun _ _ F => F.binds fun _ _ _ _ _ _ us hl => match us, hl with | [_, _, _], _ => rfl) fun _ _ F => ok_use F (cNext X G c) (He.free_ok X G (c.d.fact 37 (f := .free "len") rfl))
theorem cItems (X : K.In h) (G : h.Ns mainGlobals mg) (c : He.SaysT fas fns tbs w K) : ∀ n : Nat, Cal P w K mg base CX0 (5 + 4 * n) "_law_items" ["draw", "ahead", "depth", "many"] (spItems n) := by
  have st : ∀ {n k : Nat}, 2 ≤ k → Cal P w K mg base CX0 k "_law_block" ["draw", "ahead", "depth", "name"] (spSub spBlock n) → Cal P w K mg base CX0 (k + 3) "_law_items" ["draw", "ahead", "depth", "many"] (spItems n) := fun {n k} hk gB => by
    have gS : Cal P w K mg base CX0 (k + 1) "_law_nested" ["draw", "ahead", "depth", "kind"] (spNested n) := cal_of X G c 29 71 (i := 52) rfl rfl (fun _ _ F => F.binds fun _ _ _ _ _ _ us hl => match us, hl with | [_, _, _, _], _ => rfl) fun _ _ F => ok_nested hk F (cNext X G c) (cUse X G c) gB (He.free_ok X G (c.d.fact 37 (f := .free "len") rfl)) (He.free_ok X G (c.d.fact 43 (f := .free "range") rfl)) (He.free_ok X G (c.d.fact 32 (f := .free "int") rfl))
    have gT : Cal P w K mg base CX0 (k + 2) "_law_item" ["draw", "ahead", "depth"] (spItem n) := cal_of X G c 30 72 (i := 53) rfl rfl (fun _ _ F => F.binds fun _ _ _ _ _ _ us hl => match us, hl with | [_, _, _], _ => rfl) fun _ _ F => ok_item (by omega) F (cNext X G c) (cNumber X G c) (cUse X G c) gS (He.free_ok X G (c.d.fact 37 (f := .free "len") rfl))
    exact cal_of X G c 31 73 (i := 54) rfl rfl (fun _ _ F => F.binds fun _ _ _ _ _ _ us hl => match us, hl with | [_, _, _, _], _ => rfl) fun _ _ F => ok_items F gT (He.free_ok X G (c.d.fact 35 (f := .free "list") rfl)) (He.free_ok X G (c.d.fact 43 (f := .free "range") rfl)) (He.free_ok X G (c.d.fact 37 (f := .free "len") rfl))
  intro n
  induction n with
  | zero => exact st (k := 2) (by decide) (cal_of X G c 28 70 (i := 51) rfl rfl (fun _ _ F => F.binds fun _ _ _ _ _ _ us hl => match us, hl with | [_, _, _, _], _ => rfl) fun _ _ F => ⟨fun _ _ _ _ z => (show False from z).elim, fun _ _ _ _ _ _ _ _ _ _ _ _ _ z => (show False from z).elim⟩)
  | succ n ih =>
    rw [show 5 + 4 * (n + 1) = 6 + 4 * n + 3 by omega]
    exact st (n := n + 1) (k := 6 + 4 * n) (by omega) (cal_of X G c 28 70 (i := 51) rfl rfl (fun _ _ F => F.binds fun _ _ _ _ _ _ us hl => match us, hl with | [_, _, _, _], _ => rfl) fun _ _ F => (ok_block (k := 5 + 4 * n) (by omega) F (cNext X G c) (cNumber X G c) ih).mono (by omega))
theorem cLBlocks (X : K.In h) (G : h.Ns mainGlobals mg) (c : He.SaysT fas fns tbs w K) : Cal P w K mg base CX0 1 "_law_blocks" ["item"] spLBlocks := cal_of X G c 32 74 (i := 55) rfl rfl (fun _ _ F => F.binds fun _ _ _ _ _ _ us hl => match us, hl with | [_], _ => rfl) fun _ _ F => ok_lblocks F (He.free_ok X G (c.d.fact 35 (f := .free "list") rfl))
theorem cLWalk (X : K.In h) (G : h.Ns mainGlobals mg) (c : He.SaysT fas fns tbs w K) : ∀ n : Nat, Cal P w K mg base CX0 (2 + n) "_law_walk" ["items", "depth"] (spLWalk n) := by
  have gB := cLBlocks (P := P) (base := base) X G c
  have st : ∀ {n k : Nat}, 1 ≤ k → Cal P w K mg base CX0 k "_law_walk" ["items", "depth"] (spSub spLWalk n) → Cal P w K mg base CX0 (k + 1) "_law_walk" ["items", "depth"] (spLWalk n) := fun hk gS =>
    cal_of X G c 34 76 (i := 57) rfl rfl (fun _ _ F => F.binds fun _ _ _ _ _ _ us hl => match us, hl with | [_, _], _ => rfl) fun _ _ F => ok_lwalk hk F gB gS
  intro n
  induction n with
  | zero => exact st (k := 1) (by decide) (cal_of X G c 34 76 (i := 57) rfl rfl (fun _ _ F => F.binds fun _ _ _ _ _ _ us hl => match us, hl with | [_, _], _ => rfl) fun _ _ F => ⟨fun _ _ _ _ z => (show False from z).elim, fun _ _ _ _ _ _ _ _ _ _ _ _ _ z => (show False from z).elim⟩)
  | succ n ih =>
    rw [show 2 + (n + 1) = 2 + n + 1 by omega]
    exact st (n := n + 1) (k := 2 + n) (by omega) ih
theorem cLFroz (X : K.In h) (G : h.Ns mainGlobals mg) (c : He.SaysT fas fns tbs w K) : ∀ n : Nat, Cal P w K mg base CX0 (2 + n) "_law_frozen" ["items"] (spLFroz n) := by
  have st : ∀ {n k : Nat}, Cal P w K mg base CX0 k "_law_frozen" ["items"] (spSub spLFroz n) → Cal P w K mg base CX0 (k + 1) "_law_frozen" ["items"] (spLFroz n) := fun gS =>
    cal_of X G c 33 75 (i := 56) rfl rfl (fun _ _ F => F.binds fun _ _ _ _ _ _ us hl => match us, hl with | [_], _ => rfl) fun _ _ F => ok_lfroz F gS (He.free_ok X G (c.d.fact 36 (f := .free "tuple") rfl))
  intro n
  induction n with
  | zero => exact st (k := 1) (cal_of X G c 33 75 (i := 56) rfl rfl (fun _ _ F => F.binds fun _ _ _ _ _ _ us hl => match us, hl with | [_], _ => rfl) fun _ _ F => ⟨fun _ _ _ _ z => (show False from z).elim, fun _ _ _ _ _ _ _ _ _ _ _ _ _ z => (show False from z).elim⟩)
  | succ n ih =>
    rw [show 2 + (n + 1) = 2 + n + 1 by omega]
    exact st (n := n + 1) (k := 2 + n) ih
theorem facts (X : K.In h) (G : h.Ns mainGlobals mg) (c : He.SaysT fas fns tbs w K) (ex : exs K = true) {fa : Addr} (hfa : mg ("law" : Str) = some (.ref fa)) : ∃ fd : FuncData, (∀ (s : Shared) (v : Value), BindsTo s fd ⟨[v], []⟩ [("script", v)]) ∧ ∀ base : Heap, K.In base → base.Ns mainGlobals mg → FnOk P w K mg base CX0 18 fa fd ["script"] (spLaw K) := by
  have e := hfa.symm.trans (He.glo_ok X G (c.d.fact 23 (f := .glo "law") rfl))
  cases e
  obtain ⟨fdI, FI⟩ := c.d.def_ 24 (d := dInit) rfl
  have FI := fun_of (st := sInit) FI
  obtain ⟨fd, FD⟩ := c.d.def_ 23 (d := gDef "law" 63) rfl
  have b := FunD.bindsA (ps := ["script"]) FD fun _ _ _ _ _ _ us hl => match us, hl with | [_], _ => rfl
  have F : Fun K "law" "law" sLaw3 (He.ga K "law") fd := fun_of FD
  obtain ⟨_, _, _, _, h5, h6⟩ := ex_all ex
  obtain ⟨_, k1⟩ := He.ba h6
  obtain ⟨k2, k1⟩ := He.ba k1
  obtain ⟨k3, k4⟩ := He.ba k1
  refine ⟨fd, fun s v => b s [v] rfl, fun base _ _ => ?_⟩
  have bI : Binds K fdI ["self", "items"] [] := FI.binds fun _ _ _ _ _ _ us hl => match us, hl with | [_, _], _ => rfl
  have gInit := cInit (P := P) (base := base) X G c ex FI
  have M := He.mkr_ok (c.d.fact 64 (f := .mkr "Shape") rfl)
  have gS := He.glo_ok X G (c.d.fact 24 (f := .glo "Shape") rfl)
  have gC := He.glo_ok X G (c.d.fact 25 (f := .glo "InvalidShape") rfl)
  have gBy := He.glo_ok X G (c.d.fact 82 (f := .glo "ByteshapeError") rfl)
  have gU := He.glo_ok X G (c.d.fact 83 (f := .glo "UnknownName") rfl)
  have me := He.exm_ok (c.d.fact 66 (f := .exm "InvalidShape" "InvalidShape" true) rfl)
  have gR : Cal P w K mg base CX0 15 "_law_refuses" ["items"] spRefuses := cal_of X G c 35 77 (i := 58) rfl rfl (fun _ _ F => F.binds fun _ _ _ _ _ _ us hl => match us, hl with | [_], _ => rfl) fun _ _ F => ok_refuses F M gInit bI gS gC gBy gU (excC_of h5) me (of_decide_eq_true k2) (of_decide_eq_true k3) (of_decide_eq_true k4) (He.free_ok X G (c.d.fact 45 (f := .free "ValueError") rfl)) (He.free_ok X G (c.d.fact 31 (f := .free "isinstance") rfl))
  have gP : Cal P w K mg base CX0 1 "_law_plain" ["choice", "number", "names"] spPlain := cal_of X G c 36 78 (i := 59) rfl rfl (fun _ _ F => F.binds fun _ _ _ _ _ _ us hl => match us, hl with | [_, _, _], _ => rfl) fun _ _ F => ok_plain F (He.free_ok X G (c.d.fact 32 (f := .free "int") rfl))
  have gB : Cal P w K mg base CX0 1 "_law_with_blocks" ["choice", "number", "names"] spWithB := cal_of X G c 37 79 (i := 60) rfl rfl (fun _ _ F => F.binds fun _ _ _ _ _ _ us hl => match us, hl with | [_, _, _], _ => rfl) fun _ _ F => ok_withb F (He.free_ok X G (c.d.fact 32 (f := .free "int") rfl)) (He.free_ok X G (c.d.fact 43 (f := .free "range") rfl))
  have gWr : Cal P w K mg base CX0 1 "_law_wrapped" ["bad", "number", "names"] spWrapped := cal_of X G c 38 80 (i := 61) rfl rfl (fun _ _ F => F.binds fun _ _ _ _ _ _ us hl => match us, hl with | [_, _, _], _ => rfl) fun _ _ F => ok_wrapped F (He.free_ok X G (c.d.fact 32 (f := .free "int") rfl)) (He.free_ok X G (c.d.fact 43 (f := .free "range") rfl))
  have gA : Cal P w K mg base CX0 6 "_law_all" ["items", "choice", "number", "names"] spAll := cal_of X G c 39 81 (i := 62) rfl rfl (fun _ _ F => F.binds fun _ _ _ _ _ _ us hl => match us, hl with | [_, _, _, _], _ => rfl) fun _ _ F => ok_all F (cLWalk X G c 3) (He.free_ok X G (c.d.fact 32 (f := .free "int") rfl)) (He.free_ok X G (c.d.fact 43 (f := .free "range") rfl)) (He.free_ok X G (c.d.fact 34 (f := .free "str") rfl)) (He.free_ok X G (c.d.fact 37 (f := .free "len") rfl))
  exact ok_law (k := 17) (by decide) F (cNums X G c) (cBegin X G c) (cItems X G c 3) (shapeC X G c ex) M (gInit.mono (by decide)) bI gS ((cLFroz X G c 3).mono (by decide)) gP gB gWr (gA.mono (by decide)) (gR.mono (by decide)) (He.free_ok X G (c.d.fact 32 (f := .free "int") rfl)) (He.free_ok X G (c.d.fact 37 (f := .free "len") rfl))
end
theorem walk {l : PySem.W.OpenLaw} {q : Program} {loose : List Str} {XP : (Str → Option Value) → Heap → Prop} {YP : World → Heap → Prop} {d : DefRec} {K : Params → PySem.W.Frag} (hn : l.most = some 63) (hdf : d.params.defaults = [])
    (hY : ∀ (w : World) (h : Heap), YP w h → (K w.params).In h)
    (F : ∀ (w : World) (mg : Str → Option Value) (fa : Addr) (h : Heap), (K w.params).In h → h.Ns mainGlobals mg → mg d.name = some (.ref fa) →
      ∃ fd : FuncData, (∀ (s : Shared) (u : Value), BindsTo s fd ⟨[u], []⟩ [("script", u)]) ∧ ∀ base : Heap, (K w.params).In base → base.Ns mainGlobals mg → FnOk l.prog w (K w.params) mg base CX0 18 fa fd ["script"] (spLaw (K w.params))) :
    PySem.W.WalkO q loose XP YP l.row.toRowW d [] (fun f vs => PySem.call f vs) :=
  L2.walk_of (n := 63) (k := 18) (x := "script") (CX := fun _ => CX0) (sp := fun w => spLaw (K w.params)) hn (by decide) hdf ⟨rfl, by decide, by decide⟩ hY F (fun _ _ a ns hl _ hS => ⟨a, ns, rfl, hS, hl, fun _ => rfl⟩) fun _ _ _ _ _ z => z
end Bs

set_option Elab.async false
set_option linter.all false
set_option maxRecDepth 100000
set_option maxHeartbeats 0
open PySem PySem.W PyProof.Rows
theorem PySem.Challenge.cw_byteshape_k03_shapes_refused_holds : PySem.Challenge.rw_byteshape_k03_shapes_refused.Holds := by
  w_on; o_law; k_head; (case hw => w_witness2)
  k_fill
  refine Bs.walk (l := PySem.Challenge.rw_byteshape_k03_shapes_refused) rfl rfl (fun w h Y => PySem.W.kIn_of Y) ?F
  case F =>
    intro w mg fa h KX G hmg
    refine Bs.facts KX G ?c ?ex hmg
    case c =>
      show He.obsT Bs.fas Bs.fns Bs.tbs _ = He.valT Bs.fns Bs.tbs w
      kernel_rfl
    case ex =>
      kernel_rfl

