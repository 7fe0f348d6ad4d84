import PyProof.Rows.All
import Wide.All
import OpenK.AllK
import Wide.FinOn
import HandS.ForMost
import HandS.Exc
import HandS.ExcOwn
import HandS.TryOnly
import HandS.WordsExc
import HandS.Conv
import HandS.More
import HandS.IsInst
import HandS.FStr
import HandS.Star
import HandS.RaiseMore
import HandS.ExcIs
import HandS.DictComp
import HandS.Zip
import HandS.TupAny
import HandS.CallLocal
import HandS.Flow
import HandS.EndBits
import KE.GoesComp
import KE.GoesRaise
import PySem.Challenge.RW_byteshape_k86_all_changes_or_none
import HandS.ExcInit
import HandS.Nested
import KE.KExcSuper
import HandS.HeadHook1
import HandS.Ends
import HandS.Defaults
import HandS.HeadEnd
import HandS.HeadHook2
import HandS.HeadHook3
import KE.KStateDown
import HandS.Base
import HandS.Call
import HandS.Head0
import HandS.Head1
import HandS.Head2
import HandS.Walk
import HandS.Strs
import KE.KAssignIn
import HandS.Deep
import KE.GoesNew
import KE.GoesMore
import KE.KDictZip
import HandS.Rev
import HandS.ExcField
import HandS.Words
import HandS.TryMany
set_option Elab.async false
set_option linter.all false
set_option maxRecDepth 100000
set_option maxHeartbeats 4000000
/-! The text by places, the mirror of shapes, the heap's relation to it. -/
namespace Bs
open PySem L2
def top (i : Nat) : Stmt := PySem.Challenge.pw_byteshape_k86_all_changes_or_none.main.body.getD i (.Pass ⟨0, 0, 0, 0⟩)
abbrev sBlocksOf : Stmt := top 13
abbrev sListed : Stmt := top 16
abbrev sIsInteger : Stmt := top 82
abbrev sRequire : Stmt := top 83
abbrev sAmount : Stmt := top 84
abbrev sNumber : Stmt := top 85
abbrev sBytes : Stmt := top 86
abbrev sText : Stmt := top 87
abbrev sRepeat : Stmt := top 88
abbrev sEither : Stmt := top 89
abbrev sSwitch : Stmt := top 90
abbrev sCheck : Stmt := top 91
abbrev sPad : Stmt := top 92
abbrev sListLen : Stmt := top 94
abbrev sIsName : Stmt := top 104
abbrev sIsRow : Stmt := top 105
abbrev sCopList : Stmt := top 106
abbrev sCopItem : Stmt := top 107
abbrev sCopChoices : Stmt := top 108
abbrev sCopCases : Stmt := top 109
abbrev sInit : Stmt := inClass (top 110) 0
abbrev sLawRow : Stmt := top 112
abbrev sLawNumbers : Stmt := top 113
abbrev sLawTaken : Stmt := top 47
abbrev sLaw : Stmt := top 48

/-! ### names -/
abbrev letters : Str := "abcdefghijklmnopqrstuvwxyz"
abbrev digits : Str := "0123456789"
def isLetter (c : Nat) : Bool := decide (c ∈ letters.cps.toList)
def isDigit (c : Nat) : Bool := decide (c ∈ digits.cps.toList)
def isSign (c : Nat) : Bool := isLetter c || isDigit c
def nameOk : List Nat → Bool
  | [] => false
  | c :: r => decide (r.length < 12) && (isLetter c && (c :: r).all isSign)
def isName (z : Str) : Bool := nameOk z.cps.toList

/-! ### shapes -/
/-- the kinds and how many parts they have; words that are no kind -/
def kindP : List (Str × Nat) := [("number", 6), ("bytes", 3), ("text", 4), ("repeat", 4), ("either", 3), ("switch", 4), ("check", 3), ("pad", 4)]
def oddWords : List Str := ["box", "numbers", "byte", "", "repeats"]
def OddOk (k : Str) (m : Nat) : Prop := k ∈ oddWords ∨ ∃ j, (k, j) ∈ kindP ∧ j ≠ m
mutual
inductive It where
  | num (n : Str) (size : Int) (order : Str) (low high : Int)
  | byt (n : Str) (amt : Key)
  | txt (n : Str) (stop most : Int)
  | rep (n : Str) (amt : Key) (body : Its)
  | eit (n : Str) (bs : Blks)
  | swi (n : Str) (tag : Str) (bs : Blks)
  | chk (n : Str) (m : Int)
  | pad (n : Str) (m b : Int)
  | odd (k n : Str) (m : Nat)
inductive Its where
  | nil | cons (x : It) (r : Its)
inductive Blks where
  | nil | cons (v : Int) (b : Its) (r : Blks)
end
def It.name : It → Str
  | .num n .. => n | .byt n .. => n | .txt n .. => n | .rep n .. => n | .eit n .. => n | .swi n .. => n | .chk n .. => n | .pad n .. => n | .odd _ n _ => n
def Its.len : Its → Nat
  | .nil => 0 | .cons _ r => r.len + 1
def Blks.len : Blks → Nat
  | .nil => 0 | .cons _ _ r => r.len + 1
def Blks.vals : Blks → List Int
  | .nil => [] | .cons v _ r => v :: r.vals

/-! ### an item as a value: fz says that all rows are tuples -/
def RowAt (fz : Bool) (H : Hp) (p : Addr) (xs : List V) : Prop := H p = some (.tup xs) ∨ (fz = false ∧ H p = some (.lst xs))
mutual
def It.At (fz : Bool) (H : Hp) : It → V → Prop
  | .num n size order low high, v => ∃ p, v = .ref p ∧ H p = some (.tup [.str "number", .str n, .int size, .str order, .int low, .int high])
  | .byt n amt, v => ∃ p, v = .ref p ∧ H p = some (.tup [.str "bytes", .str n, kV amt])
  | .txt n stop most, v => ∃ p, v = .ref p ∧ H p = some (.tup [.str "text", .str n, .int stop, .int most])
  | .rep n amt b, v => ∃ p q xs, v = .ref p ∧ H p = some (.tup [.str "repeat", .str n, kV amt, .ref q]) ∧ RowAt fz H q xs ∧ b.At fz H xs
  | .eit n bs, v => ∃ p q xs, v = .ref p ∧ H p = some (.tup [.str "either", .str n, .ref q]) ∧ RowAt fz H q xs ∧ bs.AtE fz H xs
  | .swi n tag bs, v => ∃ p q xs, v = .ref p ∧ H p = some (.tup [.str "switch", .str n, .str tag, .ref q]) ∧ RowAt fz H q xs ∧ bs.AtS fz H xs
  | .chk n m, v => ∃ p, v = .ref p ∧ H p = some (.tup [.str "check", .str n, .int m])
  | .pad n m b, v => ∃ p, v = .ref p ∧ H p = some (.tup [.str "pad", .str n, .int m, .int b])
  | .odd k n m, v => ∃ p r, v = .ref p ∧ H p = some (.tup (.str k :: .str n :: r)) ∧ r.length + 2 = m ∧ OddOk k m
def Its.At (fz : Bool) (H : Hp) : Its → List V → Prop
  | .nil, l => l = []
  | .cons x r, l => ∃ v l', l = v :: l' ∧ x.At fz H v ∧ r.At fz H l'
def Blks.AtE (fz : Bool) (H : Hp) : Blks → List V → Prop
  | .nil, l => l = []
  | .cons _ b r, l => ∃ q xs l', l = .ref q :: l' ∧ RowAt fz H q xs ∧ b.At fz H xs ∧ r.AtE fz H l'
def Blks.AtS (fz : Bool) (H : Hp) : Blks → List V → Prop
  | .nil, l => l = []
  | .cons v b r, l => ∃ p q xs l', l = .ref p :: l' ∧ H p = some (.tup [.int v, .ref q]) ∧ RowAt fz H q xs ∧ b.At fz H xs ∧ r.AtS fz H l'
end
/-- what an item leans on is kept: tuples; where it may have lists, these, too -/
structure Kp (fz : Bool) (H H' : Hp) : Prop where
  t : ∀ b xs, H b = some (.tup xs) → H' b = some (.tup xs)
  l : fz = false → ∀ b xs, H b = some (.lst xs) → H' b = some (.lst xs)
theorem Kp.of {fz : Bool} {H H' : Hp} (s : Same H H') : Kp fz H H' := ⟨fun _ _ h => s _ _ h, fun _ _ _ h => s _ _ h⟩
theorem RowAt.kp {fz : Bool} {H H' : Hp} {p : Addr} {xs : List V} (s : Kp fz H H') (h : RowAt fz H p xs) : RowAt fz H' p xs := h.imp (s.t _ _) fun ⟨a, b⟩ => ⟨a, s.l a _ _ b⟩
theorem RowAt.same {fz : Bool} {H H' : Hp} {p : Addr} {xs : List V} (s : Same H H') (h : RowAt fz H p xs) : RowAt fz H' p xs := h.kp (.of s)
mutual
theorem It.At.kp {fz : Bool} {H H' : Hp} (s : Kp fz H H') : ∀ {x : It} {v : V}, x.At fz H v → x.At fz H' v
  | .num .., _, h => by simp only [It.At] at h ⊢; obtain ⟨p, e, h⟩ := h; exact ⟨p, e, s.t _ _ h⟩
  | .byt .., _, h => by simp only [It.At] at h ⊢; obtain ⟨p, e, h⟩ := h; exact ⟨p, e, s.t _ _ h⟩
  | .txt .., _, h => by simp only [It.At] at h ⊢; obtain ⟨p, e, h⟩ := h; exact ⟨p, e, s.t _ _ h⟩
  | .chk .., _, h => by simp only [It.At] at h ⊢; obtain ⟨p, e, h⟩ := h; exact ⟨p, e, s.t _ _ h⟩
  | .pad .., _, h => by simp only [It.At] at h ⊢; obtain ⟨p, e, h⟩ := h; exact ⟨p, e, s.t _ _ h⟩
  | .odd .., _, h => by simp only [It.At] at h ⊢; obtain ⟨p, r, e, h, q⟩ := h; exact ⟨p, r, e, s.t _ _ h, q⟩
  | .rep .., _, h => by simp only [It.At] at h ⊢; obtain ⟨p, q, xs, e, h, r, b⟩ := h; exact ⟨p, q, xs, e, s.t _ _ h, r.kp s, Its.At.kp s b⟩
  | .eit .., _, h => by simp only [It.At] at h ⊢; obtain ⟨p, q, xs, e, h, r, b⟩ := h; exact ⟨p, q, xs, e, s.t _ _ h, r.kp s, Blks.AtE.kp s b⟩
  | .swi .., _, h => by simp only [It.At] at h ⊢; obtain ⟨p, q, xs, e, h, r, b⟩ := h; exact ⟨p, q, xs, e, s.t _ _ h, r.kp s, Blks.AtS.kp s b⟩
theorem Its.At.kp {fz : Bool} {H H' : Hp} (s : Kp fz H H') : ∀ {x : Its} {v : List V}, x.At fz H v → x.At fz H' v
  | .nil, _, h => by simp only [Its.At] at h ⊢; exact h
  | .cons .., _, h => by simp only [Its.At] at h ⊢; obtain ⟨v, l', e, h, r⟩ := h; exact ⟨v, l', e, It.At.kp s h, Its.At.kp s r⟩
theorem Blks.AtE.kp {fz : Bool} {H H' : Hp} (s : Kp fz H H') : ∀ {x : Blks} {v : List V}, x.AtE fz H v → x.AtE fz H' v
  | .nil, _, h => by simp only [Blks.AtE] at h ⊢; exact h
  | .cons .., _, h => by simp only [Blks.AtE] at h ⊢; obtain ⟨q, xs, l', e, a, b, r⟩ := h; exact ⟨q, xs, l', e, a.kp s, Its.At.kp s b, Blks.AtE.kp s r⟩
theorem Blks.AtS.kp {fz : Bool} {H H' : Hp} (s : Kp fz H H') : ∀ {x : Blks} {v : List V}, x.AtS fz H v → x.AtS fz H' v
  | .nil, _, h => by simp only [Blks.AtS] at h ⊢; exact h
  | .cons .., _, h => by simp only [Blks.AtS] at h ⊢; obtain ⟨p, q, xs, l', e, z, a, b, r⟩ := h; exact ⟨p, q, xs, l', e, s.t _ _ z, a.kp s, Its.At.kp s b, Blks.AtS.kp s r⟩
end
theorem It.At.same {fz : Bool} {H H' : Hp} (s : Same H H') {x : It} {v : V} (h : x.At fz H v) : x.At fz H' v := h.kp (.of s)
theorem Its.At.same {fz : Bool} {H H' : Hp} (s : Same H H') {x : Its} {v : List V} (h : x.At fz H v) : x.At fz H' v := h.kp (.of s)
theorem Blks.AtE.same {fz : Bool} {H H' : Hp} (s : Same H H') {x : Blks} {v : List V} (h : x.AtE fz H v) : x.AtE fz H' v := h.kp (.of s)
theorem Blks.AtS.same {fz : Bool} {H H' : Hp} (s : Same H H') {x : Blks} {v : List V} (h : x.AtS fz H v) : x.AtS fz H' v := h.kp (.of s)
/-- a list is written -/
theorem Kp.wr {H : Hp} {D : Addr} {xs : List V} {o : HO} (h : H D = some (.lst xs)) : Kp true H (upd H D o) :=
  ⟨fun b ys e => by rw [upd_ne (ne_of e h (by intro z; cases z))]; exact e, fun z => by cases z⟩
theorem Kp.trans {fz : Bool} {H H1 H2 : Hp} (a : Kp fz H H1) (b : Kp fz H1 H2) : Kp fz H H2 := ⟨fun x y h => b.t _ _ (a.t _ _ h), fun z x y h => b.l z _ _ (a.l z _ _ h)⟩
theorem Its.At.len {fz : Bool} {H : Hp} : ∀ {x : Its} {l : List V}, x.At fz H l → l.length = x.len
  | .nil, _, h => by simp only [Its.At] at h; subst h; rfl
  | .cons _ r, _, h => by simp only [Its.At] at h; obtain ⟨v, l', e, h, b⟩ := h; subst e; simp [Its.len, Its.At.len b]
theorem Blks.AtE.len {fz : Bool} {H : Hp} : ∀ {x : Blks} {l : List V}, x.AtE fz H l → l.length = x.len
  | .nil, _, h => by simp only [Blks.AtE] at h; subst h; rfl
  | .cons _ _ r, _, h => by simp only [Blks.AtE] at h; obtain ⟨q, xs, l', e, a, b, c⟩ := h; subst e; simp [Blks.len, Blks.AtE.len c]
theorem Blks.AtS.len {fz : Bool} {H : Hp} : ∀ {x : Blks} {l : List V}, x.AtS fz H l → l.length = x.len
  | .nil, _, h => by simp only [Blks.AtS] at h; subst h; rfl
  | .cons _ _ r, _, h => by simp only [Blks.AtS] at h; obtain ⟨p, q, xs, l', e, z, a, b, c⟩ := h; subst e; simp [Blks.len, Blks.AtS.len c]

/-! ### what is copied -/
mutual
def It.ok (d : Int) : It → Bool
  | .rep n _ b => isName n && (decide (d ≤ 2) && (decide (b.len ≤ 12) && b.ok (d + 1)))
  | .eit n bs => isName n && (decide (d ≤ 2) && (decide (2 ≤ bs.len ∧ bs.len ≤ 4) && bs.ok (d + 1)))
  | .swi n _ bs => isName n && (decide (d ≤ 2) && (decide (1 ≤ bs.len ∧ bs.len ≤ 8) && bs.ok (d + 1)))
  | .odd .. => false
  | x => isName x.name && decide (d ≤ 3)
def Its.ok (d : Int) : Its → Bool
  | .nil => true
  | .cons x r => x.ok d && r.ok d
def Blks.ok (d : Int) : Blks → Bool
  | .nil => true
  | .cons _ b r => (decide (b.len ≤ 12) && b.ok d) && r.ok d
end

/-! ### lengths -/
abbrev Env := Str → Option (Int × Int)
def Env.put (f : Env) (n : Str) (p : Int × Int) : Env := fun y => if y = n then some p else f y
def amount (f : Env) (most : Int) : Key → Option (Int × Int)
  | .inl i => if 0 ≤ i ∧ i ≤ most then some (i, i) else none
  | .inr z => match f z with
    | some p => if p.2 ≤ most then some p else none
    | none => none
def numOk (size : Int) (order : Str) (low high : Int) : Bool :=
  decide (1 ≤ size ∧ size ≤ 2) && (decide (order = "big" ∨ order = "little") && (decide (0 ≤ high ∧ high ≤ (if size = 1 then 255 else 65535)) && decide (0 ≤ low ∧ low ≤ high)))
def spread (r : List (Int × Int)) : Option (Int × Int) := match (r.map (·.1)).min?, (r.map (·.2)).max? with
  | some a, some b => some (a, b)
  | _, _ => none
mutual
def It.lens (f : Env) : It → Option (Int × Int)
  | .num _ size order low high => if numOk size order low high = true then some (size, size) else none
  | .byt _ amt => amount f 64 amt
  | .txt _ stop most => if (0 ≤ stop ∧ stop ≤ 255) ∧ 0 ≤ most ∧ most ≤ 64 then some (1, most + 1) else none
  | .rep _ amt b => match amount f 16 amt, b.lens f with
    | some a, some l => if 1 ≤ l.1 then some (a.1 * l.1, a.2 * l.2) else none
    | _, _ => none
  | .eit _ bs => match bs.lens f with
    | some r => if (r.filter fun p => decide (p.1 = 0)).length ≤ 1 then spread r else none
    | none => none
  | .swi _ tag bs => if (f tag).isSome = true ∧ (∀ v ∈ bs.vals, 0 ≤ v ∧ v ≤ 65535) ∧ bs.vals.Nodup then (match bs.lens f with
    | some r => spread r
    | none => none) else none
  | .chk _ m => if 1 ≤ m ∧ m ≤ 16 then some (1, 1) else none
  | .pad _ m b => if (m = 1 ∨ m = 2 ∨ m = 4 ∨ m = 8 ∨ m = 16) ∧ 0 ≤ b ∧ b ≤ 255 then some (0, m - 1) else none
  | .odd .. => none
def Its.lens (f : Env) : Its → Option (Int × Int)
  | .nil => some (0, 0)
  | .cons x r => match x.lens f, r.lens (match x with | .num n _ _ low high => f.put n (low, high) | _ => f) with
    | some a, some b => some (a.1 + b.1, a.2 + b.2)
    | _, _ => none
def Blks.lens (f : Env) : Blks → Option (List (Int × Int))
  | .nil => some []
  | .cons _ b r => match b.lens f, r.lens f with
    | some a, some l => some (a :: l)
    | _, _ => none
end

/-! ### the items in their order -/
mutual
def It.walk (d : Int) : It → List (Int × It)
  | .rep n a b => (d, .rep n a b) :: b.walk (d + 1)
  | .eit n bs => (d, .eit n bs) :: bs.walk (d + 1)
  | .swi n t bs => (d, .swi n t bs) :: bs.walk (d + 1)
  | x => [(d, x)]
def Its.walk (d : Int) : Its → List (Int × It)
  | .nil => []
  | .cons x r => x.walk d ++ r.walk d
def Blks.walk (d : Int) : Blks → List (Int × It)
  | .nil => []
  | .cons _ b r => b.walk d ++ r.walk d
end
def It.isChk : It → Bool
  | .chk .. => true
  | _ => false
def Its.names (x : Its) : List Str := (x.walk 0).map (·.2.name)
def Its.shape (x : Its) : Bool :=
  (decide (x.len ≤ 12) && x.ok 0) && (decide (1 ≤ x.len) && (decide ((x.walk 0).length ≤ 30) && (decide x.names.Nodup && (decide (((x.walk 0).filter (·.2.isChk)).length ≤ 1) && (x.lens fun _ => none).isSome))))
end Bs

set_option Elab.async false
set_option linter.all false
set_option maxRecDepth 100000
set_option maxHeartbeats 4000000
/-! super().__init__(e) at the head of an own exception's __init__; the class stands over ValueError -/
namespace Rj
open PySem PySem.Spec PyProof.Rows L2 NdefX

/-- what the written part says: the code object at c, the cell at cc that holds the class at D -/
structure SupC (P : Program) (K : PySem.W.Frag) (c cc D : Addr) : Prop where
  code : ∃ ccl cdd vs ccs file tf, K.lookup c = some ⟨ccl, cdd, .fields vs, ccs⟩ ∧ vs[2]? = some (.str file tf) ∧ ((P.main.file : Str) == file) = true
  cell : ∃ cl cld csl, K.lookup cc = some ⟨cl, cld, .cell (some (.ref D)), csl⟩
  mro : PySem.W.mroIn K D (.ref D) = some true
  any : PySem.W.nsIn K cStatics "thirdparty.any" = some none
  sup : PySem.W.ks_superIn K D D "__init__" = some (some (.builtin "ValueError.__init__"))
  sub : PySem.W.subIn K (.ref D) (.type "ValueError") = some true
  top : (P.main.scope.names.lookup ("super" : Str)).isSome = false

theorem boot_super : bootBuiltins "super" = some (.type "super") := by decide +kernel

section
variable {X : Cx} {body : List Stmt} {p0 p1 p2 p3 p4 : Pos} {e : Expr} {te : TE} {f c cc D a : Addr} {oc : Value} {od : Option Addr} {osl : Array (Option Value)} {fd : FuncData} {ar : Arg} {pins : List (Addr × Obj)} {σ : L2.St} {H : Hp} {s : Shared} {Q : Flow → Shared → Prop}

theorem super_init (I : Inv X pins σ H s) (T : OexC X.K D) (C : SupC X.prog X.K c cc D) (hfu : X.env.func = some f) (hco : X.env.code = .ref c)
    (lk : X.K.lookup f = some ⟨oc, od, .func fd, osl⟩) (hp : (fd.params.posonlyargs ++ fd.params.args).head? = some ar)
    (hks : X.env.kindOf "super" = some .globalImplicit) (hkc : X.env.kindOf "__class__" = some .free) (hcl : X.env.cells.lookup ("__class__" : Str) = some cc)
    (hka : X.env.scope.names.lookup ar.arg = some .local) (h0 : X.N[0]? = some ar.arg) (hs0 : σ[0]? = some (some (.ref a))) (hm : X.mg "super" = none)
    (ea : H a = some (exo a D none)) (ha : PE X e te) (q : te σ H fun v H1 => [v].length ≤ 1000 ∧ H1 a = some (exo a D none) ∧ ∀ s', Inv X pins σ H1 s' → Q .next s')
    {pl : Sem Bool} (hc : eval (.Call (.Attribute (.Call (.Name "super" p0) [] [] p1) "__init__" p2) [e] [] p3) X.env = (do
      let ov ← attributeBase (.Call (.Name "super" p0) [] [] p1) "__init__" X.env (eval (.Call (.Name "super" p0) [] [] p1) X.env)
      standAt p2.atName
      let (f, first) ← holding [ov] (getMethod ov "__init__" pl)
      callWith p3 f first (backTo p3 (starEach [e] X.env)) []))
    (hst : starEach [e] X.env = [(false, eval e X.env)]) (hsw : swapsWith (.Call (.Attribute (.Call (.Name "super" p0) [] [] p1) "__init__" p2) [e] [] p3) none p4.line X.env = pure false) :
    _root_.PySem.wpAt (model X.prog X.w) X.A (.func body X.env) (exec (.Expr (.Call (.Attribute (.Call (.Name "super" p0) [] [] p1) "__init__" p2) [e] [] p3) p4) X.env) Q X.xe s := by
  obtain ⟨ccl, cdd, vs, ccs, file, tf, hcode, hvs, hfile⟩ := C.code
  obtain ⟨cl, cld, csl, hcell⟩ := C.cell
  have K0 := I.kIn
  obtain ⟨hp0, g, d, t, os⟩ := s
  refine ks_wpAt_Expr_any (ks_wpAt_MethodCall (ks_wpAt_super_base hks hkc (by decide) hfu (K0 _ _ lk) rfl hp hco (K0 _ _ hcode) rfl hvs hfile C.top ?_) hc) I.quiet hsw
  obtain ⟨mb, b1, b2⟩ := I.mod.blt
  refine PySem.W.ks_loadName_global I.ok.kind hks (Calls.loadGlobal_builtin (by rw [I.ok.glob]; exact I.mod.glob.keeps I.bk) hm (by rw [I.ok.blt]; exact b1.keeps I.bk) ((b2 _ (by decide)).trans boot_super) ⟨rfl, ?_⟩)
  refine wpAny_loadName_free I.ok.kind hkc hcl ⟨_, K0 _ _ hcell, rfl⟩ ?_
  obtain ⟨m, hn, hl⟩ := I.loc
  obtain ⟨u, ru, lu⟩ := hl 0 ar.arg (.ref a) h0 hs0 (.inl hka)
  cases ru
  have hmx : m ar.arg = some (.ref a) := by
    rcases lu with ⟨_, h⟩ | ⟨h, _⟩
    · exact h
    · have hk : X.env.kindOf ar.arg = some .local := hka
      rw [hk] at h
      rcases h with h | h <;> cases h
  refine wpAny_loadName_local I.ok.kind hka hn hmx ?_
  obtain ⟨nm, qn, N, bs, bm, sn, sub, ab, col, dd, k0, k1, k2, k3, k5, hC, hbm⟩ := T.cls
  obtain ⟨cd, hcd⟩ : ∃ cd, PySem.W.clsIn X.K D = some cd := by
    have := C.sup
    unfold PySem.W.ks_superIn at this
    cases h : PySem.W.clsIn X.K D with
    | none => rw [h] at this; cases this
    | some cd => exact ⟨cd, rfl⟩
  have hsup : PySem.W.alongIn X.K "__init__" ((cd.mro.dropWhile (· != .ref D)).drop 1) = some (some (.builtin "ValueError.__init__")) := by
    have := C.sup
    unfold PySem.W.ks_superIn at this
    rw [hcd] at this
    exact this
  refine ks_wpAny_isType_cls (K0 _ _ hC) rfl ⟨rfl, ?_⟩
  obtain ⟨t1, ho⟩ := exo_at I.hok ea
  refine ks_wpAny_call_super (K0 _ _ hC) rfl ho rfl (fun c h => by cases h) (PySem.W.looks_mroIn K0 C.mro) (fun h' eo k => ?_)
  have I1 : Inv X pins σ H ⟨h', g, d, t, os⟩ := I.kept k
  have K1 := I1.kIn
  have ia : PySem.W.InstAt h' a ({ cls := .ref D, dict := none, data := .fields #[.ref t1, .none, .none, .none, .bool false, .none] } : Obj) D none := ⟨k _ _ ho, rfl, rfl, trivial⟩
  refine PySem.W.kxs_getMethod PySem.W.kxs_ValueError eo (PySem.W.looks_opaque K1 C.any) (l₀ := cd.mro) (fun A Q E s k q => wpAny_bind ((PySem.W.looks_clsIn K1 hcd) A _ E s k (wpAny_pure q))) rfl K1 hsup
    (ia.type.andThen (PySem.W.looks_subIn K1 C.sub)) (PySem.W.ks_ne K1 ia hcd) (by decide) ?_
  have kp : ∀ b o, h'.get? b = some o → (h'.push (PySem.W.kxs_mw "ValueError.__init__" a)).get? b = some o := fun b o e => Heap.get?_push_of_some _ e
  have I2 : Inv X pins σ H ⟨h'.push (PySem.W.kxs_mw "ValueError.__init__" a), g, d, t + 1, os⟩ := I1.kept (t' := t + 1) kp
  have hu : (h'.push (PySem.W.kxs_mw "ValueError.__init__" a)).get? h'.objs.size = some (PySem.W.kxs_mw "ValueError.__init__" a) := Heap.get?_push_at rfl rfl
  have I3 : Inv X ((h'.objs.size, PySem.W.kxs_mw "ValueError.__init__" a) :: pins) σ H ⟨h'.push (PySem.W.kxs_mw "ValueError.__init__" a), g, d, t + 1, os⟩ := I2.pins_of fun p hp => by
    rcases List.mem_cons.mp hp with rfl | hp
    · exact ⟨hu, I1.hok.fresh (Nat.le_refl _), fun z => absurd I1.lt (by show ¬ X.env.locals < h'.objs.size; rw [← z]; exact Nat.lt_irrefl _), I1.nofs (Nat.le_refl _), fun v z => by cases z⟩
    · exact I2.pin p (List.mem_append_right _ hp)
  have hb : backTo p3 (starEach [e] X.env) = backTo p3 [(false, eval e X.env)] := by rw [hst]
  have run := (pa_cons ha pa_nil (hs := by rw [hst]; rfl)).run p3 _ _ σ H (fun vs H1 => vs.length ≤ 1000 ∧ H1 a = some (exo a D none) ∧ ∀ s', Inv X pins σ H1 s' → Q .next s') I3 q
  have ab : ∀ x : Bool × Sem Value, backTo p3 [(false, x.2)] = [(false, x.2)] := fun _ => rfl
  refine PySem.W.kxs_callWith (i := "ValueError.__init__") (x := a) (first := []) (by rw [hb]; rfl) ?_
  rw [hb] at run ⊢
  refine Calls.evalArgs_plain (wpAny_mono run (fun us s1 hq => ?_) fun _ _ z => z)
  obtain ⟨vs, H1, I4, r1, hz, ea1, fin⟩ := hq
  refine ⟨(I4.pin (h'.objs.size, PySem.W.kxs_mw "ValueError.__init__" a) (List.mem_append_right _ (List.mem_cons_self ..))).1, ?_⟩
  show wpAny _ _ (call (.ref h'.objs.size) us) _ _ _
  have hu4 := (I4.pin (h'.objs.size, PySem.W.kxs_mw "ValueError.__init__" a) (List.mem_append_right _ (List.mem_cons_self ..))).1
  have hlen : us.length ≤ sizeLine := by
    rw [← Paired.length r1, sizeLine_eq]
    omega
  obtain ⟨t2, he4⟩ := exo_at I4.hok ea1
  have K4 := I4.kIn
  obtain ⟨hp4, g4, d4, t4, os4⟩ := s1
  refine wpAny_call (codeAny_of_tree ?_)
  show wpAny _ X.A.in1 (callAny (.ref h'.objs.size) ⟨us, []⟩) _ _ _
  simp only [callAny]
  refine wpAny_bind (wpAny_load hu4 ?_)
  simp only [PySem.W.kxs_mw, show (Value.type "method-wrapper" == Value.type "method" || Value.type "method-wrapper" == Value.type "builtin_function_or_method" || Value.type "method-wrapper" == Value.type "method-wrapper") = true by decide, if_true]
  refine PySem.W.KFB.if_so (by decide) ?_
  refine wpAny_bind (PySem.W.check_bound_init F.excBase_ValueError.toExcCallFacts (K4 _ _ hC) he4 rfl ?_)
  refine wpAny_bind (wpAny_pure (wpAny_pure ?_))
  refine ⟨plainId_quiet F.excBase_ValueError.init.plain _, codeAny_builtin F.excBase_ValueError.initEntry ?_⟩
  refine PySem.W.exc_init_tree (cls := .ref D) (t0 := t2) (dv := none) (c2 := .none) (c3 := .none) (b4 := .bool false) he4 hlen fun h5 k5 e5 _ => ?_
  have J := I4.write (t' := t4) (x := a) (e := a) (o := exo a D none) (by rw [ea1]; exact True.intro) (.inl rfl) k5 ⟨_, e5⟩ (exo_ok e5)
  have eu : upd H1 a (exo a D none) = H1 := by
    funext b
    by_cases hb : b = a
    · rw [hb, upd_same, ea1]
    · rw [upd_ne hb]
  rw [eu] at J
  exact fin _ (J.pins_of fun p hp => J.pin p (List.mem_append_right _ (List.mem_cons_of_mem _ hp)))
end

section
variable {CX : CXT} {P : Program} {w : World} {K : PySem.W.Frag} {mg : Str → Option Value} {base : Heap} {N ps : List Str} {F : NF} {f cc D : Addr} {k : Nat} {sp : Sp} {oc : Value} {od an : Option Addr} {osl : Array (Option Value)} {kV doc pm ctv : Value}
  {p0 p1 p2 p3 p4 : Pos} {e : Expr} {rest : List Stmt} {self : Str}
/-- a promise of such an __init__: self is the exception that is being made; the reading of e, then that of the rest -/
theorem fn_super (lk : K.lookup f = some ⟨oc, od, .func (PySem.W.fnX F.name F.qual F.params F.body F.scope F.cl .none kV doc pm an (.ref F.c) ctv), osl⟩) (hcd : PySem.W.codeIn K (.ref F.c) F.qual = true)
    (hcl : F.cl = [(("__class__" : Str), cc)]) (S : NScope N ps ["__class__"] F.scope) (C : SupC P K F.c cc D) (T : OexC K D) (hm : mg "super" = none)
    (hbd : F.body = .Expr (.Call (.Attribute (.Call (.Name "super" p0) [] [] p1) "__init__" p2) [e] [] p3) p4 :: rest)
    {ar : Arg} (hp : (F.params.posonlyargs ++ F.params.args).head? = some ar) (h0 : ps[0]? = some ar.arg)
    (hks : F.scope.names.lookup ("super" : Str) = some .globalImplicit)
    (hc : ∀ env : Env, env.scope = F.scope → ∃ pl : Sem Bool, eval (.Call (.Attribute (.Call (.Name "super" p0) [] [] p1) "__init__" p2) [e] [] p3) env = (do
      let ov ← attributeBase (.Call (.Name "super" p0) [] [] p1) "__init__" env (eval (.Call (.Name "super" p0) [] [] p1) env)
      standAt p2.atName
      let (f, first) ← holding [ov] (getMethod ov "__init__" pl)
      callWith p3 f first (backTo p3 (starEach [e] env)) []))
    (hst : ∀ env : Env, starEach [e] env = [(false, eval e env)])
    (hsw : ∀ env : Env, swapsWith (.Call (.Attribute (.Call (.Name "super" p0) [] [] p1) "__init__" p2) [e] [] p3) none p4.line env = pure false)
    (len : ∀ vs H Q E, sp vs H Q E → vs.length = ps.length)
    (hbody : ∀ (A : Around) (outer : List Env) (s : Shared) (H : Hp) (vs : List V) (Q : VK) (E : XK), Room k (A.deeper (envF F f s.heap.objs.size)) → sp vs H Q E →
      ∃ (te : TE) (t : TS) (a : Addr), PE (ncx CX P w K mg base N F f A outer s H E) e te ∧ PSs (ncx CX P w K mg base N F f A outer s H E) rest t ∧ vs[0]? = some (.ref a) ∧ H a = some (exo a D none) ∧
        ∀ R : VK, (∀ v H1, H1 a = some (exo a D none) → t { nx := fun _ H' => Q .non H', rt := Q } (startF N vs [none]) H1 → R v H1) → te (startF N vs [none]) H R) :
    FnOk P w K mg base CX (k + 1) f (PySem.W.fnX F.name F.qual F.params F.body F.scope F.cl .none kV doc pm an (.ref F.c) ctv) ps sp := by
  refine ⟨len, fun A outer s H args us vs Q E hr e0 hb r hsp => ?_⟩
  have hl := len _ _ _ _ hsp
  have KX : K.In s.heap := e0.mod.kin.keeps fun b o e => (e0.bs b o e).1
  have lim : s.heap.NoLimit := e0.mod.nolimit.keeps fun b o e => (e0.bs b o e).1
  refine codeAny_call_function hr.depth (KX _ _ lk) rfl S.co S.gen rfl (PySem.W.codeRec_of KX hcd) (hb _ _ _ _ ?_)
  refine wpAny_newFunctionEnv S.nocell (fun ⟨n, _⟩ hy => S.par n (List.of_mem_zip hy).1) (fun h₁ hns hsb => ⟨lim.fresh _ hsb, ?_⟩) S.kind
  show codeAny _ _ (.func F.body (envF F f s.heap.objs.size)) _ _
  refine ks_codeAny_funcAt ?_
  have kp : ∀ b o, s.heap.get? b = some o → h₁.get? b = some o := fun b o e => hsb.extBut b o (Nat.ne_of_lt (Heap.lt_size e)) (Heap.get?_push_of_some _ e)
  obtain ⟨te, t, a, he, ht, ha0, ha, hq⟩ := hbody A outer s H vs Q E (hr.deeper _) hsp
  obtain ⟨cl, cld, csl, hcell⟩ := C.cell
  have Ce : CellsAt F.cl ["__class__"] [none] s.heap H := by
    rw [hcl]
    have hcc : H cc = none := by
      have kb : K.In base := e0.mod.kin
      exact (e0.bs _ _ (kb _ _ hcell)).2
    have only : ∀ (y : Str) (c : Addr), List.lookup y [(("__class__" : Str), cc)] = some c → y = "__class__" ∧ c = cc := fun y c h => by
      have := PySem.mem_of_lookup h
      simp only [List.mem_singleton, Prod.mk.injEq] at this
      exact this
    refine ⟨rfl, fun y c h => ?_, fun x y c h1 h2 => (only x c h1).1.trans (only y c h2).1.symm, fun i y h => ?_⟩
    · obtain ⟨_, rfl⟩ := only y c h
      exact ⟨hcc, _, _, KX _ _ hcell, rfl⟩
    · cases i with
      | zero =>
        simp only [List.getElem?_cons_zero, Option.some.injEq] at h
        subst h
        exact ⟨cc, by simp [List.lookup], fun v z => by simp at z⟩
      | succ i => simp at h
  have I : Inv (ncx CX P w K mg base N F f A outer s H E) [] (startF N vs [none]) H { s with heap := h₁, toks := s.toks + (ps.zip us).length } := inv_startN S hr.hd e0 hl r Ce hns kp
  have fin : ∀ {σ' : L2.St} {H' : Hp} {v : V} {u : Value} {s'}, Inv (ncx CX P w K mg base N F f A outer s H E) [] σ' H' s' → L2.RelV v u → Q v H' → CE outer P w H s Q u s' :=
    fun {σ' H' v u s'} J rv q => ⟨v, H', J.os, J.bare, J.base, J.hok, rv, q⟩
  have hpre : N[0]? = some ar.arg := by
    have h1 : (ps ++ [("__class__" : Str)])[0]? = some ar.arg := by
      cases ps with
      | nil => simp at h0
      | cons x r => simpa using h0
    rw [← S.pre, List.getElem?_take_of_lt (by
      have : (ps ++ [("__class__" : Str)]).length ≠ 0 := by simp
      simp at this ⊢)] at h1
    exact h1
  have hs0 : (startF N vs [none])[0]? = some (some (V.ref a)) := by
    unfold startF
    cases vs with
    | nil => simp at ha0
    | cons x r => simp at ha0 ⊢; exact ha0
  obtain ⟨pl, hev⟩ := hc (envF F f s.heap.objs.size) rfl
  have kb : K.In base := e0.mod.kin
  have hce : (envF F f s.heap.objs.size).cells.lookup ("__class__" : Str) = some cc := by
    show F.cl.lookup ("__class__" : Str) = some cc
    rw [hcl]
    simp [List.lookup]
  have go := super_init (X := ncx CX P w K mg base N F f A outer s H E) (body := F.body) (Q := fun fl s' => match fl with
      | .next => wpAny (model P w) (A.deeper (envF F f s.heap.objs.size)) (execs rest (envF F f s.heap.objs.size)) (fun fl s' => CR CX outer P w H s Q E (.ok (.ret (match fl with | .ret v => v | _ => .none))) s') (ncx CX P w K mg base N F f A outer s H E).xe s'
      | fl => CR CX outer P w H s Q E (.ok (.ret (match fl with | .ret v => v | _ => .none))) s') I T C rfl rfl lk hp hks (S.frk _ (List.mem_cons_self ..)) hce (S.par _ (List.mem_of_getElem? h0)) hpre hs0 hm ha he ?_ hev (hst _) (hsw _)
  rotate_left
  · refine hq _ fun v H1 e1 ht1 => ⟨(by show 1 ≤ 1000; decide), e1, fun s' J => ?_⟩
    refine wpAny_mono (ht.run [] _ (startF N vs [none]) H1 _ J ht1) (fun fl s' hs => ?_) fun e s' hs => hs
    cases fl with
    | ret u =>
      obtain ⟨v, σ', H', J, rv, q⟩ := hs
      exact fin J rv q
    | next =>
      obtain ⟨σ', H', J, q⟩ := hs
      exact fin (v := V.non) (u := Value.none) J rfl q
    | brk =>
      obtain ⟨_, _, _, q⟩ := hs
      exact False.elim q
    | cont =>
      obtain ⟨_, _, _, q⟩ := hs
      exact False.elim q
  rw [show execs F.body (envF F f s.heap.objs.size) = execs (.Expr (.Call (.Attribute (.Call (.Name "super" p0) [] [] p1) "__init__" p2) [e] [] p3) p4 :: rest) (envF F f s.heap.objs.size) by rw [hbd]]
  refine ks_wpAt_execs_cons (ks_wpAt_mono go (fun fl s' h => ?_) fun e s' h => h)
  cases fl with
  | next => exact wpAt_of_wpAny h
  | _ => exact h
end
end Rj

set_option Elab.async false
set_option linter.all false
set_option maxRecDepth 100000
set_option maxHeartbeats 4000000
/-! facts of own exceptions with such an __init__, by one look at the written part -/
namespace Rj
open PySem PySem.Spec PyProof.Rows L2 NdefX
def ccOf (K : PySem.W.Frag) (f : Addr) : Addr := match K.lookup f with
  | some ⟨_, _, .func fd, _⟩ => (match fd.closure with
    | (_, c) :: _ => c
    | _ => 0)
  | _ => 0
def cdOf (K : PySem.W.Frag) (f : Addr) : Addr := match K.lookup f with
  | some ⟨_, _, .func fd, _⟩ => (match fd.code with
    | .ref c => c
    | _ => 0)
  | _ => 0
def codeB (file : Str) (K : PySem.W.Frag) (c : Addr) : Bool := match K.lookup c with
  | some ⟨_, _, .fields vs, _⟩ => (match vs[2]? with
    | some (Value.str z _) => decide (z = file)
    | _ => false)
  | _ => false
def cellB (K : PySem.W.Frag) (c D : Addr) : Bool := match K.lookup c with
  | some ⟨_, _, .cell (some (.ref E)), _⟩ => decide (E = D)
  | _ => false
def supB (file : Str) (K : PySem.W.Frag) (f D : Addr) : Bool := codeB file K (cdOf K f) && (cellB K (ccOf K f) D && (decide (PySem.W.mroIn K D (.ref D) = some true) && (He.eqO (PySem.W.nsIn K cStatics "thirdparty.any") (some none) &&
  (He.eqO (PySem.W.ks_superIn K D D "__init__") (some (some (.builtin "ValueError.__init__"))) && decide (PySem.W.subIn K (.ref D) (.type "ValueError") = some true)))))
theorem supB_ok {P : Program} {file : Str} {K : PySem.W.Frag} {f D : Addr} (hf : P.main.file = file) (ht : (P.main.scope.names.lookup ("super" : Str)).isSome = false) (h : supB file K f D = true) : SupC P K (cdOf K f) (ccOf K f) D := by
  unfold supB at h
  simp only [Bool.and_eq_true] at h
  obtain ⟨h1, h2, h3, h4, h5, h6⟩ := h
  refine ⟨?_, ?_, of_decide_eq_true h3, He.eqO_ok h4, He.eqO_ok h5, of_decide_eq_true h6, ht⟩
  · unfold codeB at h1
    split at h1
    · rename_i a b vs d e
      split at h1
      · rename_i z t e2
        exact ⟨_, _, _, _, z, t, e, e2, by rw [hf, of_decide_eq_true h1]; simp⟩
      · cases h1
    · cases h1
  · unfold cellB at h2
    split at h2
    · rename_i a b E d e
      rw [← of_decide_eq_true h2]
      exact ⟨_, _, _, e⟩
    · cases h2
def oexB (K : PySem.W.Frag) (C : Addr) : Bool := (match K.lookup C with
  | some ⟨.type "type", _, .cls cd, sl⟩ => (match cd.mro, sl.toList with
    | .ref C' :: bm, [_, _, _, _, some (.builtin n), _] => C' == C && n == "ValueError.__new__" && !cd.hasDel && cd.hasDict && PySem.HandSPX.refsVE bm
    | _, _ => false)
  | _ => false) && (He.eqO (PySem.W.findIn K (.ref C) "__setattr__") (some (some (.builtin "object.__setattr__"))) && (decide (PySem.W.subIn K (.ref C) (.type "BaseException") = some true) && (decide (PySem.W.typeIn K (.ref C) = some (.type "type")) && PySem.W.keepIn K (.ref C))))
theorem oexB_ok {K : PySem.W.Frag} {C : Addr} (h : oexB K C = true) : OexC K C := by
  unfold oexB at h
  rw [Bool.and_eq_true, Bool.and_eq_true, Bool.and_eq_true, Bool.and_eq_true] at h
  obtain ⟨q, h2, h3, h4, h5⟩ := h
  refine ⟨?_, He.eqO_ok h2, of_decide_eq_true h3, of_decide_eq_true h4, h5⟩
  split at q
  · rename_i dd cd sl ho
    split at q
    · rename_i C' bm k0 k1 k2 k3 n k5 hm hs
      simp only [Bool.and_eq_true, beq_iff_eq, Bool.not_eq_true'] at q
      obtain ⟨⟨⟨⟨rfl, rfl⟩, hdel⟩, hdc⟩, ht⟩ := q
      obtain ⟨nm, bs, mro, ns, qn, hd, sn, sub, ab, col, del⟩ := cd
      dsimp only at hm hdel hdc
      subst hm hdel hdc
      have hsl : sl = #[k0, k1, k2, k3, some (.builtin "ValueError.__new__"), k5] := by
        obtain ⟨l⟩ := sl
        simp only at hs
        rw [hs]
      subst hsl
      exact ⟨nm, qn, ns, bs, bm, sn, sub, ab, col, dd, k0, k1, k2, k3, k5, ho, ht⟩
    · cases q
  · cases q
/-- the def at f, as it was written -/
def defAt (K : PySem.W.Frag) (f : Addr) : He.FnV := match K.lookup f with
  | some ⟨_, _, .func fd, _⟩ => some (fd.name, fd.qualname, fd.params, fd.body, fd.scope, fd.globals, fd.closure, fd.defaults, fd.builtins)
  | _ => none
def codR (K : PySem.W.Frag) (f : Addr) : Bool := match K.lookup f with
  | some ⟨_, _, .func fd, _⟩ => decide (fd.code = .ref (cdOf K f))
  | _ => false
theorem defAt_ok {K : PySem.W.Frag} {f : Addr} {name q : Str} {params : Arguments} {body : List Stmt} {scope : Scope} (e : defAt K f = some (name, q, params, .stmts body, scope, mainGlobals, [(("__class__" : Str), ccOf K f)], .none, builtinsNs)) (hc : codR K f = true) :
    ∃ oc od osl kV doc pm an ctv, K.lookup f = some ⟨oc, od, .func (PySem.W.fnX name q params body scope [(("__class__" : Str), ccOf K f)] .none kV doc pm an (.ref (cdOf K f)) ctv), osl⟩ := by
  unfold defAt at e
  unfold codR at hc
  cases q2 : K.lookup f with
  | none => rw [q2] at e; cases e
  | some o =>
    obtain ⟨oc, od, dt, osl⟩ := o
    rw [q2] at e hc
    cases dt with
    | func fd =>
      obtain ⟨n1, n2, n3, n4, n5, n6, n7, n8, n9, n10, n11, n12, n13, n14, n15⟩ := fd
      have hcd : n13 = .ref (cdOf K f) := of_decide_eq_true hc
      have e2 : (some (n1, n2, n3, n4, n5, n6, n7, n8, n15) : He.FnV) = some (name, q, params, .stmts body, scope, mainGlobals, [(("__class__" : Str), ccOf K f)], .none, builtinsNs) := e
      simp only [Option.some.injEq, Prod.mk.injEq] at e2
      obtain ⟨g1, g2, g3, g4, g5, g6, g7, g8, g9⟩ := e2
      rw [g1, g2, g3, g4, g5, g6, g7, g8, g9, hcd]
      exact ⟨_, _, _, _, _, _, _, _, rfl⟩
    | _ => cases e
end Rj

set_option Elab.async false
set_option linter.all false
set_option maxRecDepth 100000
set_option maxHeartbeats 0
namespace Bs
open PySem L2
/-! ### the head: what the top leaves -/
def gDef (x : Str) (i : Nat) : He.DefD := ⟨(x, none), x, x, defArgs (top i), defBody (top i), defScope (top i), [], []⟩
def dInit : He.DefD := ⟨("Shape", some "__init__"), "__init__", "Shape.__init__", defArgs (inClass (top 110) 0), defBody (inClass (top 110) 0), defScope (inClass (top 110) 0), [], []⟩
def dM0 : He.DefD := ⟨("Shape", some "_row"), "_row", "Shape._row", defArgs (inClass (top 110) 9), defBody (inClass (top 110) 9), defScope (inClass (top 110) 9), [], []⟩
def dM1 : He.DefD := ⟨("Shape", some "with_item"), "with_item", "Shape.with_item", defArgs (inClass (top 110) 7), defBody (inClass (top 110) 7), defScope (inClass (top 110) 7), [], []⟩
def dM2 : He.DefD := ⟨("Shape", some "without_item"), "without_item", "Shape.without_item", defArgs (inClass (top 110) 8), defBody (inClass (top 110) 8), defScope (inClass (top 110) 8), [], []⟩
def dM3 : He.DefD := ⟨("Board", some "__init__"), "__init__", "Board.__init__", defArgs (inClass (top 73) 0), defBody (inClass (top 73) 0), defScope (inClass (top 73) 0), [], []⟩
def dM4 : He.DefD := ⟨("Board", some "with_entry"), "with_entry", "Board.with_entry", defArgs (inClass (top 73) 1), defBody (inClass (top 73) 1), defScope (inClass (top 73) 1), [], []⟩
def dM5 : He.DefD := ⟨("Board", some "without_shape"), "without_shape", "Board.without_shape", defArgs (inClass (top 73) 2), defBody (inClass (top 73) 2), defScope (inClass (top 73) 2), [], []⟩
def dM6 : He.DefD := ⟨("Board", some "with_question"), "with_question", "Board.with_question", defArgs (inClass (top 73) 3), defBody (inClass (top 73) 3), defScope (inClass (top 73) 3), [], []⟩
def dM7 : He.DefD := ⟨("Board", some "without_question"), "without_question", "Board.without_question", defArgs (inClass (top 73) 4), defBody (inClass (top 73) 4), defScope (inClass (top 73) 4), [], []⟩
def dM8 : He.DefD := ⟨("Workbench", some "__init__"), "__init__", "Workbench.__init__", defArgs (inClass (top 74) 0), defBody (inClass (top 74) 0), defScope (inClass (top 74) 0), [], []⟩
def dM9 : He.DefD := ⟨("Workbench", some "set_shape"), "set_shape", "Workbench.set_shape", defArgs (inClass (top 74) 1), defBody (inClass (top 74) 1), defScope (inClass (top 74) 1), [], []⟩
def dM10 : He.DefD := ⟨("Workbench", some "remove_shape"), "remove_shape", "Workbench.remove_shape", defArgs (inClass (top 74) 2), defBody (inClass (top 74) 2), defScope (inClass (top 74) 2), [], []⟩
def dM11 : He.DefD := ⟨("Workbench", some "replace_item"), "replace_item", "Workbench.replace_item", defArgs (inClass (top 74) 3), defBody (inClass (top 74) 3), defScope (inClass (top 74) 3), [], []⟩
def dM12 : He.DefD := ⟨("Workbench", some "remove_item"), "remove_item", "Workbench.remove_item", defArgs (inClass (top 74) 4), defBody (inClass (top 74) 4), defScope (inClass (top 74) 4), [], []⟩
def dM13 : He.DefD := ⟨("Workbench", some "ask"), "ask", "Workbench.ask", defArgs (inClass (top 74) 5), defBody (inClass (top 74) 5), defScope (inClass (top 74) 5), [], []⟩
def dM14 : He.DefD := ⟨("Workbench", some "drop"), "drop", "Workbench.drop", defArgs (inClass (top 74) 6), defBody (inClass (top 74) 6), defScope (inClass (top 74) 6), [], []⟩
def dM15 : He.DefD := ⟨("Workbench", some "change_all"), "change_all", "Workbench.change_all", defArgs (inClass (top 74) 9), defBody (inClass (top 74) 9), defScope (inClass (top 74) 9), [], []⟩
def dM16 : He.DefD := ⟨("Workbench", some "shape_names"), "shape_names", "Workbench.shape_names", defArgs (inClass (top 74) 10), defBody (inClass (top 74) 10), defScope (inClass (top 74) 10), [], []⟩
def dM17 : He.DefD := ⟨("Workbench", some "question_names"), "question_names", "Workbench.question_names", defArgs (inClass (top 74) 11), defBody (inClass (top 74) 11), defScope (inClass (top 74) 11), [], []⟩
def dM18 : He.DefD := ⟨("Workbench", some "shape"), "shape", "Workbench.shape", defArgs (inClass (top 74) 12), defBody (inClass (top 74) 12), defScope (inClass (top 74) 12), [], []⟩
def dM19 : He.DefD := ⟨("Workbench", some "question"), "question", "Workbench.question", defArgs (inClass (top 74) 13), defBody (inClass (top 74) 13), defScope (inClass (top 74) 13), [], []⟩
def dM20 : He.DefD := ⟨("Workbench", some "_board"), "_board", "Workbench._board", defArgs (inClass (top 74) 16), defBody (inClass (top 74) 16), defScope (inClass (top 74) 16), [], []⟩
def dM21 : He.DefD := ⟨("Workbench", some "_behind"), "_behind", "Workbench._behind", defArgs (inClass (top 74) 17), defBody (inClass (top 74) 17), defScope (inClass (top 74) 17), [], []⟩
def dM22 : He.DefD := ⟨("Workbench", some "_with_shape"), "_with_shape", "Workbench._with_shape", defArgs (inClass (top 74) 18), defBody (inClass (top 74) 18), defScope (inClass (top 74) 18), [], []⟩
def dM23 : He.DefD := ⟨("Workbench", some "undo"), "undo", "Workbench.undo", defArgs (inClass (top 74) 7), defBody (inClass (top 74) 7), defScope (inClass (top 74) 7), [], []⟩
def dM24 : He.DefD := ⟨("Workbench", some "redo"), "redo", "Workbench.redo", defArgs (inClass (top 74) 8), defBody (inClass (top 74) 8), defScope (inClass (top 74) 8), [], []⟩
def fns : List He.DefD := [gDef "blocks_of" 13, gDef "listed" 16, gDef "is_integer" 82, gDef "require" 83, gDef "amount_bounds" 84, gDef "number_lengths" 85, gDef "bytes_lengths" 86, gDef "text_lengths" 87, gDef "repeat_lengths" 88, gDef "either_lengths" 89, gDef "switch_lengths" 90, gDef "check_lengths" 91, gDef "pad_lengths" 92,
  gDef "list_lengths" 94, gDef "is_name" 104, gDef "is_row" 105, gDef "copied_list" 106, gDef "copied_item" 107, gDef "copied_choices" 108, gDef "copied_cases" 109, gDef "law" 128, dInit, gDef "_law_row" 112, gDef "_law_numbers" 113, gDef "_law_names" 114, gDef "with_blocks" 14, gDef "edited" 17, gDef "named" 71, gDef "without" 72, gDef "_law_small" 115, gDef "_law_new" 116, gDef "_law_words" 117, gDef "_law_names_in" 118, gDef "_law_edited" 119, gDef "_law_valid" 120, gDef "_law_fault" 121, gDef "_law_next" 122, gDef "_law_told" 123, gDef "_law_change" 124, gDef "_law_tried_all" 125, gDef "_law_undone" 126, gDef "_law_redone" 127, dM0, dM1, dM2, dM3, dM4, dM5, dM6, dM7, dM8, dM9, dM10, dM11, dM12, dM13, dM14, dM15, dM16, dM17, dM18, dM19, dM20, dM21, dM22, dM23, dM24]
def fas : List He.Fa := [.glo "blocks_of", .glo "listed", .glo "is_integer", .glo "require", .glo "amount_bounds", .glo "number_lengths", .glo "bytes_lengths", .glo "text_lengths", .glo "repeat_lengths", .glo "either_lengths", .glo "switch_lengths", .glo "check_lengths", .glo "pad_lengths",
  .glo "list_lengths", .glo "is_name", .glo "is_row", .glo "copied_list", .glo "copied_item", .glo "copied_choices", .glo "copied_cases", .glo "law", .glo "law", .glo "law", .glo "law",
  .glo "Shape", .glo "InvalidShape", .glo "ByteshapeError", .glo "PARTS", .glo "RULES", .glo "WITH_BLOCKS", .glo "MULTIPLES",
  .free "isinstance", .free "int", .free "bool", .free "str", .free "list", .free "tuple", .free "len", .free "all", .free "dict", .free "set", .free "min", .free "max", .free "range", .free "abs", .free "ValueError",
  .int "LONGEST_NAME" 12, .int "LONGEST_LIST" 12, .int "DEEPEST" 3, .int "MOST_ITEMS" 30, .int "GREATEST_BYTE" 255, .int "GREATEST_PAIR" 65535, .int "GREATEST_LENGTH" 64, .int "GREATEST_COUNT" 16, .int "GREATEST_MODULUS" 16,
  .str "LETTERS" letters, .str "DIGITS" digits, .cls "Shape", .noat "Shape" "parts", .noat "Shape" "_rows", .noat "Shape" "names", .noat "Shape" "_least", .noat "Shape" "_greatest", .noat "Shape" "_row_of", .mkr "Shape", .exc "InvalidShape", .exm "InvalidShape" "InvalidShape" true, .glo "_law_row", .glo "_law_numbers", .glo "_law_names", .glo "with_blocks", .glo "edited", .glo "named", .glo "without", .glo "_law_small", .glo "_law_new", .glo "_law_words", .glo "_law_names_in", .glo "_law_edited", .glo "_law_valid", .glo "_law_fault", .glo "_law_next", .glo "_law_told", .glo "_law_change", .glo "_law_tried_all", .glo "_law_undone", .glo "_law_redone", .glo "UnknownName", .glo "NameInUse", .glo "InvalidQuestion", .glo "Board", .glo "Workbench", .glo "WORDS", .meth "Shape" "_row", .meth "Shape" "with_item", .meth "Shape" "without_item", .meth "Board" "with_entry", .meth "Board" "without_shape", .meth "Board" "with_question", .meth "Board" "without_question", .meth "Workbench" "set_shape", .meth "Workbench" "remove_shape", .meth "Workbench" "replace_item", .meth "Workbench" "remove_item", .meth "Workbench" "ask", .meth "Workbench" "drop", .meth "Workbench" "change_all", .meth "Workbench" "shape_names", .meth "Workbench" "question_names", .meth "Workbench" "shape", .meth "Workbench" "question", .meth "Workbench" "_board", .meth "Workbench" "_behind", .meth "Workbench" "_with_shape", .meth "Workbench" "undo", .meth "Workbench" "redo", .cls "Board", .cls "Workbench", .noat "Board" "shapes", .noat "Board" "questions", .noat "Workbench" "decided", .noat "Workbench" "kept", .noat "Workbench" "_boards", .noat "Workbench" "_at", .noat "Workbench" "_entries", .noat "Workbench" "_known", .mkr "Board", .mkr "Workbench", .exc "InvalidQuestion", .free "super", .free "zip", .free "any", .free "sorted", .glo "NothingToUndo", .glo "NothingToRedo", .exc "NothingToUndo", .exc "NothingToRedo", .exm "UnknownName" "UnknownName" true, .exm "NameInUse" "UnknownName" false, .exm "NameInUse" "NameInUse" true, .exm "InvalidShape" "UnknownName" false, .exm "InvalidShape" "NameInUse" false, .exm "InvalidQuestion" "UnknownName" false, .exm "InvalidQuestion" "NameInUse" false, .exm "InvalidQuestion" "InvalidShape" false, .exm "InvalidQuestion" "InvalidQuestion" true, .exm "NothingToUndo" "NothingToUndo" true, .exm "NothingToRedo" "NothingToUndo" false, .exm "NothingToRedo" "NothingToRedo" true]
def kinds : List (Str × He.Dv) := [("number", .int 6), ("bytes", .int 3), ("text", .int 4), ("repeat", .int 4), ("either", .int 3), ("switch", .int 4), ("check", .int 3), ("pad", .int 4)]
def rules : List (Str × He.Dv) := [("number", .glo "number_lengths"), ("bytes", .glo "bytes_lengths"), ("text", .glo "text_lengths"), ("repeat", .glo "repeat_lengths"), ("either", .glo "either_lengths"), ("switch", .glo "switch_lengths"), ("check", .glo "check_lengths"), ("pad", .glo "pad_lengths")]
def wordsT : List (Str × He.Dv) := [("ways", .int 1), ("shortest", .int 1), ("longest", .int 1), ("covers", .int 2), ("same", .int 2)]
def oddB (K : PySem.W.Frag) : Bool := oddWords.all fun z => He.eqO (PySem.W.nsIn K (He.ga K "PARTS") z) (some none)
def tbs : List He.Tab := [(fun K => He.ga K "PARTS", kinds.map (·.1)), (fun K => He.ga K "RULES", rules.map (·.1)), (fun K => He.ga K "WORDS", wordsT.map (·.1))]
def excB (K : PySem.W.Frag) (D : Addr) : Bool :=
  He.eqO (PySem.W.findIn K (.ref D) "__getattribute__") (some (some (.builtin "BaseException.__getattribute__"))) && (He.eqO (PySem.W.findIn K (.ref D) "__getattr__") (some none) && (decide (PySem.W.subIn K (.ref D) (.type "BaseException") = some true) && (PySem.W.hasDictIn K D &&
  (He.eqO (PySem.W.findIn K (.ref D) "__class__") (some (some (.builtin "object.__class__"))) && (He.eqO (PySem.W.specialIn K (.builtin "object.__class__") "__get__") (some (some (.builtin "getset_descriptor.__get__"))) && (decide (PySem.W.takesIn K (.builtin "object.__class__") = some true) && decide (PySem.W.mroIn K D (.type "object") = some true)))))))
def kitB2 (K : PySem.W.Frag) : Bool := oddB K
def exs (K : PySem.W.Frag) : Bool := He.tupB K "WITH_BLOCKS" [.str "repeat", .str "either", .str "switch"] && (He.tupB K "MULTIPLES" [.int 1, .int 2, .int 4, .int 8, .int 16] && (He.valsB K (He.ga K "PARTS") kinds && (He.valsB K (He.ga K "RULES") rules && (excB K (He.ga K "InvalidShape") && kitB2 K))))
def unkAt (K : PySem.W.Frag) : Addr := He.ma K (He.ga K "UnknownName") "__init__"
def unkV (K : PySem.W.Frag) : He.FnV := some ("__init__", "UnknownName.__init__", defArgs (inClass (top 7) 0), .stmts (defBody (inClass (top 7) 0)), defScope (inClass (top 7) 0), mainGlobals, [(("__class__" : Str), Rj.ccOf K (unkAt K))], .none, builtinsNs)
def useAt (K : PySem.W.Frag) : Addr := He.ma K (He.ga K "NameInUse") "__init__"
def useV (K : PySem.W.Frag) : He.FnV := some ("__init__", "NameInUse.__init__", defArgs (inClass (top 9) 0), .stmts (defBody (inClass (top 9) 0)), defScope (inClass (top 9) 0), mainGlobals, [(("__class__" : Str), Rj.ccOf K (useAt K))], .none, builtinsNs)
def exs4 (file : Str) (K : PySem.W.Frag) : Bool := excB K (He.ga K "UnknownName") && (Rj.oexB K (He.ga K "UnknownName") && (Rj.codR K (unkAt K) && (decide (PySem.W.typeIn K (.ref (unkAt K)) = some (.type "function")) && (He.eqO (PySem.W.findIn K (.ref (He.ga K "UnknownName")) "__init__") (some (some (.ref (unkAt K)))) && (He.eqO (PySem.W.findIn K (.ref (He.ga K "UnknownName")) "name") (some none) && (PySem.W.codeIn K (.ref (Rj.cdOf K (unkAt K))) "UnknownName.__init__" && (Rj.supB file K (unkAt K) (He.ga K "UnknownName") && (excB K (He.ga K "NameInUse") && (Rj.oexB K (He.ga K "NameInUse") && (Rj.codR K (useAt K) && (decide (PySem.W.typeIn K (.ref (useAt K)) = some (.type "function")) && (He.eqO (PySem.W.findIn K (.ref (He.ga K "NameInUse")) "__init__") (some (some (.ref (useAt K)))) && (He.eqO (PySem.W.findIn K (.ref (He.ga K "NameInUse")) "name") (some none) && (PySem.W.codeIn K (.ref (Rj.cdOf K (useAt K))) "NameInUse.__init__" && (Rj.supB file K (useAt K) (He.ga K "NameInUse") && (He.valsB K (He.ga K "WORDS") wordsT && (He.eqO (PySem.W.nsIn K (He.ga K "WORDS") "way") (some none) && (decide (¬ He.ga K "Workbench" = He.ga K "Board") && (decide (¬ He.ga K "Workbench" = He.ga K "Shape"))))))))))))))))))))
end Bs

set_option Elab.async false
set_option linter.all false
set_option maxRecDepth 100000
set_option maxHeartbeats 2000000
/-! the head of a large top: the run over the heap as a tree, and what it leaves as a written part found by a walk with a bitset -/
namespace Hb
open PySem PySem.Spec PyProof.Rows L2
/-- what an object names, a code object nothing -/
def refsB (o : Obj) : List Addr := match o.data with
  | .fields _ => []
  | _ => He.refsD o
def vis {α : Type} : List Addr → List Addr → Nat → (List Addr → Nat → α) → α
  | [], out, m, k => k out m
  | r :: rs, out, m, k => match Nat.testBit m r with
    | true => vis rs out m k
    | false => HandSHeadRun.frNat r fun r' => HandSHeadRun.frNat (m ||| (1 <<< r')) fun m' => vis rs (r' :: out) m' k
def visAll {α : Type} (g : Addr → Option Obj) : List Addr → List Addr → Nat → (List Addr → Nat → α) → α
  | [], out, m, k => k out m
  | a :: r, out, m, k => match g a with
    | some o => vis (refsB o) out m fun out' m' => visAll g r out' m' k
    | none => visAll g r out m k
def lvl (g : Addr → Option Obj) : Nat → List Addr → Nat → List Addr
  | 0, fr, _ => fr
  | n + 1, fr, m => fr ++ visAll g fr [] m fun new m' => lvl g n new m'
/-- the written part, made whole before it is looked at -/
def frK {α : Type} (g : Addr → Option Obj) : List Addr → PySem.W.Frag → (PySem.W.Frag → α) → α
  | [], acc, k => k acc
  | a :: r, acc, k => match g a with
    | some ⟨c, d, dt, sl⟩ => frK g r ((a, ⟨c, d, dt, sl⟩) :: acc) k
    | none => frK g r acc k
theorem frK_in {α : Type} {h : Heap} (k : PySem.W.Frag → α) : ∀ (as : List Addr) (acc : PySem.W.Frag), (∀ q ∈ acc, h.get? q.1 = some q.2) → ∃ K : PySem.W.Frag, K.In h ∧ frK h.get? as acc k = k K
  | [], acc, ha => ⟨acc, fun a o e => ha (a, o) (by
      clear ha
      induction acc with
      | nil => cases e
      | cons q r ih =>
        obtain ⟨b, u⟩ := q
        have h2 : (match a == b with | true => some u | false => r.lookup a) = some o := e
        cases t : (a == b) with
        | true =>
          rw [t] at h2
          have e1 : u = o := Option.some.inj h2
          rw [beq_iff_eq.mp t, e1]
          exact List.mem_cons_self
        | false =>
          rw [t] at h2
          exact List.mem_cons_of_mem _ (ih h2)), rfl⟩
  | a :: r, acc, ha => by
    unfold frK
    cases e : h.get? a with
    | none => exact frK_in k r acc ha
    | some o =>
      obtain ⟨c, d, dt, sl⟩ := o
      refine frK_in k r _ fun q hq => ?_
      rcases List.mem_cons.mp hq with rfl | hq
      · exact e
      · exact ha q hq
/-- a def's facts, the closure's cell left open -/
def dropC : He.FnV → He.FnV
  | some (a, b, c, d, e, f, g, h, i) => some (a, b, c, d, e, f, g.map (fun q => (q.1, 0)), h, i)
  | none => none
theorem dropC_ok {K : PySem.W.Frag} {f : Addr} {a b : Str} {c : Arguments} {d : FuncBody} {e : Scope} {i j : Addr} {x : Str} {h : Value} (q : dropC (Rj.defAt K f) = some (a, b, c, d, e, i, [(x, 0)], h, j)) : Rj.defAt K f = some (a, b, c, d, e, i, [(x, Rj.ccOf K f)], h, j) := by
  unfold Rj.defAt at q ⊢
  unfold Rj.ccOf
  cases z : K.lookup f with
  | none => rw [z] at q; cases q
  | some o =>
    obtain ⟨oc, od, dt, osl⟩ := o
    rw [z] at q
    cases dt with
    | func fd =>
      obtain ⟨n1, n2, n3, n4, n5, n6, n7, n8, n9, n10, n11, n12, n13, n14, n15⟩ := fd
      have q2 : (some (n1, n2, n3, n4, n5, n6, n7.map (fun q => (q.1, (0 : Addr))), n8, n15) : He.FnV) = some (a, b, c, d, e, i, [(x, 0)], h, j) := q
      simp only [Option.some.injEq, Prod.mk.injEq] at q2
      obtain ⟨g1, g2, g3, g4, g5, g6, g7, g8, g9⟩ := q2
      match n7, g7 with
      | [(y, cc)], g7 =>
        simp only [List.map_cons, List.map_nil, List.cons.injEq, Prod.mk.injEq, and_true] at g7
        show (some (n1, n2, n3, n4, n5, n6, [(y, cc)], n8, n15) : He.FnV) = some (a, b, c, d, e, i, [(x, cc)], h, j)
        rw [g1, g2, g3, g4, g5, g6, g7, g8, g9]
    | _ => cases q
abbrev AlB : Type := He.AlT × Bool × List He.FnV
/-- where the walk begins -/
def start : List Addr := [mainGlobals, cStatics]
def startM : Nat := (1 <<< mainGlobals) ||| (1 <<< cStatics)
section
variable (n : Nat) (fa : List He.Fa) (fn : List He.DefD) (ts : List He.Tab) (ex : PySem.W.Frag → Bool) (xs : List ((PySem.W.Frag → Addr) × He.FnV))
def look (K : PySem.W.Frag) : AlB := (He.obsT fa fn ts K, ex K, xs.map fun x => dropC (Rj.defAt K (x.1 K)))
def obsB (g : Addr → Option Obj) : AlB := frK g (lvl g n start startM) [] (look fa fn ts ex xs)
def valB (w : World) : AlB := (He.valT fn ts w, true, xs.map (·.2))
structure SaysB (w : World) (K : PySem.W.Frag) : Prop where
  t : He.SaysT fa fn ts w K
  more : ex K = true
  xd : xs.map (fun x => dropC (Rj.defAt K (x.1 K))) = xs.map (·.2)
def hookB : PySem.W.Hook where
  α := AlB
  obs := fun s => obsB n fa fn ts ex xs s.heap.get?
  val := fun w => valB fn ts xs w
  says := fun w h => ∃ K : PySem.W.Frag, K.In h ∧ SaysB fa fn ts ex xs w K
  of := fun w s e => by
    obtain ⟨K, hK, e2⟩ := frK_in (h := s.heap) (look fa fn ts ex xs) (lvl s.heap.get? n start startM) [] (fun q hq => by cases hq)
    have e3 : look fa fn ts ex xs K = valB fn ts xs w := e2.symm.trans e
    refine ⟨K, hK, congrArg (fun z : AlB => z.1) e3, congrArg (fun z : AlB => z.2.1) e3, congrArg (fun z : AlB => z.2.2) e3⟩
  keeps := fun _ _ _ ⟨K, hK, c⟩ k => ⟨K, PySem.W.Frag.In.keeps hK k, c⟩
theorem obsB_eq {g : Addr → Option Obj} {s : Shared} (h : ∀ a, g a = s.heap.get? a) : obsB n fa fn ts ex xs g = (hookB n fa fn ts ex xs).obs s := by
  have e : g = s.heap.get? := funext h
  rw [e] <;> rfl
end
section
variable {fa : List He.Fa} {fn : List He.DefD} {ts : List He.Tab} {ex : PySem.W.Frag → Bool} {xs : List ((PySem.W.Frag → Addr) × He.FnV)} {w : World} {K : PySem.W.Frag}
theorem SaysB.x (c : SaysB fa fn ts ex xs w K) (i : Nat) {x : (PySem.W.Frag → Addr) × He.FnV} (h : xs[i]? = some x := by rfl) : dropC (Rj.defAt K (x.1 K)) = x.2 := by
  have e2 : (xs.map fun x => dropC (Rj.defAt K (x.1 K)))[i]? = (xs.map (·.2))[i]? := by rw [c.xd]
  rw [List.getElem?_map, List.getElem?_map, h] at e2
  exact Option.some.inj e2
end
/-! ### one run's looks from several -/
theorem frK_eq {α : Type} (g : Addr → Option Obj) (k : PySem.W.Frag → α) : ∀ (as : List Addr) (acc : PySem.W.Frag), frK g as acc k = k (frK g as acc id)
  | [], acc => rfl
  | a :: r, acc => by
    unfold frK
    cases g a with
    | none => exact frK_eq g k r acc
    | some o =>
      obtain ⟨c, d, dt, sl⟩ := o
      exact frK_eq g k r _
theorem both {α β γ : Type} {x : Option α} {f : α → β} {g : α → γ} {a : β} {b : γ} (h1 : x.map f = some a) (h2 : x.map g = some b) : x.map (fun s => (f s, g s)) = some (a, b) := by
  cases x with
  | none => cases h1
  | some s =>
    have e1 := Option.some.inj h1
    have e2 := Option.some.inj h2
    show some (f s, g s) = _
    rw [e1, e2]
theorem mapped {α β γ : Type} {x : Option α} {f : α → β} {a : β} (h : x.map f = some a) (k : β → γ) : x.map (fun s => k (f s)) = some (k a) := by
  cases x with
  | none => cases h
  | some s =>
    have e1 := Option.some.inj h
    show some (k (f s)) = _
    rw [e1]
end Hb

set_option Elab.async false
set_option linter.all false
set_option maxRecDepth 100000
set_option maxHeartbeats 0
namespace HT
open PySem PySem.W PySem.Calls PyProof.Rows HandSHeadRun
abbrev R : OpenRow := OpenLaw.row PySem.Challenge.rw_byteshape_k86_all_changes_or_none
abbrev qv : Program := view R.prog [128]
def fileT : PySem.Str := (PySem.Challenge.rw_byteshape_k86_all_changes_or_none).prog.main.file
def unk0 : He.FnV := some ("__init__", "UnknownName.__init__", L2.defArgs (L2.inClass (Bs.top 7) 0), .stmts (L2.defBody (L2.inClass (Bs.top 7) 0)), L2.defScope (L2.inClass (Bs.top 7) 0), mainGlobals, [(("__class__" : PySem.Str), 0)], .none, builtinsNs)
def use0 : He.FnV := some ("__init__", "NameInUse.__init__", L2.defArgs (L2.inClass (Bs.top 9) 0), .stmts (L2.defBody (L2.inClass (Bs.top 9) 0)), L2.defScope (L2.inClass (Bs.top 9) 0), mainGlobals, [(("__class__" : PySem.Str), 0)], .none, builtinsNs)
def ex (K : PySem.W.Frag) : Bool := Bs.exs K && Bs.exs4 fileT K
def xs : List ((PySem.W.Frag → Addr) × He.FnV) := [(Bs.unkAt, unk0), (Bs.useAt, use0)]
def n0 : List PySem.Str := [("_wall" : PySem.Str), ("ByteshapeError" : PySem.Str), ("InvalidShape" : PySem.Str), ("InvalidQuestion" : PySem.Str), ("NothingToUndo" : PySem.Str), ("NothingToRedo" : PySem.Str), ("UnknownName" : PySem.Str), ("TooMany" : PySem.Str), ("NameInUse" : PySem.Str), ("require_few" : PySem.Str), ("blocks_of" : PySem.Str), ("with_blocks" : PySem.Str), ("number_used" : PySem.Str), ("listed" : PySem.Str), ("edited" : PySem.Str), ("OUTERMOST" : PySem.Str), ("NOBODY" : PySem.Str), ("Layout" : PySem.Str), ("FRESH" : PySem.Str), ("second_bytes" : PySem.Str), ("take_number" : PySem.Str), ("taken" : PySem.Str), ("LIMIT" : PySem.Str), ("DONE" : PySem.Str), ("sets_of" : PySem.Str), ("Machine" : PySem.Str), ("MOST_KEPT" : PySem.Str), ("Spread" : PySem.Str), ("lengths" : PySem.Str), ("shortest" : PySem.Str), ("longest" : PySem.Str), ("NO_STATES" : PySem.Str), ("Lists" : PySem.Str), ("Tables" : PySem.Str), ("Runs" : PySem.Str)]
def n1 : List PySem.Str := [("Pairs" : PySem.Str), ("Beside" : PySem.Str), ("Finder" : PySem.Str), ("file_of" : PySem.Str), ("Order" : PySem.Str), ("first_goal_file" : PySem.Str), ("leading" : PySem.Str), ("states_before" : PySem.Str), ("state_levels" : PySem.Str), ("first_paths" : PySem.Str), ("further_rows" : PySem.Str), ("TwoWays" : PySem.Str), ("two_ways" : PySem.Str), ("cover_order" : PySem.Str), ("covers" : PySem.Str), ("same_files" : PySem.Str), ("WORDS" : PySem.Str), ("decide" : PySem.Str), ("length_answer" : PySem.Str), ("file_answer" : PySem.Str), ("named" : PySem.Str), ("without" : PySem.Str), ("Board" : PySem.Str), ("Workbench" : PySem.Str), ("GREATEST_BYTE" : PySem.Str), ("GREATEST_PAIR" : PySem.Str), ("GREATEST_LENGTH" : PySem.Str), ("GREATEST_COUNT" : PySem.Str), ("GREATEST_MODULUS" : PySem.Str), ("MULTIPLES" : PySem.Str), ("is_integer" : PySem.Str), ("require" : PySem.Str), ("amount_bounds" : PySem.Str), ("number_lengths" : PySem.Str), ("bytes_lengths" : PySem.Str)]
def n2 : List PySem.Str := [("text_lengths" : PySem.Str), ("repeat_lengths" : PySem.Str), ("either_lengths" : PySem.Str), ("switch_lengths" : PySem.Str), ("check_lengths" : PySem.Str), ("pad_lengths" : PySem.Str), ("RULES" : PySem.Str), ("list_lengths" : PySem.Str), ("LETTERS" : PySem.Str), ("DIGITS" : PySem.Str), ("LONGEST_NAME" : PySem.Str), ("DEEPEST" : PySem.Str), ("LONGEST_LIST" : PySem.Str), ("MOST_ITEMS" : PySem.Str), ("PARTS" : PySem.Str), ("WITH_BLOCKS" : PySem.Str), ("is_name" : PySem.Str), ("is_row" : PySem.Str), ("copied_list" : PySem.Str), ("copied_item" : PySem.Str), ("copied_choices" : PySem.Str), ("copied_cases" : PySem.Str), ("Shape" : PySem.Str), ("_law_row" : PySem.Str), ("_law_numbers" : PySem.Str), ("_law_names" : PySem.Str), ("_law_small" : PySem.Str), ("_law_new" : PySem.Str), ("_law_words" : PySem.Str), ("_law_names_in" : PySem.Str), ("_law_edited" : PySem.Str), ("_law_valid" : PySem.Str), ("_law_fault" : PySem.Str), ("_law_next" : PySem.Str), ("_law_told" : PySem.Str)]
def n3 : List PySem.Str := [("_law_change" : PySem.Str), ("_law_tried_all" : PySem.Str), ("_law_undone" : PySem.Str), ("_law_redone" : PySem.Str)]
def names : List PySem.Str := n0 ++ n1 ++ n2 ++ n3
abbrev hk : PySem.W.Hook := Hb.hookB 5 Bs.fas Bs.fns Bs.tbs ex xs
def ob (s : PySem.W.SharedT) : Hb.AlB := Hb.obsB 5 Bs.fas Bs.fns Bs.tbs ex xs (HandSHeadRun.getT s)
theorem ob_eq (s : PySem.W.SharedT) : ob s = hk.obs s.abs := Hb.obsB_eq _ _ _ _ _ _ (HandSHeadRun.getT_eq s)
noncomputable abbrev endE (w : World) (os : OsState) : Option PySem.W.SharedT := endF (stepQ (denQ tabQ) R.prog w) 20000 R.prog w os
abbrev kOf {α : Type} (s : PySem.W.SharedT) (k : PySem.W.Frag → α) : α := Hb.frK (HandSHeadRun.getT s) (Hb.lvl (HandSHeadRun.getT s) 5 Hb.start Hb.startM) [] k
def l2 (K : PySem.W.Frag) : Bool := Bs.fas.all fun f => f.ok K
def l3 (K : PySem.W.Frag) : Bool × List He.FnW := (Bs.fns.all fun d => d.ok K, Bs.fns.map fun d => He.fnW K d.at_)
def l4 (K : PySem.W.Frag) : List (Option (List (Option (PySem.Str × Int)))) × Bool × List He.FnV := (Bs.tbs.map fun t => He.dicW K (t.1 K), ex K, xs.map fun x => Hb.dropC (Rj.defAt K (x.1 K)))
def P1 (w : World) : Prop := ∀ os : OsState, (endE w os).map (fun s => (looksF R.prog (boot_heap w.params) s.abs, seenQ qv names (importedModules R.prog.main.body) (fun s => xlAt qv [] s && recOk R.toRowW.records s) s.abs)) = some (true, openGood qv names)
def P2 (w : World) : Prop := ∀ os : OsState, (endE w os).map (fun s => kOf s l2) = some true
def P3 (w : World) : Prop := ∀ os : OsState, (endE w os).map (fun s => kOf s l3) = some (true, Bs.fns.map He.DefD.val)
def P4 (w : World) : Prop := ∀ os : OsState, (endE w os).map (fun s => kOf s l4) = some (Bs.tbs.map fun t => some (He.keysIn w.params t.2), true, xs.map (·.2))
end HT

set_option Elab.async false
set_option linter.all false
set_option maxRecDepth 100000
set_option maxHeartbeats 0
namespace HT
open PySem PySem.W PySem.Calls PyProof.Rows HandSHeadRun
theorem r1f (w : World) : P1 (w.withFollow "special-get-raises" false) := by
  intro os
  kernel_rfl
theorem r1t (w : World) : P1 (w.withFollow "special-get-raises" true) := by
  intro os
  kernel_rfl
theorem r1 (w : World) : P1 w := byRow2 "special-get-raises" (P := P1) r1f r1t w
end HT

set_option Elab.async false
set_option linter.all false
set_option maxRecDepth 100000
set_option maxHeartbeats 0
namespace HT
open PySem PySem.W PySem.Calls PyProof.Rows HandSHeadRun
theorem r2f (w : World) : P2 (w.withFollow "special-get-raises" false) := by
  intro os
  kernel_rfl
theorem r2t (w : World) : P2 (w.withFollow "special-get-raises" true) := by
  intro os
  kernel_rfl
theorem r2 (w : World) : P2 w := byRow2 "special-get-raises" (P := P2) r2f r2t w
end HT

set_option Elab.async false
set_option linter.all false
set_option maxRecDepth 100000
set_option maxHeartbeats 0
namespace HT
open PySem PySem.W PySem.Calls PyProof.Rows HandSHeadRun
theorem r3f (w : World) : P3 (w.withFollow "special-get-raises" false) := by
  intro os
  kernel_rfl
theorem r3t (w : World) : P3 (w.withFollow "special-get-raises" true) := by
  intro os
  kernel_rfl
theorem r3 (w : World) : P3 w := byRow2 "special-get-raises" (P := P3) r3f r3t w
end HT

set_option Elab.async false
set_option linter.all false
set_option maxRecDepth 100000
set_option maxHeartbeats 0
namespace HT
open PySem PySem.W PySem.Calls PyProof.Rows HandSHeadRun
theorem r4f (w : World) : P4 (w.withFollow "special-get-raises" false) := by
  intro os
  kernel_rfl
theorem r4t (w : World) : P4 (w.withFollow "special-get-raises" true) := by
  intro os
  kernel_rfl
theorem r4 (w : World) : P4 w := byRow2 "special-get-raises" (P := P4) r4f r4t w
end HT

set_option Elab.async false
set_option linter.all false
set_option maxRecDepth 100000
set_option maxHeartbeats 0
namespace HT
open PySem PySem.W PySem.Calls PyProof.Rows HandSHeadRun
theorem run (w : World) : HandSHeadRun.RunEq R qv hk ob 20000 names w := by
  intro os
  have h := Hb.mapped (Hb.both (Hb.both (r1 w os) (r2 w os)) (Hb.both (r3 w os) (r4 w os))) (fun z : ((Bool × _) × Bool) × ((Bool × List He.FnW) × (List (Option (List (Option (PySem.Str × Int)))) × Bool × List He.FnV)) => (z.1.1.1, z.1.1.2, (((z.1.2 && z.2.1.1, z.2.1.2), z.2.2.1), z.2.2.2.1, z.2.2.2.2)))
  have e : ∀ s, ob s = ((((kOf s l2) && (kOf s l3).1, (kOf s l3).2), (kOf s l4).1), (kOf s l4).2.1, (kOf s l4).2.2) := fun s => by
    unfold ob Hb.obsB kOf
    rw [Hb.frK_eq _ (Hb.look _ _ _ _ _), Hb.frK_eq _ l2, Hb.frK_eq _ l3, Hb.frK_eq _ l4]
    rfl
  refine Eq.trans (congrArg (fun f => Option.map f (endE w os)) (funext fun s => ?_)) h
  show (_, _, ob s) = _
  rw [e s]
end HT

set_option Elab.async false
set_option linter.all false
set_option maxRecDepth 100000
set_option maxHeartbeats 4000000
namespace Rj
open PySem PySem.Spec PyProof.Rows L2

/-! ### a list comprehension whose element may raise -/
/-- an exception that a call in the block let out: sI is the state ahead of it, in the block's context Y -/
def Fell (Y : Cx) (E : XK) (u : Value) (s' : Shared) : Prop :=
  ∃ (a : Addr) (B : Heap) (sI : Shared) (pn : List (Addr × Obj)) (σ : L2.St) (H : Hp) (cls : Value) (d : Option Addr), u = .ref a ∧ Inv Y pn σ H sI ∧
    (∀ b o, sI.heap.get? b = some o → b ∉ frs Y.stack → B.get? b = some o) ∧ sI.heap.UpToSlots s'.heap ∧ HandSPX.FlyingZ B Y.stack a (Zc cls d) s'.heap ∧ H a = none ∧ s'.os = sI.os ∧ AllBare s'.gens ∧ E cls d H

theorem fell_of_call {Y : Cx} {pn : List (Addr × Obj)} {σ : L2.St} {H : Hp} {s s' : Shared} {E : XK} {u : Value} (I : Inv Y pn σ H s) (c : L2.CX Y.prog Y.w Y.stack H s E u s') : Fell Y E u s' := by
  obtain ⟨a, B, H', cls, d, eu, fl, hok, ub, na, eo, ag, hE⟩ := c
  obtain ⟨G, gin, gout⟩ := restrict s'.heap fun b => (B.get? b).isSome || decide (b ∈ frs Y.stack)
  have stay : B.StaysIn s'.heap := fl.1
  have ofB : ∀ b o, B.get? b = some o → G.get? b = some o := fun b o e => (gin b (by simp [e])).trans (stay b o e)
  have ofF : ∀ b, b ∈ frs Y.stack → G.get? b = s'.heap.get? b := fun b hb => gin b (by simp [hb])
  have back : ∀ b o, G.get? b = some o → s'.heap.get? b = some o ∧ ((B.get? b).isSome = true ∨ b ∈ frs Y.stack) := fun b o e => by
    by_cases q : ((B.get? b).isSome || decide (b ∈ frs Y.stack)) = true
    · exact ⟨(gin b q).symm.trans e, by simpa using q⟩
    · have z := gout b (by simpa using q)
      rw [z] at e
      cases e
  refine ⟨a, B, ⟨G, s'.gens, s'.drawn, s'.toks, s.os⟩, pn, σ, H', cls, d, eu, ?_, fun b o e hb => ?_, Heap.UpToSlots.of_keeps fun b o e => (back b o e).1, fl, na, eo, ag, hE⟩
  · exact I.call (ch := []) ⟨fun b o e n hb _ => ofB b o (ub.keep b o e n hb), fun b o e n hb _ => (ub.slot b o e hb).imp fun sl q => (ofF b hb).trans q, fun b o e n _ => ub.free b o e n,
      fun b o e _ => (Classical.em (b ∈ frs Y.stack)).elim (fun hb => let ⟨sl, q⟩ := ub.slot b o e hb; ⟨_, (ofF b hb).trans q⟩) (fun hb => let ⟨o', q⟩ := ub.there b o e hb; ⟨o', ofB b o' q⟩), ub.tups, ub.frzs, ub.tbls⟩
      (hok.kept ofB) ag (fun _ z => nomatch z)
  · obtain ⟨e1, h1⟩ := back b o e
    rcases h1 with h1 | h1
    · obtain ⟨o', q⟩ := Option.isSome_iff_exists.mp h1
      have z := stay b o' q
      rw [e1] at z
      cases z
      exact q
    · exact absurd h1 hb

/-- what may leave the block is passed on -/
theorem fell_passes {Y : Cx} {E : XK} : Passes (L2.CX (Y.wish (Fell Y E)).prog (Y.wish (Fell Y E)).w) (Y.wish (Fell Y E)) E := fun _ _ _ _ _ _ I c => fell_of_call I.unwish c

theorem flyingZ_less {B B' h : Heap} {l : List Env} {e : Addr} {Z : Obj → Prop} (x : HandSPX.FlyingZ B l e Z h) (sub : ∀ b o, B'.get? b = some o → B.get? b = some o) : HandSPX.FlyingZ B' l e Z h := by
  obtain ⟨k1, k2, k3, oe, vs, T, oT, ts, t1, t2, t3, t4, t5, t6⟩ := x
  have nn : ∀ b, B.get? b = none → B'.get? b = none := fun b n => by
    cases q : B'.get? b with
    | none => rfl
    | some o => rw [sub b o q] at n; cases n
  exact ⟨fun b o e => k1 b o (sub b o e), nn _ k2, funFrames_none k3 fun L hL => nn L (k3.mem hL).1, oe, vs, T, oT, ts, t1, t2, t3, t4, nn _ t5, t6⟩

theorem heldZ_but {B h h' : Heap} {l : List Env} {e L C : Addr} {Z : Obj → Prop} {m m' : Str → Option Value} (x : HandSPX.HeldZ B l e Z L h) (nB : B.get? C = none) (hn : h.Ns C m) (hn' : h'.Ns C m') (sb : Heap.SameBut C h h') : HandSPX.HeldZ B l e Z L h' := by
  obtain ⟨k1, k2, k3, oe, vs, T, oT, ts, t1, t2, t3, t4, t5, t6, t7, t8, t9⟩ := x
  obtain ⟨oC, es, ep, c1, c2, _⟩ := hn
  have ne1 : e ≠ C := fun z => by rw [z, c1] at t1; cases t1; rw [c2] at t3; cases t3
  have ne2 : T ≠ C := fun z => by rw [z, c1] at t7; cases t7; rw [c2] at t8; cases t8
  exact ⟨fun b o q => (sb.2 b fun z => by rw [z, nB] at q; cases q).trans (k1 b o q), k2, Heap.FunFrames.sameBut sb hn' k3, oe, vs, T, oT, ts, (sb.2 e ne1).trans t1, t2, t3, t4, t5, t6, (sb.2 T ne2).trans t7, t8, t9⟩

theorem UpToSlots.tr {a b c : Heap} (x : a.UpToSlots b) (y : b.UpToSlots c) : a.UpToSlots c := x.trans y

section
variable {X : Cx}
/-- the exception leaves the block and goes on in the def -/
theorem fell_out {Ex : XK} {pn : List (Addr × Obj)} {σ : L2.St} {H3 : Hp} {s3 s' : Shared} {scope : Scope} {ce : Env} {fp : List Addr} {u : Value}
    (hst : X.stack = X.env :: X.outer) (hfr : X.env.frame = some X.env.locals) (cfr : ce.frame = X.env.frame) (cL : ce.locals = s3.heap.objs.size)
    (tk : Takes X fun cls d _ H => Ex cls d H) (I3 : Inv X pn σ H3 s3)
    (f3 : ∀ b ∈ fp, FpOk X pn H3 b ∧ b < s3.heap.objs.size)
    (x : Fell (X.blk s3 H3 scope ce fp) Ex u s') : notedBy (model X.prog X.w) X.A ce (CompFails (model X.prog X.w) X.A X.xe ce) u s' := by
  obtain ⟨a, B, sI, pb, σb, Hb, cls, d, rfl, Ib, nb, up, fl, na, eo, ag, hE⟩ := x
  have fl : HandSPX.FlyingZ B X.stack a (Zc cls d) s'.heap := fl
  have nb : ∀ b o, sI.heap.get? b = some o → b ∉ frs X.stack → B.get? b = some o := nb
  -- the ground without the block's names
  obtain ⟨B', b1, b2⟩ := restrict B fun b => decide (b ≠ ce.locals)
  have sub : ∀ b o, B'.get? b = some o → B.get? b = some o := fun b o e => by
    by_cases q : b = ce.locals
    · have z := b2 b (by simp [q]); rw [z] at e; cases e
    · exact (b1 b (by simp [q])).symm.trans e
  have nBC : B'.get? ce.locals = none := b2 _ (by simp)
  have fl' := flyingZ_less fl sub
  -- back in the def's context, the block's names hidden
  have I7 : Inv X pn σ Hb sI := I3.call' (ch := fp) Ib.os Ib.base Ib.hok Ib.bare fun b hb => ⟨(f3 b hb).1.2.2.2.1, (f3 b hb).1.2.1, (f3 b hb).1.2.2.2.2.1, (f3 b hb).1.2.2.2.2.2⟩
  have nC : Hb ce.locals = none := Ib.free
  have fC : FpOk X pn Hb ce.locals := I3.fpOk (Nat.le_of_eq cL.symm) nC
  obtain ⟨G, g1, g2⟩ := restrict sI.heap fun b => decide (b ≠ ce.locals)
  obtain ⟨h0, h1, h2, h3, h4, h5⟩ := fC
  have I8 : Inv X pn σ Hb { sI with heap := G, toks := sI.toks } := I7.turned (fun b o hb e => (g1 b (by simp [hb])).trans e) h0 h1 h3 h4 h5
  have subG : ∀ b o, G.get? b = some o → b ≠ ce.locals ∧ sI.heap.get? b = some o := fun b o e => by
    by_cases q : b = ce.locals
    · have z := g2 b (by simp [q]); rw [z] at e; cases e
    · exact ⟨q, (g1 b (by simp [q])).symm.trans e⟩
  obtain ⟨m0, hn0, _⟩ := Ib.loc
  have hn0 : sI.heap.Ns ce.locals m0 := hn0
  have frA : X.A.frames = some (X.env :: X.outer) := by rw [I3.ok.frames, hst]
  rw [hst] at fl'
  show wpAny _ _ (noteFrame (.ref a) ce) _ _ s'
  rw [PySem.noteFrame_env _ cfr]
  refine HandSPX.looks_onZ Zc.steady frA hfr fl' fun k1 held1 upk => ?_
  have up1 : sI.heap.UpToSlots k1 := up.trans upk
  have hn1 : k1.Ns ce.locals m0 := hn0.upToSlots up1
  refine ⟨m0, hn1, fun k2 m2 hn2 sb => ?_⟩
  have held2 := heldZ_but held1 nBC hn1 hn2 sb
  obtain ⟨q1, q2, q3, oe, vs, T, oT, ts, t1, t2, t3, t4, t5⟩ := id held2
  unfold PySem.passOn
  refine wpAny_bind (wpAny_field t1 t3 t4 ?_)
  rw [if_neg (show ¬ ((Value.ref T == Value.none) = true) from by simp)]
  have fin : wpAny (model X.prog X.w) X.A (setFlight (.ref a) ce.frame) (fun _ s4 => wpAny (model X.prog X.w) X.A (throw (.ref a) : Sem Value) (fun _ _ => False) X.xe s4) X.xe { s' with heap := k2 } := by
    rw [cfr, hfr]
    refine HandSPX.setFlight_onZ held2 fun k3 held3 up3 => wpAny_throw (tk _ _ ?_)
    refine ⟨a, B', { sI with heap := G, toks := sI.toks }, pn, σ, Hb, cls, d, rfl, I8, fun b o e hb => ?_, fun b o e hnf => ?_, .inr (.inr (by rw [hst]; exact held3)), na, eo, ag, hE⟩
    · obtain ⟨z1, z2⟩ := subG b o e
      exact (b1 b (by simp [z1])).trans (nb b o z2 hb)
    · obtain ⟨z1, z2⟩ := subG b o e
      obtain ⟨sl, e1⟩ := up1 b o z2 hnf
      obtain ⟨sl', e2⟩ := up3 b _ ((sb.2 b z1).trans e1) hnf
      exact ⟨sl', e2⟩
  first
    | exact wpAny_bind (wpAny_pure (wpAny_bind fin))
    | exact wpAny_bind fin
end
section
variable {X : Cx}
/-- the reading of a comprehension whose element may raise what Ex wants -/
theorem lcx_core {Ex : XK} {pins : List (Addr × Obj)} {s : Shared} {σ : L2.St} {H : Hp} {Q : VK} {elt tg iter : Expr} {scope : Scope} {own : List (Str × Nat)} {pos pos' : Pos} {wi : TI} {g : TG} {te : TE} {use : Option (Value → Sem Unit)} {Qf : Value → Shared → Prop}
    (hc : X.calm = true) (hN : X.N.Nodup) (hst : X.stack = X.env :: X.outer) (hfr : X.env.frame = some X.env.locals) (tk : Takes X fun cls d _ H => Ex cls d H) (I : Inv X pins σ H s) (hi : PI X tg iter wi) (ok : BlkOk X.N X.env.scope scope own)
    (hg : ∀ (s : Shared) (H : Hp) (C : Addr) (cl : List (Str × Addr)) (fp : List Addr), PG (X.blk s H scope (compEnvC scope cl C X.env) fp) tg g)
    (he : ∀ (s : Shared) (H : Hp) (C : Addr) (cl : List (Str × Addr)) (fp : List Addr), PE ((X.blk s H scope (compEnvC scope cl C X.env) fp).wish (Fell (X.blk s H scope (compEnvC scope cl C X.env) fp) Ex)) elt te)
    (hs : ∀ x, foldedSetIterable iter X.env x = pure x) (h : tLc wi g tYes te (own.map (·.2)) σ H Q)
    (hRR : ∀ D ce s' m H', Inv X pins σ H' s' → Q (.ref D) H' → s'.heap.Ns ce.locals m → FpOk X pins H' ce.locals → compEnds (model X.prog X.w) X.A X.xe use Qf (.ref D) ce (.ok .next) s') :
    wpAny (model X.prog X.w) X.A (comprehension (.ListComp elt [⟨tg, iter, [], 0⟩] scope pos) scope X.env pos' (newList []) false (eval iter X.env) use) Qf X.xe s := by
  have frees : ∀ y ∈ scope.names, y.2 = .free → ∃ c, X.env.cells.lookup y.1 = some c := fun y hy e => (ok.free y hy e).elim (fun k => I.ok.has _ (.inl k)) fun k => I.ok.has _ (.inr k)
  refine comprehension_at (use := use) rfl hs (closure_ok frees) ok.kind (fun y hy e => (ok.uniq y hy).trans (congrArg some e)) (thn (hi.run pins s σ H _ I h) fun xv s1 hx => thn hx fun itv s2 h2 => ?_)
  obtain ⟨it, fp, tn, J, H2, eit, I2, T, st2, f2, q⟩ := h2
  subst eit
  refine wpAny_newObj_type (newEnv_comp ?_) (Nat.zero_le _)
  generalize hD : s2.heap.objs.size = D
  have freshD : H2 D = none := I2.hok.fresh (Nat.le_of_eq hD)
  obtain ⟨W, ⟨m0, w0⟩, turn⟩ := q D freshD
  generalize hs3 : ({ s2 with heap := s2.heap.push { cls := .type "list", data := .seq ([] : List Value).toArray } } : Shared) = s3
  have e3 : s3.heap = s2.heap.push { cls := .type "list", data := .seq ([] : List Value).toArray } := by rw [← hs3]
  have kept3 : ∀ b o, s2.heap.get? b = some o → s3.heap.get? b = some o := fun b o e => by rw [e3]; exact Heap.get?_push_of_some _ e
  have I3 : Inv X pins σ (upd H2 D (.lst [])) s3 := by
    subst hs3
    exact I2.laid (t' := s2.toks) kept3 (Nat.le_of_eq hD) ⟨Nat.zero_le _, [], 0, .nil, by rw [← hD]; exact Heap.get?_push_size _ rfl⟩
  have lt2 : ∀ b ∈ fp, b < s2.heap.objs.size := fun b hb => let ⟨o, e, _⟩ := T.obj _ _ st2 b hb; Heap.lt_size e
  have f3 : ∀ b ∈ fp, FpOk X pins (upd H2 D (.lst [])) b ∧ b < s3.heap.objs.size := fun b hb =>
    ⟨⟨(upd_ne (by rw [← hD]; exact Nat.ne_of_lt (lt2 b hb))).trans (f2 b hb).1, (f2 b hb).2⟩, by rw [e3, Heap.size_push]; exact Nat.lt_succ_of_lt (lt2 b hb)⟩
  have st3 : tn 0 s3.heap := T.keep _ _ _ st2 fun b _ o e => kept3 b o e
  have I4 := block_start I3 ok hN f3
  have pg := hg s3 (upd H2 D (.lst [])) s3.heap.objs.size (cellsFrom (s3.heap.objs.size + 1) scope.names (cloFrom X.env.cells scope.names [])) fp
  have pe := he s3 (upd H2 D (.lst [])) s3.heap.objs.size (cellsFrom (s3.heap.objs.size + 1) scope.names (cloFrom X.env.cells scope.names [])) fp
  show codeAny _ _ (.compStart (.ListComp elt [⟨tg, iter, [], 0⟩] scope pos) 0 (.ref it) (.ref D) (compEnvC scope (cellsFrom (s3.heap.objs.size + 1) scope.names (cloFrom X.env.cells scope.names [])) s3.heap.objs.size X.env))
    (compEnds (model X.prog X.w) X.A X.xe use Qf (.ref D) (compEnvC scope (cellsFrom (s3.heap.objs.size + 1) scope.names (cloFrom X.env.cells scope.names [])) s3.heap.objs.size X.env)) { s3 with heap := pushCells (s3.heap.push { cls := .type "dict", data := .dict #[] }) scope.names }
  have nfp : ∀ b ∈ fp, (upd H2 D (.lst [])) b = none := fun b hb => (f3 b hb).1.1
  have cfr : (compEnvC scope (cellsFrom (s3.heap.objs.size + 1) scope.names (cloFrom X.env.cells scope.names [])) s3.heap.objs.size X.env).frame = X.env.frame := rfl
  have cL : (compEnvC scope (cellsFrom (s3.heap.objs.size + 1) scope.names (cloFrom X.env.cells scope.names [])) s3.heap.objs.size X.env).locals = s3.heap.objs.size := rfl
  generalize compEnvC scope (cellsFrom (s3.heap.objs.size + 1) scope.names (cloFrom X.env.cells scope.names [])) s3.heap.objs.size X.env = ce at I4 pg pe cfr cL ⊢
  generalize upd H2 D (.lst []) = H3 at I3 I4 pg pe w0 nfp f3
  generalize hs4 : ({ s3 with heap := pushCells (s3.heap.push { cls := .type "dict", data := .dict #[] }) scope.names } : Shared) = s4 at I4 ⊢
  have st4 : tn 0 s4.heap := T.keep _ _ _ st3 fun b _ o e => by subst hs4; exact pushCells_keeps _ _ _ _ (Heap.get?_push_of_some _ e)
  have static : ∀ {σ' : L2.St} {H' : Hp} {s' : Shared}, Inv (X.blk s3 H3 scope ce fp) [] σ' H' s' → (∀ b ∈ fp, H' b = none) → ∀ b ∈ fp, FpOk (X.blk s3 H3 scope ce fp) [] H' b := fun {σ' H' s'} I' n b hb =>
    ⟨n b hb, (I'.ok.exf b hb).1, I'.ok.exfs b hb, .inl hb, fun x c e => (I'.ok.exf b hb).2 x c e, fun p hp => by cases hp⟩
  have loop : codeAny (model X.prog X.w) X.A (.compLoop (.ListComp elt [⟨tg, iter, [], 0⟩] scope pos) 0 (.ref it) (.ref D) ce) (compEnds (model X.prog X.w) X.A X.xe use Qf (.ref D) ce) s4 := by
    refine compLoop_any (fun n s' => ∃ i H', Inv (X.blk s3 H3 scope ce fp) [] (wipe σ (own.map (·.2))) H' s' ∧ tn i s'.heap ∧ (∀ b ∈ fp, H' b = none) ∧ W i n H') ?_ m0 ⟨0, H3, I4, st4, nfp, w0⟩
    rintro n s5 ⟨i, H5, I5, st5, n5, w5⟩
    rcases turn i n H5 w5 with ⟨stop, qq⟩ | ⟨go, Nx, hNx, step⟩
    · refine thnF (T.done (X.blk s3 H3 scope ce fp) rfl rfl rfl hc i [] s5 _ H5 (fun _ _ => False) I5 (static I5 n5) st5 stop) fun r s6 ⟨er, I6⟩ => ?_
      subst er
      have I7 : Inv X pins σ H5 s6 := I3.call' (ch := fp) I6.os I6.base I6.hok I6.bare fun b hb => ⟨(f3 b hb).1.2.2.2.1, (f3 b hb).1.2.1, (f3 b hb).1.2.2.2.2.1, (f3 b hb).1.2.2.2.2.2⟩
      have nC : H5 ce.locals = none := I6.free
      obtain ⟨m, hn, _⟩ := I6.loc
      exact hRR D ce s6 m H5 I7 qq hn (I3.fpOk (Nat.le_of_eq cL.symm) nC)
    · refine thnF (T.item (X.blk s3 H3 scope ce fp) rfl rfl rfl hc i [] s5 _ H5 (fun _ _ => False) I5 (static I5 n5) st5 go) fun r s6 ⟨u, er, h6⟩ => ?_
      subst er
      refine thnF h6 fun _ s7 ⟨x, H7, I7, r7, y7, st7, n7⟩ => ?_
      have I7' := I7.pinned (static I7 n7) (T.obj _ _ st7)
      refine thnF (pg.run _ s7 _ H7 x u _ I7' r7 (step x H7 y7)) fun _ s8 ⟨σ8, H8, I8, hw8, q8⟩ => ?_
      have q8 : te σ8 H8 fun y H4 => ∃ acc, H4 D = some (.lst acc) ∧ acc.length < sizeLine ∧ Nx (upd H4 D (.lst (acc ++ [y]))) := by simpa [tYes] using q8
      have fin : ∀ {s' : Shared} {H' : Hp}, Inv (X.blk s3 H3 scope ce fp) ([] ++ pinsAt fp s7.heap) σ8 H' s' → Nx H' → ∃ m, m < n ∧ ∃ i H', Inv (X.blk s3 H3 scope ce fp) [] (wipe σ (own.map (·.2))) H' s' ∧ tn i s'.heap ∧ (∀ b ∈ fp, H' b = none) ∧ W i m H' := fun {s' H'} I' nx => by
        obtain ⟨m', hm, w'⟩ := hNx H' nx
        have pinned : ∀ b ∈ fp, ∀ o, s7.heap.get? b = some o → s'.heap.get? b = some o ∧ H' b = none := fun b hb o e =>
          let z := I'.pin (b, o) (List.mem_append_right _ (List.mem_append_right _ (mem_pinsAt hb e)))
          ⟨z.1, z.2.1⟩
        have len8 : (wipe σ (own.map (·.2))).length = σ8.length := by rw [← hw8, wipe_length]
        refine ⟨m', hm, i + 1, H', (I'.unpinned (pins := [])).weak len8 (fun j v e => ?_), T.keep _ _ _ st7 fun b hb o e => (pinned b hb o e).1, fun b hb => ?_, w'⟩
        · rw [← hw8] at e
          exact (wipe_some e).1
        · obtain ⟨o, e, _⟩ := T.obj _ _ st7 b hb
          exact (pinned b hb o e).2
      refine wpAny_tests_nil ?_
      simp only [if_true]
      refine wpAny_mono (pe.run _ s8 σ8 H8 _ (I8.wish _) q8) (fun z s10 ⟨yv, H10, I10, r10, acc, hD10, hz10, nx⟩ => ?_) fun u' s' fe => fell_out hst hfr cfr cL tk I3 f3 fe
      exact app_ok (X := X.blk s3 H3 scope ce fp) I10.unwish hD10 hz10 r10 fun s11 I11 => fin I11 nx
  exact codeAny_compStart_list loop (T.self X.A 0 _ _ _ st4 loop)
/-- as a value -/
theorem pe_lcx {Ex : XK} {elt tg iter : Expr} {scope : Scope} {own : List (Str × Nat)} {pos : Pos} {wi : TI} {g : TG} {te : TE} (hst : X.stack = X.env :: X.outer) (hfr : X.env.frame = some X.env.locals) (tk : Takes X fun cls d _ H => Ex cls d H) (hc : X.calm = true) (hN : X.N.Nodup) (hi : PI X tg iter wi) (ok : BlkOk X.N X.env.scope scope own)
    (hg : ∀ (s : Shared) (H : Hp) (C : Addr) (cl : List (Str × Addr)) (fp : List Addr), PG (X.blk s H scope (compEnvC scope cl C X.env) fp) tg g)
    (he : ∀ (s : Shared) (H : Hp) (C : Addr) (cl : List (Str × Addr)) (fp : List Addr), PE ((X.blk s H scope (compEnvC scope cl C X.env) fp).wish (Fell (X.blk s H scope (compEnvC scope cl C X.env) fp) Ex)) elt te)
    (hs : ∀ x, foldedSetIterable iter X.env x = pure x := by intro _; rfl) : PE X (.ListComp elt [⟨tg, iter, [], 0⟩] scope pos) (tLc wi g tYes te (own.map (·.2))) := by
  refine ⟨fun pins s σ H Q I h => ?_⟩
  rw [eval_ListComp]
  refine lcx_core (use := none) hc hN hst hfr tk I hi ok hg he hs h fun D ce s' m H' I' q hn ⟨f0, f1, f2, f3, f4, f5⟩ => ⟨m, hn, fun h2 sb => ?_⟩
  exact ⟨.ref D, H', I'.turned (t' := s'.toks) (fun b o hb e => (sb.2 b hb).trans e) f0 f1 f3 f4 f5, rfl, q⟩
/-- y = [..], y a local -/
theorem ps_setLcx {Ex : XK} {i : Nat} {y : Str} {py : Pos} {elt tg iter : Expr} {scope : Scope} {own : List (Str × Nat)} {pos spos : Pos} {wi : TI} {g : TG} {te : TE} (hst : X.stack = X.env :: X.outer) (hfr : X.env.frame = some X.env.locals) (tk : Takes X fun cls d _ H => Ex cls d H) (hc : X.calm = true) (hN : X.N.Nodup)
    (hy : X.N[i]? = some y) (hyl : X.env.scope.names.lookup y = some .local) (hsw : swapsWith (.ListComp elt [⟨tg, iter, [], 0⟩] scope pos) (some (.Name y py)) spos.line X.env = pure true) (hi : PI X tg iter wi) (ok : BlkOk X.N X.env.scope scope own)
    (hg : ∀ (s : Shared) (H : Hp) (C : Addr) (cl : List (Str × Addr)) (fp : List Addr), PG (X.blk s H scope (compEnvC scope cl C X.env) fp) tg g)
    (he : ∀ (s : Shared) (H : Hp) (C : Addr) (cl : List (Str × Addr)) (fp : List Addr), PE ((X.blk s H scope (compEnvC scope cl C X.env) fp).wish (Fell (X.blk s H scope (compEnvC scope cl C X.env) fp) Ex)) elt te)
    (hs : ∀ x, foldedSetIterable iter X.env x = pure x := by intro _; rfl) : PS X (.Assign [.Name y py] (.ListComp elt [⟨tg, iter, [], 0⟩] scope pos) spos) (tAsg (tLc wi g tYes te (own.map (·.2))) (gName i)) := by
  refine ⟨fun pins s σ H D I h => ?_⟩
  rw [exec_Assign_Name_used _ _ _ _ hsw]
  refine wpAny_bind (wpAny_standAt (wpAny_bind ?_))
  show wpAny _ X.A (do let _ ← comprehension (.ListComp elt [⟨tg, iter, [], 0⟩] scope pos) scope X.env (firstIterPos [⟨tg, iter, [], 0⟩] pos) (newList []) false (eval iter X.env) (some (assign (.Name y py) X.env))) _ _ s
  have h' : tLc wi g tYes te (own.map (·.2)) σ H (fun x H1 => gName i x σ H1 D.nx) := h
  refine wpAny_bind (thn (lcx_core (Qf := fun _ s' => SP X pins D .next s') (use := some (assign (.Name y py) X.env)) hc hN hst hfr tk I hi ok hg he hs h' fun L ce s' m H' I' q hn ⟨f0, f1, f2, f3, f4, f5⟩ => ?_) fun _ s' hq => wpAny_pure (wpAny_pure hq))
  refine wpAny_assign_Name (store_ok2 (v := V.ref L) I' hN hy (.inl hyl) rfl (fun s2 I2 ⟨a, sb, ha⟩ => ?_) (.inr hyl))
  have apart : ce.locals ≠ a := ha.elim (fun z => by rw [z]; exact f1) fun z e => f4 y a z e.symm
  exact ⟨m, hn.sameBut sb apart, fun h3 sb3 => ⟨_, H', I2.turned (t' := s2.toks) (fun b o hb e => (sb3.2 b hb).trans e) f0 f1 f3 f4 f5, q⟩⟩
end
end Rj

set_option Elab.async false
set_option linter.all false
set_option maxRecDepth 100000
set_option maxHeartbeats 4000000
namespace Bs
open PySem L2
abbrev veB : List Value := [.type "ValueError", .type "Exception", .type "BaseException", .type "object"]
/-- the class InvalidShape at C -/
structure ShpC (K : PySem.W.Frag) (mg : Str → Option Value) (C : Addr) : Prop where
  gC : mg "InvalidShape" = some (.ref C)
  kC : PySem.W.keepIn K (.ref C) = true
  xC : PySem.W.excIn K C veB "ValueError.__new__" = true
  bC : PySem.W.subIn K (.ref C) (.type "BaseException") = some true
  tC : PySem.W.typeIn K (.ref C) = some (.type "type")
/-- a module's int -/
def GInt (mg : Str → Option Value) (x : Str) (i : Int) : Prop := ∃ t, mg x = some (.int i t)
def GStr (mg : Str → Option Value) (x : Str) (z : Str) : Prop := ∃ t, mg x = some (.str z t)
theorem pe_gint {X : Cx} {x : Str} {i : Int} {pos : Pos} (h : GInt X.mg x i) (hg : Gl X x) (hd : (x == ("__debug__" : Str)) = false := by decide) : PE X (.Name x pos) (tC (.int i)) := by
  obtain ⟨t, e⟩ := h
  exact pe_glob hg e ⟨t, rfl⟩ hd
theorem pe_gstr {X : Cx} {x : Str} {z : Str} {pos : Pos} (h : GStr X.mg x z) (hg : Gl X x) (hd : (x == ("__debug__" : Str)) = false := by decide) : PE X (.Name x pos) (tC (.str z)) := by
  obtain ⟨t, e⟩ := h
  exact pe_glob hg e ⟨t, rfl⟩ hd
/-- require: nothing, or the error -/
def spRequire (C : Addr) : Sp := fun vs H Q E => ∃ b z, vs = [.bl b, .str z] ∧ (b = true → Q .non H) ∧ (b = false → E (.ref C) none H)
/-- is_integer, of an int -/
def spIsInt : Sp := fun vs H Q _ => ∃ i lo hi : Int, vs = [.int i, .int lo, .int hi] ∧ Q (.bl (decide (lo ≤ i ∧ i ≤ hi))) H
section
variable {P : Program} {w : World} {K : PySem.W.Frag} {mg : Str → Option Value} {base : Heap} {f C : Addr} {fd : FuncData}
theorem scRequire : FnScope ["holds", "words"] ["holds", "words"] (defScope sRequire) := ⟨rfl, rfl, rfl, by decide +kernel, rfl, by decide +kernel, by decide +kernel⟩
theorem ok_require (F : Fun K "require" "require" sRequire f fd) (T : ShpC K mg C) : FnOk P w K mg base (L2.CX P w) 1 f fd ["holds", "words"] (spRequire C) := by
  refine F.okX scRequire (fun vs H Q E h => ?_) (fun cdv A outer s H vs Q E hr h => ?_)
  · obtain ⟨b, z, rfl, _⟩ := h
    rfl
  · obtain ⟨b, z, rfl, q1, q2⟩ := h
    refine ⟨_, pss_one (ps_if (pt_not (pt_val (pv 0))) (pss_one (ps_raise rfl (takes_of rfl rfl rfl rfl) (SkE.pmk_own1 PySem.F.excBase_ValueError T.xC T.gC T.kC (raises_own T.bC T.tC) rfl (pv 1)))) pss_nil), ?_⟩
    refine ⟨_, rfl, _, rfl, ?_⟩
    cases b with
    | true => exact iteF (q1 rfl)
    | false => exact iteT ⟨_, rfl, q2 rfl⟩
theorem scIsInt : FnScope ["value", "low", "high"] ["value", "low", "high"] (defScope sIsInteger) := ⟨rfl, rfl, rfl, by decide +kernel, rfl, by decide +kernel, by decide +kernel⟩
theorem ok_isint (F : Fun K "is_integer" "is_integer" sIsInteger f fd) (mi : mg "isinstance" = none) (mint : mg "int" = none) (mb : mg "bool" = none) : FnOk P w K mg base CX0 1 f fd ["value", "low", "high"] spIsInt := by
  refine F.ok scIsInt (fun vs H Q E h => ?_) (fun cdv A outer s H vs Q E hr h => ?_)
  · obtain ⟨i, lo, hi, rfl, _⟩ := h
    rfl
  · obtain ⟨i, lo, hi, rfl, q⟩ := h
    refine ⟨_, pss_one (ps_ret (pe_and (pe_callB call_isi (by rfl) mi (by decide +kernel) (pa_cons (pv 0) (pa_cons (pe_bltn (v := .ty "int") (by rfl) mint (by decide +kernel) rfl) pa_nil)))
      (pe_and (pe_not (pe_callB call_isi (by rfl) mi (by decide +kernel) (pa_cons (pv 0) (pa_cons (pe_bltn (v := .ty "bool") (by rfl) mb (by decide +kernel) rfl) pa_nil)))) (pe_one (pe_chain op_le op_le (pv 1) (pv 0) (pv 2)))))), ?_⟩
    refine ⟨_, rfl, _, _, _, _, true, rfl, .ty _, .base (.int _), kit_ty (by decide +kernel), _, rfl, iteT ?_⟩
    refine ⟨_, rfl, _, _, _, _, false, rfl, .ty _, .base (.int _), kit_ty (by decide +kernel), _, rfl, _, rfl, iteT ?_⟩
    refine ⟨_, rfl, _, rfl, _, _, rfl, rfl, _, rfl, ?_⟩
    by_cases c : lo ≤ i
    · rw [if_pos (decide_eq_true c)]
      refine ⟨_, rfl, _, _, rfl, rfl, ?_⟩
      show Q (.bl (decide (i ≤ hi))) H
      rw [show decide (i ≤ hi) = decide (lo ≤ i ∧ i ≤ hi) by simp [c]]
      exact q
    · rw [if_neg (by simpa using c)]
      rw [show decide (lo ≤ i ∧ i ≤ hi) = false by simp [c]] at q
      exact q
end
end Bs

set_option Elab.async false
set_option linter.all false
set_option maxRecDepth 100000
set_option maxHeartbeats 4000000
namespace Bs
open PySem L2
def spIsName : Sp := fun vs H Q _ => ∃ z : Str, vs = [.str z] ∧ z.length ≤ sizeLine ∧ ∀ H', Same H H' → Q (.bl (isName z)) H'
/-- is_row of a list or tuple -/
def spIsRow : Sp := fun vs H Q _ => ∃ (p : Addr) (xs : List V) (lo hi : Int), vs = [.ref p, .int lo, .int hi] ∧ RowAt false H p xs ∧ ∀ H', Same H H' → Q (.bl (decide (lo ≤ (xs.length : Int) ∧ (xs.length : Int) ≤ hi))) H'
theorem same_new {H : Hp} {p : Addr} (h : H p = none) (o : HO) : Same H (upd H p o) := fun b u q => by rw [upd_ne (ne_of_none q h)]; exact q
theorem same_set {H H' : Hp} {p : Addr} {o : HO} (s : Same H H') (h : H p = none) : Same H (upd H' p o) := fun b u q => by rw [upd_ne (ne_of_none q h)]; exact s b u q
theorem yes_go {te : TE} {σ : L2.St} {H : Hp} {R : V → Hp → Prop} {N : Hp → Prop} (h : te σ H R) : tYes σ H fun b H3 => if b = true then te σ H3 R else N H3 := by
  show if true = true then te σ H R else N H
  rw [if_pos rfl]
  exact h
theorem sizeLine_big : 16777216 = sizeLine := by decide
theorem le_line {n : Nat} (h : n ≤ 16777216) : n ≤ sizeLine := by rw [← sizeLine_big]; exact h
theorem nameOk_len {l : List Nat} (h : ¬ (1 ≤ l.length ∧ l.length ≤ 12)) : nameOk l = false := by
  cases l with
  | nil => rfl
  | cons c r =>
    have : ¬ r.length < 12 := fun q => h ⟨by simp, q⟩
    rw [nameOk, decide_eq_false this]; rfl
section
variable {P : Program} {w : World} {K : PySem.W.Frag} {mg : Str → Option Value} {base : Heap} {f C : Addr} {fd : FuncData}
theorem scIsName : FnScope ["text", "one"] ["text"] (defScope sIsName) := ⟨rfl, rfl, rfl, by decide +kernel, rfl, by decide +kernel, by decide +kernel⟩
theorem ok_isname (F : Fun K "is_name" "is_name" sIsName f fd) (mi : mg "isinstance" = none) (ms : mg "str" = none) (ml : mg "len" = none) (ma : mg "all" = none) (gL : GStr mg "LETTERS" letters) (gD : GStr mg "DIGITS" digits) (gN : GInt mg "LONGEST_NAME" 12) :
    FnOk P w K mg base CX0 1 f fd ["text"] spIsName := by
  refine F.ok scIsName (fun vs H Q E h => ?_) (fun cdv A outer s H vs Q E hr h => ?_)
  · obtain ⟨z, rfl, _⟩ := h
    rfl
  · obtain ⟨z, rfl, hz, q⟩ := h
    refine ⟨_, pss_cons (ps_if (PW.pt (pw_or (pt_not (pt_val (pe_callB call_isi (by rfl) mi (by decide +kernel) (pa_cons (pv 0) (pa_cons (pe_bltn (v := .ty "str") (by rfl) ms (by decide +kernel) rfl) pa_nil)))))
        (pw_or1 (pt_not (pt_chain op_le op_le pe_int (pe_callB call_len_str (by rfl) ml boot_len (pa_cons (pv 0) pa_nil)) (pe_gint gN rfl)))))) (pss_one (ps_ret pe_bl)) pss_nil)
      (pss_one (ps_ret (pe_and (pe_cmpR op_in_sign (pe_item_str (pv 0) pe_int (fun _ _ => rfl)) (pe_gstr gL rfl) rfl)
        (pe_one (pe_callB (cr_all rfl) (by rfl) ma (by decide +kernel) (pa_cons (pe_lc (own := [("one", 1)]) (g := gName 1) (tt := tYes) rfl scIsName.nd (pi_str (pv 0)) (blkOk_by (own := [("one", 1)]) (N := ["text", "one"]) (sc := defScope sIsName) (by decide +kernel))
          (fun _ _ _ _ _ => pg_name (i := 1) scIsName.nd rfl (Or.inl rfl)) (fun _ _ _ _ _ => pts_nil)
          (fun _ _ _ _ _ => pe_or (pe_cmpR op_in_sign (pv 1) (pe_gstr gL rfl) rfl) (pe_one (pe_cmpR op_in_sign (pv 1) (pe_gstr gD rfl) rfl)))) pa_nil)))))), ?_⟩
    refine ⟨_, rfl, _, _, _, _, true, rfl, .ty _, .base (.str _), kit_ty (by decide +kernel), _, rfl, ?_⟩
    refine iteF ?_
    refine ⟨_, rfl, z, rfl, hz, _, _, rfl, rfl, _, rfl, ?_⟩
    have hl : z.length = z.cps.toList.length := by simp [Str.length]
    have bad : ¬ (1 ≤ (z.length : Int) ∧ (z.length : Int) ≤ 12) → isName z = false := fun h => nameOk_len fun ⟨h1, h2⟩ => h (by rw [hl]; omega)
    have out : isName z = false → Q (.bl false) H := fun e => by have z := q H (Same.refl H); rw [e] at z; exact z
    refine ite2 (fun c => ?_) (fun c => ?_)
    · have c : 1 ≤ (z.length : Int) := of_decide_eq_true c
      refine ⟨_, _, rfl, rfl, _, rfl, ?_⟩
      refine ite2 (fun d => ?_) (fun d => ?_)
      · have d : ¬ (z.length : Int) ≤ 12 := by simpa using d
        exact out (bad fun h => d h.2)
      · have d : (z.length : Int) ≤ 12 := by simpa using d
        obtain ⟨a, r, hzr⟩ : ∃ a r, z.cps.toList = a :: r := by
          cases e : z.cps.toList with
          | nil => rw [hl, e] at c; simp at c
          | cons a r => exact ⟨a, r, rfl⟩
        have h0 : z.cps[0]? = some a := by rw [← Array.getElem?_toList, hzr]; rfl
        have hr12 : r.length < 12 := by rw [hl, hzr] at d; simp at d; omega
        have hN : isName z = (isLetter a && (a :: r).all isSign) := by
          show nameOk z.cps.toList = _
          rw [hzr, nameOk, decide_eq_true hr12]; rfl
        refine ⟨_, rfl, z, 0, a, rfl, rfl, by decide, by decide, by omega, h0, a, letters, rfl, rfl, _, rfl, ?_⟩
        refine ite2 (fun e => ?_) (fun e => ?_)
        · have e : isLetter a = true := e
          refine ⟨_, rfl, z, rfl, fun D hD => lc_it (walk_str (z := z)) (fun i H' => Same H H' ∧ H' D = some (.lst ((((a :: r).take i).map isSign).map V.bl))) ⟨same_new hD _, upd_same⟩ (fun _ _ _ _ => trivial) ?_ ?_⟩
          · rintro i x H1 H2 hi ⟨sm, hD1⟩ ⟨rfl, ch, hch, rfl⟩
            have hch' : (a :: r)[i]? = some ch := by rw [← hzr, Array.getElem?_toList]; exact hch
            have step : (a :: r).take (i + 1) = (a :: r).take i ++ [ch] := by rw [List.take_add_one, hch']; rfl
            have fin : ∀ b, b = isSign ch → Same H (upd H2 D (.lst ((((a :: r).take i).map isSign).map V.bl ++ [V.bl b]))) ∧ (upd H2 D (.lst ((((a :: r).take i).map isSign).map V.bl ++ [V.bl b]))) D = some (.lst ((((a :: r).take (i + 1)).map isSign).map V.bl)) := fun b eb => by
              refine ⟨same_set sm hD, ?_⟩
              rw [upd_same, step, eb, List.map_append, List.map_append]
              rfl
            have size : ((((a :: r).take i).map isSign).map V.bl).length < sizeLine := small1000 (by rw [List.length_map, List.length_map, List.length_take]; simp; omega)
            refine ⟨rfl, yes_go ?_⟩
            refine ⟨_, rfl, ch, letters, rfl, rfl, _, rfl, ?_⟩
            refine ite2 (fun g => ?_) (fun g => ?_)
            · exact ⟨_, hD1, size, fin true (by have g : isLetter ch = true := g; rw [isSign, g]; rfl)⟩
            · refine ⟨_, rfl, ch, digits, rfl, rfl, _, hD1, size, fin _ ?_⟩
              have g : isLetter ch = false := by simpa [isLetter] using g
              rw [isSign, g]; rfl
          · rintro H1 ⟨sm, hD1⟩
            have hn : z.cps.size = (a :: r).length := by rw [← hzr]; simp
            rw [hn, List.take_length] at hD1
            refine ⟨D, _, rfl, SqL.of hD1, ?_⟩
            have k := q H1 sm
            rw [hN, e] at k
            rw [List.all_map]
            exact k
        · have e : isLetter a = false := by simpa [isLetter] using e
          exact out (by rw [hN, e]; rfl)
    · have c : ¬ 1 ≤ (z.length : Int) := by simpa using c
      exact ⟨false, rfl, iteT (out (bad fun h => c h.1))⟩
theorem scIsRow : FnScope ["rows", "least", "most"] ["rows", "least", "most"] (defScope sIsRow) := ⟨rfl, rfl, rfl, by decide +kernel, rfl, by decide +kernel, by decide +kernel⟩
theorem ok_isrow (F : Fun K "is_row" "is_row" sIsRow f fd) (mi : mg "isinstance" = none) (ml : mg "len" = none) (mlist : mg "list" = none) (mtup : mg "tuple" = none) :
    FnOk P w K mg base CX0 1 f fd ["rows", "least", "most"] spIsRow := by
  refine F.ok scIsRow (fun vs H Q E h => ?_) (fun cdv A outer s H vs Q E hr h => ?_)
  · obtain ⟨p, xs, lo, hi, rfl, _⟩ := h
    rfl
  · obtain ⟨p, xs, lo, hi, rfl, hp, q⟩ := h
    refine ⟨_, pss_one (ps_ret (pe_and (pe_callB call_isiT (by rfl) mi (by decide +kernel) (pa_cons (pv 0) (pa_cons (pe_tup (pa_cons (pe_bltn (v := .ty "list") (by rfl) mlist (by decide +kernel) rfl) (pa_cons (pe_bltn (v := .ty "tuple") (by rfl) mtup (by decide +kernel) rfl) pa_nil))) pa_nil)))
      (pe_one (pe_chain op_le op_le (pv 1) (pe_callB call_len (by rfl) ml boot_len (pa_cons (pv 0) pa_nil)) (pv 2))))), ?_⟩
    refine ⟨_, rfl, (by show 2 ≤ sizeLine; decide), fun t ht => ?_⟩
    have s0 := same_new ht (.tup [.ty "list", .ty "tuple"])
    have h2 : RowAt false (upd H t (.tup [.ty "list", .ty "tuple"])) p xs := hp.same s0
    have cl : Paired ClsV [V.ty "list", V.ty "tuple"] [Value.type "list", Value.type "tuple"] := .cons (.ty _) (.cons (.ty _) .nil)
    obtain ⟨ty, hty, hk, hl⟩ : ∃ ty, TyX K (upd H t (.tup [.ty "list", .ty "tuple"])) (.ref p) ty ∧ PySem.W.kitAny K ty [Value.type "list", Value.type "tuple"] = some true ∧ LenV K (.ref p) (upd H t (.tup [.ty "list", .ty "tuple"])) xs.length := by
      rcases h2 with h2 | ⟨_, h2⟩
      · exact ⟨_, .base (.tup h2), kitAny_cons (kit_ty (b := "list") (r := false) (by decide +kernel)) (fun _ => kitAny_cons (kit_ty (r := true) (by decide +kernel)) (fun z => by cases z) (fun _ => rfl)) (fun z => by cases z), .inr ⟨_, SqT.of h2, rfl⟩⟩
      · exact ⟨_, .base (.lst h2), kitAny_cons (kit_ty (r := true) (by decide +kernel)) (fun z => by cases z) (fun _ => rfl), .inl ⟨_, SqL.of h2, rfl⟩⟩
    have z := q _ s0
    refine ⟨_, t, _, ty, _, true, rfl, upd_same, cl, hty, hk, _, rfl, iteT ?_⟩
    refine ⟨_, rfl, _, rfl, V.ref p, xs.length, rfl, hl, _, _, rfl, rfl, _, rfl, ite2 (fun c => ?_) (fun c => ?_)⟩
    · have c : lo ≤ (xs.length : Int) := of_decide_eq_true c
      refine ⟨_, rfl, _, _, rfl, rfl, ?_⟩
      show Q (.bl (decide ((xs.length : Int) ≤ hi))) _
      rw [show decide ((xs.length : Int) ≤ hi) = decide (lo ≤ (xs.length : Int) ∧ (xs.length : Int) ≤ hi) by simp [c]]
      exact z
    · have c : ¬ lo ≤ (xs.length : Int) := by simpa using c
      rw [show decide (lo ≤ (xs.length : Int) ∧ (xs.length : Int) ≤ hi) = false by simp [c]] at z
      exact z
end
end Bs

set_option Elab.async false
set_option linter.all false
set_option maxRecDepth 100000
set_option maxHeartbeats 4000000
namespace Bs
open PySem L2
/-! ### calls in short -/
structure Cal (P : Program) (w : World) (K : PySem.W.Frag) (mg : Str → Option Value) (base : Heap) (CX : CXT) (k : Nat) (x : Str) (ps : List Str) (sp : Sp) : Prop where
  ex : ∃ (f : Addr) (fd : FuncData), mg x = some (.ref f) ∧ PySem.W.keepIn K (.ref f) = true ∧ Binds K fd ps [] ∧ FnOk P w K mg base CX k f fd ps sp
def tCl (sp : Sp) (E : XK) (t : TA) : TE := fun σ H Q => t σ H fun vs H1 => sp vs H1 Q E
theorem tCall_nil {sp : Sp} {E : XK} {t : TA} : tCall sp [] E t = tCl sp E t := by
  funext σ H Q
  show t σ H (fun vs H1 => sp (vs ++ []) H1 Q E) = _
  congr
  funext vs H1
  rw [List.append_nil]
/-- x(e, ..), x a def of the text -/
theorem pe_cal {X : Cx} {CX : CXT} {k : Nat} {x : Str} {ps : List Str} {sp : Sp} {E : XK} {e : Expr} {es : List Expr} {t : TA} {p pos : Pos} (G : Cal X.prog X.w X.K X.mg X.base CX k x ps sp) (hr : Room k X.A) (hx : Passes CX X E) (ha : PA X (e :: es) t) (hg : Gl X x := by rfl)
    (hdb : (x == ("__debug__" : Str)) = false := by decide) (he : starEach (e :: es) X.env = (false, eval e X.env) :: starEach es X.env := by rfl) (hpl : (backTo pos (starEach es X.env)).any (·.1) = false := by rfl) :
    PE X (.Call (.Name x p) (e :: es) [] pos) (tCl sp E t) := by
  obtain ⟨f, fd, h1, h2, h3, h4⟩ := G.ex
  rw [← tCall_nil]
  exact pe_call h4 hr hg h1 h2 h3 .nil hx ha hdb he hpl
/-- x in a list or a tuple -/
def RowR (K : PySem.W.Frag) (a : Addr) (R : L2.It → Hp → Prop) (H : Hp) : Prop := ((∃ xs, SqL K H a xs) ∧ R (Itl K a) H) ∨ ((∃ xs, SqT K H a xs) ∧ R (Itt K a) H)
def iRow (K : PySem.W.Frag) (tl : TE) : TI := fun σ H R => tl σ H fun x H1 => ∃ a, x = .ref a ∧ RowR K a R H1
theorem pi_row {X : Cx} {tg l : Expr} {tl : TE} (hl : PE X l tl) : PI X tg l (iRow X.K tl) := by
  refine ⟨fun pins s σ H R I h => thn (hl.run pins s σ H _ I h) fun v s1 ⟨x, H1, I1, r1, a, ex, q1⟩ => ?_⟩
  subst ex
  cases r1
  rcases q1 with ⟨⟨xs, hq⟩, q⟩ | ⟨⟨xs, hq⟩, q⟩
  · obtain ⟨its, rv, p, hz⟩ := I1.list hq
    exact wpAny_pyIter_list p.isList (pi_one (tk := s1.toks) I1 _ (turn_list a _) ⟨_, Heap.get?_push_size _ rfl, rfl, rfl⟩ q)
  · obtain ⟨its, rv, p, hz⟩ := I1.tuple hq
    exact PySem.wpAny_pyIter_tuple (show s1.heap.IsTuple a its.toArray from p) (pi_one (tk := s1.toks) I1 _ (turn_tuple a _) ⟨_, Heap.get?_push_size _ rfl, rfl, rfl⟩ q)
theorem row_go {K : PySem.W.Frag} {H : Hp} {p : Addr} {xs : List V} {R : L2.It → Hp → Prop} (hp : RowAt false H p xs) (h : ∀ J, Walk J xs.length (fun H' => Same H H') (YAt xs) → R J H) : RowR K p R H := by
  rcases hp with hp | ⟨_, hp⟩
  · exact .inr ⟨⟨xs, SqT.of hp⟩, h _ (walk_tup.mono (fun H' s => SqT.of (s _ _ hp)) fun _ _ _ _ _ _ y => y)⟩
  · exact .inl ⟨⟨xs, SqL.of hp⟩, h _ (walk_list.mono (fun H' s => SqL.of (s _ _ hp)) fun _ _ _ _ _ _ y => y)⟩
theorem row_go2 {K : PySem.W.Frag} {H0 H : Hp} {p : Addr} {xs : List V} {R : L2.It → Hp → Prop} (hp : RowAt false H0 p xs) (s0 : Same H0 H) (h : ∀ J, Walk J xs.length (fun H' => Same H0 H') (YAt xs) → R J H) : RowR K p R H := by
  rcases hp with hp | ⟨_, hp⟩
  · exact .inr ⟨⟨xs, SqT.of (s0 _ _ hp)⟩, h _ (walk_tup.mono (fun H' s => SqT.of (s _ _ hp)) fun _ _ _ _ _ _ y => y)⟩
  · exact .inl ⟨⟨xs, SqL.of (s0 _ _ hp)⟩, h _ (walk_list.mono (fun H' s => SqL.of (s _ _ hp)) fun _ _ _ _ _ _ y => y)⟩

/-! ### what is small enough: names; amounts are numbers -/
mutual
def It.tame : It → Prop
  | .byt n amt => n.length ≤ 1000 ∧ ∀ z, amt = .inr z → z.length ≤ 1000 ∧ (reprText z).length ≤ 1000
  | .rep n amt b => n.length ≤ 1000 ∧ (∀ z, amt = .inr z → z.length ≤ 1000 ∧ (reprText z).length ≤ 1000) ∧ b.tame
  | .eit n bs => n.length ≤ 1000 ∧ bs.tame
  | .swi n _ bs => n.length ≤ 1000 ∧ bs.vals.Nodup ∧ bs.tame
  | x => x.name.length ≤ 1000
def Its.tame : Its → Prop
  | .nil => True
  | .cons x r => x.tame ∧ r.tame
def Blks.tame : Blks → Prop
  | .nil => True
  | .cons _ b r => b.tame ∧ r.tame
end
theorem It.tame_name : ∀ {x : It}, x.tame → x.name.length ≤ 1000
  | .num .., h => by simpa only [It.tame] using h
  | .byt .., h => by simp only [It.tame] at h; exact h.1
  | .txt .., h => by simpa only [It.tame] using h
  | .rep .., h => by simp only [It.tame] at h; exact h.1
  | .eit .., h => by simp only [It.tame] at h; exact h.1
  | .swi .., h => by simp only [It.tame] at h; exact h.1
  | .chk .., h => by simpa only [It.tame] using h
  | .pad .., h => by simpa only [It.tame] using h
  | .odd .., h => by simpa only [It.tame] using h
theorem At_get {fz : Bool} {H : Hp} : ∀ {x : Its} {l : List V} {i : Nat} {v : V}, x.At fz H l → l[i]? = some v → ∃ y : It, y.At fz H v ∧ (x.tame → y.tame) ∧ (∀ d, x.ok d = true → y.ok d = true)
  | .nil, l, i, v, h, e => by simp only [Its.At] at h; subst h; simp at e
  | .cons y r, l, i, v, h, e => by
    simp only [Its.At] at h
    obtain ⟨v0, l', rfl, h1, h2⟩ := h
    cases i with
    | zero =>
      simp at e
      subst e
      exact ⟨y, h1, fun t => by simp only [Its.tame] at t; exact t.1, fun d t => by simp only [Its.ok, Bool.and_eq_true] at t; exact t.1⟩
    | succ i =>
      obtain ⟨z, a, b, c⟩ := At_get (i := i) h2 (by simpa using e)
      exact ⟨z, a, fun t => b (by simp only [Its.tame] at t; exact t.2), fun d t => c d (by simp only [Its.ok, Bool.and_eq_true] at t; exact t.2)⟩
/-- the first i items, the rest -/
def Its.take : Nat → Its → Its
  | 0, _ => .nil
  | _ + 1, .nil => .nil
  | i + 1, .cons x r => .cons x (r.take i)
def Its.get : Its → Nat → Option It
  | .nil, _ => none
  | .cons x _, 0 => some x
  | .cons _ r, i + 1 => r.get i
theorem At_item {fz : Bool} {H : Hp} : ∀ {x : Its} {l : List V} {i : Nat} {v : V}, x.At fz H l → l[i]? = some v → ∃ y, x.get i = some y ∧ y.At fz H v
  | .nil, l, i, v, h, e => by simp only [Its.At] at h; subst h; simp at e
  | .cons y r, l, i, v, h, e => by
    simp only [Its.At] at h
    obtain ⟨v0, l', rfl, h1, h2⟩ := h
    cases i with
    | zero => simp at e; subst e; exact ⟨y, rfl, h1⟩
    | succ i => exact At_item (i := i) h2 (by simpa using e)
theorem get_tame : ∀ {x : Its} {i : Nat} {y : It}, x.tame → x.get i = some y → y.tame
  | .nil, _, _, _, e => by simp [Its.get] at e
  | .cons x r, 0, y, t, e => by simp [Its.get] at e; subst e; simp only [Its.tame] at t; exact t.1
  | .cons x r, i + 1, y, t, e => by simp only [Its.tame] at t; exact get_tame t.2 e
theorem get_ok : ∀ {x : Its} {i : Nat} {y : It} {d : Int}, x.get i = some y → y.ok d = false → x.ok d = false
  | .nil, _, _, _, e, _ => by simp [Its.get] at e
  | .cons x r, 0, y, d, e, f => by simp [Its.get] at e; subst e; simp [Its.ok, f]
  | .cons x r, i + 1, y, d, e, f => by simp [Its.ok, get_ok (x := r) e f]
theorem take_at {fz : Bool} {H H' : Hp} (s : Same H H') : ∀ {x : Its} {i : Nat} {l : List V} {y : It} {v : V}, (x.take i).At fz H l → x.get i = some y → y.At fz H' v → (x.take (i + 1)).At fz H' (l ++ [v])
  | .nil, _, _, _, _, _, e, _ => by simp [Its.get] at e
  | .cons x r, 0, l, y, v, h, e, g => by
    simp only [Its.take, Its.At] at h
    simp [Its.get] at e
    subst h e
    simp only [Its.take, Its.At]
    exact ⟨v, [], rfl, g, by simp [Its.At]⟩
  | .cons x r, i + 1, l, y, v, h, e, g => by
    simp only [Its.take, Its.At] at h
    obtain ⟨v0, l', rfl, h1, h2⟩ := h
    show (Its.cons x (r.take (i + 1))).At fz H' (v0 :: l' ++ [v])
    simp only [Its.At]
    exact ⟨v0, l' ++ [v], rfl, h1.same s, take_at s h2 e g⟩
theorem get_lt : ∀ {x : Its} {i : Nat} {y : It}, x.get i = some y → i < x.len
  | .nil, _, _, e => by simp [Its.get] at e
  | .cons x r, 0, _, _ => by simp [Its.len]
  | .cons x r, i + 1, _, e => by simp [Its.len]; exact get_lt (x := r) e
theorem take_all : ∀ (x : Its), x.take x.len = x
  | .nil => rfl
  | .cons x r => by simp [Its.len, Its.take, take_all r]
theorem all_ok : ∀ {x : Its} {d : Int}, (∀ i y, x.get i = some y → y.ok d = true) → x.ok d = true
  | .nil, _, _ => by simp [Its.ok]
  | .cons x r, d, h => by simp [Its.ok, h 0 x rfl, all_ok (x := r) fun i y e => h (i + 1) y e]

/-! ### the copies -/
def spCopItem (C : Addr) (n : Nat) : Sp := fun vs H Q E => ∃ (v : V) (x : It) (d : Int), vs = [v, .int d] ∧ d + n = 3 ∧ x.At false H v ∧ x.tame ∧
  (x.ok d = true → ∀ v' H', Same H H' → x.At true H' v' → Q v' H') ∧ (x.ok d = false → ∀ H', Same H H' → E (.ref C) none H')
def spCopList (C : Addr) (n : Nat) : Sp := fun vs H Q E => ∃ (a : Addr) (x : Its) (xs : List V) (d : Int), vs = [.ref a, .int d] ∧ d + n = 3 ∧ RowAt false H a xs ∧ x.At false H xs ∧ x.tame ∧
  ((decide (x.len ≤ 12) && x.ok d) = true → ∀ p ys H', Same H H' → H' p = some (.tup ys) → x.At true H' ys → Q (.ref p) H') ∧ ((decide (x.len ≤ 12) && x.ok d) = false → ∀ H', Same H H' → E (.ref C) none H')
section
variable {P : Program} {w : World} {K : PySem.W.Frag} {mg : Str → Option Value} {base : Heap} {f C : Addr} {fd : FuncData}
theorem scCopList : FnScope ["items", "depth", "item"] ["items", "depth"] (defScope sCopList) := ⟨rfl, rfl, rfl, by decide +kernel, rfl, by decide +kernel, by decide +kernel⟩
theorem ok_coplist {n k : Nat} (F : Fun K "copied_list" "copied_list" sCopList f fd) (hk : 2 ≤ k) (gR : Cal P w K mg base (L2.CX P w) 1 "require" ["holds", "words"] (spRequire C)) (gI : Cal P w K mg base CX0 1 "is_row" ["rows", "least", "most"] spIsRow) (gL : GInt mg "LONGEST_LIST" 12)
    (mt : mg "tuple" = none) (gC : Cal P w K mg base (L2.CX P w) k "copied_item" ["item", "depth"] (spCopItem C n)) : FnOk P w K mg base (L2.CX P w) (k + 1) f fd ["items", "depth"] (spCopList C n) := by
  refine F.okX scCopList (fun vs H Q E h => ?_) (fun cdv A outer s H vs Q E hr h => ?_)
  · obtain ⟨a, x, xs, d, rfl, _⟩ := h
    rfl
  · obtain ⟨a, x, xs, d, rfl, hd, hrow, hat, ht, q1, q2⟩ := h
    have hr1 : Room 1 _ := hr.mono (by omega)
    have tk : Takes (cxOf (L2.CX P w) P w K mg base ["items", "depth", "item"] "copied_list" (defScope sCopList) f cdv A outer s H E) (fun cls d _ H => E cls d H) := takes_of rfl rfl rfl rfl
    have hx := passes_call tk (E := E) fun _ _ _ _ h => h
    refine ⟨_, pss_cons (ps_expr (pe_cal gR hr1 hx (pa_cons (pe_cal gI hr1 pass0 (pa_cons (pv 0) (pa_cons pe_int (pa_cons (pe_gint gL rfl) pa_nil)))) (pa_cons (pe_joined (.cons pe_str (.cons (pe_fmt (pe_gint gL rfl)) (.cons pe_str .nil)))) pa_nil))))
      (pss_one (ps_ret (pe_tupleOf rfl mt (Rj.pe_lcx (Ex := E) (own := [("item", 2)]) (g := gName 2) rfl rfl tk rfl scCopList.nd (pi_row (pv 0)) (blkOk_by (own := [("item", 2)]) (N := ["items", "depth", "item"]) (sc := defScope sCopList) (by decide +kernel))
        (fun _ _ _ _ _ => pg_name (i := 2) scCopList.nd rfl (Or.inl rfl)) (fun _ _ _ _ _ => pe_cal gC hr Rj.fell_passes (pa_cons (pv 2) (pa_cons (pv 1) pa_nil))))))), ?_⟩
    refine ⟨_, rfl, _, _, _, _, rfl, hrow, fun H1 s1 => ?_⟩
    refine ⟨_, rfl, by decide +kernel, .inr ⟨12, rfl, by decide +kernel, _, rfl, by decide +kernel, _, rfl, by decide +kernel, ?_⟩⟩
    have el := hat.len
    refine ⟨_, _, rfl, fun e => ?_, fun e => ?_⟩
    · have e : x.len ≤ 12 := by have := of_decide_eq_true e; rw [el] at this; omega
      rw [decide_eq_true e, Bool.true_and] at q1 q2
      have hrow1 := hrow.same s1
      refine ⟨_, rfl, _, rfl, ?_⟩
      refine row_go hrow1 (fun J wk => ?_)
      intro D hD
      refine lc_it wk (fun i H' => Same H1 H' ∧ ∃ acc, H' D = some (.lst acc) ∧ acc.length = i ∧ (x.take i).At true H' acc ∧ ∀ j < i, ∀ y, x.get j = some y → y.ok d = true)
        ⟨same_new hD _, [], upd_same, rfl, by simp [Its.take, Its.At], fun j hj => absurd hj (Nat.not_lt_zero j)⟩ (fun _ _ _ h => h.1) ?_ ?_
      · rintro i v H2 H3 hi ⟨s2, acc, hacc, hlen, hat2, hok⟩ ⟨e3, hv⟩
        subst e3
        obtain ⟨y, gy, ay⟩ := At_item (hat.same (s1.trans s2)) hv
        refine ⟨rfl, yes_go ?_⟩
        refine ⟨_, rfl, _, rfl, v, y, d, rfl, hd, ay, get_tame ht gy, fun oky v' H4 s4 a4 => ?_, fun no H4 s4 => q2 (get_ok gy no) H4 (s1.trans (s2.trans s4))⟩
        refine ⟨acc, s4 _ _ hacc, small1000 (by omega), same_set (s2.trans s4) hD, acc ++ [v'], upd_same, by simp [hlen], ?_, fun j hj z gz => ?_⟩
        · exact (take_at s4 hat2 gy a4).kp (.wr (s4 _ _ hacc))
        · by_cases hji : j = i
          · subst hji
            rw [gy] at gz
            cases gz
            exact oky
          · exact hok j (by omega) z gz
      · rintro H2 ⟨s2, acc, hacc, hlen, hat2, hok⟩
        refine .inl ⟨D, acc, rfl, SqL.of hacc, fun p hp => ?_⟩
        have okx : x.ok d = true := all_ok fun i y g => hok i (by rw [el]; exact get_lt g) y g
        rw [el, take_all] at hat2
        exact q1 okx p acc _ (s1.trans (same_set s2 (s2.free hp))) upd_same (hat2.same (same_new hp _))
    · have e : ¬ x.len ≤ 12 := fun z => by have := of_decide_eq_false e; rw [el] at this; omega
      rw [decide_eq_false e, Bool.false_and] at q2
      exact q2 rfl H1 s1
end
end Bs

set_option Elab.async false
set_option linter.all false
set_option maxRecDepth 100000
set_option maxHeartbeats 4000000
namespace Bs
open PySem L2
def Blks.take : Nat → Blks → Blks
  | 0, _ => .nil
  | _ + 1, .nil => .nil
  | i + 1, .cons v b r => .cons v b (r.take i)
def Blks.get : Blks → Nat → Option (Int × Its)
  | .nil, _ => none
  | .cons v b _, 0 => some (v, b)
  | .cons _ _ r, i + 1 => r.get i
theorem AtE_item {fz : Bool} {H : Hp} : ∀ {x : Blks} {l : List V} {i : Nat} {v : V}, x.AtE fz H l → l[i]? = some v → ∃ c b q xs, x.get i = some (c, b) ∧ v = .ref q ∧ RowAt fz H q xs ∧ b.At fz H xs
  | .nil, l, i, v, h, e => by simp only [Blks.AtE] at h; subst h; simp at e
  | .cons c b r, l, i, v, h, e => by
    simp only [Blks.AtE] at h
    obtain ⟨q, xs, l', rfl, h1, h2, h3⟩ := h
    cases i with
    | zero => simp at e; subst e; exact ⟨c, b, q, xs, rfl, rfl, h1, h2⟩
    | succ i => exact AtE_item (i := i) h3 (by simpa using e)
theorem AtS_item {fz : Bool} {H : Hp} : ∀ {x : Blks} {l : List V} {i : Nat} {v : V}, x.AtS fz H l → l[i]? = some v → ∃ c b p q xs, x.get i = some (c, b) ∧ v = .ref p ∧ H p = some (.tup [.int c, .ref q]) ∧ RowAt fz H q xs ∧ b.At fz H xs
  | .nil, l, i, v, h, e => by simp only [Blks.AtS] at h; subst h; simp at e
  | .cons c b r, l, i, v, h, e => by
    simp only [Blks.AtS] at h
    obtain ⟨p, q, xs, l', rfl, h0, h1, h2, h3⟩ := h
    cases i with
    | zero => simp at e; subst e; exact ⟨c, b, p, q, xs, rfl, rfl, h0, h1, h2⟩
    | succ i => exact AtS_item (i := i) h3 (by simpa using e)
theorem getB_tame : ∀ {x : Blks} {i : Nat} {c : Int} {b : Its}, x.tame → x.get i = some (c, b) → b.tame
  | .nil, _, _, _, _, e => by simp [Blks.get] at e
  | .cons v b r, 0, c, y, t, e => by simp [Blks.get] at e; simp only [Blks.tame] at t; rw [← e.2]; exact t.1
  | .cons v b r, i + 1, c, y, t, e => by simp only [Blks.tame] at t; exact getB_tame t.2 e
theorem getB_ok : ∀ {x : Blks} {i : Nat} {c : Int} {b : Its} {d : Int}, x.get i = some (c, b) → (decide (b.len ≤ 12) && b.ok d) = false → x.ok d = false
  | .nil, _, _, _, _, e, _ => by simp [Blks.get] at e
  | .cons v b r, 0, c, y, d, e, f => by simp only [Blks.get, Option.some.injEq, Prod.mk.injEq] at e; obtain ⟨rfl, rfl⟩ := e; rw [Blks.ok, f]; rfl
  | .cons v b r, i + 1, c, y, d, e, f => by rw [Blks.ok, getB_ok (x := r) e f]; simp
theorem getB_lt : ∀ {x : Blks} {i : Nat} {y : Int × Its}, x.get i = some y → i < x.len
  | .nil, _, _, e => by simp [Blks.get] at e
  | .cons _ _ r, 0, _, _ => by simp [Blks.len]
  | .cons _ _ r, i + 1, _, e => by simp [Blks.len]; exact getB_lt (x := r) e
theorem takeB_all : ∀ (x : Blks), x.take x.len = x
  | .nil => rfl
  | .cons v b r => by simp [Blks.len, Blks.take, takeB_all r]
theorem allB_ok : ∀ {x : Blks} {d : Int}, (∀ i c b, x.get i = some (c, b) → (decide (b.len ≤ 12) && b.ok d) = true) → x.ok d = true
  | .nil, _, _ => by simp [Blks.ok]
  | .cons v b r, d, h => by rw [Blks.ok, h 0 v b rfl, allB_ok (x := r) fun i c y e => h (i + 1) c y e]; rfl
theorem takeE_at {fz : Bool} {H H' : Hp} (s : Same H H') {q : Addr} {xs : List V} : ∀ {x : Blks} {i : Nat} {l : List V} {c : Int} {b : Its}, (x.take i).AtE fz H l → x.get i = some (c, b) → RowAt fz H' q xs → b.At fz H' xs → (x.take (i + 1)).AtE fz H' (l ++ [.ref q])
  | .nil, _, _, _, _, _, e, _, _ => by simp [Blks.get] at e
  | .cons v x r, 0, l, c, b, h, e, g, k => by
    simp only [Blks.take, Blks.AtE] at h
    simp only [Blks.get, Option.some.injEq, Prod.mk.injEq] at e
    obtain ⟨rfl, rfl⟩ := e
    subst h
    simp only [Blks.take, Blks.AtE]
    exact ⟨q, xs, [], rfl, g, k, by simp [Blks.AtE]⟩
  | .cons v x r, i + 1, l, c, b, h, e, g, k => by
    simp only [Blks.take, Blks.AtE] at h
    obtain ⟨q0, xs0, l', rfl, h1, h2, h3⟩ := h
    show (Blks.cons v x (r.take (i + 1))).AtE fz H' (.ref q0 :: l' ++ [.ref q])
    simp only [Blks.AtE]
    exact ⟨q0, xs0, l' ++ [.ref q], rfl, h1.same s, h2.same s, takeE_at s h3 e g k⟩
theorem takeS_at {fz : Bool} {H H' : Hp} (s : Same H H') {p q : Addr} {xs : List V} : ∀ {x : Blks} {i : Nat} {l : List V} {c : Int} {b : Its}, (x.take i).AtS fz H l → x.get i = some (c, b) → H' p = some (.tup [.int c, .ref q]) → RowAt fz H' q xs → b.At fz H' xs → (x.take (i + 1)).AtS fz H' (l ++ [.ref p])
  | .nil, _, _, _, _, _, e, _, _, _ => by simp [Blks.get] at e
  | .cons v x r, 0, l, c, b, h, e, z, g, k => by
    simp only [Blks.take, Blks.AtS] at h
    simp only [Blks.get, Option.some.injEq, Prod.mk.injEq] at e
    obtain ⟨rfl, rfl⟩ := e
    subst h
    simp only [Blks.take, Blks.AtS]
    exact ⟨p, q, xs, [], rfl, z, g, k, by simp [Blks.AtS]⟩
  | .cons v x r, i + 1, l, c, b, h, e, z, g, k => by
    simp only [Blks.take, Blks.AtS] at h
    obtain ⟨p0, q0, xs0, l', rfl, h0, h1, h2, h3⟩ := h
    show (Blks.cons v x (r.take (i + 1))).AtS fz H' (.ref p0 :: l' ++ [.ref p])
    simp only [Blks.AtS]
    exact ⟨p0, q0, xs0, l' ++ [.ref p], rfl, s _ _ h0, h1.same s, h2.same s, takeS_at s h3 e z g k⟩

def spCopChoices (C : Addr) (n : Nat) : Sp := fun vs H Q E => ∃ (a : Addr) (x : Blks) (xs : List V) (d : Int), vs = [.ref a, .int d] ∧ d + n = 3 ∧ RowAt false H a xs ∧ x.AtE false H xs ∧ x.tame ∧
  ((decide (2 ≤ x.len ∧ x.len ≤ 4) && x.ok d) = true → ∀ p ys H', Same H H' → H' p = some (.tup ys) → x.AtE true H' ys → Q (.ref p) H') ∧ ((decide (2 ≤ x.len ∧ x.len ≤ 4) && x.ok d) = false → ∀ H', Same H H' → E (.ref C) none H')
def spCopCases (C : Addr) (n : Nat) : Sp := fun vs H Q E => ∃ (a : Addr) (x : Blks) (xs : List V) (d : Int), vs = [.ref a, .int d] ∧ d + n = 3 ∧ RowAt false H a xs ∧ x.AtS false H xs ∧ x.tame ∧
  ((decide (1 ≤ x.len ∧ x.len ≤ 8) && x.ok d) = true → ∀ p ys H', Same H H' → H' p = some (.tup ys) → x.AtS true H' ys → Q (.ref p) H') ∧ ((decide (1 ≤ x.len ∧ x.len ≤ 8) && x.ok d) = false → ∀ H', Same H H' → E (.ref C) none H')
section
variable {P : Program} {w : World} {K : PySem.W.Frag} {mg : Str → Option Value} {base : Heap} {f C : Addr} {fd : FuncData}
theorem scCopChoices : FnScope ["choices", "depth", "choice"] ["choices", "depth"] (defScope sCopChoices) := ⟨rfl, rfl, rfl, by decide +kernel, rfl, by decide +kernel, by decide +kernel⟩
theorem ok_copchoices {n k : Nat} (F : Fun K "copied_choices" "copied_choices" sCopChoices f fd) (hk : 2 ≤ k) (gR : Cal P w K mg base (L2.CX P w) 1 "require" ["holds", "words"] (spRequire C)) (gI : Cal P w K mg base CX0 1 "is_row" ["rows", "least", "most"] spIsRow)
    (mt : mg "tuple" = none) (gC : Cal P w K mg base (L2.CX P w) k "copied_list" ["items", "depth"] (spCopList C n)) : FnOk P w K mg base (L2.CX P w) (k + 1) f fd ["choices", "depth"] (spCopChoices C n) := by
  refine F.okX scCopChoices (fun vs H Q E h => ?_) (fun cdv A outer s H vs Q E hr h => ?_)
  · obtain ⟨a, x, xs, d, rfl, _⟩ := h
    rfl
  · obtain ⟨a, x, xs, d, rfl, hd, hrow, hat, ht, q1, q2⟩ := h
    have hr1 : Room 1 _ := hr.mono (by omega)
    have tk : Takes (cxOf (L2.CX P w) P w K mg base ["choices", "depth", "choice"] "copied_choices" (defScope sCopChoices) f cdv A outer s H E) (fun cls d _ H => E cls d H) := takes_of rfl rfl rfl rfl
    have hx := passes_call tk (E := E) fun _ _ _ _ h => h
    refine ⟨_, pss_cons (ps_expr (pe_cal gR hr1 hx (pa_cons (pe_cal gI hr1 pass0 (pa_cons (pv 0) (pa_cons pe_int (pa_cons pe_int pa_nil)))) (pa_cons pe_str pa_nil))))
      (pss_one (ps_ret (pe_tupleOf rfl mt (Rj.pe_lcx (Ex := E) (own := [("choice", 2)]) (g := gName 2) rfl rfl tk rfl scCopChoices.nd (pi_row (pv 0)) (blkOk_by (own := [("choice", 2)]) (N := ["choices", "depth", "choice"]) (sc := defScope sCopChoices) (by decide +kernel))
        (fun _ _ _ _ _ => pg_name (i := 2) scCopChoices.nd rfl (Or.inl rfl)) (fun _ _ _ _ _ => pe_cal gC hr Rj.fell_passes (pa_cons (pv 2) (pa_cons (pv 1) pa_nil))))))), ?_⟩
    refine ⟨_, rfl, _, _, _, _, rfl, hrow, fun H1 s1 => ?_⟩
    have el := hat.len
    have ed : decide (2 ≤ (xs.length : Int) ∧ (xs.length : Int) ≤ 4) = decide (2 ≤ x.len ∧ x.len ≤ 4) := by
      rw [el]; exact decide_eq_decide.mpr ⟨fun ⟨a, b⟩ => ⟨by omega, by omega⟩, fun ⟨a, b⟩ => ⟨by omega, by omega⟩⟩
    refine ⟨_, _, rfl, fun e => ?_, fun e => ?_⟩
    · rw [ed] at e
      have e4 := (of_decide_eq_true e).2
      rw [e, Bool.true_and] at q1 q2
      have hrow1 := hrow.same s1
      refine ⟨_, rfl, _, rfl, ?_⟩
      refine row_go hrow1 (fun J wk => ?_)
      intro D hD
      refine lc_it wk (fun i H' => Same H1 H' ∧ ∃ acc, H' D = some (.lst acc) ∧ acc.length = i ∧ (x.take i).AtE true H' acc ∧ ∀ j < i, ∀ c b, x.get j = some (c, b) → (decide (b.len ≤ 12) && b.ok d) = true)
        ⟨same_new hD _, [], upd_same, rfl, by simp [Blks.take, Blks.AtE], fun j hj => absurd hj (Nat.not_lt_zero j)⟩ (fun _ _ _ h => h.1) ?_ ?_
      · rintro i v H2 H3 hi ⟨s2, acc, hacc, hlen, hat2, hok⟩ ⟨e3, hv⟩
        subst e3
        obtain ⟨c, b, p, zs, gb, rfl, hrw, hb⟩ := AtE_item (hat.same (s1.trans s2)) hv
        refine ⟨rfl, yes_go ?_⟩
        refine ⟨_, rfl, _, rfl, p, b, zs, d, rfl, hd, hrw, hb, getB_tame ht gb, fun okb p' ys H4 s4 h4 a4 => ?_, fun no H4 s4 => q2 (getB_ok gb no) H4 (s1.trans (s2.trans s4))⟩
        refine ⟨acc, s4 _ _ hacc, small1000 (by omega), same_set (s2.trans s4) hD, acc ++ [.ref p'], upd_same, by simp [hlen], ?_, fun j hj c' b' gz => ?_⟩
        · exact (takeE_at s4 hat2 gb (.inl h4) a4).kp (.wr (s4 _ _ hacc))
        · by_cases hji : j = i
          · subst hji
            rw [gb] at gz
            cases gz
            exact okb
          · exact hok j (by omega) c' b' gz
      · rintro H2 ⟨s2, acc, hacc, hlen, hat2, hok⟩
        refine .inl ⟨D, acc, rfl, SqL.of hacc, fun p hp => ?_⟩
        have okx : x.ok d = true := allB_ok fun i c b g => hok i (by rw [el]; exact getB_lt g) c b g
        rw [el, takeB_all] at hat2
        exact q1 okx p acc _ (s1.trans (same_set s2 (s2.free hp))) upd_same (hat2.same (same_new hp _))
    · rw [ed] at e
      rw [e, Bool.false_and] at q2
      exact q2 rfl H1 s1
theorem scCopCases : FnScope ["cases", "depth", "found", "case"] ["cases", "depth"] (defScope sCopCases) := ⟨rfl, rfl, rfl, by decide +kernel, rfl, by decide +kernel, by decide +kernel⟩
theorem ok_copcases {n k : Nat} (F : Fun K "copied_cases" "copied_cases" sCopCases f fd) (hk : 2 ≤ k) (gR : Cal P w K mg base (L2.CX P w) 1 "require" ["holds", "words"] (spRequire C)) (gI : Cal P w K mg base CX0 1 "is_row" ["rows", "least", "most"] spIsRow)
    (mt : mg "tuple" = none) (mi : mg "isinstance" = none) (ml : mg "len" = none) (gC : Cal P w K mg base (L2.CX P w) k "copied_list" ["items", "depth"] (spCopList C n)) : FnOk P w K mg base (L2.CX P w) (k + 1) f fd ["cases", "depth"] (spCopCases C n) := by
  refine F.okX scCopCases (fun vs H Q E h => ?_) (fun cdv A outer s H vs Q E hr h => ?_)
  · obtain ⟨a, x, xs, d, rfl, _⟩ := h
    rfl
  · obtain ⟨a, x, xs, d, rfl, hd, hrow, hat, ht, q1, q2⟩ := h
    have hr1 : Room 1 _ := hr.mono (by omega)
    have tk : Takes (cxOf (L2.CX P w) P w K mg base ["cases", "depth", "found", "case"] "copied_cases" (defScope sCopCases) f cdv A outer s H E) (fun cls d _ H => E cls d H) := takes_of rfl rfl rfl rfl
    have hx := passes_call tk (E := E) fun _ _ _ _ h => h
    refine ⟨_, pss_cons (ps_expr (pe_cal gR hr1 hx (pa_cons (pe_cal gI hr1 pass0 (pa_cons (pv 0) (pa_cons pe_int (pa_cons pe_int pa_nil)))) (pa_cons pe_str pa_nil))))
      (pss_cons (ps_set (i := 2) scCopCases.nd rfl (.inl rfl) (pe_lst pa_nil))
      (pss_cons (ps_for (passes_of rfl) rfl (pi_row (pv 0)) (pg_name (i := 3) scCopCases.nd rfl (.inl rfl))
        (pss_cons (ps_expr (pe_cal gR hr1 hx (pa_cons (pe_and (pe_callB call_isi (by rfl) mi (by decide +kernel) (pa_cons (pv 3) (pa_cons (pe_bltn (v := .ty "tuple") (by rfl) mt (by decide +kernel) rfl) pa_nil)))
            (pe_one (pe_cmpR op_eq (pe_callB call_len (by rfl) ml boot_len (pa_cons (pv 3) pa_nil)) pe_int (nomark _)))) (pa_cons pe_str pa_nil))))
        (pss_one (ps_expr (pe_bm PySem.F.plainAttrs_list PySem.F.slot_list_append PySem.F.type_list_append mt_append (pv 2)
          (pa_cons (pe_tup (pa_cons (pe_ix ix_tup (pv 3) pe_int (fun _ _ => rfl)) (pa_cons (pe_cal gC hr hx (pa_cons (pe_ix ix_tup (pv 3) pe_int (fun _ _ => rfl)) (pa_cons (pv 1) pa_nil))) pa_nil))) pa_nil))))))
      (pss_one (ps_ret (pe_tupleOf rfl mt (pv 2)))))), ?_⟩
    refine ⟨_, rfl, _, _, _, _, rfl, hrow, fun H1 s1 => ?_⟩
    have el := hat.len
    have ed : decide (1 ≤ (xs.length : Int) ∧ (xs.length : Int) ≤ 8) = decide (1 ≤ x.len ∧ x.len ≤ 8) := by
      rw [el]; exact decide_eq_decide.mpr ⟨fun ⟨a, b⟩ => ⟨by omega, by omega⟩, fun ⟨a, b⟩ => ⟨by omega, by omega⟩⟩
    refine ⟨_, _, rfl, fun e => ?_, fun e => ?_⟩
    · rw [ed] at e
      have e8 := (of_decide_eq_true e).2
      rw [e, Bool.true_and] at q1 q2
      refine ⟨Nat.zero_le _, fun D hD => ?_⟩
      refine ⟨_, rfl, _, rfl, ?_⟩
      refine row_go2 (hrow.same s1) (same_new hD _) (fun J wk => ?_)
      refine for_it wk (fun i σ H' => ∃ cv, σ = [some (.ref a), some (.int d), some (.ref D), cv] ∧ Same H1 H' ∧ ∃ acc, H' D = some (.lst acc) ∧ acc.length = i ∧ (x.take i).AtS true H' acc ∧ ∀ j < i, ∀ c b, x.get j = some (c, b) → (decide (b.len ≤ 12) && b.ok d) = true)
        ⟨none, rfl, same_new hD _, [], upd_same, rfl, by simp [Blks.take, Blks.AtS], fun j hj => absurd hj (Nat.not_lt_zero j)⟩ (fun _ _ _ _ h => by obtain ⟨_, _, z, _⟩ := h; exact z) ?_ ?_
      · rintro i v σ H2 H3 hi ⟨cv, rfl, s2, acc, hacc, hlen, hat2, hok⟩ ⟨e3, hv⟩
        subst e3
        obtain ⟨c, b, p, q, zs, gb, rfl, hp, hrw, hb⟩ := AtS_item (hat.same (s1.trans s2)) hv
        refine ⟨_, rfl, _, _, _, _, true, rfl, .ty _, .base (.tup hp), kit_ty (by decide +kernel), _, rfl, iteT ?_⟩
        refine ⟨_, rfl, _, _, rfl, .inr ⟨_, SqT.of hp, rfl⟩, rfl, ?_⟩
        refine ⟨true, _, rfl, fun _ => ?_, fun z => by cases z⟩
        refine ⟨_, rfl, .inl ⟨rfl, _, SqL.of hacc⟩, ?_⟩
        refine ⟨_, rfl, p, _, 0, _, rfl, rfl, SqT.of hp, atI_nat (j := 0) rfl, ?_⟩
        refine ⟨_, rfl, p, _, 1, _, rfl, rfl, SqT.of hp, atI_nat (j := 1) rfl, ?_⟩
        refine ⟨_, rfl, q, b, zs, d, rfl, hd, hrw, hb, getB_tame ht gb, fun okb p' ys H4 s4 h4 a4 => ?_, fun no H4 s4 => q2 (getB_ok gb no) H4 (s1.trans (s2.trans s4))⟩
        refine ⟨by show 2 ≤ sizeLine; decide, fun t ht4 => ?_⟩
        have s5 : Same H4 (upd H4 t (.tup [.int c, .ref p'])) := same_new ht4 _
        have hacc5 := s5 _ _ (s4 _ _ hacc)
        refine ⟨D, acc, .ref t, rfl, rfl, hacc5, small1000 (by omega), ?_⟩
        refine ⟨_, rfl, same_set (s2.trans (s4.trans s5)) hD, acc ++ [.ref t], upd_same, by simp [hlen], ?_, fun j hj c' b' gz => ?_⟩
        · exact (takeS_at (s4.trans s5) hat2 gb upd_same (.inl (s5 _ _ h4)) (a4.same s5)).kp (.wr hacc5)
        · by_cases hji : j = i
          · subst hji
            rw [gb] at gz
            cases gz
            exact okb
          · exact hok j (by omega) c' b' gz
      · rintro σ H2 ⟨cv, rfl, s2, acc, hacc, hlen, hat2, hok⟩
        refine ⟨_, rfl, .inl ⟨D, acc, rfl, SqL.of hacc, fun p hp => ?_⟩⟩
        have okx : x.ok d = true := allB_ok fun i c b g => hok i (by rw [el]; exact getB_lt g) c b g
        rw [el, takeB_all] at hat2
        exact q1 okx p acc _ (s1.trans (same_set s2 (s2.free hp))) upd_same (hat2.same (same_new hp _))
    · rw [ed] at e
      rw [e, Bool.false_and] at q2
      exact q2 rfl H1 s1
end
end Bs

set_option Elab.async false
set_option linter.all false
set_option maxRecDepth 100000
set_option maxHeartbeats 4000000
namespace Bs
open PySem L2
def It.kind : It → Str
  | .num .. => "number" | .byt .. => "bytes" | .txt .. => "text" | .rep .. => "repeat" | .eit .. => "either" | .swi .. => "switch" | .chk .. => "check" | .pad .. => "pad" | .odd k _ _ => k
def It.parts : It → Nat
  | .num .. => 6 | .byt .. => 3 | .txt .. => 4 | .rep .. => 4 | .eit .. => 3 | .swi .. => 4 | .chk .. => 3 | .pad .. => 4 | .odd _ _ m => m
def It.blocky : It → Bool
  | .rep .. => true | .eit .. => true | .swi .. => true | _ => false
def It.isOdd : It → Bool
  | .odd .. => true | _ => false
theorem ok_odd {x : It} {d : Int} (h : x.isOdd = true) : x.ok d = false := by
  cases x <;> first | (cases h; done) | simp [It.ok]
theorem odd_of {x : It} {d : Int} (h : x.ok d = true) : x.isOdd = false := by
  cases e : x.isOdd with
  | false => rfl
  | true => rw [ok_odd e] at h; cases h
/-- PARTS and WITH_BLOCKS -/
structure Kinds (K : PySem.W.Frag) (w : World) (mg : Str → Option Value) : Prop where
  p : ∃ d es n, mg "PARTS" = some (.ref d) ∧ KDict K w d es n ∧ (∀ x : It, x.isOdd = false → ∃ t, PySem.W.nsIn K d x.kind = some (some (.int (x.parts : Nat) t))) ∧ ∀ z ∈ oddWords, PySem.W.nsIn K d z = some none
  b : ∃ a, mg "WITH_BLOCKS" = some (.ref a) ∧ ∀ H, SqT K H a [.str "repeat", .str "either", .str "switch"]
theorem At_head {fz : Bool} {H : Hp} : ∀ {x : It} {v : V}, x.At fz H v → ∃ p rest, v = .ref p ∧ H p = some (.tup (.str x.kind :: .str x.name :: rest)) ∧ rest.length + 2 = x.parts
  | .num .., _, h => by simp only [It.At] at h; obtain ⟨p, e, h⟩ := h; exact ⟨p, _, e, h, rfl⟩
  | .byt .., _, h => by simp only [It.At] at h; obtain ⟨p, e, h⟩ := h; exact ⟨p, _, e, h, rfl⟩
  | .txt .., _, h => by simp only [It.At] at h; obtain ⟨p, e, h⟩ := h; exact ⟨p, _, e, h, rfl⟩
  | .chk .., _, h => by simp only [It.At] at h; obtain ⟨p, e, h⟩ := h; exact ⟨p, _, e, h, rfl⟩
  | .pad .., _, h => by simp only [It.At] at h; obtain ⟨p, e, h⟩ := h; exact ⟨p, _, e, h, rfl⟩
  | .odd .., _, h => by simp only [It.At] at h; obtain ⟨p, r, e, h, q, _⟩ := h; exact ⟨p, r, e, h, q⟩
  | .rep .., _, h => by simp only [It.At] at h; obtain ⟨p, q, xs, e, h, _⟩ := h; exact ⟨p, _, e, h, rfl⟩
  | .eit .., _, h => by simp only [It.At] at h; obtain ⟨p, q, xs, e, h, _⟩ := h; exact ⟨p, _, e, h, rfl⟩
  | .swi .., _, h => by simp only [It.At] at h; obtain ⟨p, q, xs, e, h, _⟩ := h; exact ⟨p, _, e, h, rfl⟩
theorem blocky_in (x : It) (h : x.isOdd = false) : inV (.str x.kind) [.str "repeat", .str "either", .str "switch"] = x.blocky := by cases x <;> first | (cases h; done) | (simp only [It.kind, It.blocky]; decide +kernel)
theorem ok_name {x : It} {d : Int} (h : isName x.name = false) : x.ok d = false := by
  cases x <;> simp only [It.name] at h <;> simp [It.ok, It.name, h]
theorem ok_deep {x : It} {d : Int} (h : ¬ d ≤ (if x.blocky = true then 2 else 3)) : x.ok d = false := by
  cases x <;> simp [It.blocky] at h <;> simp [It.ok] <;> intros <;> omega
theorem deep_go {c : Bool} {σ : L2.St} {H : Hp} {R : V → Hp → Prop} (h : R (.int (if c = true then 2 else 3)) H) : if c = true then tOp (rI0 fun i j => V.int (i - j)) (tC (.int 3)) (tC (.int 1)) σ H R else tC (.int 3) σ H R := by
  cases c with
  | true => exact iteT ⟨_, _, rfl, rfl, h⟩
  | false => exact iteF h
theorem kne {a b : Str} (h : a ≠ b) : ¬ V.str a = V.str b := fun z => h (V.str.inj z)
/-- the copies one deeper, where there is one -/
def spSub (sp : Nat → Sp) : Nat → Sp
  | 0 => fun _ _ _ _ => False
  | n + 1 => sp n
section
variable {P : Program} {w : World} {K : PySem.W.Frag} {mg : Str → Option Value} {base : Heap} {f C : Addr} {fd : FuncData}
theorem scCopItem : FnScope ["item", "depth", "kind", "deepest"] ["item", "depth"] (defScope sCopItem) := ⟨rfl, rfl, rfl, by decide +kernel, rfl, by decide +kernel, by decide +kernel⟩
theorem ok_copitem {n0 k : Nat} (F : Fun K "copied_item" "copied_item" sCopItem f fd) (hk : 1 ≤ k) (T : Kinds K w mg) (gR : Cal P w K mg base (L2.CX P w) 1 "require" ["holds", "words"] (spRequire C)) (gN : Cal P w K mg base CX0 1 "is_name" ["text"] spIsName)
    (mt : mg "tuple" = none) (mi : mg "isinstance" = none) (ml : mg "len" = none) (ms : mg "str" = none) (gD : GInt mg "DEEPEST" 3) (gL : Cal P w K mg base (L2.CX P w) k "copied_list" ["items", "depth"] (spSub (spCopList C) n0))
    (gCh : Cal P w K mg base (L2.CX P w) k "copied_choices" ["choices", "depth"] (spSub (spCopChoices C) n0)) (gCa : Cal P w K mg base (L2.CX P w) k "copied_cases" ["cases", "depth"] (spSub (spCopCases C) n0)) : FnOk P w K mg base (L2.CX P w) (k + 1) f fd ["item", "depth"] (spCopItem C n0) := by
  refine F.okX scCopItem (fun vs H Q E h => ?_) (fun cdv A outer s H vs Q E hr h => ?_)
  · obtain ⟨v, x, d, rfl, _⟩ := h
    rfl
  · obtain ⟨v, x, d, rfl, hd, hat, ht, q1, q2⟩ := h
    obtain ⟨p, rest, rfl, hp, hlen⟩ := At_head hat
    obtain ⟨dP, es, nn, gP, D, hP⟩ := T.p
    obtain ⟨aB, gB, hB⟩ := T.b
    obtain ⟨hP, hW⟩ := hP
    have hr1 : Room 1 _ := hr.mono (by omega)
    have tk : Takes (cxOf (L2.CX P w) P w K mg base ["item", "depth", "kind", "deepest"] "copied_item" (defScope sCopItem) f cdv A outer s H E) (fun cls d _ H => E cls d H) := takes_of rfl rfl rfl rfl
    have hx := passes_call tk (E := E) fun _ _ _ _ h => h
    refine ⟨_, pss_cons (ps_expr (pe_cal gR hr1 hx (pa_cons (pe_and (pe_callB call_isi (by rfl) mi (by decide +kernel) (pa_cons (pv 0) (pa_cons (pe_bltn (v := .ty "tuple") (by rfl) mt (by decide +kernel) rfl) pa_nil)))
          (pe_one (pe_cmpR op_gt (pe_callB call_len (by rfl) ml boot_len (pa_cons (pv 0) pa_nil)) pe_int (nomark _)))) (pa_cons pe_str pa_nil))))
      (pss_cons (ps_set (i := 2) scCopItem.nd rfl (.inl rfl) (pe_ix ix_tup (pv 0) pe_int (fun _ _ => rfl)))
      (pss_cons (ps_expr (pe_cal gR hr1 hx (pa_cons (pe_and (pe_callB call_isi (by rfl) mi (by decide +kernel) (pa_cons (pv 2) (pa_cons (pe_bltn (v := .ty "str") (by rfl) ms (by decide +kernel) rfl) pa_nil)))
          (pe_one (pe_cmpR (op_in_kd D) (pv 2) (pe_glob (v := .ref dP) (by rfl) gP rfl) (by rfl)))) (pa_cons pe_str pa_nil))))
      (pss_cons (ps_expr (pe_cal gR hr1 hx (pa_cons (pe_cmpR op_eq (pe_callB call_len (by rfl) ml boot_len (pa_cons (pv 0) pa_nil)) (pe_ix ix_kdict (pe_glob (v := .ref dP) (by rfl) gP rfl) (pv 2) (fun _ _ => rfl)) (nomark _))
          (pa_cons (pe_joined (.cons pe_str (.cons (pe_fmt (pv 2)) (.cons pe_str .nil)))) pa_nil))))
      (pss_cons (ps_expr (pe_cal gR hr1 hx (pa_cons (pe_cal gN hr1 pass0 (pa_cons (pe_ix ix_tup (pv 0) pe_int (fun _ _ => rfl)) pa_nil)) (pa_cons pe_str pa_nil))))
      (pss_cons (ps_set (i := 3) scCopItem.nd rfl (.inl rfl) (pe_ifExp (pt_cmpR op_in_seq (pv 2) (pe_glob (v := .ref aB) (by rfl) gB rfl) (by rfl)) (pe_op op_sub (pe_gint gD rfl) pe_int) (pe_gint gD rfl)))
      (pss_cons (ps_expr (pe_cal gR hr1 hx (pa_cons (pe_cmpR op_le (pv 1) (pv 3) (nomark _)) (pa_cons (pe_joined (.cons pe_str (.cons (pe_fmt (pv 2)) (.cons pe_str .nil)))) pa_nil))))
      (pss_cons (ps_if (pt_cmpR op_eq (pv 2) pe_str (nomark _)) (pss_one (ps_ret (pe_op op_catT (pe_slice sl_tup (pv 0) po_none (po_some pe_int)) (pe_tup (pa_cons (pe_cal gL hr hx (pa_cons (pe_ix ix_tup (pv 0) pe_int (fun _ _ => rfl)) (pa_cons (pe_op op_add (pv 1) pe_int) pa_nil))) pa_nil))))) pss_nil)
      (pss_cons (ps_if (pt_cmpR op_eq (pv 2) pe_str (nomark _)) (pss_one (ps_ret (pe_op op_catT (pe_slice sl_tup (pv 0) po_none (po_some pe_int)) (pe_tup (pa_cons (pe_cal gCh hr hx (pa_cons (pe_ix ix_tup (pv 0) pe_int (fun _ _ => rfl)) (pa_cons (pe_op op_add (pv 1) pe_int) pa_nil))) pa_nil))))) pss_nil)
      (pss_cons (ps_if (pt_cmpR op_eq (pv 2) pe_str (nomark _)) (pss_one (ps_ret (pe_op op_catT (pe_slice sl_tup (pv 0) po_none (po_some pe_int)) (pe_tup (pa_cons (pe_cal gCa hr hx (pa_cons (pe_ix ix_tup (pv 0) pe_int (fun _ _ => rfl)) (pa_cons (pe_op op_add (pv 1) pe_int) pa_nil))) pa_nil))))) pss_nil)
      (pss_one (ps_ret (pe_tupleOf rfl mt (pv 0))))))))))))), ?_⟩
    by_cases ho : x.isOdd = true
    · have hT : SqT K H p _ := SqT.of hp
      have no := q2 (ok_odd ho)
      refine ⟨_, rfl, _, _, _, _, true, rfl, .ty _, .base (.tup hp), kit_ty (by decide +kernel), _, rfl, iteT ?_⟩
      refine ⟨_, rfl, _, _, rfl, .inr ⟨_, hT, rfl⟩, _, _, rfl, rfl, ?_⟩
      refine ⟨_, _, rfl, fun _ => ?_, fun _ => no _ (Same.refl _)⟩
      refine ⟨_, rfl, p, _, 0, _, rfl, rfl, hT, atI_nat (j := 0) rfl, ?_⟩
      refine ⟨_, rfl, _, _, _, _, true, rfl, .ty _, .base (.str _), kit_ty (by decide +kernel), _, rfl, iteT ?_⟩
      cases x with
      | odd k n m =>
        simp only [It.At] at hat
        obtain ⟨p', r, e1, h1, hm, hk⟩ := hat
        rcases hk with hk | ⟨j, hj, hne⟩
        · exact ⟨_, rfl, k, none, rfl, rfl, hW k hk, _, _, rfl, (fun z => by cases z), fun _ => no _ (Same.refl _)⟩
        · obtain ⟨y, hy, e2, e3⟩ : ∃ y : It, y.isOdd = false ∧ y.kind = k ∧ y.parts = j := by
            simp only [kindP, List.mem_cons, Prod.mk.injEq, List.not_mem_nil, or_false] at hj
            rcases hj with ⟨a, b⟩ | ⟨a, b⟩ | ⟨a, b⟩ | ⟨a, b⟩ | ⟨a, b⟩ | ⟨a, b⟩ | ⟨a, b⟩ | ⟨a, b⟩
            · exact ⟨.num "" 0 "" 0 0, rfl, a.symm, b.symm⟩
            · exact ⟨.byt "" (.inl 0), rfl, a.symm, b.symm⟩
            · exact ⟨.txt "" 0 0, rfl, a.symm, b.symm⟩
            · exact ⟨.rep "" (.inl 0) .nil, rfl, a.symm, b.symm⟩
            · exact ⟨.eit "" .nil, rfl, a.symm, b.symm⟩
            · exact ⟨.swi "" "" .nil, rfl, a.symm, b.symm⟩
            · exact ⟨.chk "" 0, rfl, a.symm, b.symm⟩
            · exact ⟨.pad "" 0 0, rfl, a.symm, b.symm⟩
          obtain ⟨t6, ns6⟩ := hP y hy
          have fz : (Str.empty ++ ("the kind " : Str)).length ≤ sizeLine ∧ k.length ≤ sizeLine ∧ (Str.empty ++ ("the kind " : Str) ++ k).length ≤ sizeLine ∧ (Str.empty ++ ("the kind " : Str) ++ k ++ (" has another number of parts" : Str)).length ≤ sizeLine := by
            rw [← e2]; cases y <;> first | (cases hy; done) | (simp only [It.kind]; decide +kernel)
          obtain ⟨a1, a2, a3, a4⟩ := fz
          rw [e2, e3] at ns6
          refine ⟨_, rfl, k, _, rfl, rfl, ns6, _, _, rfl, fun _ => ?_, fun z => by cases z⟩
          refine ⟨_, rfl, _, _, rfl, .inr ⟨_, hT, rfl⟩, _, rfl, dP, k, .int (j : Nat), rfl, rfl, ⟨es, nn, _, D.at_, D.lit, ns6, t6, rfl⟩, rfl, ?_⟩
          refine ⟨_, rfl, a1, _, rfl, .inl ⟨_, rfl, a2, _, rfl, a3, _, rfl, a4, _, _, rfl, fun z => ?_, fun _ => no _ (Same.refl _)⟩⟩
          have z := of_decide_eq_true z
          injection z with z
          rw [List.length_cons, List.length_cons] at z
          have hlen : rest.length + 2 = m := hlen
          exact absurd (show j = m by omega) hne
      | _ => cases ho
    have ho : x.isOdd = false := by cases e : x.isOdd with
      | true => exact absurd e ho
      | false => rfl
    obtain ⟨t6, ns6⟩ := hP x ho
    have fs1 : ∀ y : Str, y = x.kind → (Str.empty ++ ("the kind " : Str)).length ≤ sizeLine ∧ y.length ≤ sizeLine ∧ (Str.empty ++ ("the kind " : Str) ++ y).length ≤ sizeLine ∧ (Str.empty ++ ("the kind " : Str) ++ y ++ (" has another number of parts" : Str)).length ≤ sizeLine := by
      rintro y rfl; cases x <;> first | (cases ho; done) | (simp only [It.kind]; decide +kernel)
    have fs2 : ∀ y : Str, y = x.kind → (Str.empty ++ ("an item of the kind " : Str)).length ≤ sizeLine ∧ y.length ≤ sizeLine ∧ (Str.empty ++ ("an item of the kind " : Str) ++ y).length ≤ sizeLine ∧ (Str.empty ++ ("an item of the kind " : Str) ++ y ++ (" stands too deep" : Str)).length ≤ sizeLine := by
      rintro y rfl; cases x <;> first | (cases ho; done) | (simp only [It.kind]; decide +kernel)
    obtain ⟨a1, a2, a3, a4⟩ := fs1 _ rfl
    obtain ⟨b1, b2, b3, b4⟩ := fs2 _ rfl
    have hT : SqT K H p _ := SqT.of hp
    -- an item is a tuple
    refine ⟨_, rfl, _, _, _, _, true, rfl, .ty _, .base (.tup hp), kit_ty (by decide +kernel), _, rfl, iteT ?_⟩
    refine ⟨_, rfl, _, _, rfl, .inr ⟨_, hT, rfl⟩, _, _, rfl, rfl, ?_⟩
    refine ⟨_, _, rfl, fun _ => ?_, fun z => absurd (show (0 : Int) < ((V.str x.kind :: V.str x.name :: rest).length : Nat) by rw [List.length_cons]; omega) (of_decide_eq_false z)⟩
    -- its kind
    refine ⟨_, rfl, p, _, 0, _, rfl, rfl, hT, atI_nat (j := 0) rfl, ?_⟩
    refine ⟨_, rfl, _, _, _, _, true, rfl, .ty _, .base (.str _), kit_ty (by decide +kernel), _, rfl, iteT ?_⟩
    refine ⟨_, rfl, x.kind, _, rfl, rfl, ns6, _, _, rfl, fun _ => ?_, fun z => by cases z⟩
    -- its parts
    refine ⟨_, rfl, _, _, rfl, .inr ⟨_, hT, rfl⟩, _, rfl, dP, x.kind, .int (x.parts : Nat), rfl, rfl, ⟨es, nn, _, D.at_, D.lit, ns6, t6, rfl⟩, rfl, ?_⟩
    refine ⟨_, rfl, a1, _, rfl, .inl ⟨_, rfl, a2, _, rfl, a3, _, rfl, a4, _, _, rfl, fun _ => ?_, fun z => absurd (show V.int ((V.str x.kind :: V.str x.name :: rest).length : Nat) = V.int (x.parts : Nat) by rw [List.length_cons, List.length_cons, ← hlen]) (of_decide_eq_false z)⟩⟩
    -- its name
    refine ⟨_, rfl, p, _, 1, _, rfl, rfl, hT, atI_nat (j := 1) rfl, x.name, rfl, Nat.le_of_lt (small1000 (It.tame_name ht)), fun H1 s1 => ?_⟩
    refine ⟨_, _, rfl, fun en => ?_, fun en => q2 (ok_name en) H1 s1⟩
    have hT1 : SqT K H1 p _ := SqT.of (s1 _ _ hp)
    refine ⟨_, rfl, aB, _, rfl, .inr (hB H1), rfl, by decide +kernel, x.blocky, congrArg V.bl (blocky_in x ho), ?_⟩
    refine deep_go ?_
    refine ⟨_, rfl, _, rfl, _, _, rfl, rfl, _, rfl, b1, _, rfl, .inl ⟨_, rfl, b2, _, rfl, b3, _, rfl, b4, _, _, rfl, fun e => ?_, fun e => q2 (ok_deep (of_decide_eq_false e)) H1 s1⟩⟩
    have e : d ≤ (if x.blocky = true then 2 else 3) := of_decide_eq_true e
    cases x with
    | odd k n m => cases ho
    | num n size order low high =>
      refine ⟨_, rfl, rfl, _, rfl, ite2 (fun z => absurd (of_decide_eq_true z) (kne (by simp only [It.kind]; decide +kernel))) (fun _ => ?_)⟩
      refine ⟨_, rfl, rfl, _, rfl, ite2 (fun z => absurd (of_decide_eq_true z) (kne (by simp only [It.kind]; decide +kernel))) (fun _ => ?_)⟩
      refine ⟨_, rfl, rfl, _, rfl, ite2 (fun z => absurd (of_decide_eq_true z) (kne (by simp only [It.kind]; decide +kernel))) (fun _ => ?_)⟩
      refine ⟨_, rfl, .inr ⟨p, _, rfl, hT1, q1 ?_ _ H1 s1 ?_⟩⟩
      · have e : d ≤ 3 := e
        have en : isName n = true := en
        simp [It.ok, It.name, en, e]
      · refine It.At.same s1 ?_
        simp only [It.At] at hat ⊢
        exact hat
    | byt n amt =>
      refine ⟨_, rfl, rfl, _, rfl, ite2 (fun z => absurd (of_decide_eq_true z) (kne (by simp only [It.kind]; decide +kernel))) (fun _ => ?_)⟩
      refine ⟨_, rfl, rfl, _, rfl, ite2 (fun z => absurd (of_decide_eq_true z) (kne (by simp only [It.kind]; decide +kernel))) (fun _ => ?_)⟩
      refine ⟨_, rfl, rfl, _, rfl, ite2 (fun z => absurd (of_decide_eq_true z) (kne (by simp only [It.kind]; decide +kernel))) (fun _ => ?_)⟩
      refine ⟨_, rfl, .inr ⟨p, _, rfl, hT1, q1 ?_ _ H1 s1 ?_⟩⟩
      · have e : d ≤ 3 := e
        have en : isName n = true := en
        simp [It.ok, It.name, en, e]
      · refine It.At.same s1 ?_
        simp only [It.At] at hat ⊢
        exact hat
    | txt n stop most =>
      refine ⟨_, rfl, rfl, _, rfl, ite2 (fun z => absurd (of_decide_eq_true z) (kne (by simp only [It.kind]; decide +kernel))) (fun _ => ?_)⟩
      refine ⟨_, rfl, rfl, _, rfl, ite2 (fun z => absurd (of_decide_eq_true z) (kne (by simp only [It.kind]; decide +kernel))) (fun _ => ?_)⟩
      refine ⟨_, rfl, rfl, _, rfl, ite2 (fun z => absurd (of_decide_eq_true z) (kne (by simp only [It.kind]; decide +kernel))) (fun _ => ?_)⟩
      refine ⟨_, rfl, .inr ⟨p, _, rfl, hT1, q1 ?_ _ H1 s1 ?_⟩⟩
      · have e : d ≤ 3 := e
        have en : isName n = true := en
        simp [It.ok, It.name, en, e]
      · refine It.At.same s1 ?_
        simp only [It.At] at hat ⊢
        exact hat
    | chk n m =>
      refine ⟨_, rfl, rfl, _, rfl, ite2 (fun z => absurd (of_decide_eq_true z) (kne (by simp only [It.kind]; decide +kernel))) (fun _ => ?_)⟩
      refine ⟨_, rfl, rfl, _, rfl, ite2 (fun z => absurd (of_decide_eq_true z) (kne (by simp only [It.kind]; decide +kernel))) (fun _ => ?_)⟩
      refine ⟨_, rfl, rfl, _, rfl, ite2 (fun z => absurd (of_decide_eq_true z) (kne (by simp only [It.kind]; decide +kernel))) (fun _ => ?_)⟩
      refine ⟨_, rfl, .inr ⟨p, _, rfl, hT1, q1 ?_ _ H1 s1 ?_⟩⟩
      · have e : d ≤ 3 := e
        have en : isName n = true := en
        simp [It.ok, It.name, en, e]
      · refine It.At.same s1 ?_
        simp only [It.At] at hat ⊢
        exact hat
    | pad n m b =>
      refine ⟨_, rfl, rfl, _, rfl, ite2 (fun z => absurd (of_decide_eq_true z) (kne (by simp only [It.kind]; decide +kernel))) (fun _ => ?_)⟩
      refine ⟨_, rfl, rfl, _, rfl, ite2 (fun z => absurd (of_decide_eq_true z) (kne (by simp only [It.kind]; decide +kernel))) (fun _ => ?_)⟩
      refine ⟨_, rfl, rfl, _, rfl, ite2 (fun z => absurd (of_decide_eq_true z) (kne (by simp only [It.kind]; decide +kernel))) (fun _ => ?_)⟩
      refine ⟨_, rfl, .inr ⟨p, _, rfl, hT1, q1 ?_ _ H1 s1 ?_⟩⟩
      · have e : d ≤ 3 := e
        have en : isName n = true := en
        simp [It.ok, It.name, en, e]
      · refine It.At.same s1 ?_
        simp only [It.At] at hat ⊢
        exact hat
    | rep n amt b =>
      have e : d ≤ 2 := e
      have en : isName n = true := en
      simp only [It.At] at hat
      obtain ⟨p', q, xs, e1, h1, hrow, hb⟩ := hat
      cases e1
      simp only [It.tame] at ht
      refine ⟨_, rfl, rfl, _, rfl, ite2 (fun _ => ?_) (fun z => (z (decide_eq_true rfl)).elim)⟩
      cases n0 with
      | zero => exfalso; omega
      | succ m =>
        have g1 : H1 p = _ := s1 _ _ h1
        refine ⟨_, rfl, 3, rfl, p, _, rfl, SqT.of g1, by simp only [List.length_cons, List.length_nil]; decide, fun p1 hp1 => ?_⟩
        have s2 := same_new hp1 (.tup (cutV [.str "repeat", .str n, kV amt, .ref q] none (some 3)))
        have g2 := s2 _ _ g1
        refine ⟨_, rfl, p, _, 3, _, rfl, rfl, SqT.of g2, atI_nat (j := 3) rfl, ?_⟩
        refine ⟨_, rfl, d, 1, rfl, rfl, ?_⟩
        have s12 := s1.trans s2
        refine ⟨q, _, xs, d + 1, rfl, by omega, hrow.same s12, hb.same s12, ht.2.2, fun ok p2 ys H2 s3 h2 a2 => ?_, fun no H2 s3 => q2 (by simp only [It.ok]; rw [no]; simp) H2 (s12.trans s3)⟩
        refine ⟨by show 1 ≤ sizeLine; decide, fun t ht4 => ?_⟩
        have s4 := same_new ht4 (.tup [.ref p2])
        refine ⟨p1, t, [.str "repeat", .str n, kV amt], [.ref p2], rfl, rfl, SqT.of (s4 _ _ (s3 _ _ upd_same)), SqT.of upd_same, by simp, by show 4 ≤ sizeLine; decide, fun z => absurd z (by simp), fun _ p3 hp3 => ?_⟩
        refine q1 (by simp only [It.ok]; rw [ok]; simp [en, e]) (.ref p3) _ (s12.trans (s3.trans (s4.trans (same_new hp3 _)))) ?_
        simp only [It.At]
        exact ⟨p3, p2, ys, rfl, upd_same, .inl ((s4.trans (same_new hp3 _)) _ _ h2), a2.same (s4.trans (same_new hp3 _))⟩
    | eit n bs =>
      have e : d ≤ 2 := e
      have en : isName n = true := en
      simp only [It.At] at hat
      obtain ⟨p', q, xs, e1, h1, hrow, hb⟩ := hat
      cases e1
      simp only [It.tame] at ht
      refine ⟨_, rfl, rfl, _, rfl, ite2 (fun z => absurd (of_decide_eq_true z) (kne (by simp only [It.kind]; decide +kernel))) (fun _ => ?_)⟩
      refine ⟨_, rfl, rfl, _, rfl, ite2 (fun _ => ?_) (fun z => (z (decide_eq_true rfl)).elim)⟩
      cases n0 with
      | zero => exfalso; omega
      | succ m =>
        have g1 : H1 p = _ := s1 _ _ h1
        refine ⟨_, rfl, 2, rfl, p, _, rfl, SqT.of g1, by simp only [List.length_cons, List.length_nil]; decide, fun p1 hp1 => ?_⟩
        have s2 := same_new hp1 (.tup (cutV [.str "either", .str n, .ref q] none (some 2)))
        have g2 := s2 _ _ g1
        refine ⟨_, rfl, p, _, 2, _, rfl, rfl, SqT.of g2, atI_nat (j := 2) rfl, ?_⟩
        refine ⟨_, rfl, d, 1, rfl, rfl, ?_⟩
        have s12 := s1.trans s2
        refine ⟨q, _, xs, d + 1, rfl, by omega, hrow.same s12, hb.same s12, ht.2, fun ok p2 ys H2 s3 h2 a2 => ?_, fun no H2 s3 => q2 (by simp only [It.ok]; rw [no]; simp) H2 (s12.trans s3)⟩
        refine ⟨by show 1 ≤ sizeLine; decide, fun t ht4 => ?_⟩
        have s4 := same_new ht4 (.tup [.ref p2])
        refine ⟨p1, t, [.str "either", .str n], [.ref p2], rfl, rfl, SqT.of (s4 _ _ (s3 _ _ upd_same)), SqT.of upd_same, by simp, by show 3 ≤ sizeLine; decide, fun z => absurd z (by simp), fun _ p3 hp3 => ?_⟩
        refine q1 (by simp only [It.ok]; rw [ok]; simp [en, e]) (.ref p3) _ (s12.trans (s3.trans (s4.trans (same_new hp3 _)))) ?_
        simp only [It.At]
        exact ⟨p3, p2, ys, rfl, upd_same, .inl ((s4.trans (same_new hp3 _)) _ _ h2), a2.same (s4.trans (same_new hp3 _))⟩
    | swi n tag bs =>
      have e : d ≤ 2 := e
      have en : isName n = true := en
      simp only [It.At] at hat
      obtain ⟨p', q, xs, e1, h1, hrow, hb⟩ := hat
      cases e1
      simp only [It.tame] at ht
      refine ⟨_, rfl, rfl, _, rfl, ite2 (fun z => absurd (of_decide_eq_true z) (kne (by simp only [It.kind]; decide +kernel))) (fun _ => ?_)⟩
      refine ⟨_, rfl, rfl, _, rfl, ite2 (fun z => absurd (of_decide_eq_true z) (kne (by simp only [It.kind]; decide +kernel))) (fun _ => ?_)⟩
      refine ⟨_, rfl, rfl, _, rfl, ite2 (fun _ => ?_) (fun z => (z (decide_eq_true rfl)).elim)⟩
      cases n0 with
      | zero => exfalso; omega
      | succ m =>
        have g1 : H1 p = _ := s1 _ _ h1
        refine ⟨_, rfl, 3, rfl, p, _, rfl, SqT.of g1, by simp only [List.length_cons, List.length_nil]; decide, fun p1 hp1 => ?_⟩
        have s2 := same_new hp1 (.tup (cutV [.str "switch", .str n, .str tag, .ref q] none (some 3)))
        have g2 := s2 _ _ g1
        refine ⟨_, rfl, p, _, 3, _, rfl, rfl, SqT.of g2, atI_nat (j := 3) rfl, ?_⟩
        refine ⟨_, rfl, d, 1, rfl, rfl, ?_⟩
        have s12 := s1.trans s2
        refine ⟨q, _, xs, d + 1, rfl, by omega, hrow.same s12, hb.same s12, ht.2.2, fun ok p2 ys H2 s3 h2 a2 => ?_, fun no H2 s3 => q2 (by simp only [It.ok]; rw [no]; simp) H2 (s12.trans s3)⟩
        refine ⟨by show 1 ≤ sizeLine; decide, fun t ht4 => ?_⟩
        have s4 := same_new ht4 (.tup [.ref p2])
        refine ⟨p1, t, [.str "switch", .str n, .str tag], [.ref p2], rfl, rfl, SqT.of (s4 _ _ (s3 _ _ upd_same)), SqT.of upd_same, by simp, by show 4 ≤ sizeLine; decide, fun z => absurd z (by simp), fun _ p3 hp3 => ?_⟩
        refine q1 (by simp only [It.ok]; rw [ok]; simp [en, e]) (.ref p3) _ (s12.trans (s3.trans (s4.trans (same_new hp3 _)))) ?_
        simp only [It.At]
        exact ⟨p3, p2, ys, rfl, upd_same, .inl ((s4.trans (same_new hp3 _)) _ _ h2), a2.same (s4.trans (same_new hp3 _))⟩
end
end Bs

set_option Elab.async false
set_option linter.all false
set_option maxRecDepth 100000
set_option maxHeartbeats 4000000
namespace Bs
open PySem L2
/-! ### lengths of items -/
/-- the numbers that are visible: a dict of pairs -/
def VisAt (H : Hp) (d : Addr) (f : Env) (m : Nat) : Prop := ∃ kvs : List (Key × V), H d = some (.dK kvs) ∧ kvs.length ≤ m ∧ ∀ z : Str, match f z with
  | some p => ∃ a, valV kvs (.inr z) = some (.ref a) ∧ H a = some (.tup [.int p.1, .int p.2]) ∧ 0 ≤ p.1 ∧ p.1 ≤ p.2
  | none => valV kvs (.inr z) = none
theorem VisAt.same {H H' : Hp} {d : Addr} {f : Env} {m : Nat} (s : Same H H') (h : VisAt H d f m) : VisAt H' d f m := by
  obtain ⟨kvs, h1, h2, h3⟩ := h
  refine ⟨kvs, s _ _ h1, h2, fun z => ?_⟩
  have q := h3 z
  cases e : f z with
  | none => rw [e] at q; exact q
  | some p => rw [e] at q; obtain ⟨a, q1, q2, q3⟩ := q; exact ⟨a, q1, s _ _ q2, q3⟩
/-- a pair of ints comes out, or the error -/
def Told (C : Addr) (r : Option (Int × Int)) (H : Hp) (Q : VK) (E : XK) : Prop :=
  (∀ l, r = some l → ∀ p H', Same H H' → H' p = some (.tup [.int l.1, .int l.2]) → Q (.ref p) H') ∧ (r = none → ∀ H', Same H H' → E (.ref C) none H')
theorem Told.same {C : Addr} {r : Option (Int × Int)} {H H1 : Hp} {Q : VK} {E : XK} (s : Same H H1) (h : Told C r H Q E) : Told C r H1 Q E :=
  ⟨fun l e p H' s' => h.1 l e p H' (s.trans s'), fun e H' s' => h.2 e H' (s.trans s')⟩
def spAmount (C : Addr) : Sp := fun vs H Q E => ∃ (amt : Key) (most : Int) (dv : Addr) (g : Env) (m : Nat), vs = [kV amt, .ref dv, .int most] ∧ (most = 64 ∨ most = 16) ∧ VisAt H dv g m ∧ (∀ z, amt = .inr z → z.length ≤ 1000 ∧ (reprText z).length ≤ 1000) ∧ Told C (amount g most amt) H Q E
/-- KIND_lengths(item, visible), of an item at depth d -/
def spLens (C : Addr) (k : Str) (n : Nat) : Sp := fun vs H Q E => ∃ (v : V) (dv : Addr) (x : It) (f : Env) (m : Nat) (d : Int), vs = [v, .ref dv] ∧ x.kind = k ∧ d + n = 3 ∧ x.ok d = true ∧ x.tame ∧ x.At true H v ∧ VisAt H dv f m ∧ m + 12 * n ≤ 100 ∧ Told C (x.lens f) H Q E
theorem seq_asg0 {te : TE} {g : TG} {u : TS} {D : Ends} {σ : L2.St} {H : Hp} (h : te σ H fun x H1 => g x σ H1 (u D)) : tSeq (tAsg te g) u D σ H := h
section
variable {P : Program} {w : World} {K : PySem.W.Frag} {mg : Str → Option Value} {base : Heap} {f C : Addr} {fd : FuncData}
theorem slen0 (x y : Str) : (x ++ y).length = x.length + y.length := by
  have h : ∀ z : Str, z.length = z.cps.toList.length := fun z => by simp [Str.length]
  have a : (x ++ y).cps.toList = x.cps.toList ++ y.cps.toList := by
    show (x.cps ++ y.cps).toList = _
    simp
  rw [h, h, h, a, List.length_append]
theorem scAmount : FnScope ["amount", "visible", "most", "low", "high"] ["amount", "visible", "most"] (defScope sAmount) := ⟨rfl, rfl, rfl, by decide +kernel, rfl, by decide +kernel, by decide +kernel⟩
theorem ok_amount (F : Fun K "amount_bounds" "amount_bounds" sAmount f fd) (gR : Cal P w K mg base (L2.CX P w) 1 "require" ["holds", "words"] (spRequire C)) (gI : Cal P w K mg base CX0 1 "is_integer" ["value", "low", "high"] spIsInt) (mi : mg "isinstance" = none) (ms : mg "str" = none) :
    FnOk P w K mg base (L2.CX P w) 2 f fd ["amount", "visible", "most"] (spAmount C) := by
  refine F.okX scAmount (fun vs H Q E h => ?_) (fun cdv A outer s H vs Q E hr h => ?_)
  · obtain ⟨amt, most, dv, g, m, rfl, _⟩ := h
    rfl
  · obtain ⟨amt, most, dv, g, m, rfl, hm, hv, hr0, q1, q2⟩ := h
    have tk : Takes (cxOf (L2.CX P w) P w K mg base ["amount", "visible", "most", "low", "high"] "amount_bounds" (defScope sAmount) f cdv A outer s H E) (fun cls d _ H => E cls d H) := takes_of rfl rfl rfl rfl
    have hx := passes_call tk (E := E) fun _ _ _ _ h => h
    have hu := hu_of hr
    refine ⟨_, pss_cons (ps_if (pt_val (pe_callB call_isi (by rfl) mi (by decide +kernel) (pa_cons (pv 0) (pa_cons (pe_bltn (v := .ty "str") (by rfl) ms (by decide +kernel) rfl) pa_nil))))
        (pss_cons (ps_expr (pe_cal gR hr hx (pa_cons (pe_cmp (pc_din hu (pv 0) (pv 1)) (by rfl)) (pa_cons (pe_joined (.cons pe_str (.cons (pe_fmtR (pv 0)) .nil))) pa_nil))))
        (pss_cons (ps_asg (pe_dget hu (pv 1) (pv 0) (fun _ _ => rfl)) (pg_tup rfl (pgs_cons (pg_name (i := 3) scAmount.nd rfl (Or.inl rfl)) (pgs_cons (pg_name (i := 4) scAmount.nd rfl (Or.inl rfl)) pgs_nil))))
        (pss_cons (ps_expr (pe_cal gR hr hx (pa_cons (pe_cmpR op_le (pv 4) (pv 2) (nomark _)) (pa_cons (pe_joined (.cons pe_str (.cons (pe_fmtR (pv 0)) (.cons pe_str (.cons (pe_fmt (pv 2)) .nil))))) pa_nil))))
        (pss_one (ps_ret (pe_tup (pa_cons (pv 3) (pa_cons (pv 4) pa_nil)))))))) pss_nil)
      (pss_cons (ps_expr (pe_cal gR hr hx (pa_cons (pe_cal gI hr pass0 (pa_cons (pv 0) (pa_cons pe_int (pa_cons (pv 2) pa_nil)))) (pa_cons (pe_joined (.cons pe_str (.cons (pe_fmt (pv 2)) .nil))) pa_nil))))
      (pss_one (ps_ret (pe_tup (pa_cons (pv 0) (pa_cons (pv 0) pa_nil)))))), ?_⟩
    have ms2 : most.natAbs.log2 < 1920 ∧ (toString most : Str).length ≤ 1000 := by rcases hm with rfl | rfl <;> decide +kernel
    cases amt with
    | inl i =>
      refine ⟨_, rfl, _, _, _, _, false, rfl, .ty _, .base (.int _), kit_ty (by decide +kernel), _, rfl, iteF ?_⟩
      have fs : most.natAbs.log2 < 1920 ∧ (Str.empty ++ ("not from 0 to " : Str) ++ toString most).length ≤ sizeLine := by rcases hm with rfl | rfl <;> decide +kernel
      refine ⟨_, rfl, _, rfl, i, 0, most, rfl, _, rfl, by decide +kernel, _, rfl, .inr ⟨most, rfl, fs.1, _, rfl, fs.2, _, _, rfl, fun e => ?_, fun e => ?_⟩⟩
      · have e := of_decide_eq_true e
        refine ⟨_, rfl, _, rfl, (by show 2 ≤ sizeLine; decide), fun p hp => ?_⟩
        exact q1 (i, i) (by simp [amount, e]) p _ (same_new hp _) upd_same
      · have e := of_decide_eq_false e
        exact q2 (by simp [amount, e]) _ (Same.refl H)
    | inr z =>
      obtain ⟨hz, hrz⟩ := hr0 z rfl
      obtain ⟨kvs, v1, v2, v3⟩ := id hv
      refine ⟨_, rfl, _, _, _, _, true, rfl, .ty _, .base (.str _), kit_ty (by decide +kernel), _, rfl, iteT ?_⟩
      refine ⟨_, rfl, _, rfl, dv, _, rfl, DGet.k (k := .inr z) v1, _, rfl, by decide +kernel, _, rfl, .inl ⟨z, rfl, le_line (by omega), _, rfl, ?_, _, _, rfl, fun e => ?_, fun e => ?_⟩⟩
      · rw [slen0, slen0]
        exact le_line (by have : (Str.empty : Str).length + ("no visible number " : Str).length ≤ 1000 := by decide +kernel
                          omega)
      rotate_left
      · have v := v3 z
        cases hg : g z with
        | none => exact q2 (by simp [amount, hg]) _ (Same.refl H)
        | some p =>
          rw [hg] at v
          obtain ⟨b, w1, _⟩ := v
          rw [w1] at e
          cases e
      have v := v3 z
      cases hg : g z with
      | none =>
        rw [hg] at v
        rw [show valV kvs (.inr z) = none from v] at e
        cases e
      | some p =>
        rw [hg] at v
        obtain ⟨b, w1, hb, _⟩ := v
        dsimp only
        refine seq_asg0 ?_
        refine ⟨_, rfl, _, rfl, dv, .ref b, rfl, (by have t := DGet.k (k := .inr z) v1; rw [w1] at t; exact t), ?_⟩
        refine ⟨b, _, rfl, SqT.of hb, rfl, _, _, rfl, _, _, rfl, rfl, ?_⟩
        have l0 : (Str.empty : Str).length = 0 := by decide +kernel
        have l1 : ("the number " : Str).length ≤ 100 := by decide +kernel
        have l2 : (" can be greater than " : Str).length ≤ 100 := by decide +kernel
        refine ⟨_, rfl, _, rfl, _, _, rfl, rfl, _, rfl, by decide +kernel, _, rfl, .inl ⟨z, rfl, le_line (by omega), _, rfl, le_line (by rw [slen0, slen0]; omega), _, rfl, le_line (by rw [slen0, slen0, slen0]; omega), _, rfl, .inr ⟨most, rfl, ms2.1, _, rfl, le_line (by rw [slen0, slen0, slen0, slen0]; omega), _, _, rfl, fun e2 => ?_, fun e2 => ?_⟩⟩⟩
        · have e2 : p.2 ≤ most := of_decide_eq_true e2
          refine ⟨_, rfl, _, rfl, (by show 2 ≤ sizeLine; decide), fun t ht => ?_⟩
          exact q1 p (by simp [amount, hg, e2]) t _ (same_new ht _) upd_same
        · have e2 : ¬ p.2 ≤ most := of_decide_eq_false e2
          exact q2 (by simp [amount, hg, e2]) _ (Same.refl H)
theorem scBytes : FnScope ["item", "visible"] ["item", "visible"] (defScope sBytes) := ⟨rfl, rfl, rfl, by decide +kernel, rfl, by decide +kernel, by decide +kernel⟩
theorem ok_bytes {n : Nat} (F : Fun K "bytes_lengths" "bytes_lengths" sBytes f fd) (gA : Cal P w K mg base (L2.CX P w) 2 "amount_bounds" ["amount", "visible", "most"] (spAmount C)) (gL : GInt mg "GREATEST_LENGTH" 64) :
    FnOk P w K mg base (L2.CX P w) 3 f fd ["item", "visible"] (spLens C "bytes" n) := by
  refine F.okX scBytes (fun vs H Q E h => ?_) (fun cdv A outer s H vs Q E hr h => ?_)
  · obtain ⟨v, dv, x, g, m, d, rfl, _⟩ := h
    rfl
  · obtain ⟨v, dv, x, g, m, d, rfl, hk, hd, ok, ht, hat, hv, hm, q⟩ := h
    have tk : Takes (cxOf (L2.CX P w) P w K mg base ["item", "visible"] "bytes_lengths" (defScope sBytes) f cdv A outer s H E) (fun cls d _ H => E cls d H) := takes_of rfl rfl rfl rfl
    have hx := passes_call tk (E := E) fun _ _ _ _ h => h
    cases x with
    | byt nm amt =>
      simp only [It.tame] at ht
      simp only [It.At] at hat
      obtain ⟨p, rfl, hp⟩ := hat
      refine ⟨_, pss_one (ps_ret (pe_cal gA hr hx (pa_cons (pe_ix ix_tup (pv 0) pe_int (fun _ _ => rfl)) (pa_cons (pv 1) (pa_cons (pe_gint gL rfl) pa_nil))))), ?_⟩
      exact ⟨_, rfl, p, _, 2, _, rfl, rfl, SqT.of hp, atI_nat (j := 2) rfl, _, rfl, amt, 64, dv, g, m, rfl, .inl rfl, hv, ht.2, q⟩
    | odd => simp [It.ok] at ok
    | _ => exact absurd hk (by simp only [It.kind]; decide +kernel)
theorem scText : FnScope ["item", "visible"] ["item", "visible"] (defScope sText) := ⟨rfl, rfl, rfl, by decide +kernel, rfl, by decide +kernel, by decide +kernel⟩
theorem ok_text {n : Nat} (F : Fun K "text_lengths" "text_lengths" sText f fd) (gR : Cal P w K mg base (L2.CX P w) 1 "require" ["holds", "words"] (spRequire C)) (gI : Cal P w K mg base CX0 1 "is_integer" ["value", "low", "high"] spIsInt) (gL : GInt mg "GREATEST_LENGTH" 64) (gB : GInt mg "GREATEST_BYTE" 255) :
    FnOk P w K mg base (L2.CX P w) 2 f fd ["item", "visible"] (spLens C "text" n) := by
  refine F.okX scText (fun vs H Q E h => ?_) (fun cdv A outer s H vs Q E hr h => ?_)
  · obtain ⟨v, dv, x, g, m, d, rfl, _⟩ := h
    rfl
  · obtain ⟨v, dv, x, g, m, d, rfl, hk, hd, ok, ht, hat, hv, hm, q1, q2⟩ := h
    have tk : Takes (cxOf (L2.CX P w) P w K mg base ["item", "visible"] "text_lengths" (defScope sText) f cdv A outer s H E) (fun cls d _ H => E cls d H) := takes_of rfl rfl rfl rfl
    have hx := passes_call tk (E := E) fun _ _ _ _ h => h
    cases x with
    | txt nm stop most =>
      simp only [It.At] at hat
      obtain ⟨p, rfl, hp⟩ := hat
      have hT : SqT K H p _ := SqT.of hp
      refine ⟨_, pss_cons (ps_expr (pe_cal gR hr hx (pa_cons (pe_cal gI hr pass0 (pa_cons (pe_ix ix_tup (pv 0) pe_int (fun _ _ => rfl)) (pa_cons pe_int (pa_cons (pe_gint gB rfl) pa_nil)))) (pa_cons pe_str pa_nil))))
        (pss_cons (ps_expr (pe_cal gR hr hx (pa_cons (pe_cal gI hr pass0 (pa_cons (pe_ix ix_tup (pv 0) pe_int (fun _ _ => rfl)) (pa_cons pe_int (pa_cons (pe_gint gL rfl) pa_nil)))) (pa_cons (pe_joined (.cons pe_str (.cons (pe_fmt (pe_gint gL rfl)) (.cons pe_str .nil)))) pa_nil))))
        (pss_one (ps_ret (pe_tup (pa_cons pe_int (pa_cons (pe_op op_add (pe_ix ix_tup (pv 0) pe_int (fun _ _ => rfl)) pe_int) pa_nil)))))), ?_⟩
      refine ⟨_, rfl, p, _, 2, _, rfl, rfl, hT, atI_nat (j := 2) rfl, stop, 0, 255, rfl, _, _, rfl, fun e => ?_, fun e => q2 (by have e := of_decide_eq_false e; simp only [It.lens]; rw [if_neg fun z => e z.1]) _ (Same.refl H)⟩
      have e := of_decide_eq_true e
      refine ⟨_, rfl, p, _, 3, _, rfl, rfl, hT, atI_nat (j := 3) rfl, most, 0, 64, rfl, ?_⟩
      refine ⟨_, rfl, by decide +kernel, .inr ⟨64, rfl, by decide +kernel, _, rfl, by decide +kernel, _, rfl, by decide +kernel, _, _, rfl, fun e2 => ?_, fun e2 => q2 (by have e2 := of_decide_eq_false e2; simp only [It.lens]; rw [if_neg fun z => e2 z.2]) _ (Same.refl H)⟩⟩
      have e2 := of_decide_eq_true e2
      refine ⟨_, rfl, p, _, 3, _, rfl, rfl, hT, atI_nat (j := 3) rfl, most, 1, rfl, rfl, (by show 2 ≤ sizeLine; decide), fun t ht4 => ?_⟩
      exact q1 (1, most + 1) (by simp only [It.lens]; rw [if_pos ⟨e, e2⟩]) t _ (same_new ht4 _) upd_same
    | odd => simp [It.ok] at ok
    | _ => exact absurd hk (by simp only [It.kind]; decide +kernel)
theorem scCheck : FnScope ["item", "visible"] ["item", "visible"] (defScope sCheck) := ⟨rfl, rfl, rfl, by decide +kernel, rfl, by decide +kernel, by decide +kernel⟩
theorem ok_check {n : Nat} (F : Fun K "check_lengths" "check_lengths" sCheck f fd) (gR : Cal P w K mg base (L2.CX P w) 1 "require" ["holds", "words"] (spRequire C)) (gI : Cal P w K mg base CX0 1 "is_integer" ["value", "low", "high"] spIsInt) (gM : GInt mg "GREATEST_MODULUS" 16) :
    FnOk P w K mg base (L2.CX P w) 2 f fd ["item", "visible"] (spLens C "check" n) := by
  refine F.okX scCheck (fun vs H Q E h => ?_) (fun cdv A outer s H vs Q E hr h => ?_)
  · obtain ⟨v, dv, x, g, m, d, rfl, _⟩ := h
    rfl
  · obtain ⟨v, dv, x, g, m, d, rfl, hk, hd, ok, ht, hat, hv, hm, q1, q2⟩ := h
    have tk : Takes (cxOf (L2.CX P w) P w K mg base ["item", "visible"] "check_lengths" (defScope sCheck) f cdv A outer s H E) (fun cls d _ H => E cls d H) := takes_of rfl rfl rfl rfl
    have hx := passes_call tk (E := E) fun _ _ _ _ h => h
    cases x with
    | chk nm mo =>
      simp only [It.At] at hat
      obtain ⟨p, rfl, hp⟩ := hat
      have hT : SqT K H p _ := SqT.of hp
      refine ⟨_, pss_cons (ps_expr (pe_cal gR hr hx (pa_cons (pe_cal gI hr pass0 (pa_cons (pe_ix ix_tup (pv 0) pe_int (fun _ _ => rfl)) (pa_cons pe_int (pa_cons (pe_gint gM rfl) pa_nil)))) (pa_cons (pe_joined (.cons pe_str (.cons (pe_fmt (pe_gint gM rfl)) .nil))) pa_nil))))
        (pss_one (ps_ret (pe_tup (pa_cons pe_int (pa_cons pe_int pa_nil))))), ?_⟩
      refine ⟨_, rfl, p, _, 2, _, rfl, rfl, hT, atI_nat (j := 2) rfl, mo, 1, 16, rfl, ?_⟩
      refine ⟨_, rfl, by decide +kernel, .inr ⟨16, rfl, by decide +kernel, _, rfl, by decide +kernel, _, _, rfl, fun e => ?_, fun e => q2 (by have e := of_decide_eq_false e; simp only [It.lens]; rw [if_neg e]) _ (Same.refl H)⟩⟩
      have e := of_decide_eq_true e
      refine ⟨(by show 2 ≤ sizeLine; decide), fun t ht4 => ?_⟩
      exact q1 (1, 1) (by simp only [It.lens]; rw [if_pos e]) t _ (same_new ht4 _) upd_same
    | odd => simp [It.ok] at ok
    | _ => exact absurd hk (by simp only [It.kind]; decide +kernel)
end
end Bs

set_option Elab.async false
set_option linter.all false
set_option maxRecDepth 100000
set_option maxHeartbeats 4000000
namespace Bs
open PySem L2
theorem two_go {c : Bool} {a b : Int} {σ : L2.St} {H : Hp} {R : V → Hp → Prop} (h : R (.int (if c = true then a else b)) H) : if c = true then tC (.int a) σ H R else tC (.int b) σ H R := by
  cases c with
  | true => exact iteT h
  | false => exact iteF h
theorem order_in (o : Str) : inV (.str o) [.str "big", .str "little"] = decide (o = "big" ∨ o = "little") := by
  rw [Bool.eq_iff_iff, decide_eq_true_iff]
  simp only [inV, List.any_cons, List.any_nil, eqV, Bool.or_false, Bool.or_eq_true]
  constructor
  · rintro (h | h)
    · exact .inl (eq_of_beq h).symm
    · exact .inr (eq_of_beq h).symm
  · rintro (h | h)
    · exact .inl (beq_iff_eq.mpr h.symm)
    · exact .inr (beq_iff_eq.mpr h.symm)
theorem int_eq {a b : Int} : decide (V.int a = V.int b) = decide (a = b) := decide_eq_decide.mpr ⟨V.int.inj, fun h => congrArg _ h⟩
section
variable {P : Program} {w : World} {K : PySem.W.Frag} {mg : Str → Option Value} {base : Heap} {f C : Addr} {fd : FuncData}
theorem scNumber : FnScope ["item", "visible", "size", "order", "low", "high", "greatest"] ["item", "visible"] (defScope sNumber) := ⟨rfl, rfl, rfl, by decide +kernel, rfl, by decide +kernel, by decide +kernel⟩
theorem ok_number {n : Nat} (F : Fun K "number_lengths" "number_lengths" sNumber f fd) (gR : Cal P w K mg base (L2.CX P w) 1 "require" ["holds", "words"] (spRequire C)) (gI : Cal P w K mg base CX0 1 "is_integer" ["value", "low", "high"] spIsInt) (gB : GInt mg "GREATEST_BYTE" 255) (gP : GInt mg "GREATEST_PAIR" 65535) :
    FnOk P w K mg base (L2.CX P w) 2 f fd ["item", "visible"] (spLens C "number" n) := by
  refine F.okX scNumber (fun vs H Q E h => ?_) (fun cdv A outer s H vs Q E hr h => ?_)
  · obtain ⟨v, dv, x, g, m, d, rfl, _⟩ := h
    rfl
  · obtain ⟨v, dv, x, g, m, d, rfl, hk, hd, ok, ht, hat, hv, hm, q1, q2⟩ := h
    have tk : Takes (cxOf (L2.CX P w) P w K mg base ["item", "visible", "size", "order", "low", "high", "greatest"] "number_lengths" (defScope sNumber) f cdv A outer s H E) (fun cls d _ H => E cls d H) := takes_of rfl rfl rfl rfl
    have hx := passes_call tk (E := E) fun _ _ _ _ h => h
    cases x with
    | num nm size order low high =>
      simp only [It.At] at hat
      obtain ⟨p, rfl, hp⟩ := hat
      have hT : SqT K H p _ := SqT.of hp
      refine ⟨_, pss_cons (ps_asg (pe_slice sl_tup (pv 0) (po_some pe_int) po_none) (pg_tup rfl (pgs_cons (pg_name (i := 2) scNumber.nd rfl (.inl rfl)) (pgs_cons (pg_name (i := 3) scNumber.nd rfl (.inl rfl)) (pgs_cons (pg_name (i := 4) scNumber.nd rfl (.inl rfl)) (pgs_cons (pg_name (i := 5) scNumber.nd rfl (.inl rfl)) pgs_nil))))))
        (pss_cons (ps_expr (pe_cal gR hr hx (pa_cons (pe_cal gI hr pass0 (pa_cons (pv 2) (pa_cons pe_int (pa_cons pe_int pa_nil)))) (pa_cons pe_str pa_nil))))
        (pss_cons (ps_expr (pe_cal gR hr hx (pa_cons (pe_cmpR op_in_seq (pv 3) (pe_tup (pa_cons pe_str (pa_cons pe_str pa_nil))) (by rfl)) (pa_cons pe_str pa_nil))))
        (pss_cons (ps_set (i := 6) scNumber.nd rfl (.inl rfl) (pe_ifExp (pt_cmpR op_eq (pv 2) pe_int (nomark _)) (pe_gint gB rfl) (pe_gint gP rfl)))
        (pss_cons (ps_expr (pe_cal gR hr hx (pa_cons (pe_cal gI hr pass0 (pa_cons (pv 5) (pa_cons pe_int (pa_cons (pv 6) pa_nil)))) (pa_cons (pe_joined (.cons pe_str (.cons (pe_fmt (pv 6)) .nil))) pa_nil))))
        (pss_cons (ps_expr (pe_cal gR hr hx (pa_cons (pe_cal gI hr pass0 (pa_cons (pv 4) (pa_cons pe_int (pa_cons (pv 5) pa_nil)))) (pa_cons pe_str pa_nil))))
        (pss_one (ps_ret (pe_tup (pa_cons (pv 2) (pa_cons (pv 2) pa_nil)))))))))), ?_⟩
      have no : numOk size order low high = false → ∀ H', Same H H' → E (.ref C) none H' := fun e => q2 (by simp only [It.lens]; rw [e]; rfl)
      refine ⟨_, rfl, 2, rfl, p, _, rfl, hT, by simp only [List.length_cons, List.length_nil]; decide, fun t ht4 => ?_⟩
      have s1 := same_new ht4 (.tup [.int size, .str order, .int low, .int high])
      refine ⟨t, [.int size, .str order, .int low, .int high], rfl, SqT.of upd_same, rfl, _, _, rfl, _, _, rfl, _, _, rfl, _, _, rfl, rfl, ?_⟩
      refine ⟨_, rfl, size, 1, 2, rfl, _, _, rfl, fun e1 => ?_, fun e1 => no (by unfold numOk; rw [e1]; rfl) _ s1⟩
      refine ⟨_, rfl, (by show 2 ≤ sizeLine; decide), fun o ho => ?_⟩
      have s2 := s1.trans (same_new ho (.tup [.str "big", .str "little"]))
      refine ⟨o, _, rfl, .inr (SqT.of upd_same), rfl, by decide +kernel, decide (order = "big" ∨ order = "little"), _, by rw [← order_in]; rfl, fun e2 => ?_, fun e2 => no (by unfold numOk; rw [e1, e2]; rfl) _ s2⟩
      refine ⟨_, rfl, rfl, _, rfl, two_go ?_⟩
      rw [int_eq]
      refine ⟨_, rfl, _, rfl, high, 0, _, rfl, ?_⟩
      have eg : (if decide (size = 1) = true then (255 : Int) else 65535) = if size = 1 then 255 else 65535 := by by_cases z : size = 1 <;> simp [z]
      rw [eg]
      have fs : (if size = 1 then (255 : Int) else 65535).natAbs.log2 < 1920 ∧ (Str.empty ++ ("a high is from 0 to " : Str) ++ toString (if size = 1 then (255 : Int) else 65535)).length ≤ sizeLine := by
        by_cases z : size = 1
        · rw [if_pos z]; decide +kernel
        · rw [if_neg z]; decide +kernel
      refine ⟨_, rfl, by decide +kernel, _, rfl, .inr ⟨_, rfl, fs.1, _, rfl, fs.2, _, _, rfl, fun e3 => ?_, fun e3 => no (by unfold numOk; rw [e1, e2, e3]; rfl) _ s2⟩⟩
      refine ⟨_, rfl, _, rfl, low, 0, high, rfl, _, _, rfl, fun e4 => ?_, fun e4 => no (by unfold numOk; rw [e1, e2, e3, e4]; rfl) _ s2⟩
      refine ⟨_, rfl, _, rfl, (by show 2 ≤ sizeLine; decide), fun r hr4 => ?_⟩
      exact q1 (size, size) (by simp only [It.lens]; unfold numOk; rw [e1, e2, e3, e4]; rfl) r _ (s2.trans (same_new hr4 _)) upd_same
    | odd => simp [It.ok] at ok
    | _ => exact absurd hk (by simp only [It.kind]; decide +kernel)
theorem scPad : FnScope ["item", "visible", "multiple"] ["item", "visible"] (defScope sPad) := ⟨rfl, rfl, rfl, by decide +kernel, rfl, by decide +kernel, by decide +kernel⟩
/-- MULTIPLES -/
def Mults (K : PySem.W.Frag) (mg : Str → Option Value) : Prop := ∃ a, mg "MULTIPLES" = some (.ref a) ∧ ∀ H, SqT K H a [.int 1, .int 2, .int 4, .int 8, .int 16]
theorem mult_in (o : Int) : inV (.int o) [.int 1, .int 2, .int 4, .int 8, .int 16] = decide (o = 1 ∨ o = 2 ∨ o = 4 ∨ o = 8 ∨ o = 16) := by
  rw [Bool.eq_iff_iff, decide_eq_true_iff]
  simp only [inV, List.any_cons, List.any_nil, eqV, Bool.or_false, Bool.or_eq_true, beq_iff_eq]
  omega
theorem ok_pad {n : Nat} (F : Fun K "pad_lengths" "pad_lengths" sPad f fd) (gR : Cal P w K mg base (L2.CX P w) 1 "require" ["holds", "words"] (spRequire C)) (gI : Cal P w K mg base CX0 1 "is_integer" ["value", "low", "high"] spIsInt) (gB : GInt mg "GREATEST_BYTE" 255) (gM : Mults K mg) :
    FnOk P w K mg base (L2.CX P w) 2 f fd ["item", "visible"] (spLens C "pad" n) := by
  refine F.okX scPad (fun vs H Q E h => ?_) (fun cdv A outer s H vs Q E hr h => ?_)
  · obtain ⟨v, dv, x, g, m, d, rfl, _⟩ := h
    rfl
  · obtain ⟨v, dv, x, g, m, d, rfl, hk, hd, ok, ht, hat, hv, hm, q1, q2⟩ := h
    obtain ⟨aM, gM1, gM2⟩ := gM
    have tk : Takes (cxOf (L2.CX P w) P w K mg base ["item", "visible", "multiple"] "pad_lengths" (defScope sPad) f cdv A outer s H E) (fun cls d _ H => E cls d H) := takes_of rfl rfl rfl rfl
    have hx := passes_call tk (E := E) fun _ _ _ _ h => h
    cases x with
    | pad nm mo b =>
      simp only [It.At] at hat
      obtain ⟨p, rfl, hp⟩ := hat
      have hT : SqT K H p _ := SqT.of hp
      refine ⟨_, pss_cons (ps_set (i := 2) scPad.nd rfl (.inl rfl) (pe_ix ix_tup (pv 0) pe_int (fun _ _ => rfl)))
        (pss_cons (ps_expr (pe_cal gR hr hx (pa_cons (pe_and (pe_cal gI hr pass0 (pa_cons (pv 2) (pa_cons pe_int (pa_cons pe_int pa_nil)))) (pe_one (pe_cmpR op_in_seq (pv 2) (pe_glob (v := .ref aM) (by rfl) gM1 rfl) (by rfl)))) (pa_cons pe_str pa_nil))))
        (pss_cons (ps_expr (pe_cal gR hr hx (pa_cons (pe_cal gI hr pass0 (pa_cons (pe_ix ix_tup (pv 0) pe_int (fun _ _ => rfl)) (pa_cons pe_int (pa_cons (pe_gint gB rfl) pa_nil)))) (pa_cons pe_str pa_nil))))
        (pss_one (ps_ret (pe_tup (pa_cons pe_int (pa_cons (pe_op op_sub (pv 2) pe_int) pa_nil))))))), ?_⟩
      refine ⟨_, rfl, p, _, 2, _, rfl, rfl, hT, atI_nat (j := 2) rfl, ?_⟩
      have no : ¬ ((mo = 1 ∨ mo = 2 ∨ mo = 4 ∨ mo = 8 ∨ mo = 16) ∧ 0 ≤ b ∧ b ≤ 255) → ∀ H', Same H H' → E (.ref C) none H' := fun e => q2 (by simp only [It.lens]; rw [if_neg e])
      refine ⟨_, rfl, mo, 1, 16, rfl, _, rfl, ?_⟩
      refine ite2 (fun e => ?_) (fun e => ⟨false, _, rfl, fun z => absurd z (by decide), fun _ => no (fun z => e (decide_eq_true (by omega))) _ (Same.refl H)⟩)
      refine ⟨_, rfl, aM, _, rfl, .inr (gM2 H), rfl, by decide +kernel, decide (mo = 1 ∨ mo = 2 ∨ mo = 4 ∨ mo = 8 ∨ mo = 16), _, by rw [← mult_in]; rfl, fun e2 => ?_, fun e2 => no (fun z => of_decide_eq_false e2 z.1) _ (Same.refl H)⟩
      refine ⟨_, rfl, p, _, 3, _, rfl, rfl, hT, atI_nat (j := 3) rfl, b, 0, 255, rfl, _, _, rfl, fun e3 => ?_, fun e3 => no (fun z => of_decide_eq_false e3 z.2) _ (Same.refl H)⟩
      refine ⟨_, rfl, mo, 1, rfl, rfl, (by show 2 ≤ sizeLine; decide), fun r hr4 => ?_⟩
      exact q1 (0, mo - 1) (by simp only [It.lens]; rw [if_pos ⟨of_decide_eq_true e2, of_decide_eq_true e3⟩]) r _ (same_new hr4 _) upd_same
    | odd => simp [It.ok] at ok
    | _ => exact absurd hk (by simp only [It.kind]; decide +kernel)
end
end Bs

set_option Elab.async false
set_option linter.all false
set_option maxRecDepth 100000
set_option maxHeartbeats 4000000
namespace Bs
open PySem L2
/-! ### a call of a slot that holds one of the rules -/
structure HeldR (X : Cx) (CX : CXT) (k : Nat) (f : Addr) (sp : Sp) : Prop where
  ex : ∃ (fd : FuncData) (ps : List Str), FnOk X.prog X.w X.K X.mg X.base CX k f fd ps sp ∧ PySem.W.keepIn X.K (.ref f) = true ∧ Binds X.K fd ps []
def tCallR (X : Cx) (CX : CXT) (k : Nat) (i : Nat) (E : XK) (t : TA) : TE := fun σ H Q => ∃ f sp, σ[i]? = some (some (.ref f)) ∧ HeldR X CX k f sp ∧ t σ H fun vs H1 => sp vs H1 Q E
theorem pe_callR {X : Cx} {CX : CXT} {k i : Nat} {E : XK} {x : Str} {p pos : Pos} {e : Expr} {es : List Expr} {t : TA} (hr : Room k X.A) (hN : X.N[i]? = some x) (hv : Vis X.env.scope x) (hx : Passes CX X E) (ha : PA X (e :: es) t)
    (hdb : (x == ("__debug__" : Str)) = false := by decide) (hcd : (x == ("__classdict__" : Str)) = false := by decide)
    (he : starEach (e :: es) X.env = (false, eval e X.env) :: starEach es X.env := by rfl) (hpl : (backTo pos (starEach es X.env)).any (·.1) = false := by rfl) : PE X (.Call (.Name x p) (e :: es) [] pos) (tCallR X CX k i E t) := by
  refine ⟨fun pins s σ H Q I ⟨f, sp, hs, hh, ht⟩ => ?_⟩
  obtain ⟨fd, ps, F, hk, hb⟩ := hh.ex
  refine (pe_callL (i := i) (dvs := []) F hr hN hv hk hb .nil hx ha hdb hcd he hpl).run pins s σ H Q I ⟨hs, ?_⟩
  have e2 : (fun (vs : List V) (H1 : Hp) => sp (vs ++ []) H1 Q E) = fun vs H1 => sp vs H1 Q E := by
    funext vs H1
    rw [List.append_nil]
  show t σ H (fun vs H1 => sp (vs ++ []) H1 Q E)
  rw [e2]
  exact ht
/-! ### list_lengths -/
def Its.drop : Nat → Its → Its
  | 0, x => x
  | _ + 1, .nil => .nil
  | i + 1, .cons _ r => r.drop i
theorem drop_get : ∀ {x : Its} {i : Nat} {y : It}, x.get i = some y → x.drop i = .cons y (x.drop (i + 1))
  | .nil, _, _, e => by simp [Its.get] at e
  | .cons x r, 0, y, e => by simp [Its.get] at e; subst e; cases r <;> rfl
  | .cons x r, i + 1, y, e => drop_get (x := r) e
theorem drop_all : ∀ (x : Its), x.drop x.len = .nil
  | .nil => rfl
  | .cons x r => drop_all r
theorem get_okd : ∀ {x : Its} {i : Nat} {y : It} {d : Int}, x.ok d = true → x.get i = some y → y.ok d = true
  | .nil, _, _, _, _, e => by simp [Its.get] at e
  | .cons x r, 0, y, d, h, e => by simp [Its.get] at e; subst e; rw [Its.ok, Bool.and_eq_true] at h; exact h.1
  | .cons x r, i + 1, y, d, h, e => by rw [Its.ok, Bool.and_eq_true] at h; exact get_okd (x := r) h.2 e
/-- the numbers behind an item -/
def It.seen (f : Env) : It → Env
  | .num n _ _ low high => f.put n (low, high)
  | _ => f
theorem lens_cons (f : Env) (x : It) (r : Its) : (Its.cons x r).lens f = match x.lens f with
    | some a => (r.lens (x.seen f)).map fun b => (a.1 + b.1, a.2 + b.2)
    | none => none := by
  cases x <;> simp only [Its.lens, It.seen] <;> (generalize It.lens f _ = u; generalize Its.lens _ r = v; cases u <;> cases v <;> rfl)
theorem num_in {g : Env} {nm order : Str} {size low high : Int} {l : Int × Int} (e : It.lens g (.num nm size order low high) = some l) : 0 ≤ low ∧ low ≤ high := by
  simp only [It.lens] at e
  by_cases c : numOk size order low high = true
  · unfold numOk at c
    rw [Bool.and_eq_true, Bool.and_eq_true, Bool.and_eq_true] at c
    exact of_decide_eq_true c.2.2.2
  · rw [if_neg c] at e; cases e
theorem vis_put {H : Hp} {d t : Addr} {f : Env} {m : Nat} {n : Str} {p : Int × Int} {kvs : List (Key × V)} (hd : H d = some (.dK kvs)) (hl : kvs.length ≤ m) (hv : ∀ z : Str, match f z with
      | some p => ∃ a, valV kvs (.inr z) = some (.ref a) ∧ H a = some (.tup [.int p.1, .int p.2]) ∧ 0 ≤ p.1 ∧ p.1 ≤ p.2
      | none => valV kvs (.inr z) = none) (ht : H t = some (.tup [.int p.1, .int p.2])) (hp : 0 ≤ p.1 ∧ p.1 ≤ p.2) : VisAt (upd H d (.dK (putK kvs (.inr n) (.ref t)))) d (f.put n p) (m + 1) := by
  have ne : ∀ a xs, H a = some (.tup xs) → a ≠ d := fun a xs e => ne_of e hd (by intro z; cases z)
  refine ⟨_, upd_same, Nat.le_trans (length_putK _ _ _) (by omega), fun z => ?_⟩
  rw [valV_put]
  by_cases hz : z = n
  · subst hz
    rw [if_pos rfl]
    show match (if z = z then some p else f z) with | some p => _ | none => _
    rw [if_pos rfl]
    exact ⟨t, rfl, by rw [upd_ne (ne _ _ ht)]; exact ht, hp⟩
  · rw [if_neg (fun e => hz (Sum.inr.inj e))]
    show match (if z = n then some p else f z) with | some p => _ | none => _
    rw [if_neg hz]
    have q := hv z
    cases e : f z with
    | none => rw [e] at q; exact q
    | some y => rw [e] at q; obtain ⟨a, q1, q2, q3⟩ := q; exact ⟨a, q1, by rw [upd_ne (ne _ _ q2)]; exact q2, q3⟩
def spLensList (C : Addr) (n : Nat) : Sp := fun vs H Q E => ∃ (a dv : Addr) (x : Its) (xs : List V) (f : Env) (m : Nat) (d : Int), vs = [.ref a, .ref dv] ∧ d + n = 3 ∧ x.ok d = true ∧ x.len ≤ 12 ∧ x.tame ∧ H a = some (.tup xs) ∧ x.At true H xs ∧ VisAt H dv f m ∧ m + 12 * (n + 1) ≤ 100 ∧
  Told C (x.lens f) H Q E
/-- RULES -/
def Rules (P : Program) (w : World) (K : PySem.W.Frag) (mg : Str → Option Value) (base : Heap) (C : Addr) (k n : Nat) : Prop := ∃ d es nn, mg "RULES" = some (.ref d) ∧ KDict K w d es nn ∧
  ∀ x : It, x.isOdd = false → ∃ f fd, PySem.W.nsIn K d x.kind = some (some (.ref f)) ∧ PySem.W.keepIn K (.ref f) = true ∧ Binds K fd ["item", "visible"] [] ∧ FnOk P w K mg base (L2.CX P w) k f fd ["item", "visible"] (spLens C x.kind n)
section
variable {P : Program} {w : World} {K : PySem.W.Frag} {mg : Str → Option Value} {base : Heap} {f C : Addr} {fd : FuncData}
theorem scListLen : FnScope ["items", "visible", "known", "least", "greatest", "item", "rule", "low", "high"] ["items", "visible"] (defScope sListLen) := ⟨rfl, rfl, rfl, by decide +kernel, rfl, by decide +kernel, by decide +kernel⟩
theorem ok_listlen {n k : Nat} (F : Fun K "list_lengths" "list_lengths" sListLen f fd) (mdict : mg "dict" = none) (R : Rules P w K mg base C k n) :
    FnOk P w K mg base (L2.CX P w) (k + 1) f fd ["items", "visible"] (spLensList C n) := by
  refine F.okX scListLen (fun vs H Q E h => ?_) (fun cdv A outer s H vs Q E hr h => ?_)
  · obtain ⟨a, dv, x, xs, g, m, d, rfl, _⟩ := h
    rfl
  · obtain ⟨a, dv, x, xs, g, m, d, rfl, hd, ok, hlen, ht, ha, hat, ⟨kvs, v1, v2, v3⟩, hm, q1, q2⟩ := h
    obtain ⟨dR, es, nn, gR, DR, hR⟩ := R
    have tk : Takes (cxOf (L2.CX P w) P w K mg base ["items", "visible", "known", "least", "greatest", "item", "rule", "low", "high"] "list_lengths" (defScope sListLen) f cdv A outer s H E) (fun cls d _ H => E cls d H) := takes_of rfl rfl rfl rfl
    have hx : Passes (L2.CX P w) (cxOf (L2.CX P w) P w K mg base ["items", "visible", "known", "least", "greatest", "item", "rule", "low", "high"] "list_lengths" (defScope sListLen) f cdv A outer s H E) E := passes_call tk (E := E) fun _ _ _ _ h => h
    have hu := hu_of hr
    refine ⟨_, pss_cons (ps_set (i := 2) scListLen.nd rfl (.inl rfl) (pe_callTy call_dictD (by rfl) mdict (by decide +kernel) (pa_cons (pv 1) pa_nil)))
      (pss_cons (ps_set (i := 3) scListLen.nd rfl (.inl rfl) pe_int)
      (pss_cons (ps_set (i := 4) scListLen.nd rfl (.inl rfl) pe_int)
      (pss_cons (ps_for (passes_of rfl) rfl (pi_row (pv 0)) (pg_name (i := 5) scListLen.nd rfl (.inl rfl))
        (pss_cons (ps_set (i := 6) scListLen.nd rfl (.inl rfl) (pe_ix ix_kdict (pe_glob (v := .ref dR) (by rfl) gR rfl) (pe_ix ix_tup (pv 5) pe_int (fun _ _ => rfl)) (fun _ _ => rfl)))
        (pss_cons (ps_asg (pe_callR (i := 6) hr rfl (.inl rfl) hx (pa_cons (pv 5) (pa_cons (pv 2) pa_nil))) (pg_tup rfl (pgs_cons (pg_name (i := 7) scListLen.nd rfl (.inl rfl)) (pgs_cons (pg_name (i := 8) scListLen.nd rfl (.inl rfl)) pgs_nil))))
        (pss_cons (ps_aug (i := 3) scListLen.nd rfl (.inl rfl) (pv 7) ip_add)
        (pss_cons (ps_aug (i := 4) scListLen.nd rfl (.inl rfl) (pv 8) ip_add)
        (pss_one (ps_if (pt_cmpR op_eq (pe_ix ix_tup (pv 5) pe_int (fun _ _ => rfl)) pe_str (nomark _))
          (pss_one (ps_dput hu (pv 2) (pe_ix ix_tup (pv 5) pe_int (fun _ _ => rfl)) (pe_tup (pa_cons (pe_ix ix_tup (pv 5) pe_int (fun _ _ => rfl)) (pa_cons (pe_ix ix_tup (pv 5) pe_int (fun _ _ => rfl)) pa_nil))) rfl)) pss_nil)))))))
      (pss_one (ps_ret (pe_tup (pa_cons (pv 3) (pa_cons (pv 4) pa_nil)))))))), ?_⟩
    refine ⟨_, rfl, dv, kvs, rfl, .of v1, fun kn hkn => ?_⟩
    have s0 := same_new hkn (.dK kvs)
    refine ⟨_, rfl, a, rfl, ?_⟩
    have el := hat.len
    refine row_go2 (H0 := H) (.inl ha) s0 (fun J wk => ?_)
    refine for_it wk (fun i σ H' => ∃ L G i5 i6 i7 i8, σ = [some (.ref a), some (.ref dv), some (.ref kn), some (.int L), some (.int G), i5, i6, i7, i8] ∧ Same H H' ∧ ∃ gi, VisAt H' kn gi (m + i) ∧ x.lens g = ((x.drop i).lens gi).map fun p => (L + p.1, G + p.2))
      ⟨0, 0, none, none, none, none, rfl, s0, g, ⟨kvs, upd_same, v2, fun z => ?_⟩, ?_⟩ (fun _ _ _ _ h => by obtain ⟨_, _, _, _, _, _, _, z, _⟩ := h; exact z) ?_ ?_
    · have q := v3 z
      cases e : g z with
      | none => rw [e] at q; exact q
      | some p => rw [e] at q; obtain ⟨b, q1, q2, q3⟩ := q; exact ⟨b, q1, s0 _ _ q2, q3⟩
    · show x.lens g = (x.lens g).map _
      cases x.lens g with
      | none => rfl
      | some p => simp
    · rintro i v σ H2 H3 hi ⟨L, G, i5, i6, i7, i8, rfl, s2, gi, vis, el2⟩ ⟨e3, hv⟩
      subst e3
      obtain ⟨y, gy, ay⟩ := At_item (hat.same s2) hv
      obtain ⟨p, rest, rfl, hp, hrest⟩ := At_head ay
      have ho : y.isOdd = false := by
        cases e : y.isOdd with
        | false => rfl
        | true => have q := ok_odd (d := d) e; rw [get_okd ok gy] at q; cases q
      obtain ⟨fR, fdR, r1, r2, r3, r4⟩ := hR y ho
      rw [drop_get gy, lens_cons] at el2
      have hTy : SqT K H3 p _ := SqT.of hp
      refine ⟨_, rfl, p, _, 0, _, rfl, rfl, hTy, atI_nat (j := 0) rfl, dR, y.kind, .ref fR, rfl, rfl, ⟨es, nn, _, DR.at_, DR.lit, r1, rfl⟩, ?_⟩
      refine ⟨fR, spLens C y.kind n, rfl, ⟨fdR, _, r4, r2, r3⟩, ?_⟩
      refine ⟨_, rfl, _, rfl, .ref p, kn, y, gi, m + i, d, rfl, rfl, hd, get_okd ok gy, get_tame ht gy, ay, vis, by omega, fun l el3 pl H4 s4 h4 => ?_, fun en H4 s4 => q2 (by rw [el2, en]; rfl) H4 (s2.trans s4)⟩
      rw [el3] at el2
      refine ⟨pl, _, rfl, SqT.of h4, rfl, _, _, rfl, _, _, rfl, rfl, ?_⟩
      refine ⟨_, rfl, _, rfl, _, _, rfl, rfl, ?_⟩
      refine ⟨_, rfl, _, rfl, _, _, rfl, rfl, ?_⟩
      have hTy4 : SqT K H4 p _ := SqT.of (s4 _ _ hp)
      refine ⟨_, rfl, p, _, 0, _, rfl, rfl, hTy4, atI_nat (j := 0) rfl, rfl, _, rfl, ?_⟩
      have next : ∀ r, Option.map (fun q => (L + q.1, G + q.2)) (Option.map (fun b : Int × Int => (l.1 + b.1, l.2 + b.2)) r) = Option.map (fun q => (L + l.1 + q.1, G + l.2 + q.2)) r := fun r => by
        cases r with
        | none => rfl
        | some b => simp [Int.add_assoc]
      refine ite2 (fun e => ?_) (fun e => ?_)
      · cases y with
        | num nm size order low high =>
          simp only [It.At] at ay
          obtain ⟨p', e5, hp5⟩ := ay
          cases e5
          have hp4 := s4 _ _ hp5
          obtain ⟨kv2, w1, w2, w3⟩ := vis.same s4
          refine ⟨_, rfl, p, _, 4, _, rfl, rfl, SqT.of hp4, atI_nat (j := 4) rfl, _, rfl, p, _, 5, _, rfl, rfl, SqT.of hp4, atI_nat (j := 5) rfl, (by show 2 ≤ sizeLine; decide), fun t ht4 => ?_⟩
          have s5 := same_new ht4 (.tup [.int low, .int high])
          have w15 := s5 _ _ w1
          refine ⟨_, rfl, _, rfl, p, _, 1, _, rfl, rfl, SqT.of (s5 _ _ hp4), atI_nat (j := 1) rfl, kn, _, rfl, DPut.k (k := .inr nm) w15 (small1000 (by omega)), ?_⟩
          have v5 := (VisAt.same s5 ⟨kv2, w1, w2, w3⟩)
          refine ⟨_, _, _, _, _, _, rfl, same_set (s2.trans (s4.trans s5)) hkn, gi.put nm (low, high), ?_, ?_⟩
          · refine vis_put w15 w2 (fun z => ?_) upd_same (num_in el3)
            have q := w3 z
            cases e9 : gi z with
            | none => rw [e9] at q; exact q
            | some y => rw [e9] at q; obtain ⟨b, q1, q2, q3⟩ := q; exact ⟨b, q1, s5 _ _ q2, q3⟩
          · rw [el2]
            exact next _
        | odd => cases ho
        | _ => exact absurd (of_decide_eq_true e) (kne (by simp only [It.kind]; decide +kernel))
      · have ns : y.seen gi = gi := by
          cases y with
          | num => exact absurd (decide_eq_true rfl) e
          | _ => rfl
        refine ⟨_, _, _, _, _, _, rfl, s2.trans s4, gi, ?_, ?_⟩
        · obtain ⟨kv2, w1, w2, w3⟩ := vis.same s4
          exact ⟨kv2, w1, by omega, w3⟩
        · rw [el2, ns]
          exact next _
    · rintro σ H2 ⟨L, G, i5, i6, i7, i8, rfl, s2, gi, vis, el2⟩
      rw [el, drop_all] at el2
      refine ⟨_, rfl, _, rfl, (by show 2 ≤ sizeLine; decide), fun t ht4 => ?_⟩
      exact q1 (L, G) (by rw [el2]; simp [Its.lens]) t _ (s2.trans (same_new ht4 _)) upd_same
end
end Bs

set_option Elab.async false
set_option linter.all false
set_option maxRecDepth 100000
set_option maxHeartbeats 4000000
namespace Bs
open PySem L2
/-! ### lengths of repeats, eithers, switches -/
def Blks.drop : Nat → Blks → Blks
  | 0, x => x
  | _ + 1, .nil => .nil
  | i + 1, .cons _ _ r => r.drop i
theorem dropB_get : ∀ {x : Blks} {i : Nat} {v : Int} {b : Its}, x.get i = some (v, b) → x.drop i = .cons v b (x.drop (i + 1))
  | .nil, _, _, _, e => by simp [Blks.get] at e
  | .cons v b r, 0, _, _, e => by simp only [Blks.get, Option.some.injEq, Prod.mk.injEq] at e; obtain ⟨rfl, rfl⟩ := e; cases r <;> rfl
  | .cons v b r, i + 1, _, _, e => dropB_get (x := r) e
theorem dropB_all : ∀ (x : Blks), x.drop x.len = .nil
  | .nil => rfl
  | .cons v b r => dropB_all r
theorem getB_okd : ∀ {x : Blks} {i : Nat} {c : Int} {b : Its} {d : Int}, x.ok d = true → x.get i = some (c, b) → b.len ≤ 12 ∧ b.ok d = true
  | .nil, _, _, _, _, _, e => by simp [Blks.get] at e
  | .cons v b r, 0, c, y, d, h, e => by
    simp only [Blks.get, Option.some.injEq, Prod.mk.injEq] at e
    obtain ⟨rfl, rfl⟩ := e
    rw [Blks.ok, Bool.and_eq_true, Bool.and_eq_true] at h
    exact ⟨of_decide_eq_true h.1.1, h.1.2⟩
  | .cons v b r, i + 1, c, y, d, h, e => by rw [Blks.ok, Bool.and_eq_true] at h; exact getB_okd (x := r) h.2 e
theorem lensB_cons (f : Env) (v : Int) (b : Its) (r : Blks) : (Blks.cons v b r).lens f = match b.lens f with
    | some a => (r.lens f).map (a :: ·)
    | none => none := by
  rw [Blks.lens]
  generalize b.lens f = u
  generalize r.lens f = w
  cases u <;> cases w <;> rfl
theorem lensB_len : ∀ {x : Blks} {f : Env} {r : List (Int × Int)}, x.lens f = some r → r.length = x.len
  | .nil, f, r, e => by simp [Blks.lens] at e; subst e; rfl
  | .cons v b y, f, r, e => by
    rw [lensB_cons] at e
    cases h : b.lens f with
    | none => rw [h] at e; cases e
    | some a =>
      rw [h] at e
      cases h2 : y.lens f with
      | none => rw [h2] at e; cases e
      | some l => rw [h2] at e; cases e; simp [Blks.len, lensB_len h2]
/-- pairs of ints in tuples -/
abbrev PairsAt (H : Hp) : List V → List (Int × Int) → Prop := Paired fun v p => ∃ a, v = .ref a ∧ H a = some (.tup [.int p.1, .int p.2])
theorem PairsAt.kp {H H' : Hp} (s : ∀ b xs, H b = some (.tup xs) → H' b = some (.tup xs)) : ∀ {l : List V} {r : List (Int × Int)}, PairsAt H l r → PairsAt H' l r
  | _, _, .nil => .nil
  | _, _, .cons ⟨a, e, h⟩ t => .cons ⟨a, e, s _ _ h⟩ (PairsAt.kp s t)
theorem PairsAt.app {H : Hp} {v : V} {p : Int × Int} (h : ∃ a, v = .ref a ∧ H a = some (.tup [.int p.1, .int p.2])) : ∀ {l : List V} {r : List (Int × Int)}, PairsAt H l r → PairsAt H (l ++ [v]) (r ++ [p])
  | _, _, .nil => .cons h .nil
  | _, _, .cons q t => .cons q (PairsAt.app h t)
theorem PairsAt.len {H : Hp} : ∀ {l : List V} {r : List (Int × Int)}, PairsAt H l r → l.length = r.length
  | _, _, .nil => rfl
  | _, _, .cons _ t => by simp [PairsAt.len t]
theorem PairsAt.get {H : Hp} : ∀ {l : List V} {r : List (Int × Int)} {i : Nat} {v : V}, PairsAt H l r → l[i]? = some v → ∃ p a, r[i]? = some p ∧ v = .ref a ∧ H a = some (.tup [.int p.1, .int p.2])
  | _, _, _, _, .nil, e => by simp at e
  | _, _, 0, _, .cons ⟨a, e0, h⟩ _, e => by simp at e; subst e; exact ⟨_, a, by simp, e0, h⟩
  | _, _, i + 1, _, .cons _ t, e => by obtain ⟨p, a, h⟩ := PairsAt.get (i := i) t (by simpa using e); exact ⟨p, a, by simpa using h.1, h.2⟩
theorem g_nx {i : Nat} {v : V} {σ : L2.St} {H : Hp} {N : L2.St → Hp → Prop} (h : N (σ.set i (some v)) H) : gName i v σ H N := h
theorem seq_asg {te : TE} {g : TG} {u : TS} {D : Ends} {σ : L2.St} {H : Hp} (h : te σ H fun x H1 => g x σ H1 (u D)) : tSeq (tAsg te g) u D σ H := h
theorem ret_cb {r : List V → Hp → VK → Prop} {te : TE} {u : TA} {D : Ends} {σ : L2.St} {H : Hp} (h : te σ H fun x H1 => r [x] H1 fun y H2 => u σ H2 fun vs H3 => (y :: vs).length ≤ sizeLine ∧ ∀ p, H3 p = none → D.rt (.ref p) (upd H3 p (.tup (y :: vs)))) :
    tRet (tTup (tCons (tCB r (tCons te tNil)) u)) D σ H := h
theorem cons_cb {r : List V → Hp → VK → Prop} {te : TE} {σ : L2.St} {H : Hp} {Q : List V → Hp → Prop} (h : te σ H fun x H1 => r [x] H1 fun y H2 => Q [y] H2) : tCons (tCB r (tCons te tNil)) tNil σ H Q := h
theorem take_more {α : Type} {l : List α} {i : Nat} {x : α} (h : l[i]? = some x) : l.take (i + 1) = l.take i ++ [x] := by
  rw [List.take_add_one, h]; rfl
/-- [x for x, y in told], told a list of pairs in slot 2 -/
theorem proj_lc {K : PySem.W.Frag} {a b c j : Nat} {vs : List Nat} {σ : L2.St} {H : Hp} {Q : VK} {T : Addr} {acc : List V} {rs : List (Int × Int)} (pr : Int × Int → Int) (h2 : σ[j]? = some (some (.ref T))) (hT : H T = some (.lst acc)) (hp : PairsAt H acc rs) (hl : rs.length ≤ 100)
    (hw : ∀ v w, wipe (((wipe σ vs).set a (some v)).set b (some w)) vs = wipe σ vs) (hc : ∀ p : Int × Int, (((wipe σ vs).set a (some (.int p.1))).set b (some (.int p.2)))[c]? = some (some (.int (pr p))))
    (q : ∀ D H', Same H H' → H' D = some (.lst ((rs.map pr).map V.int)) → Q (.ref D) H') : tLc (iList K (tVar j)) (gTup K 2 (gCons (gName a) (gCons (gName b) gNil))) tYes (tVar c) vs σ H Q := by
  refine ⟨_, h2, T, rfl, ⟨acc, SqL.of hT⟩, fun D hD => lc_list (K := K) (a := T) (xs := acc) (fun i H' => Same H H' ∧ H' D = some (.lst (((rs.take i).map pr).map V.int))) ⟨same_new hD _, upd_same⟩ (fun i H' _ h => SqL.of (h.1 _ _ hT)) ?_ ?_⟩
  · rintro i v H2 hi ⟨s2, h2⟩
    obtain ⟨p, t, e1, rfl, ht⟩ := hp.get hi
    refine ⟨t, _, rfl, SqT.of (s2 _ _ ht), rfl, _, _, rfl, _, _, rfl, rfl, hw _ _, yes_go ⟨_, hc p, _, h2, small1000 (by rw [List.length_map, List.length_map, List.length_take]; omega), same_set s2 hD, ?_⟩⟩
    rw [upd_same, take_more e1, List.map_append, List.map_append]
    rfl
  · rintro H2 ⟨s2, h2⟩
    rw [hp.len, List.take_length] at h2
    exact q D H2 s2 h2
/-- [x for x, y in told if x == 0] -/
theorem zero_lc {K : PySem.W.Frag} {a b j : Nat} {vs : List Nat} {σ : L2.St} {H : Hp} {Q : VK} {T : Addr} {acc : List V} {rs : List (Int × Int)} (h2 : σ[j]? = some (some (.ref T))) (hT : H T = some (.lst acc)) (hp : PairsAt H acc rs) (hl : rs.length ≤ 100)
    (hw : ∀ v w, wipe (((wipe σ vs).set a (some v)).set b (some w)) vs = wipe σ vs) (hc : ∀ p : Int × Int, (((wipe σ vs).set a (some (.int p.1))).set b (some (.int p.2)))[a]? = some (some (.int p.1)))
    (q : ∀ D H', Same H H' → H' D = some (.lst (((rs.filter fun p => decide (p.1 = 0)).map (·.1)).map V.int)) → Q (.ref D) H') : tLc (iList K (tVar j)) (gTup K 2 (gCons (gName a) (gCons (gName b) gNil))) (tTest (tOp rEq (tVar a) (tC (.int 0)))) (tVar a) vs σ H Q := by
  refine ⟨_, h2, T, rfl, ⟨acc, SqL.of hT⟩, fun D hD => lc_list (K := K) (a := T) (xs := acc) (fun i H' => Same H H' ∧ H' D = some (.lst ((((rs.take i).filter fun p => decide (p.1 = 0)).map (·.1)).map V.int))) ⟨same_new hD _, upd_same⟩ (fun i H' _ h => SqL.of (h.1 _ _ hT)) ?_ ?_⟩
  · rintro i v H2 hi ⟨s2, h2⟩
    obtain ⟨p, t, e1, rfl, ht⟩ := hp.get hi
    refine ⟨t, _, rfl, SqT.of (s2 _ _ ht), rfl, _, _, rfl, _, _, rfl, rfl, hw _ _, _, hc p, rfl, _, rfl, ?_⟩
    rw [int_eq]
    by_cases z : p.1 = 0
    · rw [decide_eq_true z]
      refine iteT ⟨_, hc p, _, h2, small1000 (Nat.le_trans (by rw [List.length_map, List.length_map]; exact List.length_filter_le _ _) (by rw [List.length_take]; omega)), same_set s2 hD, ?_⟩
      rw [upd_same, take_more e1, List.filter_append, List.map_append, List.map_append]
      simp [z]
    · rw [decide_eq_false z]
      refine iteF ⟨s2, ?_⟩
      rw [h2, take_more e1, List.filter_append]
      simp [z]
  · rintro H2 ⟨s2, h2⟩
    rw [hp.len, List.take_length] at h2
    exact q D H2 s2 h2
theorem spread_of {r : List (Int × Int)} {a b : Int} (h1 : a ∈ r.map (·.1)) (h2 : ∀ y ∈ r.map (·.1), a ≤ y) (h3 : b ∈ r.map (·.2)) (h4 : ∀ y ∈ r.map (·.2), y ≤ b) : spread r = some (a, b) := by
  unfold spread
  rw [List.min?_eq_some_iff.mpr ⟨h1, h2⟩, List.max?_eq_some_iff.mpr ⟨h3, h4⟩]
section
variable {P : Program} {w : World} {K : PySem.W.Frag} {mg : Str → Option Value} {base : Heap} {f C : Addr} {fd : FuncData}
theorem scRepeat : FnScope ["item", "visible", "fewest", "most", "least", "greatest"] ["item", "visible"] (defScope sRepeat) := ⟨rfl, rfl, rfl, by decide +kernel, rfl, by decide +kernel, by decide +kernel⟩
theorem amount_in {H : Hp} {dv : Addr} {g : Env} {m : Nat} {most : Int} {amt : Key} {l : Int × Int} (hv : VisAt H dv g m) (h16 : most ≤ 1000) (e : amount g most amt = some l) : 0 ≤ l.1 ∧ l.1 ≤ most ∧ 0 ≤ l.2 ∧ l.2 ≤ most := by
  cases amt with
  | inl i =>
    simp only [amount] at e
    by_cases z : 0 ≤ i ∧ i ≤ most
    · rw [if_pos z] at e
      obtain rfl := Option.some.inj e
      exact ⟨z.1, z.2, z.1, z.2⟩
    · rw [if_neg z] at e; cases e
  | inr z =>
    simp only [amount] at e
    obtain ⟨kvs, _, _, v3⟩ := hv
    have v := v3 z
    cases hg : g z with
    | none => rw [hg] at e; cases e
    | some p =>
      rw [hg] at e v
      obtain ⟨a, _, _, p1, p2⟩ := v
      simp only at e
      by_cases c : p.2 ≤ most
      · rw [if_pos c] at e
        obtain rfl := Option.some.inj e
        exact ⟨p1, by omega, by omega, c⟩
      · rw [if_neg c] at e; cases e
theorem ok_repeat {n k : Nat} (hk : 2 ≤ k) (F : Fun K "repeat_lengths" "repeat_lengths" sRepeat f fd) (gR : Cal P w K mg base (L2.CX P w) 1 "require" ["holds", "words"] (spRequire C)) (gA : Cal P w K mg base (L2.CX P w) 2 "amount_bounds" ["amount", "visible", "most"] (spAmount C))
    (gN : GInt mg "GREATEST_COUNT" 16) (gL : Cal P w K mg base (L2.CX P w) k "list_lengths" ["items", "visible"] (spSub (spLensList C) n)) : FnOk P w K mg base (L2.CX P w) (k + 1) f fd ["item", "visible"] (spLens C "repeat" n) := by
  refine F.okX scRepeat (fun vs H Q E h => ?_) (fun cdv A outer s H vs Q E hr h => ?_)
  · obtain ⟨v, dv, x, g, m, d, rfl, _⟩ := h
    rfl
  · obtain ⟨v, dv, x, g, m, d, rfl, hk2, hd, ok, ht, hat, hv, hm, q1, q2⟩ := h
    have tk : Takes (cxOf (L2.CX P w) P w K mg base ["item", "visible", "fewest", "most", "least", "greatest"] "repeat_lengths" (defScope sRepeat) f cdv A outer s H E) (fun cls d _ H => E cls d H) := takes_of rfl rfl rfl rfl
    have hx := passes_call tk (E := E) fun _ _ _ _ h => h
    cases x with
    | rep nm amt b =>
      simp only [It.tame] at ht
      obtain ⟨_, hta, htb⟩ := ht
      simp only [It.At] at hat
      obtain ⟨p, q, xs, rfl, hp, hrow, hb⟩ := hat
      have hp : H p = some (.tup [.str "repeat", .str nm, kV amt, .ref q]) := hp
      have hq : H q = some (.tup xs) := hrow.elim id fun z => by cases z.1
      rw [It.ok, Bool.and_eq_true, Bool.and_eq_true, Bool.and_eq_true] at ok
      have d2 : d ≤ 2 := of_decide_eq_true ok.2.1
      have okb := ok.2.2.2
      have l12 : b.len ≤ 12 := of_decide_eq_true ok.2.2.1
      cases n with
      | zero => exfalso; omega
      | succ n =>
        refine ⟨_, pss_cons (ps_asg (pe_cal gA (hr.mono hk) hx (pa_cons (pe_ix ix_tup (pv 0) pe_int (fun _ _ => rfl)) (pa_cons (pv 1) (pa_cons (pe_gint gN rfl) pa_nil)))) (pg_tup rfl (pgs_cons (pg_name (i := 2) scRepeat.nd rfl (.inl rfl)) (pgs_cons (pg_name (i := 3) scRepeat.nd rfl (.inl rfl)) pgs_nil))))
          (pss_cons (ps_asg (pe_cal gL hr hx (pa_cons (pe_ix ix_tup (pv 0) pe_int (fun _ _ => rfl)) (pa_cons (pv 1) pa_nil))) (pg_tup rfl (pgs_cons (pg_name (i := 4) scRepeat.nd rfl (.inl rfl)) (pgs_cons (pg_name (i := 5) scRepeat.nd rfl (.inl rfl)) pgs_nil))))
          (pss_cons (ps_expr (pe_cal gR (hr.mono (by omega)) hx (pa_cons (pe_cmpR op_ge (pv 4) pe_int (nomark _)) (pa_cons pe_str pa_nil))))
          (pss_one (ps_ret (pe_tup (pa_cons (pe_op op_mul (pv 2) (pv 4)) (pa_cons (pe_op op_mul (pv 3) (pv 5)) pa_nil))))))), ?_⟩
        refine ⟨_, rfl, p, _, 2, _, rfl, rfl, SqT.of hp, atI_nat (j := 2) rfl, _, rfl, amt, 16, dv, g, m, rfl, .inr rfl, hv, hta, fun l e1 t H1 s1 h1 => ?_, fun e1 H1 s1 => q2 (by simp only [It.lens]; rw [e1]) H1 s1⟩
        have hi : 0 ≤ l.1 ∧ l.1 ≤ 16 ∧ 0 ≤ l.2 ∧ l.2 ≤ 16 := amount_in hv (by decide) e1
        refine ⟨t, _, rfl, SqT.of h1, rfl, _, _, rfl, _, _, rfl, rfl, ?_⟩
        refine ⟨_, rfl, p, _, 3, _, rfl, rfl, SqT.of (s1 _ _ hp), atI_nat (j := 3) rfl, _, rfl, q, dv, b, xs, g, m, d + 1, rfl, by omega, okb, l12, htb, s1 _ _ hq, hb.same s1, hv.same s1, by omega, fun l2 e2 t2 H2 s2 h2 => ?_, fun e2 H2 s2 => q2 (by simp only [It.lens]; rw [e1, e2]) H2 (s1.trans s2)⟩
        refine ⟨t2, _, rfl, SqT.of h2, rfl, _, _, rfl, _, _, rfl, rfl, ?_⟩
        refine ⟨_, rfl, _, _, rfl, rfl, _, _, rfl, fun e3 => ?_, fun e3 => q2 (by simp only [It.lens]; rw [e1, e2]; simp only; rw [if_neg (of_decide_eq_false e3)]) H2 (s1.trans s2)⟩
        have e3 : 1 ≤ l2.1 := of_decide_eq_true e3
        refine ⟨_, rfl, _, rfl, l.1, l2.1, rfl, rfl, .inl ⟨by omega, by omega⟩, _, rfl, _, rfl, l.2, l2.2, rfl, rfl, .inl ⟨by omega, by omega⟩, (by show 2 ≤ sizeLine; decide), fun t3 ht3 => ?_⟩
        exact q1 (l.1 * l2.1, l.2 * l2.2) (by simp only [It.lens]; rw [e1, e2]; simp only; rw [if_pos e3]) t3 _ (s1.trans (s2.trans (same_new ht3 _))) upd_same
    | odd => simp [It.ok] at ok
    | _ => exact absurd hk2 (by simp only [It.kind]; decide +kernel)
theorem scEither : FnScope ["item", "visible", "told", "block", "empty", "least", "_", "greatest"] ["item", "visible"] (defScope sEither) := ⟨rfl, rfl, rfl, by decide +kernel, rfl, by decide +kernel, by decide +kernel⟩
theorem ok_either {n k : Nat} (hk : 2 ≤ k) (F : Fun K "either_lengths" "either_lengths" sEither f fd) (gR : Cal P w K mg base (L2.CX P w) 1 "require" ["holds", "words"] (spRequire C)) (ml : mg "len" = none) (mmin : mg "min" = none) (mmax : mg "max" = none)
    (gL : Cal P w K mg base (L2.CX P w) k "list_lengths" ["items", "visible"] (spSub (spLensList C) n)) : FnOk P w K mg base (L2.CX P w) (k + 1) f fd ["item", "visible"] (spLens C "either" n) := by
  refine F.okX scEither (fun vs H Q E h => ?_) (fun cdv A outer s H vs Q E hr h => ?_)
  · obtain ⟨v, dv, x, g, m, d, rfl, _⟩ := h
    rfl
  · obtain ⟨v, dv, x, g, m, d, rfl, hk2, hd, ok, ht, hat, hv, hm, q1, q2⟩ := h
    have tk : Takes (cxOf (L2.CX P w) P w K mg base ["item", "visible", "told", "block", "empty", "least", "_", "greatest"] "either_lengths" (defScope sEither) f cdv A outer s H E) (fun cls d _ H => E cls d H) := takes_of rfl rfl rfl rfl
    have hx := passes_call tk (E := E) fun _ _ _ _ h => h
    cases x with
    | eit nm bs =>
      simp only [It.tame] at ht
      simp only [It.At] at hat
      obtain ⟨p, q, xs, rfl, hp, hrow, hb⟩ := hat
      have hq : H q = some (.tup xs) := hrow.elim id fun z => by cases z.1
      rw [It.ok, Bool.and_eq_true, Bool.and_eq_true, Bool.and_eq_true] at ok
      have d2 : d ≤ 2 := of_decide_eq_true ok.2.1
      have okb := ok.2.2.2
      have l24 : 2 ≤ bs.len ∧ bs.len ≤ 4 := of_decide_eq_true ok.2.2.1
      have el := hb.len
      cases n with
      | zero => exfalso; omega
      | succ n =>
        refine ⟨_, pss_cons (Rj.ps_setLcx (Ex := E) (i := 2) (own := [("block", 3)]) (g := gName 3) rfl rfl tk rfl scEither.nd rfl rfl (sw_true rfl rfl rfl (by decide +kernel)) (pi_row (pe_ix ix_tup (pv 0) pe_int (fun _ _ => rfl)))
            (blkOk_by (own := [("block", 3)]) (N := ["item", "visible", "told", "block", "empty", "least", "_", "greatest"]) (sc := defScope sEither) (by decide +kernel)) (fun _ _ _ _ _ => pg_name (i := 3) scEither.nd rfl (Or.inl rfl)) (fun _ _ _ _ _ => pe_cal gL hr Rj.fell_passes (pa_cons (pv 3) (pa_cons (pv 1) pa_nil))))
          (pss_cons (ps_setLc (i := 4) (own := [("least", 5), ("_", 6)]) (g := gTup K 2 (gCons (gName 5) (gCons (gName 6) gNil))) rfl scEither.nd rfl rfl (sw_true rfl rfl rfl (by decide +kernel)) (pi_list (pv 2))
            (blkOk_by (own := [("least", 5), ("_", 6)]) (N := ["item", "visible", "told", "block", "empty", "least", "_", "greatest"]) (sc := defScope sEither) (by decide +kernel)) (fun _ _ _ _ _ => pg_tup rfl (pgs_cons (pg_name (i := 5) scEither.nd rfl (Or.inl rfl)) (pgs_cons (pg_name (i := 6) scEither.nd rfl (Or.inl rfl)) pgs_nil)))
            (fun _ _ _ _ _ => pts_one (pt_cmpR op_eq (pv 5) pe_int (nomark _))) (fun _ _ _ _ _ => pv 5))
          (pss_cons (ps_expr (pe_cal gR (hr.mono (by omega)) hx (pa_cons (pe_cmpR op_le (pe_callB call_len (by rfl) ml boot_len (pa_cons (pv 4) pa_nil)) pe_int (nomark _)) (pa_cons pe_str pa_nil))))
          (pss_one (ps_ret (pe_tup (pa_cons (pe_callB (cr_min rfl) (by rfl) mmin (by decide +kernel) (pa_cons (pe_lc (own := [("least", 5), ("_", 6)]) (g := gTup K 2 (gCons (gName 5) (gCons (gName 6) gNil))) (tt := tYes) rfl scEither.nd (pi_list (pv 2))
            (blkOk_by (own := [("least", 5), ("_", 6)]) (N := ["item", "visible", "told", "block", "empty", "least", "_", "greatest"]) (sc := defScope sEither) (by decide +kernel)) (fun _ _ _ _ _ => pg_tup rfl (pgs_cons (pg_name (i := 5) scEither.nd rfl (Or.inl rfl)) (pgs_cons (pg_name (i := 6) scEither.nd rfl (Or.inl rfl)) pgs_nil)))
            (fun _ _ _ _ _ => pts_nil) (fun _ _ _ _ _ => pv 5)) pa_nil))
            (pa_cons (pe_callB (cr_max rfl) (by rfl) mmax (by decide +kernel) (pa_cons (pe_lc (own := [("_", 6), ("greatest", 7)]) (g := gTup K 2 (gCons (gName 6) (gCons (gName 7) gNil))) (tt := tYes) rfl scEither.nd (pi_list (pv 2))
            (blkOk_by (own := [("_", 6), ("greatest", 7)]) (N := ["item", "visible", "told", "block", "empty", "least", "_", "greatest"]) (sc := defScope sEither) (by decide +kernel)) (fun _ _ _ _ _ => pg_tup rfl (pgs_cons (pg_name (i := 6) scEither.nd rfl (Or.inl rfl)) (pgs_cons (pg_name (i := 7) scEither.nd rfl (Or.inl rfl)) pgs_nil)))
            (fun _ _ _ _ _ => pts_nil) (fun _ _ _ _ _ => pv 7)) pa_nil)) pa_nil))))))), ?_⟩
        refine ⟨_, rfl, p, _, 2, _, rfl, rfl, SqT.of hp, atI_nat (j := 2) rfl, q, rfl, ?_⟩
        refine row_go (H := H) (.inl hq) (fun J wk => ?_)
        intro D hD
        refine lc_it wk (fun i H' => Same H H' ∧ ∃ acc rs, H' D = some (.lst acc) ∧ PairsAt H' acc rs ∧ rs.length = i ∧ bs.lens g = ((bs.drop i).lens g).map (rs ++ ·))
          ⟨same_new hD _, [], [], upd_same, .nil, rfl, by show bs.lens g = (bs.lens g).map _; cases bs.lens g <;> rfl⟩ (fun _ _ _ h => h.1) ?_ ?_
        · rintro i v H2 H3 hi ⟨s2, acc, rs, hacc, hpa, hrs, el2⟩ ⟨e3, hv3⟩
          subst e3
          obtain ⟨c, b, qb, zs, gb, rfl, hrw, hbb⟩ := AtE_item (hb.same s2) hv3
          have hqb : H3 qb = some (.tup zs) := hrw.elim id fun z => by cases z.1
          rw [dropB_get gb, lensB_cons] at el2
          obtain ⟨b12, bok⟩ := getB_okd okb gb
          refine ⟨rfl, yes_go ?_⟩
          refine ⟨_, rfl, _, rfl, qb, dv, b, zs, g, m, d + 1, rfl, by omega, bok, b12, getB_tame ht.2 gb, hqb, hbb, hv.same s2, by omega, fun l e2 t2 H4 s4 h4 => ?_, fun e2 H4 s4 => q2 (by simp only [It.lens]; rw [el2, e2]; rfl) H4 (s2.trans s4)⟩
          have hacc4 := s4 _ _ hacc
          have ka : ∀ b xs, H4 b = some (.tup xs) → upd H4 D (.lst (acc ++ [.ref t2])) b = some (.tup xs) := fun b xs e => by rw [upd_ne (ne_of e hacc4 (by intro z; cases z))]; exact e
          refine ⟨acc, hacc4, small1000 (by rw [hpa.len]; omega), same_set (s2.trans s4) hD, acc ++ [.ref t2], rs ++ [l], upd_same, (PairsAt.app ⟨t2, rfl, h4⟩ (hpa.kp fun b xs h => s4 _ _ h)).kp ka, by simp [hrs], ?_⟩
          rw [el2, e2]
          cases (bs.drop (i + 1)).lens g <;> simp
        · rintro H2 ⟨s2, acc, rs, hacc, hpa, hrs, el2⟩
          rw [el, dropB_all] at el2
          have el2 : bs.lens g = some rs := by rw [el2]; simp [Blks.lens]
          have rl : rs.length ≤ 100 := by omega
          have hpos : 0 < rs.length := by rw [lensB_len el2]; omega
          refine g_nx ?_
          dsimp only
          refine seq_asg ?_
          refine zero_lc (j := 2) (a := 5) (b := 6) (vs := [5, 6]) (σ := [some (.ref p), some (.ref dv), some (.ref D), none, none, none, none, none]) rfl hacc hpa rl (fun _ _ => rfl) (fun _ => rfl) (fun D2 H3 s3 h3 => ?_)
          have ez : (((rs.filter fun p => decide (p.1 = 0)).map (·.1)).map V.int).length = (rs.filter fun p => decide (p.1 = 0)).length := by rw [List.length_map, List.length_map]
          refine ⟨_, rfl, V.ref D2, _, rfl, .inl ⟨_, SqL.of h3, rfl⟩, _, _, rfl, rfl, _, _, rfl, fun e => ?_, fun e => q2 (by simp only [It.lens]; rw [el2]; simp only; rw [if_neg (fun z => of_decide_eq_false e (by rw [ez]; omega))]) H3 (s2.trans s3)⟩
          have e : (rs.filter fun p => decide (p.1 = 0)).length ≤ 1 := by have e := of_decide_eq_true e; rw [ez] at e; omega
          have hacc3 := s3 _ _ hacc
          dsimp only
          refine ret_cb ?_
          refine proj_lc (j := 2) (a := 5) (b := 6) (c := 5) (vs := [5, 6]) (σ := [some (.ref p), some (.ref dv), some (.ref D), none, some (.ref D2), none, none, none]) (·.1) rfl hacc3 (hpa.kp fun b xs h => s3 _ _ h) rl (fun _ _ => rfl) (fun _ => rfl) (fun D3 H4 s4 h4 => ?_)
          refine ⟨D3, _, rfl, SqL.of h4, by rw [List.length_map]; exact hpos, fun mn hmn hle => ?_⟩
          have s34 := s3.trans s4
          dsimp only
          refine cons_cb ?_
          refine proj_lc (j := 2) (a := 6) (b := 7) (c := 7) (vs := [6, 7]) (σ := [some (.ref p), some (.ref dv), some (.ref D), none, some (.ref D2), none, none, none]) (·.2) rfl (s4 _ _ hacc3) (hpa.kp fun b xs h => s34 _ _ h) rl (fun _ _ => rfl) (fun _ => rfl) (fun D5 H5 s5 h5 => ?_)
          refine ⟨D5, _, rfl, SqL.of h5, by rw [List.length_map]; exact hpos, fun mx hmx hge => ?_⟩
          refine ⟨(by show 2 ≤ sizeLine; decide), fun t ht4 => ?_⟩
          exact q1 (mn, mx) (by simp only [It.lens]; rw [el2]; simp only; rw [if_pos e]; exact spread_of hmn hle hmx hge) t _ (s2.trans (s34.trans (s5.trans (same_new ht4 _)))) upd_same
    | odd => simp [It.ok] at ok
    | _ => exact absurd hk2 (by simp only [It.kind]; decide +kernel)
end
end Bs

set_option Elab.async false
set_option linter.all false
set_option maxRecDepth 100000
set_option maxHeartbeats 4000000
namespace Bs
open PySem L2
theorem vals_get : ∀ {x : Blks} {i : Nat} {c : Int} {b : Its}, x.get i = some (c, b) → x.vals[i]? = some c
  | .nil, _, _, _, e => by simp [Blks.get] at e
  | .cons v b r, 0, _, _, e => by simp only [Blks.get, Option.some.injEq, Prod.mk.injEq] at e; obtain ⟨rfl, rfl⟩ := e; rfl
  | .cons v b r, i + 1, _, _, e => vals_get (x := r) e
theorem vals_len : ∀ (x : Blks), x.vals.length = x.len
  | .nil => rfl
  | .cons v b r => by simp [Blks.vals, Blks.len, vals_len r]
section
variable {P : Program} {w : World} {K : PySem.W.Frag} {mg : Str → Option Value} {base : Heap} {f C : Addr} {fd : FuncData}
abbrev nSwitch : List Str := ["item", "visible", "tag", "values", "value", "_", "told", "block", "least", "greatest"]
theorem scSwitch : FnScope nSwitch ["item", "visible"] (defScope sSwitch) := ⟨rfl, rfl, rfl, by decide +kernel, rfl, by decide +kernel, by decide +kernel⟩
theorem ok_switch {n k : Nat} (hk : 2 ≤ k) (F : Fun K "switch_lengths" "switch_lengths" sSwitch f fd) (gR : Cal P w K mg base (L2.CX P w) 1 "require" ["holds", "words"] (spRequire C)) (gI : Cal P w K mg base CX0 1 "is_integer" ["value", "low", "high"] spIsInt) (gP : GInt mg "GREATEST_PAIR" 65535)
    (ml : mg "len" = none) (mmin : mg "min" = none) (mmax : mg "max" = none) (mset : mg "set" = none) (mi : mg "isinstance" = none) (ms : mg "str" = none)
    (gL : Cal P w K mg base (L2.CX P w) k "list_lengths" ["items", "visible"] (spSub (spLensList C) n)) : FnOk P w K mg base (L2.CX P w) (k + 1) f fd ["item", "visible"] (spLens C "switch" n) := by
  refine F.okX scSwitch (fun vs H Q E h => ?_) (fun cdv A outer s H vs Q E hr h => ?_)
  · obtain ⟨v, dv, x, g, m, d, rfl, _⟩ := h
    rfl
  · obtain ⟨v, dv, x, g, m, d, rfl, hk2, hd, ok, ht, hat, hv, hm, q1, q2⟩ := h
    have tk : Takes (cxOf (L2.CX P w) P w K mg base nSwitch "switch_lengths" (defScope sSwitch) f cdv A outer s H E) (fun cls d _ H => E cls d H) := takes_of rfl rfl rfl rfl
    have hx := passes_call tk (E := E) fun _ _ _ _ h => h
    have hu := hu_of hr
    have hr1 : Room 1 _ := hr.mono (by omega)
    cases x with
    | swi nm tag bs =>
      simp only [It.tame] at ht
      simp only [It.At] at hat
      obtain ⟨p, q, xs, rfl, hp, hrow, hb⟩ := hat
      have hq : H q = some (.tup xs) := hrow.elim id fun z => by cases z.1
      rw [It.ok, Bool.and_eq_true, Bool.and_eq_true, Bool.and_eq_true] at ok
      have d2 : d ≤ 2 := of_decide_eq_true ok.2.1
      have okb := ok.2.2.2
      have l18 : 1 ≤ bs.len ∧ bs.len ≤ 8 := of_decide_eq_true ok.2.2.1
      have el := hb.len
      cases n with
      | zero => exfalso; omega
      | succ n =>
        refine ⟨_, pss_cons (ps_set (i := 2) scSwitch.nd rfl (.inl rfl) (pe_ix ix_tup (pv 0) pe_int (fun _ _ => rfl)))
          (pss_cons (ps_expr (pe_cal gR hr1 hx (pa_cons (pe_and (pe_callB call_isi (by rfl) mi (by decide +kernel) (pa_cons (pv 2) (pa_cons (pe_bltn (v := .ty "str") (by rfl) ms (by decide +kernel) rfl) pa_nil))) (pe_one (pe_cmp (pc_din hu (pv 2) (pv 1)) (by rfl)))) (pa_cons pe_str pa_nil))))
          (pss_cons (ps_setLc (i := 3) (own := [("value", 4), ("_", 5)]) (g := gTup K 2 (gCons (gName 4) (gCons (gName 5) gNil))) (tt := tYes) rfl scSwitch.nd rfl rfl (sw_true rfl rfl rfl (by decide +kernel)) (pi_tup (pe_ix ix_tup (pv 0) pe_int (fun _ _ => rfl)))
            (blkOk_by (own := [("value", 4), ("_", 5)]) (N := nSwitch) (sc := defScope sSwitch) (by decide +kernel)) (fun _ _ _ _ _ => pg_tup rfl (pgs_cons (pg_name (i := 4) scSwitch.nd rfl (Or.inl rfl)) (pgs_cons (pg_name (i := 5) scSwitch.nd rfl (Or.inl rfl)) pgs_nil)))
            (fun _ _ _ _ _ => pts_nil) (fun _ _ _ _ _ => pv 4))
          (pss_cons (ps_for (passes_of rfl) rfl (pi_list (pv 3)) (pg_name (i := 4) scSwitch.nd rfl (.inl rfl)) (pss_one (ps_expr (pe_cal gR hr1 hx (pa_cons (pe_cal gI hr1 pass0 (pa_cons (pv 4) (pa_cons pe_int (pa_cons (pe_gint gP rfl) pa_nil)))) (pa_cons (pe_joined (.cons pe_str (.cons (pe_fmt (pe_gint gP rfl)) .nil))) pa_nil))))))
          (pss_cons (ps_expr (pe_cal gR hr1 hx (pa_cons (pe_cmpR op_eq (RZ.pe_lenSetI (by rfl) ml (by rfl) mset (pv 3)) (pe_callB call_len (by rfl) ml boot_len (pa_cons (pv 3) pa_nil)) (nomark _)) (pa_cons pe_str pa_nil))))
          (pss_cons (Rj.ps_setLcx (Ex := E) (i := 6) (own := [("_", 5), ("block", 7)]) (g := gTup K 2 (gCons (gName 5) (gCons (gName 7) gNil))) rfl rfl tk rfl scSwitch.nd rfl rfl (sw_true rfl rfl rfl (by decide +kernel)) (pi_tup (pe_ix ix_tup (pv 0) pe_int (fun _ _ => rfl)))
            (blkOk_by (own := [("_", 5), ("block", 7)]) (N := nSwitch) (sc := defScope sSwitch) (by decide +kernel)) (fun _ _ _ _ _ => pg_tup rfl (pgs_cons (pg_name (i := 5) scSwitch.nd rfl (Or.inl rfl)) (pgs_cons (pg_name (i := 7) scSwitch.nd rfl (Or.inl rfl)) pgs_nil))) (fun _ _ _ _ _ => pe_cal gL hr Rj.fell_passes (pa_cons (pv 7) (pa_cons (pv 1) pa_nil))))
          (pss_one (ps_ret (pe_tup (pa_cons (pe_callB (cr_min rfl) (by rfl) mmin (by decide +kernel) (pa_cons (pe_lc (own := [("least", 8), ("_", 5)]) (g := gTup K 2 (gCons (gName 8) (gCons (gName 5) gNil))) (tt := tYes) rfl scSwitch.nd (pi_list (pv 6))
            (blkOk_by (own := [("least", 8), ("_", 5)]) (N := nSwitch) (sc := defScope sSwitch) (by decide +kernel)) (fun _ _ _ _ _ => pg_tup rfl (pgs_cons (pg_name (i := 8) scSwitch.nd rfl (Or.inl rfl)) (pgs_cons (pg_name (i := 5) scSwitch.nd rfl (Or.inl rfl)) pgs_nil)))
            (fun _ _ _ _ _ => pts_nil) (fun _ _ _ _ _ => pv 8)) pa_nil))
            (pa_cons (pe_callB (cr_max rfl) (by rfl) mmax (by decide +kernel) (pa_cons (pe_lc (own := [("_", 5), ("greatest", 9)]) (g := gTup K 2 (gCons (gName 5) (gCons (gName 9) gNil))) (tt := tYes) rfl scSwitch.nd (pi_list (pv 6))
            (blkOk_by (own := [("_", 5), ("greatest", 9)]) (N := nSwitch) (sc := defScope sSwitch) (by decide +kernel)) (fun _ _ _ _ _ => pg_tup rfl (pgs_cons (pg_name (i := 5) scSwitch.nd rfl (Or.inl rfl)) (pgs_cons (pg_name (i := 9) scSwitch.nd rfl (Or.inl rfl)) pgs_nil)))
            (fun _ _ _ _ _ => pts_nil) (fun _ _ _ _ _ => pv 9)) pa_nil)) pa_nil)))))))))), ?_⟩
        have no : ¬ ((g tag).isSome = true ∧ (∀ v ∈ bs.vals, 0 ≤ v ∧ v ≤ 65535) ∧ bs.vals.Nodup) → ∀ H', Same H H' → E (.ref C) none H' := fun e => q2 (by simp only [It.lens]; rw [if_neg e])
        obtain ⟨kvs, v1, v2, v3⟩ := id hv
        have et : (valV kvs (.inr tag)).isSome = (g tag).isSome := by
          have z := v3 tag
          revert z
          cases g tag with
          | none => intro z; rw [show valV kvs (.inr tag) = none from z]; rfl
          | some y => rintro ⟨b, z1, _⟩; rw [z1]; rfl
        refine ⟨_, rfl, p, _, 2, _, rfl, rfl, SqT.of hp, atI_nat (j := 2) rfl, ?_⟩
        refine ⟨_, rfl, _, _, _, _, true, rfl, .ty _, .base (.str _), kit_ty (by decide +kernel), _, rfl, iteT ?_⟩
        refine ⟨_, rfl, _, rfl, dv, _, rfl, DGet.k (k := .inr tag) v1, _, _, rfl, fun e => ?_, fun e => no (fun z => by rw [et, z.1] at e; cases e) _ (Same.refl H)⟩
        rw [et] at e
        dsimp only
        refine seq_asg ?_
        refine ⟨_, rfl, p, _, 3, _, rfl, rfl, SqT.of hp, atI_nat (j := 3) rfl, q, rfl, ⟨_, SqT.of hq⟩, fun D hD => lc_tup (K := K) (a := q) (xs := xs) (fun i H' => Same H H' ∧ H' D = some (.lst ((bs.vals.take i).map V.int))) ⟨same_new hD _, upd_same⟩ (fun i H' _ z => SqT.of (z.1 _ _ hq)) ?_ ?_⟩
        · rintro i v H2 hi ⟨s2, h2⟩
          obtain ⟨c, b, pc, qb, zs, gb, rfl, hpc, _⟩ := AtS_item (hb.same s2) hi
          refine ⟨pc, _, rfl, SqT.of hpc, rfl, _, _, rfl, _, _, rfl, rfl, rfl, yes_go ⟨_, rfl, _, h2, small1000 (by rw [List.length_map, List.length_take, vals_len]; omega), same_set s2 hD, ?_⟩⟩
          rw [upd_same, take_more (vals_get gb), List.map_append]
          rfl
        rintro H2 ⟨s2, h2⟩
        have evl : xs.length = bs.vals.length := by rw [vals_len, el]
        rw [evl, List.take_length] at h2
        -- each value
        refine ⟨_, rfl, D, rfl, ⟨_, SqL.of h2⟩, for_list (K := K) (a := D) (xs := bs.vals.map V.int) (fun i σ H' => ∃ s4, σ = [some (.ref p), some (.ref dv), some (.str tag), some (.ref D), s4, none, none, none, none, none] ∧ H' = H2 ∧ ∀ v ∈ bs.vals.take i, 0 ≤ v ∧ v ≤ 65535)
          ⟨none, rfl, rfl, fun _ z => by simp at z⟩ (fun i σ H' _ z => by obtain ⟨_, _, z, _⟩ := z; rw [z]; exact SqL.of h2) ?_ ?_⟩
        · rintro i y σ H3 hi ⟨s4, rfl, rfl, hall⟩
          obtain ⟨z, hz, rfl⟩ : ∃ z, bs.vals[i]? = some z ∧ y = V.int z := by
            rw [List.getElem?_map] at hi
            cases e9 : bs.vals[i]? with
            | none => rw [e9] at hi; cases hi
            | some z => rw [e9] at hi; exact ⟨z, rfl, (Option.some.inj hi).symm⟩
          refine ⟨_, rfl, z, 0, 65535, rfl, ?_⟩
          refine ⟨_, rfl, by decide +kernel, .inr ⟨65535, rfl, by decide +kernel, _, rfl, by decide +kernel, _, _, rfl, fun e2 => ?_, fun e2 => no (fun w => of_decide_eq_false e2 (w.2.1 z (List.mem_of_getElem? hz))) _ s2⟩⟩
          refine ⟨_, rfl, rfl, fun v hv => ?_⟩
          rw [take_more hz, List.mem_append] at hv
          rcases hv with hv | hv
          · exact hall v hv
          · have : v = z := by simpa using hv
            rw [this]
            exact of_decide_eq_true e2
        rintro σ H3 ⟨s4, rfl, rfl, hall⟩
        rw [List.length_map, List.take_length] at hall
        -- all different
        refine ⟨_, rfl, D, bs.vals, rfl, SqL.of h2, ht.2.1, by rw [vals_len]; omega, _, rfl, V.ref D, _, rfl, .inl ⟨_, SqL.of h2, rfl⟩, rfl, _, _, rfl, fun _ => ?_, fun e2 => absurd (by rw [List.length_map]) (of_decide_eq_false e2)⟩
        dsimp only
        refine seq_asg ?_
        refine ⟨_, rfl, p, _, 3, _, rfl, rfl, SqT.of (s2 _ _ hp), atI_nat (j := 3) rfl, q, rfl, ⟨_, SqT.of (s2 _ _ hq)⟩, fun D6 hD6 => lc_tup (K := K) (a := q) (xs := xs) (fun i H' => Same H3 H' ∧ ∃ acc rs, H' D6 = some (.lst acc) ∧ PairsAt H' acc rs ∧ rs.length = i ∧ bs.lens g = ((bs.drop i).lens g).map (rs ++ ·))
          ⟨same_new hD6 _, [], [], upd_same, .nil, rfl, by show bs.lens g = (bs.lens g).map _; cases bs.lens g <;> rfl⟩ (fun i H' _ z => SqT.of ((s2.trans z.1) _ _ hq)) ?_ ?_⟩
        · rintro i v H4 hi ⟨s4', acc, rs, hacc, hpa, hrs, el2⟩
          have s24 := s2.trans s4'
          obtain ⟨c, b, pc, qb, zs, gb, rfl, hpc, hrw, hbb⟩ := AtS_item (hb.same s24) hi
          have hqb : H4 qb = some (.tup zs) := hrw.elim id fun z => by cases z.1
          rw [dropB_get gb, lensB_cons] at el2
          obtain ⟨b12, bok⟩ := getB_okd okb gb
          have hlt := getB_lt gb
          refine ⟨pc, _, rfl, SqT.of hpc, rfl, _, _, rfl, _, _, rfl, rfl, rfl, yes_go ?_⟩
          refine ⟨_, rfl, _, rfl, qb, dv, b, zs, g, m, d + 1, rfl, by omega, bok, b12, getB_tame ht.2.2 gb, hqb, hbb, hv.same s24, by omega, fun l e2 t2 H5 s5 h5 => ?_, fun e2 H5 s5 => q2 (by simp only [It.lens]; rw [el2, e2]; simp) H5 (s24.trans s5)⟩
          have hacc4 := s5 _ _ hacc
          have ka : ∀ b xs, H5 b = some (.tup xs) → upd H5 D6 (.lst (acc ++ [.ref t2])) b = some (.tup xs) := fun b xs e => by rw [upd_ne (ne_of e hacc4 (by intro z; cases z))]; exact e
          refine ⟨acc, hacc4, small1000 (by rw [hpa.len]; omega), same_set (s4'.trans s5) hD6, acc ++ [.ref t2], rs ++ [l], upd_same, (PairsAt.app ⟨t2, rfl, h5⟩ (hpa.kp fun b xs h => s5 _ _ h)).kp ka, by simp [hrs], ?_⟩
          rw [el2, e2]
          cases (bs.drop (i + 1)).lens g <;> simp
        rintro H4 ⟨s4', acc, rs, hacc, hpa, hrs, el2⟩
        rw [el, dropB_all] at el2
        have el2 : bs.lens g = some rs := by rw [el2]; simp [Blks.lens]
        have rl : rs.length ≤ 100 := by omega
        have hpos : 0 < rs.length := by rw [lensB_len el2]; omega
        refine g_nx ?_
        refine ret_cb ?_
        refine proj_lc (j := 6) (a := 8) (b := 5) (c := 8) (vs := [8, 5]) (σ := [some (.ref p), some (.ref dv), some (.str tag), some (.ref D), s4, none, some (.ref D6), none, none, none]) (·.1) rfl hacc hpa rl (fun _ _ => rfl) (fun _ => rfl) (fun D3 H5 s5 h5 => ?_)
        refine ⟨D3, _, rfl, SqL.of h5, by rw [List.length_map]; exact hpos, fun mn hmn hle => ?_⟩
        dsimp only
        refine cons_cb ?_
        refine proj_lc (j := 6) (a := 5) (b := 9) (c := 9) (vs := [5, 9]) (σ := [some (.ref p), some (.ref dv), some (.str tag), some (.ref D), s4, none, some (.ref D6), none, none, none]) (·.2) rfl (s5 _ _ hacc) (hpa.kp fun b xs h => s5 _ _ h) rl (fun _ _ => rfl) (fun _ => rfl) (fun D7 H6 s6 h6 => ?_)
        refine ⟨D7, _, rfl, SqL.of h6, by rw [List.length_map]; exact hpos, fun mx hmx hge => ?_⟩
        refine ⟨(by show 2 ≤ sizeLine; decide), fun t ht4 => ?_⟩
        exact q1 (mn, mx) (by simp only [It.lens]; rw [if_pos ⟨e, hall, ht.2.1⟩, el2]; exact spread_of hmn hle hmx hge) t _ (s2.trans (s4'.trans (s5.trans (s6.trans (same_new ht4 _))))) upd_same
    | odd => simp [It.ok] at ok
    | _ => exact absurd hk2 (by simp only [It.kind]; decide +kernel)
end
end Bs

set_option Elab.async false
set_option linter.all false
set_option maxRecDepth 100000
set_option maxHeartbeats 4000000
namespace Bs
open PySem L2
/-! ### the items in their order -/
def Blks.list : Blks → List Its
  | .nil => []
  | .cons _ b r => b :: r.list
def It.blocks : It → List Its
  | .rep _ _ b => [b]
  | .eit _ bs => bs.list
  | .swi _ _ bs => bs.list
  | _ => []
theorem walkB_list : ∀ (bs : Blks) (d : Int), bs.walk d = bs.list.flatMap (·.walk d)
  | .nil, d => by simp [Blks.walk, Blks.list]
  | .cons v b r, d => by simp [Blks.walk, Blks.list, walkB_list r]
theorem walk_it (x : It) (d : Int) : x.walk d = (d, x) :: x.blocks.flatMap (·.walk (d + 1)) := by
  cases x <;> simp [It.walk, It.blocks, walkB_list]
theorem walk_take : ∀ {x : Its} {i : Nat} {y : It} {d : Int}, x.get i = some y → (x.take (i + 1)).walk d = (x.take i).walk d ++ y.walk d
  | .nil, _, _, _, e => by simp [Its.get] at e
  | .cons x r, 0, y, d, e => by simp [Its.get] at e; subst e; simp [Its.take, Its.walk]
  | .cons x r, i + 1, y, d, e => by
    show (Its.cons x (r.take (i + 1))).walk d = (Its.cons x (r.take i)).walk d ++ y.walk d
    simp only [Its.walk, walk_take (x := r) e, List.append_assoc]
theorem walk_len {x : Its} {i : Nat} {y : It} {d : Int} (h : x.get i = some y) : ((x.take i).walk d).length + (y.walk d).length ≤ (x.walk d).length := by
  have : ∀ {x : Its} {i : Nat}, ((x.take i).walk d).length ≤ (x.walk d).length := by
    intro x
    induction x using Its.rec (motive_1 := fun _ => True) (motive_3 := fun _ => True) <;> (try trivial)
    · intro i; cases i <;> simp [Its.take, Its.walk]
    · rename_i x r _ ih
      intro i
      cases i with
      | zero => simp [Its.take, Its.walk]
      | succ i => simp only [Its.take, Its.walk, List.length_append]; have := ih (i := i); omega
  have h2 := this (x := x) (i := i + 1)
  rw [walk_take h, List.length_append] at h2
  exact h2
/-- rows of items, frozen -/
abbrev RowsAt (H : Hp) : List V → List Its → Prop := Paired fun v b => ∃ q xs, v = .ref q ∧ H q = some (.tup xs) ∧ b.At true H xs
theorem RowsAt.kp {H H' : Hp} (s : Kp true H H') : ∀ {l : List V} {r : List Its}, RowsAt H l r → RowsAt H' l r
  | _, _, .nil => .nil
  | _, _, .cons ⟨q, xs, e, h, g⟩ t => .cons ⟨q, xs, e, s.t _ _ h, g.kp s⟩ (RowsAt.kp s t)
theorem RowsAt.len {H : Hp} : ∀ {l : List V} {r : List Its}, RowsAt H l r → l.length = r.length
  | _, _, .nil => rfl
  | _, _, .cons _ t => by simp [RowsAt.len t]
theorem RowsAt.get {H : Hp} : ∀ {l : List V} {r : List Its} {i : Nat} {v : V}, RowsAt H l r → l[i]? = some v → ∃ b q xs, r[i]? = some b ∧ v = .ref q ∧ H q = some (.tup xs) ∧ b.At true H xs
  | _, _, _, _, .nil, e => by simp at e
  | _, _, 0, _, .cons ⟨q, xs, e0, h, g⟩ _, e => by simp at e; subst e; exact ⟨_, q, xs, by simp, e0, h, g⟩
  | _, _, i + 1, _, .cons _ t, e => by obtain ⟨b, q, xs, h⟩ := RowsAt.get (i := i) t (by simpa using e); exact ⟨b, q, xs, by simpa using h.1, h.2⟩
theorem rows_E {H : Hp} : ∀ {bs : Blks} {l : List V}, bs.AtE true H l → RowsAt H l bs.list
  | .nil, _, h => by simp only [Blks.AtE] at h; subst h; exact .nil
  | .cons v b r, _, h => by
    simp only [Blks.AtE] at h
    obtain ⟨q, xs, l', rfl, h1, h2, h3⟩ := h
    exact .cons ⟨q, xs, rfl, (h1.elim id fun z => by cases z.1), h2⟩ (rows_E h3)
theorem listB_get : ∀ {x : Blks} {i : Nat} {c : Int} {b : Its}, x.get i = some (c, b) → x.list[i]? = some b
  | .nil, _, _, _, e => by simp [Blks.get] at e
  | .cons v b r, 0, _, _, e => by simp only [Blks.get, Option.some.injEq, Prod.mk.injEq] at e; obtain ⟨rfl, rfl⟩ := e; rfl
  | .cons v b r, i + 1, _, _, e => listB_get (x := r) e
theorem listB_len : ∀ (x : Blks), x.list.length = x.len
  | .nil => rfl
  | .cons v b r => by simp [Blks.list, Blks.len, listB_len r]
theorem RowsAt.app {H : Hp} {v : V} {p : Its} (h : ∃ q xs, v = .ref q ∧ H q = some (.tup xs) ∧ p.At true H xs) : ∀ {l : List V} {r : List Its}, RowsAt H l r → RowsAt H (l ++ [v]) (r ++ [p])
  | _, _, .nil => .cons h .nil
  | _, _, .cons q t => .cons q (RowsAt.app h t)
def spBlocks : Sp := fun vs H Q _ => ∃ (v : V) (x : It), vs = [v] ∧ x.isOdd = false ∧ x.At true H v ∧ x.blocks.length ≤ 100 ∧ ∀ r zs H', Same H H' → H' r = some (.tup zs) → RowsAt H' zs x.blocks → Q (.ref r) H'
section
variable {P : Program} {w : World} {K : PySem.W.Frag} {mg : Str → Option Value} {base : Heap} {f C : Addr} {fd : FuncData}
theorem scBlocksOf : FnScope ["item", "_", "block"] ["item"] (defScope sBlocksOf) := ⟨rfl, rfl, rfl, by decide +kernel, rfl, by decide +kernel, by decide +kernel⟩
theorem ok_blocks (F : Fun K "blocks_of" "blocks_of" sBlocksOf f fd) (mt : mg "tuple" = none) : FnOk P w K mg base CX0 1 f fd ["item"] spBlocks := by
  refine F.ok scBlocksOf (fun vs H Q E h => ?_) (fun cdv A outer s H vs Q E hr h => ?_)
  · obtain ⟨v, x, rfl, _⟩ := h
    rfl
  · obtain ⟨v, x, rfl, ho, hat, hb, q⟩ := h
    obtain ⟨p, rest, rfl, hp, hlen⟩ := At_head hat
    have hT : SqT K H p _ := SqT.of hp
    refine ⟨_, pss_cons (ps_if (pt_cmpR op_eq (pe_ix ix_tup (pv 0) pe_int (fun _ _ => rfl)) pe_str (nomark _)) (pss_one (ps_ret (pe_tup (pa_cons (pe_ix ix_tup (pv 0) pe_int (fun _ _ => rfl)) pa_nil)))) pss_nil)
      (pss_cons (ps_if (pt_cmpR op_eq (pe_ix ix_tup (pv 0) pe_int (fun _ _ => rfl)) pe_str (nomark _)) (pss_one (ps_ret (pe_ix ix_tup (pv 0) pe_int (fun _ _ => rfl)))) pss_nil)
      (pss_cons (ps_if (pt_cmpR op_eq (pe_ix ix_tup (pv 0) pe_int (fun _ _ => rfl)) pe_str (nomark _)) (pss_one (ps_ret (pe_tupleOf rfl mt (pe_lc (own := [("_", 1), ("block", 2)]) (g := gTup K 2 (gCons (gName 1) (gCons (gName 2) gNil))) (tt := tYes) rfl scBlocksOf.nd (pi_tup (pe_ix ix_tup (pv 0) pe_int (fun _ _ => rfl)))
            (blkOk_by (own := [("_", 1), ("block", 2)]) (N := ["item", "_", "block"]) (sc := defScope sBlocksOf) (by decide +kernel)) (fun _ _ _ _ _ => pg_tup rfl (pgs_cons (pg_name (i := 1) scBlocksOf.nd rfl (Or.inl rfl)) (pgs_cons (pg_name (i := 2) scBlocksOf.nd rfl (Or.inl rfl)) pgs_nil)))
            (fun _ _ _ _ _ => pts_nil) (fun _ _ _ _ _ => pv 2))))) pss_nil)
      (pss_one (ps_ret (pe_tup pa_nil))))), ?_⟩
    refine ⟨_, rfl, p, _, 0, _, rfl, rfl, hT, atI_nat (j := 0) rfl, rfl, _, rfl, ?_⟩
    cases x with
    | odd => cases ho
    | rep n amt b =>
      simp only [It.At] at hat
      obtain ⟨p', q2, xs, e1, h1, hrow, hbb⟩ := hat
      cases e1
      refine ite2 (fun _ => ?_) (fun z => (z (decide_eq_true rfl)).elim)
      refine ⟨_, rfl, p, _, 3, _, rfl, rfl, SqT.of h1, atI_nat (j := 3) rfl, (by show 1 ≤ sizeLine; decide), fun t ht4 => ?_⟩
      have s1 := same_new ht4 (.tup [.ref q2])
      exact q t _ _ s1 upd_same (.cons ⟨q2, xs, rfl, s1 _ _ (hrow.elim id fun z => by cases z.1), hbb.same s1⟩ .nil)
    | eit n bs =>
      simp only [It.At] at hat
      obtain ⟨p', q2, xs, e1, h1, hrow, hbb⟩ := hat
      cases e1
      refine ite2 (fun z => absurd (of_decide_eq_true z) (kne (by simp only [It.kind]; decide +kernel))) (fun _ => ?_)
      refine ⟨_, rfl, p, _, 0, _, rfl, rfl, hT, atI_nat (j := 0) rfl, rfl, _, rfl, ite2 (fun _ => ?_) (fun z => (z (decide_eq_true rfl)).elim)⟩
      refine ⟨_, rfl, p, _, 2, _, rfl, rfl, SqT.of h1, atI_nat (j := 2) rfl, ?_⟩
      exact q q2 xs H (Same.refl H) (hrow.elim id fun z => by cases z.1) (rows_E hbb)
    | swi n tag bs =>
      simp only [It.At] at hat
      obtain ⟨p', q2, xs, e1, h1, hrow, hbb⟩ := hat
      cases e1
      have hq : H q2 = some (.tup xs) := hrow.elim id fun z => by cases z.1
      refine ite2 (fun z => absurd (of_decide_eq_true z) (kne (by simp only [It.kind]; decide +kernel))) (fun _ => ?_)
      refine ⟨_, rfl, p, _, 0, _, rfl, rfl, hT, atI_nat (j := 0) rfl, rfl, _, rfl, ite2 (fun z => absurd (of_decide_eq_true z) (kne (by simp only [It.kind]; decide +kernel))) (fun _ => ?_)⟩
      refine ⟨_, rfl, p, _, 0, _, rfl, rfl, hT, atI_nat (j := 0) rfl, rfl, _, rfl, ite2 (fun _ => ?_) (fun z => (z (decide_eq_true rfl)).elim)⟩
      have el := hbb.len
      have hb : bs.list.length ≤ 100 := hb
      refine ⟨_, rfl, p, _, 3, _, rfl, rfl, SqT.of h1, atI_nat (j := 3) rfl, q2, rfl, ⟨_, SqT.of hq⟩, fun D hD => lc_tup (K := K) (a := q2) (xs := xs) (fun i H' => Same H H' ∧ ∃ acc, H' D = some (.lst acc) ∧ RowsAt H' acc (bs.list.take i)) ⟨same_new hD _, [], upd_same, .nil⟩ (fun i H' _ z => SqT.of (z.1 _ _ hq)) ?_ ?_⟩
      · rintro i v H2 hi ⟨s2, acc, hacc, hra⟩
        obtain ⟨c, b, pc, qb, zs, gb, rfl, hpc, hrw, hb2⟩ := AtS_item (hbb.same s2) hi
        refine ⟨pc, _, rfl, SqT.of hpc, rfl, _, _, rfl, _, _, rfl, rfl, rfl, yes_go ⟨_, rfl, acc, hacc, small1000 (by rw [hra.len, List.length_take]; omega), same_set s2 hD, acc ++ [.ref qb], upd_same, ?_⟩⟩
        rw [take_more (listB_get gb)]
        exact (RowsAt.app ⟨qb, zs, rfl, (hrw.elim id fun z => by cases z.1), hb2⟩ hra).kp (.wr hacc)
      · rintro H2 ⟨s2, acc, hacc, hra⟩
        rw [el, ← listB_len, List.take_length] at hra
        refine .inl ⟨D, acc, rfl, SqL.of hacc, fun r hr2 => ?_⟩
        have s3 := same_new hr2 (.tup acc)
        exact q r acc _ (s2.trans s3) upd_same (hra.kp (.of s3))
    | _ =>
      refine ite2 (fun z => absurd (of_decide_eq_true z) (kne (by simp only [It.kind]; decide +kernel))) (fun _ => ?_)
      refine ⟨_, rfl, p, _, 0, _, rfl, rfl, hT, atI_nat (j := 0) rfl, rfl, _, rfl, ite2 (fun z => absurd (of_decide_eq_true z) (kne (by simp only [It.kind]; decide +kernel))) (fun _ => ?_)⟩
      refine ⟨_, rfl, p, _, 0, _, rfl, rfl, hT, atI_nat (j := 0) rfl, rfl, _, rfl, ite2 (fun z => absurd (of_decide_eq_true z) (kne (by simp only [It.kind]; decide +kernel))) (fun _ => ?_)⟩
      refine ⟨(by show 0 ≤ sizeLine; decide), fun r hr2 => ?_⟩
      exact q r [] _ (same_new hr2 _) upd_same .nil
/-- the rows of listed -/
abbrev WalkAt (H : Hp) : List V → List (Int × It) → Prop := Paired fun v p => ∃ t u, v = .ref t ∧ H t = some (.tup [.int p.1, u]) ∧ p.2.At true H u
theorem WalkAt.kp {H H' : Hp} (s : Kp true H H') : ∀ {l : List V} {r : List (Int × It)}, WalkAt H l r → WalkAt H' l r
  | _, _, .nil => .nil
  | _, _, .cons ⟨t, u, e, h, g⟩ r => .cons ⟨t, u, e, s.t _ _ h, g.kp s⟩ (WalkAt.kp s r)
theorem WalkAt.len {H : Hp} : ∀ {l : List V} {r : List (Int × It)}, WalkAt H l r → l.length = r.length
  | _, _, .nil => rfl
  | _, _, .cons _ t => by simp [WalkAt.len t]
theorem WalkAt.cat {H : Hp} : ∀ {l m : List V} {r q : List (Int × It)}, WalkAt H l r → WalkAt H m q → WalkAt H (l ++ m) (r ++ q)
  | _, _, _, _, .nil, h => h
  | _, _, _, _, .cons a t, h => .cons a (WalkAt.cat t h)
def spListed (n : Nat) : Sp := fun vs H Q _ => ∃ (a : Addr) (x : Its) (xs : List V) (d : Int), vs = [.ref a, .int d] ∧ d + n = 3 ∧ x.ok d = true ∧ H a = some (.tup xs) ∧ x.At true H xs ∧ (x.walk d).length ≤ 1000 ∧
  ∀ r rows H', Same H H' → H' r = some (.lst rows) → WalkAt H' rows (x.walk d) → Q (.ref r) H'
theorem bl_ok : ∀ {bs : Blks} {d : Int}, bs.ok d = true → ∀ b ∈ bs.list, b.ok d = true
  | .nil, _, _, _, h => by simp [Blks.list] at h
  | .cons v b r, d, h, c, hc => by
    rw [Blks.ok, Bool.and_eq_true, Bool.and_eq_true] at h
    rcases List.mem_cons.mp hc with e | hc
    · rw [e]; exact h.1.2
    · exact bl_ok h.2 c hc
theorem blocks_ok {x : It} {d : Int} (h : x.ok d = true) : x.blocks.length ≤ 8 ∧ ∀ b ∈ x.blocks, d ≤ 2 ∧ b.ok (d + 1) = true := by
  cases x with
  | rep n a b =>
    rw [It.ok, Bool.and_eq_true, Bool.and_eq_true, Bool.and_eq_true] at h
    refine ⟨by simp [It.blocks], fun c hc => ?_⟩
    have : c = b := by simpa [It.blocks] using hc
    rw [this]
    exact ⟨of_decide_eq_true h.2.1, h.2.2.2⟩
  | eit n bs =>
    rw [It.ok, Bool.and_eq_true, Bool.and_eq_true, Bool.and_eq_true] at h
    have := of_decide_eq_true h.2.2.1
    exact ⟨by show bs.list.length ≤ 8; rw [listB_len]; omega, fun c hc => ⟨of_decide_eq_true h.2.1, bl_ok h.2.2.2 c hc⟩⟩
  | swi n t bs =>
    rw [It.ok, Bool.and_eq_true, Bool.and_eq_true, Bool.and_eq_true] at h
    have := of_decide_eq_true h.2.2.1
    exact ⟨by show bs.list.length ≤ 8; rw [listB_len]; omega, fun c hc => ⟨of_decide_eq_true h.2.1, bl_ok h.2.2.2 c hc⟩⟩
  | _ => exact ⟨by simp [It.blocks], fun c hc => by simp [It.blocks] at hc⟩
theorem scListed : FnScope ["items", "depth", "found", "item", "block"] ["items", "depth"] (defScope sListed) := ⟨rfl, rfl, rfl, by decide +kernel, rfl, by decide +kernel, by decide +kernel⟩
theorem flat_len {l : List Its} {j : Nat} {b : Its} {d : Int} (h : l[j]? = some b) : ((l.take j).flatMap (·.walk d)).length + (b.walk d).length ≤ (l.flatMap (·.walk d)).length := by
  have e : l = l.take j ++ b :: l.drop (j + 1) := by
    have hj : j < l.length := (List.getElem?_eq_some_iff.mp h).1
    have hb : l[j] = b := (List.getElem?_eq_some_iff.mp h).2
    rw [← hb, ← List.drop_eq_getElem_cons hj, List.take_append_drop]
  have e2 : (l.flatMap (·.walk d)).length = ((l.take j ++ b :: l.drop (j + 1)).flatMap (·.walk d)).length := by rw [← e]
  rw [e2]
  simp only [List.flatMap_append, List.flatMap_cons, List.length_append]
  omega
theorem ok_listed {n k : Nat} (hk : 1 ≤ k) (F : Fun K "listed" "listed" sListed f fd) (gB : Cal P w K mg base CX0 1 "blocks_of" ["item"] spBlocks) (gS : Cal P w K mg base CX0 k "listed" ["items", "depth"] (spSub spListed n)) :
    FnOk P w K mg base CX0 (k + 1) f fd ["items", "depth"] (spListed n) := by
  refine F.ok scListed (fun vs H Q E h => ?_) (fun cdv A outer s H vs Q E hr h => ?_)
  · obtain ⟨a, x, xs, d, rfl, _⟩ := h
    rfl
  · obtain ⟨a, x, xs, d, rfl, hd, ok, ha, hat, hw, q⟩ := h
    refine ⟨_, pss_cons (ps_set (i := 2) scListed.nd rfl (.inl rfl) (pe_lst pa_nil))
      (pss_cons (ps_for PassesOwn.never rfl (pi_tup (pv 0)) (pg_name (i := 3) scListed.nd rfl (.inl rfl))
        (pss_cons (ps_expr (pe_bm PySem.F.plainAttrs_list PySem.F.slot_list_append PySem.F.type_list_append mt_append (pv 2) (pa_cons (pe_tup (pa_cons (pv 1) (pa_cons (pv 3) pa_nil))) pa_nil)))
        (pss_one (ps_for PassesOwn.never rfl (pi_tup (pe_cal gB (hr.mono hk) pass0 (pa_cons (pv 3) pa_nil))) (pg_name (i := 4) scListed.nd rfl (.inl rfl))
          (pss_one (ps_expr (pe_bm PySem.F.plainAttrs_list PySem.F.slot_list_extend PySem.F.type_list_extend mt_extend (pv 2) (pa_cons (pe_cal gS hr pass0 (pa_cons (pv 4) (pa_cons (pe_op op_add (pv 1) pe_int) pa_nil))) pa_nil))))))))
      (pss_one (ps_ret (pv 2)))), ?_⟩
    refine ⟨(by show 0 ≤ sizeLine; decide), fun D hD => ?_⟩
    have s0 := same_new hD (.lst [])
    have el := hat.len
    refine ⟨_, rfl, a, rfl, ⟨_, SqT.of (s0 _ _ ha)⟩, for_tup (K := K) (a := a) (xs := xs) (fun i σ H' => ∃ i3 i4, σ = [some (.ref a), some (.int d), some (.ref D), i3, i4] ∧ Same H H' ∧ ∃ acc, H' D = some (.lst acc) ∧ WalkAt H' acc ((x.take i).walk d))
      ⟨none, none, rfl, s0, [], upd_same, by simp [Its.take, Its.walk]; exact .nil⟩ (fun i σ H' _ z => by obtain ⟨_, _, _, z, _⟩ := z; exact SqT.of (z _ _ ha)) ?_ ?_⟩
    · rintro i v σ H2 hi ⟨i3, i4, rfl, s2, acc, hacc, hwa⟩
      obtain ⟨y, gy, ay⟩ := At_item (hat.same s2) hi
      obtain ⟨b8, bok⟩ := blocks_ok (get_okd ok gy)
      have wl := walk_len (d := d) gy
      have wy := walk_it y d
      have hal := hwa.len
      refine ⟨_, rfl, .inl ⟨rfl, _, SqL.of hacc⟩, _, rfl, _, rfl, (by show 2 ≤ sizeLine; decide), fun t ht4 => ?_⟩
      have s3 := same_new ht4 (.tup [.int d, v])
      have hacc3 := s3 _ _ hacc
      refine ⟨D, acc, .ref t, rfl, rfl, hacc3, small1000 (by omega), ?_⟩
      have k3 : Kp true H2 (upd (upd H2 t (.tup [.int d, v])) D (.lst (acc ++ [.ref t]))) := (Kp.of s3).trans (.wr hacc3)
      have hS3 : Same H (upd (upd H2 t (.tup [.int d, v])) D (.lst (acc ++ [.ref t]))) := same_set (s2.trans s3) hD
      have hw3 : WalkAt (upd (upd H2 t (.tup [.int d, v])) D (.lst (acc ++ [.ref t]))) (acc ++ [.ref t]) ((x.take i).walk d ++ [(d, y)]) := by
        refine (hwa.kp k3).cat (.cons ⟨t, v, rfl, ?_, ay.kp k3⟩ .nil)
        rw [upd_ne (ne_of upd_same hacc3 (by intro z; cases z)), upd_same]
      generalize hH3 : upd (upd H2 t (.tup [.int d, v])) D (.lst (acc ++ [.ref t])) = H3 at k3 hS3 hw3
      have hD3 : H3 D = some (.lst (acc ++ [.ref t])) := by rw [← hH3]; exact upd_same
      refine ⟨_, rfl, v, y, rfl, odd_of (get_okd ok gy), ay.kp k3, by omega, fun r zs H4 s4 hr4 hrows => ?_⟩
      refine ⟨r, rfl, ⟨_, SqT.of hr4⟩, for_tup (K := K) (a := r) (xs := zs) (fun j σ H' => ∃ i4, σ = [some (.ref a), some (.int d), some (.ref D), some v, i4] ∧ Same H H' ∧ H' r = some (.tup zs) ∧ RowsAt H' zs y.blocks ∧ ∃ acc', H' D = some (.lst acc') ∧ WalkAt H' acc' ((x.take i).walk d ++ [(d, y)] ++ (y.blocks.take j).flatMap (·.walk (d + 1))))
        ⟨_, rfl, hS3.trans s4, hr4, hrows, _, s4 _ _ hD3, by simpa using hw3.kp (.of s4)⟩ (fun j σ H' _ z => by obtain ⟨_, _, _, z, _⟩ := z; exact SqT.of z) ?_ ?_⟩
      · rintro j z σ H5 hj ⟨i4, rfl, s5, hr5, hrows5, acc', hacc', hwa'⟩
        obtain ⟨b, qb, xb, gb, rfl, hqb, hbb⟩ := hrows5.get hj
        obtain ⟨d2, bk⟩ := bok b (List.mem_of_getElem? gb)
        have fl := flat_len (d := d + 1) gb
        have yl : (y.walk d).length = 1 + (y.blocks.flatMap (·.walk (d + 1))).length := by rw [wy, List.length_cons]; omega
        have hal' := hwa'.len
        rw [List.length_append, List.length_append, List.length_singleton] at hal'
        cases n with
        | zero => exfalso; omega
        | succ m =>
          refine ⟨_, rfl, .inl ⟨rfl, _, SqL.of hacc'⟩, _, rfl, _, rfl, d, 1, rfl, rfl, qb, b, xb, d + 1, rfl, by omega, bk, hqb, hbb, by omega, fun r6 rows H6 s6 h6 w6 => ?_⟩
          have hacc6 := s6 _ _ hacc'
          refine ⟨D, r6, acc', rows, rfl, rfl, hacc6, h6, le_line (by rw [w6.len]; omega), ?_⟩
          have k6 : Kp true H6 (upd H6 D (.lst (acc' ++ rows))) := .wr hacc6
          refine ⟨_, rfl, same_set (s5.trans s6) hD, k6.t _ _ (s6 _ _ hr5), (hrows5.kp (.of s6)).kp k6, acc' ++ rows, upd_same, ?_⟩
          rw [take_more gb, List.flatMap_append, ← List.append_assoc]
          simp only [List.flatMap_cons, List.flatMap_nil, List.append_nil]
          exact ((hwa'.kp (.of s6)).cat w6).kp k6
      · rintro σ H5 ⟨i4, rfl, s5, hr5, hrows5, acc', hacc', hwa'⟩
        rw [hrows5.len, List.take_length] at hwa'
        refine ⟨_, _, rfl, s5, acc', hacc', ?_⟩
        rw [walk_take gy, wy]
        simpa using hwa'
    · rintro σ H2 ⟨i3, i4, rfl, s2, acc, hacc, hwa⟩
      rw [el, take_all] at hwa
      exact ⟨_, rfl, q D acc H2 s2 hacc hwa⟩
end
end Bs

set_option Elab.async false
set_option linter.all false
set_option maxRecDepth 100000
set_option maxHeartbeats 8000000
/-! len(set(t)), t a tuple of texts, any number below 4000 -/
namespace Bs
open PySem PySem.Spec PyProof.Rows L2
/-- how many different ones stand among the first i -/
def met (xs : List Str) : Nat → Nat
  | 0 => 0
  | i + 1 => if (xs.take i).any (· == xs.getD i Str.empty) = true then met xs i else met xs i + 1
theorem met_le (xs : List Str) : ∀ i, met xs i ≤ i
  | 0 => Nat.le_refl 0
  | i + 1 => by
    unfold met
    have := met_le xs i
    split <;> omega
theorem met_nodup {xs : List Str} : ∀ i, i ≤ xs.length → (met xs i = i ↔ (xs.take i).Nodup)
  | 0, _ => by simp [met]
  | i + 1, hi => by
    have ih := met_nodup (xs := xs) i (by omega)
    have hx : xs[i]? = some (xs.getD i Str.empty) := by rw [List.getD_eq_getElem?_getD, List.getElem?_eq_getElem (by omega)]; rfl
    have et : xs.take (i + 1) = xs.take i ++ [xs.getD i Str.empty] := by rw [List.take_add_one, hx]; rfl
    have le := met_le xs i
    rw [et, List.nodup_append]
    unfold met
    by_cases c : (xs.take i).any (· == xs.getD i Str.empty) = true
    · rw [if_pos c]
      constructor
      · intro e; omega
      · rintro ⟨_, _, k⟩
        obtain ⟨y, hy, ey⟩ := List.any_eq_true.mp c
        have ey : y = xs.getD i Str.empty := eq_of_beq ey
        exact absurd ey (k y hy _ (by simp))
    · rw [if_neg c]
      constructor
      · intro e
        refine ⟨ih.mp (by omega), by simp, fun a ha b hb => ?_⟩
        have hb : b = xs.getD i Str.empty := by simpa using hb
        rintro rfl
        exact c (List.any_eq_true.mpr ⟨a, ha, by rw [hb]; exact beq_self_eq_true _⟩)
      · rintro ⟨k, _, _⟩
        rw [ih.mpr k]
section
variable {prog : Program} {w : World} {A : Around} {R : Result → Shared → Prop} {I : Addr} {fp wr : List Addr} {G : Array GenState → Array GenState → Prop} {n : Nat} {P : Nat → Value → Prop} {St : Nat → Shared → Prop}
theorem loop_strs (W : WalksS prog w A.in1 I fp wr G n P St) (S : Addr) (hSf : S ∉ fp) (xs : List Str) (hsz : xs.length = n) (hb : n + 1 < scanBound) (hval : ∀ i v, P i v → ∃ t, v = .str (xs.getD i Str.empty) t) :
    ∀ (k i : Nat) (s : Shared), n = i + k → St i s → s.heap.SetOf (PySem.strKind prog w) S (fun z => (xs.take i).any (· == z)) (met xs i) →
      (∀ s', Moved (S :: wr) G s s' → s'.heap.SetOf (PySem.strKind prog w) S (fun z => (xs.take n).any (· == z)) (met xs n) → R (.ok (.ret .none)) s') →
      codeAny (model prog w) A (.builtin "set.update.loop" ⟨[.ref S, .ref I], []⟩) R s := by
  have nw : S ∉ wr := fun h => hSf (W.sub _ h)
  have more : ∀ b ∈ wr, b ∈ S :: wr := fun b hb => List.mem_cons_of_mem _ hb
  have stays : ∀ {s s' : Shared} {f : Str → Bool} {c : Nat}, Moved wr G s s' → s.heap.SetOf (PySem.strKind prog w) S f c → s'.heap.SetOf (PySem.strKind prog w) S f c := fun {s s' f c} hm ⟨o, es, ep, t, ho, r⟩ => ⟨o, es, ep, t, hm.heap S _ nw ho, r⟩
  intro k
  induction k with
  | zero =>
    intro i s hk hst hS hR
    have e : i = n := by omega
    subst e
    refine codeAny_builtin PyProof.Rows.F.entry_set_update_loop ?_
    rw [Around.under_plainId PyProof.Rows.F.plain_set_update_loop _]
    refine wpAny_bind (W.done s _ _ hst fun s1 hm => wpAny_pure (hR s1 (hm.mono more) (stays hm hS)))
  | succ k ih =>
    intro i s hk hst hS hR
    have lt : i < n := by omega
    refine codeAny_builtin PyProof.Rows.F.entry_set_update_loop ?_
    rw [Around.under_plainId PyProof.Rows.F.plain_set_update_loop _]
    refine wpAny_bind (W.item i s _ _ lt hst fun v s1 hP hst1 hm => ?_)
    obtain ⟨t, rfl⟩ := hval i v hP
    have hS1 := stays hm hS
    generalize hx : xs.getD i Str.empty = x at *
    show wpAny _ A.in1 (holding [Value.str x t] (setAdd S (.str x t)) >>= _) _ _ s1
    refine wpAny_bind (wpAny_holding ?_)
    unfold setAdd
    refine wpAny_holding (wpAny_bind ((PySem.strKind prog w).pyHash (k := x) (strKind_is _ _ _ _) ?_))
    have le := met_le xs i
    refine wpAny_setAddHashed_of (knd := PySem.strKind prog w) (s := { s1 with toks := s1.toks + 1 }) (strKind_is _ _ _ _) rfl hS1 (by omega) fun h2 sb hS2 => ?_
    have hi : xs[i]? = some x := by rw [← hx, List.getD_eq_getElem?_getD, List.getElem?_eq_getElem (by omega)]; rfl
    have hS3 : h2.SetOf (PySem.strKind prog w) S (fun z => (xs.take (i + 1)).any (· == z)) (met xs (i + 1)) := by
      refine SetOf_congr hS2 (fun z => ?_) ?_
      · rw [List.take_add_one, hi]
        show ((xs.take i).any (· == z) || decide (z = x)) = (xs.take i ++ [x]).any (· == z)
        rw [List.any_append]
        congr 1
        by_cases e : z = x
        · subst e; simp
        · have : (x == z) = false := by simpa using fun h : x = z => e h.symm
          simp [e, this]
      · show _ = (if (xs.take i).any (· == xs.getD i Str.empty) = true then met xs i else met xs i + 1)
        rw [hx]
    refine wpAny_pure ⟨plainId_quiet PyProof.Rows.F.plain_set_update_loop _, ih (i + 1) _ (by omega) (W.frame _ s1 _ _ hst1 (Nat.le_succ _) fun b hb o e => ?_) hS3 fun s2 hm2 hS2 => ?_⟩
    · exact (sb.2 b fun q => hSf (q ▸ hb)).trans e
    · exact hR s2 (Moved.trans W.gtrans ((hm.mono more).then_heap (Nat.le_succ _) fun b o hb e => (sb.2 b fun q => hb (q ▸ List.mem_cons_self)).trans e) hm2) hS2
end
section
variable {prog : Program} {w : World} {A : Around} {E : Value → Shared → Prop} {s : Shared}
abbrev newSet (lg : Bool) : Obj := { cls := .type "set", dict := none, data := .set #[] 0 (.fresh 0 0 lg) }
theorem set_of_texts {l : Addr} {items : Array Value} {xs : List Str} {Q : Value → Shared → Prop} (hh : A.handled = none) (ht : s.heap.IsTuple l items) (hx : PyProof.Rows.StrsAre items.toList xs) (hb : xs.length + 1 < scanBound)
    (hq : ∀ (g : Heap) (tk : Nat), g.SetOf (PySem.strKind prog w) s.heap.objs.size (fun z => (xs.take items.size).any (· == z)) (met xs items.size) → (∀ b o, b < s.heap.objs.size → s.heap.get? b = some o → g.get? b = some o) → Q (.ref s.heap.objs.size) { s with heap := g, toks := tk }) :
    wpAny (model prog w) A (call (.type "set") [.ref l]) Q E s := by
  obtain ⟨c0, t0, m0⟩ := PySem.F.called_set.mro
  have m1 := PySem.F.called_set.made
  have m2 := PySem.F.called_set.sub
  refine wpAny_call (codeAny_of_tree ?_)
  show wpAny _ _ (callAny (.type "set") _) _ _ _
  refine wpAny_pure ⟨Code.quiet_builtin _ (by decide +kernel), codeAny_builtin PySem.F.entry_type_call ?_⟩
  rw [Around.under_plain (weight_type_call_type "set" [.ref l] []) rfl]
  have m3 := PySem.F.called_set.notType
  have m4 := PySem.F.called_set.canCreate
  have m5 := PySem.F.typeCall_set_1 (.ref l)
  repeat (any_goals (first | assumption | wp_step))
  refine codeAny_mono (code_set_new_1 (.ref l) (E := E) (Q₁ := fun u s1 => ∃ lg : Bool, u = .ref s.heap.objs.size ∧ s1 = { s with heap := s.heap.push (newSet lg) }) fun lg => ⟨lg, rfl, rfl⟩) fun r s1 back => ?_
  cases r with
  | error e => exact back
  | ok fl =>
    cases fl with
    | ret u =>
      obtain ⟨lg, rfl, rfl⟩ := back
      have atS : (s.heap.push (newSet lg)).get? s.heap.objs.size = some (newSet lg) := Heap.get?_push_size _ rfl
      have isS : Shared.TypeIs { s with heap := s.heap.push (newSet lg) } (.ref s.heap.objs.size) "set" := ⟨_, atS, rfl⟩
      have n1 := PySem.F.called_set.init.lookup
      have n2 := PySem.F.called_set.init.bind (.ref s.heap.objs.size)
      repeat (any_goals (first | assumption | wp_step))
      refine codeAny_mono (codeAny_call_builtin (R := wants (fun r s2 => r = .none ∧ ∃ g tk, s2 = { s with heap := g, toks := tk } ∧ g.SetOf (PySem.strKind prog w) s.heap.objs.size (fun z => (xs.take items.size).any (· == z)) (met xs items.size) ∧
          (∀ b o, b < s.heap.objs.size → s.heap.get? b = some o → g.get? b = some o)) E) PySem.F.called_set.init.plain PySem.F.entry_set_init (check_set_init_1 isS ?_)) fun r2 s2 back2 => ?_
      · obtain ⟨⟨oc, od, odt, osl⟩, ho, hc, nl, hd⟩ := ht
        simp only at hc hd
        subst hc hd
        have ho2 : (s.heap.push (newSet lg)).get? l = some { cls := .type "tuple", dict := od, data := .seq items nl, slots := osl } := Heap.get?_push_of_some _ ho
        have u1 := PySem.F.sub_tuple_set
        have u2 := PySem.F.sub_tuple_frozenset
        have u3 : (Value.type "tuple" == Value.type "dict") = false := by decide
        have isT : (s.heap.push (newSet lg)).IsTuple l items := ⟨_, ho2, rfl, nl, rfl⟩
        unfold Builtin.«set.__init__» noKeywords Builtin.Frozenset.updateFrom
        generalize eP : pyIter = PI
        wp_walk
        subst eP
        refine wpAny_pyIter_tuple isT (wpAny_bind (wpAny_runValue ?_))
        have lt : l < s.heap.objs.size := Heap.lt_size ho
        have sz1 : (s.heap.push (newSet lg)).objs.size = s.heap.objs.size + 1 := Heap.size_push ..
        have a3 : A.in1.in1.in1.handled = none := by simp [hh]
        have neI : l ≠ (s.heap.push (newSet lg)).objs.size := Nat.ne_of_lt (by rw [sz1]; exact Nat.lt_succ_of_lt lt)
        have nS : s.heap.objs.size ∉ [(s.heap.push (newSet lg)).objs.size, l] := by
          rw [sz1]
          simp only [List.mem_cons, List.not_mem_nil, or_false, not_or]
          exact And.intro (Nat.ne_of_lt (Nat.lt_succ_self _)) (Nat.ne_of_gt lt)
        have len : xs.length = items.size := by rw [← StrsAre.len_eq hx, Array.length_toList]
        refine loop_strs ((Walks.tuple a3 _ l neI items).toS) s.heap.objs.size nS xs len (by rw [← len]; exact hb) (fun i v hv => SS.strs_at hx i v (by rw [Array.getElem?_toList]; exact hv)) items.size 0 _ (by omega) ⟨⟨_, Heap.get?_push_size _ rfl, rfl, rfl⟩, (isT.push _)⟩ ?start ?fin
        case start =>
          have z : ((s.heap.push (newSet lg)).push { cls := .type "tuple_iterator", data := .fields #[.ref l, .int 0 0] }).get? s.heap.objs.size = some (newSet lg) := Heap.get?_push_of_some _ atS
          exact PyProof.Rows.SetOf_congr ((PyProof.Rows.setObjOf_fresh (knd := PySem.strKind prog w) lg).setOf z (by unfold scanBound; omega)) (fun _ => rfl) rfl
        case fin =>
          rintro ⟨g, g2, d2, tk, o2⟩ hm hS
          obtain rfl : g2 = s.gens := hm.gens
          obtain rfl : d2 = s.drawn := hm.drawn
          obtain rfl : o2 = s.os := hm.os
          refine wpAny_pure (wpAny_pure ⟨rfl, g, tk, rfl, hS, fun b o hb2 e => hm.heap b o ?_ (Heap.get?_push_of_some _ (Heap.get?_push_of_some _ e))⟩)
          rw [sz1]
          simp only [List.mem_cons, List.not_mem_nil, or_false, not_or]
          exact And.intro (Nat.ne_of_lt hb2) (Nat.ne_of_lt (Nat.lt_succ_of_lt hb2))
      · cases r2 with
        | error e => exact back2
        | ok fl2 =>
          cases fl2 with
          | ret r =>
            obtain ⟨rfl, g, tk, rfl, k1, k2⟩ := back2
            repeat (any_goals (first | assumption | wp_step))
            exact hq _ _ k1 k2
          | _ => exact back2.elim
    | _ => exact back.elim
end
def tSetLen (K : PySem.W.Frag) (ta : TE) : TE := fun σ H Q => ta σ H fun x H1 => ∃ (l : Addr) (xs : List Str), x = .ref l ∧ SqT K H1 l (xs.map V.str) ∧ xs.length ≤ 4000 ∧ Q (.int (met xs xs.length : Nat)) H1
theorem pe_setLen {X : Cx} {a : Expr} {ta : TE} {p p2 q pos : Pos} (hc : X.calm = true) (hg : Gl X "len") (hm : X.mg "len" = none) (hg2 : Gl X "set") (hm2 : X.mg "set" = none) (ha : PE X a ta)
    (na : starEach [a] X.env = (false, eval a X.env) :: starEach [] X.env := by rfl) : PE X (.Call (.Name "len" p) [.Call (.Name "set" p2) [a] [] q] [] pos) (tSetLen X.K ta) := by
  refine ⟨fun pins s σ H Q I h => Call_ (ld_blt I hg hm boot_len (PyProof.Rows.callWith_builtin1 (PyProof.Rows.args_cons ?_ rfl) rfl rfl))⟩
  refine Call_ (ld_blt I hg2 hm2 boot_set (PyProof.Rows.callWith_type1 (PyProof.Rows.args_cons (thn (ha.run pins s σ H _ I h) fun v s1 ⟨x, H1, I1, r1, q1⟩ => PyProof.Rows.args_nil ?_) na) na rfl))
  obtain ⟨l, xs, rfl, ht, hz, q1⟩ := q1
  cases r1
  obtain ⟨its, r, pl, _⟩ := I1.tuple ht
  have len : its.toArray.size = xs.length := by rw [List.size_toArray, ← r.length, List.length_map]
  refine set_of_texts (I1.ok.hd hc) pl (by simpa using strsAre_of r) (by unfold scanBound; omega) fun g tk hS hk => PyProof.Rows.args_nil ?_
  rw [len] at hS
  obtain ⟨o, es, ep, t, ho, hex, hd, _, _, hbnd, hf, hn⟩ := hS
  have I2 : Inv X pins σ H1 { s1 with heap := g, toks := tk } := I1.kept fun b o e => hk b o (Heap.lt_size e) e
  have := met_le xs xs.length
  exact call_len_set ho hex hd hf (by rw [hn]; omega) ⟨.int (met xs xs.length : Nat), H1, I2.tok _, ⟨_, by rw [hn]⟩, q1⟩
end Bs

set_option Elab.async false
set_option linter.all false
set_option maxRecDepth 100000
set_option maxHeartbeats 4000000
namespace Bs
open PySem L2
/-! ### Shape -/
def gFld (K : PySem.W.Frag) (ta : TE) (f : Str) : TG := fun v σ H Q => ta σ H fun x H2 => ∃ a C dx fs, x = .ref a ∧ H2 a = some (.ins C dx fs) ∧ Cls K C ∧ NoAttr K C f ∧ fs.length < 1000 ∧ Q σ (upd H2 a (.ins C dx (putF f v fs)))
theorem pg_fld {X : Cx} {o : Expr} {f : Str} {pos : Pos} {ta : TE} (ha : PE X o ta) : PG X (.Attribute o f pos) (gFld X.K ta f) := by
  refine ⟨fun pins s σ H v u Q I r h => PySem.W.kas_attr (thn (ha.run pins s σ H _ I h) fun ov s2 ⟨x, H2, I2, rx, a, C, dx, fs, ex, ea, c, n, l, q⟩ => ?_)⟩
  subst ex
  obtain rfl : ov = Value.ref a := rx
  exact setattr_ok I2 ea c n l r fun s3 I3 => ⟨σ, _, I3, q⟩
theorem putF_len (f : Str) (v : V) : ∀ fs : List (Str × V), (putF f v fs).length ≤ fs.length + 1
  | [] => by simp [putF]
  | (g, x) :: r => by
    unfold putF
    split
    · simp
    · have := putF_len f v r
      simp only [List.length_cons]
      omega
/-- all but o is as it was -/
def Off (o : Addr) (H H' : Hp) : Prop := ∀ b u, b ≠ o → H b = some u → H' b = some u
theorem Off.refl (o : Addr) (H : Hp) : Off o H H := fun _ _ _ h => h
theorem Off.trans {o : Addr} {H H1 H2 : Hp} (a : Off o H H1) (b : Off o H1 H2) : Off o H H2 := fun c u n h => b c u n (a c u n h)
theorem Off.of {o : Addr} {H H' : Hp} (s : Same H H') : Off o H H' := fun b u _ h => s b u h
theorem Off.wr {o : Addr} {H : Hp} {u : HO} : Off o H (upd H o u) := fun b v n h => by rw [upd_ne n]; exact h
theorem Off.kp {o : Addr} {fz : Bool} {H H' : Hp} {C dx : Addr} {fs : List (Str × V)} (h : H o = some (.ins C dx fs)) (f : Off o H H') : Kp fz H H' :=
  ⟨fun b xs e => f b _ (ne_of e h (by intro z; cases z)) e, fun _ b xs e => f b _ (ne_of e h (by intro z; cases z)) e⟩
structure ShapeC (K : PySem.W.Frag) (C : Addr) : Prop where
  cl : Cls K C
  n1 : NoAttr K C "parts"
  n2 : NoAttr K C "_rows"
  n3 : NoAttr K C "names"
  n4 : NoAttr K C "_least"
  n5 : NoAttr K C "_greatest"
  n6 : NoAttr K C "_row_of"
/-- the shape in the making: o its instance, p its parts -/
structure Mk0 (o CS dx p : Addr) (x : Its) (ys : List V) (H0 H : Hp) (fs : List (Str × V)) : Prop where
  off : Off o H0 H
  ho : H o = some (.ins CS dx fs)
  hp : H p = some (.tup ys)
  at' : x.At true H ys
theorem Mk0.same {o CS dx p : Addr} {x : Its} {ys : List V} {H0 H H' : Hp} {fs : List (Str × V)} (m : Mk0 o CS dx p x ys H0 H fs) (s : Same H H') : Mk0 o CS dx p x ys H0 H' fs :=
  ⟨m.off.trans (.of s), s _ _ m.ho, s _ _ m.hp, m.at'.same s⟩
theorem Mk0.put {o CS dx p : Addr} {x : Its} {ys : List V} {H0 H : Hp} {fs gs : List (Str × V)} (m : Mk0 o CS dx p x ys H0 H fs) : Mk0 o CS dx p x ys H0 (upd H o (.ins CS dx gs)) gs :=
  ⟨m.off.trans .wr, upd_same, by rw [upd_ne (ne_of m.hp m.ho (by intro z; cases z))]; exact m.hp, m.at'.kp (Off.kp m.ho .wr)⟩
theorem WalkAt.get {H : Hp} : ∀ {l : List V} {r : List (Int × It)} {i : Nat} {v : V}, WalkAt H l r → l[i]? = some v → ∃ d y t u, r[i]? = some (d, y) ∧ v = .ref t ∧ H t = some (.tup [.int d, u]) ∧ y.At true H u
  | _, _, _, _, .nil, e => by simp at e
  | _, _, 0, _, .cons (b := (d, y)) ⟨t, u, e0, h, g⟩ _, e => by simp at e; subst e; exact ⟨d, y, t, u, by simp, e0, h, g⟩
  | _, _, i + 1, _, .cons _ t, e => by obtain ⟨d, y, t, u, h⟩ := WalkAt.get (i := i) t (by simpa using e); exact ⟨d, y, t, u, by simpa using h.1, h.2⟩
/-- the fields of a made shape -/
structure ShapeFs (x : Its) (H : Hp) (fs : List (Str × V)) : Prop where
  parts : ∃ p ys, fs.lookup ("parts" : Str) = some (.ref p) ∧ H p = some (.tup ys) ∧ x.At true H ys
  rows : ∃ r rows, fs.lookup ("_rows" : Str) = some (.ref r) ∧ H r = some (.tup rows) ∧ WalkAt H rows (x.walk 0)
  names : ∃ r, fs.lookup ("names" : Str) = some (.ref r) ∧ H r = some (.tup (x.names.map V.str))
  lens : ∃ l, x.lens (fun _ => none) = some l ∧ fs.lookup ("_least" : Str) = some (.int l.1) ∧ fs.lookup ("_greatest" : Str) = some (.int l.2)
theorem ShapeFs.kp {x : Its} {H H' : Hp} {fs : List (Str × V)} (s : ShapeFs x H fs) (k : Kp true H H') : ShapeFs x H' fs := by
  obtain ⟨⟨p, ys, p1, p2, p3⟩, ⟨r, rows, r1, r2, r3⟩, ⟨n, n1, n2⟩, l⟩ := s
  exact ⟨⟨p, ys, p1, k.t _ _ p2, p3.kp k⟩, ⟨r, rows, r1, k.t _ _ r2, r3.kp k⟩, ⟨n, n1, k.t _ _ n2⟩, l⟩
/-- the rows by their names -/
def RowV (H : Hp) (w : List (Int × It)) (z : Str) (v : V) : Prop := ∃ t d y u, v = .ref t ∧ H t = some (.tup [.int d, u]) ∧ y.At true H u ∧ (d, y) ∈ w ∧ y.name = z
theorem RowV.kp {H H' : Hp} {w w' : List (Int × It)} {z : Str} {v : V} (k : Kp true H H') (sub : ∀ p ∈ w, p ∈ w') (h : RowV H w z v) : RowV H' w' z v := by
  obtain ⟨t, d, y, u, e, h1, h2, h3, h4⟩ := h
  exact ⟨t, d, y, u, e, k.t _ _ h1, h2.kp k, sub _ h3, h4⟩
def RowK (H : Hp) (w : List (Int × It)) (kvs : List (Key × V)) : Prop := ∀ z, (z ∈ w.map (·.2.name) → ∃ v, valV kvs (.inr z) = some v ∧ RowV H w z v) ∧ (z ∉ w.map (·.2.name) → valV kvs (.inr z) = none)
/-- a shape has no other fields -/
def fldN : List Str := ["parts", "_rows", "names", "_least", "_greatest", "_row_of"]
def Only6 (fs : List (Str × V)) : Prop := ∀ g, g ∉ fldN → fs.lookup g = none
theorem only_nil : Only6 [] := fun _ _ => rfl
theorem only_put {f : Str} {v : V} {fs : List (Str × V)} (hf : f ∈ fldN) (h : Only6 fs) : Only6 (putF f v fs) := fun g hg => by
  have ne : ¬ g = f := fun e => hg (by rw [e]; exact hf)
  rw [lookup_putF, if_neg ne]
  exact h g hg
def RowOf (x : Its) (H : Hp) (fs : List (Str × V)) : Prop := Only6 fs ∧ ∃ D kvs, fs.lookup ("_row_of" : Str) = some (.ref D) ∧ H D = some (.dK kvs) ∧ RowK H (x.walk 0) kvs
theorem RowK.kp {H H' : Hp} {w : List (Int × It)} {kvs : List (Key × V)} (k : Kp true H H') (h : RowK H w kvs) : RowK H' w kvs := fun z => ⟨fun m => by obtain ⟨v, e, r⟩ := (h z).1 m; exact ⟨v, e, r.kp k fun _ h => h⟩, (h z).2⟩
theorem RowOf.same {x : Its} {H H' : Hp} {fs : List (Str × V)} (s : Same H H') (h : RowOf x H fs) : RowOf x H' fs := by
  obtain ⟨n, D, kvs, e1, e2, e3⟩ := h
  exact ⟨n, D, kvs, e1, s _ _ e2, e3.kp (.of s)⟩
theorem RowK.put {H : Hp} {w : List (Int × It)} {kvs : List (Key × V)} {d : Int} {y : It} {t : Addr} {u : V} (h : RowK H w kvs) (ht : H t = some (.tup [.int d, u])) (ha : y.At true H u) : RowK H (w ++ [(d, y)]) (putK kvs (.inr y.name) (.ref t)) := fun z => by
  rw [valV_put, List.map_append]
  by_cases e : z = y.name
  · rw [if_pos (by rw [e])]
    refine ⟨fun _ => ⟨_, rfl, t, d, y, u, rfl, ht, ha, by simp, e.symm⟩, fun n => absurd (by simp [e]) n⟩
  · rw [if_neg (fun q => e (Sum.inr.inj q))]
    refine ⟨fun m => ?_, fun n => (h z).2 fun q => n (by simp [q])⟩
    have m : z ∈ w.map (·.2.name) := by
      rcases List.mem_append.mp m with m | m
      · exact m
      · simp at m; exact absurd m e
    obtain ⟨v, e1, r⟩ := (h z).1 m
    exact ⟨v, e1, r.kp (.of (Same.refl H)) fun _ q => List.mem_append_left _ q⟩
mutual
theorem It.walk_odd : ∀ (x : It) (d e : Int), x.ok d = true → ∀ p ∈ x.walk e, p.2.isOdd = false
  | .num .., d, e, h, p, hp => by simp only [It.walk, List.mem_singleton] at hp; subst hp; rfl
  | .byt .., d, e, h, p, hp => by simp only [It.walk, List.mem_singleton] at hp; subst hp; rfl
  | .txt .., d, e, h, p, hp => by simp only [It.walk, List.mem_singleton] at hp; subst hp; rfl
  | .chk .., d, e, h, p, hp => by simp only [It.walk, List.mem_singleton] at hp; subst hp; rfl
  | .pad .., d, e, h, p, hp => by simp only [It.walk, List.mem_singleton] at hp; subst hp; rfl
  | .odd .., d, e, h, p, hp => by simp [It.ok] at h
  | .rep n a b, d, e, h, p, hp => by
    rw [It.ok, Bool.and_eq_true, Bool.and_eq_true, Bool.and_eq_true] at h
    simp only [It.walk, List.mem_cons] at hp
    rcases hp with rfl | hp
    · rfl
    · exact Its.walk_odd b (d + 1) (e + 1) h.2.2.2 p hp
  | .eit n bs, d, e, h, p, hp => by
    rw [It.ok, Bool.and_eq_true, Bool.and_eq_true, Bool.and_eq_true] at h
    simp only [It.walk, List.mem_cons] at hp
    rcases hp with rfl | hp
    · rfl
    · exact Blks.walk_odd bs (d + 1) (e + 1) h.2.2.2 p hp
  | .swi n t bs, d, e, h, p, hp => by
    rw [It.ok, Bool.and_eq_true, Bool.and_eq_true, Bool.and_eq_true] at h
    simp only [It.walk, List.mem_cons] at hp
    rcases hp with rfl | hp
    · rfl
    · exact Blks.walk_odd bs (d + 1) (e + 1) h.2.2.2 p hp
theorem Its.walk_odd : ∀ (x : Its) (d e : Int), x.ok d = true → ∀ p ∈ x.walk e, p.2.isOdd = false
  | .nil, d, e, h, p, hp => by simp [Its.walk] at hp
  | .cons x r, d, e, h, p, hp => by
    rw [Its.ok, Bool.and_eq_true] at h
    simp only [Its.walk, List.mem_append] at hp
    rcases hp with hp | hp
    · exact It.walk_odd x d e h.1 p hp
    · exact Its.walk_odd r d e h.2 p hp
theorem Blks.walk_odd : ∀ (x : Blks) (d e : Int), x.ok d = true → ∀ p ∈ x.walk e, p.2.isOdd = false
  | .nil, d, e, h, p, hp => by simp [Blks.walk] at hp
  | .cons v b r, d, e, h, p, hp => by
    rw [Blks.ok, Bool.and_eq_true, Bool.and_eq_true] at h
    simp only [Blks.walk, List.mem_append] at hp
    rcases hp with hp | hp
    · exact Its.walk_odd b d e h.1.2 p hp
    · exact Blks.walk_odd r d e h.2 p hp
end
def spInit (CE CS : Addr) : Sp := fun vs H Q E => ∃ (o a dx : Addr) (x : Its) (xs : List V), vs = [.ref o, .ref a] ∧ H o = some (.ins CS dx []) ∧ RowAt false H a xs ∧ x.At false H xs ∧ x.tame ∧ (x.walk 0).length ≤ 1000 ∧
  (x.shape = true → ∀ H' fs, Off o H H' → H' o = some (.ins CS dx fs) → ShapeFs x H' fs → RowOf x H' fs → Q .non H') ∧ (x.shape = false → ∀ H', Off o H H' → E (.ref CE) none H')
section
variable {P : Program} {w : World} {K : PySem.W.Frag} {mg : Str → Option Value} {base : Heap} {f C CS : Addr} {fd : FuncData}
abbrev nInit : List Str := ["self", "items", "_", "item", "checks", "row"]
theorem scInit : FnScope nInit ["self", "items"] (defScope sInit) := ⟨rfl, rfl, rfl, by decide +kernel, rfl, by decide +kernel, by decide +kernel⟩
theorem ok_init {k : Nat} (hk : 2 ≤ k) (F : Fun K "__init__" "Shape.__init__" sInit f fd) (T : ShapeC K CS) (gR : Cal P w K mg base (L2.CX P w) 1 "require" ["holds", "words"] (spRequire C)) (gC : Cal P w K mg base (L2.CX P w) k "copied_list" ["items", "depth"] (spCopList C 3))
    (gW : Cal P w K mg base CX0 k "listed" ["items", "depth"] (spListed 3)) (gL : Cal P w K mg base (L2.CX P w) k "list_lengths" ["items", "visible"] (spLensList C 3)) (ml : mg "len" = none) (mt : mg "tuple" = none) (mset : mg "set" = none) (gM : GInt mg "MOST_ITEMS" 30) :
    FnOk P w K mg base (L2.CX P w) (k + 1) f fd ["self", "items"] (spInit C CS) := by
  refine F.okX scInit (fun vs H Q E h => ?_) (fun cdv A outer s H vs Q E hr h => ?_)
  · obtain ⟨o, a, dx, x, xs, rfl, _⟩ := h
    rfl
  · obtain ⟨o, a, dx, x, xs, rfl, ho, hrow, hat, ht, hw, q1, q2⟩ := h
    have tk : Takes (cxOf (L2.CX P w) P w K mg base nInit "Shape.__init__" (defScope sInit) f cdv A outer s H E) (fun cls d _ H => E cls d H) := takes_of rfl rfl rfl rfl
    have hx := passes_call tk (E := E) fun _ _ _ _ h => h
    have hr1 : Room 1 _ := hr.mono (by omega)
    refine ⟨_, pss_cons (ps_fld (pv 0) (pe_cal gC hr hx (pa_cons (pv 1) (pa_cons pe_int pa_nil))) rfl)
      (pss_cons (ps_expr (pe_cal gR hr1 hx (pa_cons (pe_cmpR op_ge (pe_callB call_len (by rfl) ml boot_len (pa_cons (pe_fld (pv 0) rfl) pa_nil)) pe_int (nomark _)) (pa_cons pe_str pa_nil))))
      (pss_cons (ps_fld (pv 0) (pe_tupleOf (by rfl) mt (pe_cal gW hr pass0 (pa_cons (pe_fld (pv 0) rfl) (pa_cons pe_int pa_nil)))) rfl)
      (pss_cons (ps_fld (pv 0) (pe_tupleOf (by rfl) mt (pe_lc (own := [("_", 2), ("item", 3)]) (g := gTup K 2 (gCons (gName 2) (gCons (gName 3) gNil))) (tt := tYes) rfl scInit.nd (pi_tup (pe_fld (pv 0) rfl))
            (blkOk_by (own := [("_", 2), ("item", 3)]) (N := nInit) (sc := defScope sInit) (by decide +kernel)) (fun _ _ _ _ _ => pg_tup rfl (pgs_cons (pg_name (i := 2) scInit.nd rfl (Or.inl rfl)) (pgs_cons (pg_name (i := 3) scInit.nd rfl (Or.inl rfl)) pgs_nil)))
            (fun _ _ _ _ _ => pts_nil) (fun _ _ _ _ _ => pe_ix (r := rIxT K) ix_tup (pv 3) pe_int (fun _ _ => rfl)))) rfl)
      (pss_cons (ps_expr (pe_cal gR hr1 hx (pa_cons (pe_cmpR op_le (pe_callB call_len (by rfl) ml boot_len (pa_cons (pe_fld (pv 0) rfl) pa_nil)) (pe_gint gM rfl) (nomark _)) (pa_cons (pe_joined (.cons pe_str (.cons (pe_fmt (pe_gint gM rfl)) (.cons pe_str .nil)))) pa_nil))))
      (pss_cons (ps_expr (pe_cal gR hr1 hx (pa_cons (pe_cmpR op_eq (pe_setLen rfl (by rfl) ml (by rfl) mset (pe_fld (pv 0) rfl)) (pe_callB call_len (by rfl) ml boot_len (pa_cons (pe_fld (pv 0) rfl) pa_nil)) (nomark _)) (pa_cons pe_str pa_nil))))
      (pss_cons (ps_setLc (i := 4) (own := [("_", 2), ("item", 3)]) (g := gTup K 2 (gCons (gName 2) (gCons (gName 3) gNil))) rfl scInit.nd rfl rfl (sw_true rfl rfl rfl (by decide +kernel)) (pi_tup (pe_fld (pv 0) rfl))
            (blkOk_by (own := [("_", 2), ("item", 3)]) (N := nInit) (sc := defScope sInit) (by decide +kernel)) (fun _ _ _ _ _ => pg_tup rfl (pgs_cons (pg_name (i := 2) scInit.nd rfl (Or.inl rfl)) (pgs_cons (pg_name (i := 3) scInit.nd rfl (Or.inl rfl)) pgs_nil)))
            (fun _ _ _ _ _ => pts_one (pt_cmpR op_eq (pe_ix (r := rIxT K) ix_tup (pv 3) pe_int (fun _ _ => rfl)) pe_str (nomark _))) (fun _ _ _ _ _ => pv 3))
      (pss_cons (ps_expr (pe_cal gR hr1 hx (pa_cons (pe_cmpR op_le (pe_callB call_len (by rfl) ml boot_len (pa_cons (pv 4) pa_nil)) pe_int (nomark _)) (pa_cons pe_str pa_nil))))
      (pss_cons (ps_asg (pe_cal gL hr hx (pa_cons (pe_fld (pv 0) rfl) (pa_cons pe_dnewK pa_nil))) (pg_tup rfl (pgs_cons (pg_fld (pv 0)) (pgs_cons (pg_fld (pv 0)) pgs_nil))))
      (pss_one (ps_fld (pv 0) (pe_dc (own := [("row", 5)]) (g := gName 5) (tt := tYes) rfl scInit.nd (pi_tup (pe_fld (pv 0) rfl)) (blkOk_by (own := [("row", 5)]) (N := nInit) (sc := defScope sInit) (by decide +kernel))
            (fun _ _ _ _ _ => pg_name (i := 5) scInit.nd rfl (Or.inl rfl)) (fun _ _ _ _ _ => pts_nil) (fun _ _ _ _ _ => pe_ix (r := rIxT K) ix_tup (pe_ix (r := rIxT K) ix_tup (pv 5) pe_int (fun _ _ => rfl)) pe_int (fun _ _ => rfl)) (fun _ _ _ _ _ => pv 5)) rfl)))))))))), ?_⟩
    unfold Its.shape at q1 q2
    refine ⟨_, rfl, a, x, xs, 0, rfl, rfl, hrow, hat, ht, fun c1 p ys H1 s1 hp hy => ?_, fun c1 H1 s1 => q2 (by rw [c1, Bool.false_and]) H1 (.of s1)⟩
    have hx12 : x.len ≤ 12 := of_decide_eq_true (Bool.and_eq_true _ _ ▸ c1).1
    have hok : x.ok 0 = true := (Bool.and_eq_true _ _ ▸ c1).2
    rw [c1, Bool.true_and] at q1 q2
    have hl := hy.len
    have m1 : Mk0 o CS dx p x ys H H1 [] := ⟨.of s1, s1 _ _ ho, hp, hy⟩
    refine ⟨_, rfl, o, CS, dx, [], rfl, m1.ho, T.cl, T.n1, by simp, ?_⟩
    have m2 := m1.put (gs := putF "parts" (.ref p) [])
    have lk2 : (putF "parts" (.ref p) []).lookup ("parts" : Str) = some (.ref p) := by rw [lookup_putF, if_pos rfl]
    generalize upd H1 o _ = H2 at m2 ⊢
    refine ⟨_, rfl, o, CS, dx, _, _, rfl, m2.ho, T.cl, T.n1, lk2, _, _, rfl, .inr ⟨_, SqT.of m2.hp, rfl⟩, _, _, rfl, rfl, ?_⟩
    refine ⟨_, _, rfl, fun e => ?_, fun e => ?_⟩
    rotate_left
    · have e := of_decide_eq_false e
      exact q2 (by rw [decide_eq_false (by omega), Bool.false_and]) _ m2.off
    have e := of_decide_eq_true e
    rw [decide_eq_true (by omega), Bool.true_and] at q1 q2
    refine ⟨_, rfl, o, CS, dx, _, _, rfl, m2.ho, T.cl, T.n1, lk2, p, x, ys, 0, rfl, rfl, hok, m2.hp, m2.at', hw, fun r rows H3 s3 hr3 wa3 => ?_⟩
    refine .inl ⟨r, rows, rfl, SqL.of hr3, fun r2 hr2 => ?_⟩
    have s4 := same_new hr2 (.tup rows)
    have m4 := m2.same (s3.trans s4)
    have wa4 := wa3.kp (.of s4)
    have h4 : upd H3 r2 (.tup rows) r2 = some (.tup rows) := upd_same
    generalize upd H3 r2 _ = H4 at m4 wa4 h4 ⊢
    refine ⟨_, rfl, o, CS, dx, _, rfl, m4.ho, T.cl, T.n2, by simp [putF], ?_⟩
    have m5 := m4.put (gs := putF "_rows" (.ref r2) (putF "parts" (.ref p) []))
    have k5 : Kp true H4 (upd H4 o (.ins CS dx (putF "_rows" (.ref r2) (putF "parts" (.ref p) [])))) := Off.kp m4.ho .wr
    have wa5 := wa4.kp k5
    have h5 := k5.t _ _ h4
    have lk5 : (putF "_rows" (.ref r2) (putF "parts" (.ref p) [])).lookup ("_rows" : Str) = some (.ref r2) := by rw [lookup_putF, if_pos rfl]
    generalize upd H4 o _ = H5 at m5 wa5 h5 ⊢
    have rl := wa5.len
    refine ⟨_, rfl, o, CS, dx, _, _, rfl, m5.ho, T.cl, T.n2, lk5, r2, rfl, ⟨_, SqT.of h5⟩, fun D hD => lc_tup (K := K) (a := r2) (xs := rows) (fun i H' => Same H5 H' ∧ H' D = some (.lst (((x.walk 0).take i).map fun z => V.str z.2.name))) ⟨same_new hD _, upd_same⟩ (fun i H' _ z => SqT.of (z.1 _ _ h5)) ?_ ?_⟩
    · rintro i v H6 hi ⟨s6, hacc⟩
      obtain ⟨d, y, t, u, gy, rfl, ht6, ay⟩ := (wa5.kp (.of s6)).get hi
      obtain ⟨pu, rest, rfl, hpu, _⟩ := At_head ay
      refine ⟨t, _, rfl, SqT.of ht6, rfl, _, _, rfl, _, _, rfl, rfl, rfl, yes_go ⟨_, rfl, pu, _, 1, _, rfl, rfl, SqT.of hpu, atI_nat (j := 1) rfl, _, hacc, small1000 (by rw [List.length_map, List.length_take]; omega), same_set s6 hD, ?_⟩⟩
      rw [upd_same, take_more gy, List.map_append]
      rfl
    rintro H6 ⟨s6, hacc⟩
    rw [rl, List.take_length] at hacc
    refine .inl ⟨D, _, rfl, SqL.of hacc, fun nt hnt => ?_⟩
    have hmap : ((x.walk 0).map fun z => V.str z.2.name) = x.names.map V.str := by rw [Its.names, List.map_map]; rfl
    rw [hmap] at hacc ⊢
    have nl : x.names.length = (x.walk 0).length := by rw [Its.names, List.length_map]
    have s7 := same_new hnt (.tup (x.names.map V.str))
    have m7 := m5.same (s6.trans s7)
    have wa7 := wa5.kp (.of (s6.trans s7))
    have h7 := (s6.trans s7) _ _ h5
    have n7 : upd H6 nt (.tup (x.names.map V.str)) nt = some (.tup (x.names.map V.str)) := upd_same
    generalize upd H6 nt _ = H7 at m7 wa7 h7 n7 ⊢
    refine ⟨_, rfl, o, CS, dx, _, rfl, m7.ho, T.cl, T.n3, Nat.lt_of_le_of_lt (Nat.le_trans (putF_len _ _ _) (Nat.succ_le_succ (putF_len _ _ _))) (by decide), ?_⟩
    generalize hfs8 : putF ("names" : Str) (.ref nt) (putF "_rows" (.ref r2) (putF "parts" (.ref p) [])) = fs8
    have m8 := m7.put (gs := fs8)
    have k8 : Kp true H7 (upd H7 o (.ins CS dx fs8)) := Off.kp m7.ho .wr
    have wa8 := wa7.kp k8
    have h8 := k8.t _ _ h7
    have n8 := k8.t _ _ n7
    have lkP : fs8.lookup ("parts" : Str) = some (.ref p) := by rw [← hfs8, lookup_putF, if_neg (by decide +kernel), lookup_putF, if_neg (by decide +kernel), lk2]
    have lkR : fs8.lookup ("_rows" : Str) = some (.ref r2) := by rw [← hfs8, lookup_putF, if_neg (by decide +kernel), lk5]
    have lkN : fs8.lookup ("names" : Str) = some (.ref nt) := by rw [← hfs8, lookup_putF, if_pos rfl]
    have no8 : Only6 fs8 := by rw [← hfs8]; exact only_put (by decide +kernel) (only_put (by decide +kernel) (only_put (by decide +kernel) only_nil))
    have fl8 : fs8.length ≤ 3 := by rw [← hfs8]; exact Nat.le_trans (putF_len _ _ _) (Nat.succ_le_succ (Nat.le_trans (putF_len _ _ _) (Nat.succ_le_succ (putF_len _ _ _))))
    generalize upd H7 o _ = H8 at m8 wa8 h8 n8 ⊢
    -- at most 30
    refine ⟨_, rfl, o, CS, dx, _, _, rfl, m8.ho, T.cl, T.n2, lkR, _, _, rfl, .inr ⟨_, SqT.of h8, rfl⟩, _, _, rfl, rfl, _, rfl, by decide +kernel, .inr ⟨30, rfl, by decide +kernel, _, rfl, by decide +kernel, _, rfl, by decide +kernel, ?_⟩⟩
    refine ⟨_, _, rfl, fun e => ?_, fun e => ?_⟩
    rotate_left
    · have e := of_decide_eq_false e
      exact q2 (by rw [decide_eq_false (by omega), Bool.false_and]) _ m8.off
    have e := of_decide_eq_true e
    have h30 : (x.walk 0).length ≤ 30 := by omega
    rw [decide_eq_true h30, Bool.true_and] at q1 q2
    -- no name twice
    refine ⟨_, rfl, o, CS, dx, _, _, rfl, m8.ho, T.cl, T.n3, lkN, nt, x.names, rfl, SqT.of n8, by omega, _, rfl, o, CS, dx, _, _, rfl, m8.ho, T.cl, T.n3, lkN, _, _, rfl, .inr ⟨_, SqT.of n8, rfl⟩, rfl, ?_⟩
    rw [int_eq, List.length_map]
    have mn := met_nodup (xs := x.names) x.names.length (Nat.le_refl _)
    rw [List.take_length] at mn
    refine ⟨_, _, rfl, fun e => ?_, fun e => ?_⟩
    rotate_left
    · have e := of_decide_eq_false e
      exact q2 (by rw [decide_eq_false (fun z => e (by rw [mn.mpr z])), Bool.false_and]) _ m8.off
    have e := of_decide_eq_true e
    have hnd : x.names.Nodup := mn.mp (by omega)
    rw [decide_eq_true hnd, Bool.true_and] at q1 q2
    have rl8 := wa8.len
    -- the checks
    refine ⟨_, rfl, o, CS, dx, _, _, rfl, m8.ho, T.cl, T.n2, lkR, r2, rfl, ⟨_, SqT.of h8⟩, fun D2 hD2 => lc_tup (K := K) (a := r2) (xs := rows) (fun i H' => Same H8 H' ∧ ∃ acc, H' D2 = some (.lst acc) ∧ acc.length = (((x.walk 0).take i).filter (·.2.isChk)).length) ⟨same_new hD2 _, [], upd_same, rfl⟩ (fun i H' _ z => SqT.of (z.1 _ _ h8)) ?_ ?_⟩
    · rintro i v H9 hi ⟨s9, acc, hacc, hlen⟩
      obtain ⟨d, y, t, u, gy, rfl, ht9, ay⟩ := (wa8.kp (.of s9)).get hi
      obtain ⟨pu, rest, rfl, hpu, _⟩ := At_head ay
      refine ⟨t, _, rfl, SqT.of ht9, rfl, _, _, rfl, _, _, rfl, rfl, rfl, _, rfl, pu, _, 0, _, rfl, rfl, SqT.of hpu, atI_nat (j := 0) rfl, rfl, _, rfl, ?_⟩
      have fl : (((x.walk 0).take (i + 1)).filter (·.2.isChk)).length = (((x.walk 0).take i).filter (·.2.isChk)).length + if y.isChk = true then 1 else 0 := by
        rw [take_more gy, List.filter_append, List.length_append]
        cases hy2 : y.isChk <;> simp [hy2]
      have le9 : (((x.walk 0).take i).filter (·.2.isChk)).length ≤ 30 := Nat.le_trans (List.length_filter_le _ _) (by rw [List.length_take]; omega)
      have ho : y.isOdd = false := x.walk_odd 0 0 hok (d, y) (List.mem_of_getElem? gy)
      have ek : decide (V.str y.kind = V.str "check") = y.isChk := by
        cases y with
        | odd => cases ho
        | chk => exact decide_eq_true rfl
        | _ => exact decide_eq_false (kne (by simp only [It.kind]; decide +kernel))
      show (fun b H3 => if b = true then _ else _) (decide (V.str y.kind = V.str "check")) H9
      rw [ek]
      cases hc : y.isChk with
      | true =>
        rw [hc, if_pos rfl] at fl
        refine iteT ⟨_, rfl, acc, hacc, small1000 (by omega), same_set s9 hD2, _, upd_same, ?_⟩
        rw [List.length_append, List.length_singleton, hlen, fl]
      | false =>
        rw [hc, if_neg (by decide)] at fl
        exact iteF ⟨s9, acc, hacc, by omega⟩
    rintro H9 ⟨s9, acc, hacc, hlen⟩
    rw [rl8, List.take_length] at hlen
    have m9 := m8.same s9
    have wa9 := wa8.kp (.of s9)
    have h9 := s9 _ _ h8
    have n9 := s9 _ _ n8
    -- at most one
    refine ⟨_, rfl, _, _, rfl, .inl ⟨acc, SqL.of hacc, rfl⟩, _, _, rfl, rfl, ?_⟩
    refine ⟨_, _, rfl, fun e => ?_, fun e => ?_⟩
    rotate_left
    · have e := of_decide_eq_false e
      exact q2 (by rw [decide_eq_false (by omega), Bool.false_and]) _ m9.off
    have e := of_decide_eq_true e
    rw [decide_eq_true (by omega), Bool.true_and] at q1 q2
    -- the lengths
    refine ⟨_, rfl, o, CS, dx, _, _, rfl, m9.ho, T.cl, T.n1, lkP, fun dv hdv => ?_⟩
    have s10 := same_new hdv (.dK [])
    have m10 := m9.same s10
    refine ⟨p, dv, x, ys, fun _ => none, 0, 0, rfl, rfl, hok, hx12, ht, m10.hp, m10.at', ⟨[], upd_same, by simp, fun z => rfl⟩, by decide, fun l el lt H11 s11 hlt => ?_, fun el H11 s11 => q2 (by rw [el]; rfl) H11 (m10.same s11).off⟩
    rw [el] at q1
    have q1 := q1 rfl
    have lx := el
    have m11 := m10.same s11
    have wa11 := wa9.kp (.of (s10.trans s11))
    have h11 := (s10.trans s11) _ _ h9
    have n11 := (s10.trans s11) _ _ n9
    refine ⟨lt, _, rfl, SqT.of hlt, rfl, _, _, rfl, ?_⟩
    refine ⟨_, rfl, o, CS, dx, _, rfl, m11.ho, T.cl, T.n4, by omega, ?_⟩
    generalize hfs12 : putF ("_least" : Str) (.int l.1) fs8 = fs12
    have lkP2 : fs12.lookup ("parts" : Str) = some (.ref p) := by rw [← hfs12, lookup_putF, if_neg (by decide +kernel), lkP]
    have lkR2 : fs12.lookup ("_rows" : Str) = some (.ref r2) := by rw [← hfs12, lookup_putF, if_neg (by decide +kernel), lkR]
    have no12 : Only6 fs12 := by rw [← hfs12]; exact only_put (by decide +kernel) no8
    have fl12 : fs12.length ≤ 4 := by rw [← hfs12]; exact Nat.le_trans (putF_len _ _ _) (Nat.succ_le_succ fl8)
    have m12 := m11.put (gs := fs12)
    have k12 : Kp true H11 (upd H11 o (.ins CS dx fs12)) := Off.kp m11.ho .wr
    have wa12 := wa11.kp k12
    have h12 := k12.t _ _ h11
    have n12 := k12.t _ _ n11
    have lkN2 : fs12.lookup ("names" : Str) = some (.ref nt) := by rw [← hfs12, lookup_putF, if_neg (by decide +kernel), lkN]
    have lkL2 : fs12.lookup ("_least" : Str) = some (.int l.1) := by rw [← hfs12, lookup_putF, if_pos rfl]
    generalize upd H11 o _ = H12 at m12 wa12 h12 n12 ⊢
    refine ⟨_, _, rfl, _, rfl, o, CS, dx, _, rfl, m12.ho, T.cl, T.n5, by omega, ?_⟩
    generalize hfs13 : putF ("_greatest" : Str) (.int l.2) fs12 = fs13
    have lkP3 : fs13.lookup ("parts" : Str) = some (.ref p) := by rw [← hfs13, lookup_putF, if_neg (by decide +kernel), lkP2]
    have lkR3 : fs13.lookup ("_rows" : Str) = some (.ref r2) := by rw [← hfs13, lookup_putF, if_neg (by decide +kernel), lkR2]
    have no13 : Only6 fs13 := by rw [← hfs13]; exact only_put (by decide +kernel) no12
    have fl13 : fs13.length ≤ 5 := by rw [← hfs13]; exact Nat.le_trans (putF_len _ _ _) (Nat.succ_le_succ fl12)
    have m13 := m12.put (gs := fs13)
    have k13 : Kp true H12 (upd H12 o (.ins CS dx fs13)) := Off.kp m12.ho .wr
    have wa13 := wa12.kp k13
    have h13 := k13.t _ _ h12
    have n13 := k13.t _ _ n12
    have lkN3 : fs13.lookup ("names" : Str) = some (.ref nt) := by rw [← hfs13, lookup_putF, if_neg (by decide +kernel), lkN2]
    have lkL3 : fs13.lookup ("_least" : Str) = some (.int l.1) := by rw [← hfs13, lookup_putF, if_neg (by decide +kernel), lkL2]
    have lkG3 : fs13.lookup ("_greatest" : Str) = some (.int l.2) := by rw [← hfs13, lookup_putF, if_pos rfl]
    generalize upd H12 o _ = H13 at m13 wa13 h13 n13 ⊢
    refine ⟨rfl, ?_⟩
    have rl13 := wa13.len
    -- the rows by their names
    refine ⟨_, rfl, o, CS, dx, _, _, rfl, m13.ho, T.cl, T.n2, lkR3, r2, rfl, ⟨_, SqT.of h13⟩, fun D3 hD3 => dc_tup (K := K) (a := r2) (xs := rows) (fun i H' => Same H13 H' ∧ ∃ kvs, H' D3 = some (.dK kvs) ∧ kvs.length ≤ i ∧ RowK H' ((x.walk 0).take i) kvs) ⟨same_new hD3 _, [], upd_same, Nat.le_refl 0, fun z => ⟨fun m => by simp at m, fun _ => rfl⟩⟩ (fun i H' _ z => SqT.of (z.1 _ _ h13)) ?_ ?_⟩
    · rintro i v H14 hi ⟨s14, kvs, hkvs, hlen, hrk⟩
      have il : i < rows.length := (List.getElem?_eq_some_iff.mp hi).1
      obtain ⟨d, y, t, u, gy, rfl, ht14, ay⟩ := (wa13.kp (.of s14)).get hi
      obtain ⟨pu, rest, rfl, hpu, _⟩ := At_head ay
      refine ⟨rfl, yes_go ?_⟩
      refine ⟨_, rfl, t, _, 1, _, rfl, rfl, SqT.of ht14, atI_nat (j := 1) rfl, pu, _, 1, _, rfl, rfl, SqT.of hpu, atI_nat (j := 1) rfl, _, rfl, kvs, .inr y.name, rfl, hkvs, small1000 (by omega), same_set s14 hD3, _, upd_same, ?_, ?_⟩
      · have := length_putK kvs (.inr y.name) (.ref t)
        omega
      · rw [take_more gy]
        have k14 : Kp true H14 (upd H14 D3 (.dK (putK kvs (.inr y.name) (.ref t)))) := ⟨fun b xs e => by rw [upd_ne (ne_of e hkvs (by intro z; cases z))]; exact e, fun z => by cases z⟩
        exact (hrk.kp k14).put (k14.t _ _ ht14) (ay.kp k14)
    rintro H14 ⟨s14, kvs, hkvs, _, hrk⟩
    rw [rl13, List.take_length] at hrk
    have m14 := m13.same s14
    refine ⟨_, rfl, o, CS, dx, _, rfl, m14.ho, T.cl, T.n6, by omega, ?_⟩
    have m15 := m14.put (gs := putF ("_row_of" : Str) (.ref D3) fs13)
    have k15 : Kp true H14 (upd H14 o (.ins CS dx (putF ("_row_of" : Str) (.ref D3) fs13))) := Off.kp m14.ho .wr
    exact q1 _ _ m15.off m15.ho ⟨⟨p, ys, by rw [lookup_putF, if_neg (by decide +kernel), lkP3], m15.hp, m15.at'⟩, ⟨r2, rows, by rw [lookup_putF, if_neg (by decide +kernel), lkR3], k15.t _ _ (s14 _ _ h13), (wa13.kp (.of s14)).kp k15⟩,
      ⟨nt, by rw [lookup_putF, if_neg (by decide +kernel), lkN3], k15.t _ _ (s14 _ _ n13)⟩, ⟨l, lx, by rw [lookup_putF, if_neg (by decide +kernel), lkL3], by rw [lookup_putF, if_neg (by decide +kernel), lkG3]⟩⟩ ⟨only_put (by decide +kernel) no13, D3, kvs, by rw [lookup_putF, if_pos rfl], by rw [upd_ne (ne_of hkvs m14.ho (by intro z; cases z))]; exact hkvs, hrk.kp k15⟩
end
end Bs

set_option Elab.async false
set_option linter.all false
set_option maxRecDepth 100000
set_option maxHeartbeats 4000000
namespace Bs
open PySem L2
/-! ### items as data -/
def kP : Key → PyData
  | .inl i => .int i
  | .inr z => .str z
mutual
def It.data : It → PyData
  | .num n s o lo hi => .tuple [.str "number", .str n, .int s, .str o, .int lo, .int hi]
  | .byt n a => .tuple [.str "bytes", .str n, kP a]
  | .txt n st m => .tuple [.str "text", .str n, .int st, .int m]
  | .chk n m => .tuple [.str "check", .str n, .int m]
  | .pad n m b => .tuple [.str "pad", .str n, .int m, .int b]
  | .rep n a b => .tuple [.str "repeat", .str n, kP a, .tuple b.data]
  | .eit n bs => .tuple [.str "either", .str n, .tuple bs.dataE]
  | .swi n t bs => .tuple [.str "switch", .str n, .str t, .tuple bs.dataS]
  | .odd .. => .none
def Its.data : Its → List PyData
  | .nil => []
  | .cons x r => x.data :: r.data
def Blks.dataE : Blks → List PyData
  | .nil => []
  | .cons _ b r => .tuple b.data :: r.dataE
def Blks.dataS : Blks → List PyData
  | .nil => []
  | .cons v b r => .tuple [.int v, .tuple b.data] :: r.dataS
end
theorem rowT {H : Hp} {q : Addr} {xs : List V} (h : RowAt true H q xs) : H q = some (.tup xs) := h.elim id fun z => by cases z.1
theorem dp_k {K : PySem.W.Frag} {H : Hp} (a : Key) : Dp K H (kV a) (kP a) := by cases a <;> constructor
mutual
theorem It.dp {K : PySem.W.Frag} {H : Hp} : ∀ {x : It} {v : V} {d : Int}, x.ok d = true → x.At true H v → Dp K H v x.data
  | .num .., _, _, ok, h => by simp only [It.At] at h; obtain ⟨p, rfl, h⟩ := h; simp only [It.data]; exact .tup (SqT.of h) (.cons (.str _) (.cons (.str _) (.cons (.int _) (.cons (.str _) (.cons (.int _) (.cons (.int _) .nil))))))
  | .byt .., _, _, ok, h => by simp only [It.At] at h; obtain ⟨p, rfl, h⟩ := h; simp only [It.data]; exact .tup (SqT.of h) (.cons (.str _) (.cons (.str _) (.cons (dp_k _) .nil)))
  | .txt .., _, _, ok, h => by simp only [It.At] at h; obtain ⟨p, rfl, h⟩ := h; simp only [It.data]; exact .tup (SqT.of h) (.cons (.str _) (.cons (.str _) (.cons (.int _) (.cons (.int _) .nil))))
  | .chk .., _, _, ok, h => by simp only [It.At] at h; obtain ⟨p, rfl, h⟩ := h; simp only [It.data]; exact .tup (SqT.of h) (.cons (.str _) (.cons (.str _) (.cons (.int _) .nil)))
  | .pad .., _, _, ok, h => by simp only [It.At] at h; obtain ⟨p, rfl, h⟩ := h; simp only [It.data]; exact .tup (SqT.of h) (.cons (.str _) (.cons (.str _) (.cons (.int _) (.cons (.int _) .nil))))
  | .rep .., _, _, ok, h => by rw [It.ok, Bool.and_eq_true, Bool.and_eq_true, Bool.and_eq_true] at ok; simp only [It.At] at h; obtain ⟨p, q, xs, rfl, h, r, b⟩ := h; simp only [It.data]; exact .tup (SqT.of h) (.cons (.str _) (.cons (.str _) (.cons (dp_k _) (.cons (.tup (SqT.of (rowT r)) (Its.dp ok.2.2.2 b)) .nil))))
  | .eit .., _, _, ok, h => by rw [It.ok, Bool.and_eq_true, Bool.and_eq_true, Bool.and_eq_true] at ok; simp only [It.At] at h; obtain ⟨p, q, xs, rfl, h, r, b⟩ := h; simp only [It.data]; exact .tup (SqT.of h) (.cons (.str _) (.cons (.str _) (.cons (.tup (SqT.of (rowT r)) (Blks.dpE ok.2.2.2 b)) .nil)))
  | .swi .., _, _, ok, h => by rw [It.ok, Bool.and_eq_true, Bool.and_eq_true, Bool.and_eq_true] at ok; simp only [It.At] at h; obtain ⟨p, q, xs, rfl, h, r, b⟩ := h; simp only [It.data]; exact .tup (SqT.of h) (.cons (.str _) (.cons (.str _) (.cons (.str _) (.cons (.tup (SqT.of (rowT r)) (Blks.dpS ok.2.2.2 b)) .nil))))
  | .odd .., _, _, ok, _ => by simp [It.ok] at ok
theorem Its.dp {K : PySem.W.Frag} {H : Hp} : ∀ {x : Its} {l : List V} {d : Int}, x.ok d = true → x.At true H l → DpAll K H l x.data
  | .nil, _, _, ok, h => by simp only [Its.At] at h; subst h; simp only [Its.data]; exact .nil
  | .cons .., _, _, ok, h => by simp only [Its.At] at h; obtain ⟨v, l', rfl, h, r⟩ := h; simp only [Its.data]; rw [Its.ok, Bool.and_eq_true] at ok; exact .cons (It.dp ok.1 h) (Its.dp ok.2 r)
theorem Blks.dpE {K : PySem.W.Frag} {H : Hp} : ∀ {x : Blks} {l : List V} {d : Int}, x.ok d = true → x.AtE true H l → DpAll K H l x.dataE
  | .nil, _, _, ok, h => by simp only [Blks.AtE] at h; subst h; simp only [Blks.dataE]; exact .nil
  | .cons .., _, _, ok, h => by simp only [Blks.AtE] at h; obtain ⟨q, xs, l', rfl, r, h, t⟩ := h; simp only [Blks.dataE]; rw [Blks.ok, Bool.and_eq_true, Bool.and_eq_true] at ok; exact .cons (.tup (SqT.of (rowT r)) (Its.dp ok.1.2 h)) (Blks.dpE ok.2 t)
theorem Blks.dpS {K : PySem.W.Frag} {H : Hp} : ∀ {x : Blks} {l : List V} {d : Int}, x.ok d = true → x.AtS true H l → DpAll K H l x.dataS
  | .nil, _, _, ok, h => by simp only [Blks.AtS] at h; subst h; simp only [Blks.dataS]; exact .nil
  | .cons .., _, _, ok, h => by simp only [Blks.AtS] at h; obtain ⟨p, q, xs, l', rfl, hp, r, h, t⟩ := h; simp only [Blks.dataS]; rw [Blks.ok, Bool.and_eq_true, Bool.and_eq_true] at ok; exact .cons (.tup (SqT.of hp) (.cons (.int _) (.cons (.tup (SqT.of (rowT r)) (Its.dp ok.1.2 h)) .nil))) (Blks.dpS ok.2 t)
end
/-! ### it is shaped -/
theorem sign_uni {c : Nat} (h : isSign c = true) : c < 1114112 := by
  unfold isSign isLetter isDigit at h
  rw [Bool.or_eq_true] at h
  have a : ∀ c ∈ letters.cps.toList, c < 1114112 := by decide +kernel
  have b : ∀ c ∈ digits.cps.toList, c < 1114112 := by decide +kernel
  exact h.elim (fun h => a c (of_decide_eq_true h)) fun h => b c (of_decide_eq_true h)
theorem name_lay {z : Str} (h : isName z = true) : PyData.strOk z = true := by
  unfold isName at h
  unfold PyData.strOk
  rw [← Array.all_toList]
  revert h
  generalize z.cps.toList = l
  intro h
  cases l with
  | nil => rfl
  | cons c r =>
    unfold nameOk at h
    rw [Bool.and_eq_true, Bool.and_eq_true] at h
    rw [List.all_eq_true]
    intro x hx
    exact decide_eq_true (sign_uni (List.all_eq_true.mp h.2.2 x hx))
theorem ok_isName {x : It} {d : Int} (h : x.ok d = true) : isName x.name = true := by
  cases e : isName x.name with
  | true => rfl
  | false => rw [ok_name e] at h; cases h
def EnvC (f : Env) : Prop := ∀ z p, f z = some p → PyData.strOk z = true
theorem envC_seen {f : Env} (hf : EnvC f) {y : It} (h : isName y.name = true) : EnvC (y.seen f) := by
  cases y with
  | num n s o lo hi =>
    intro z p e
    have e : (if z = n then some (lo, hi) else f z) = some p := e
    by_cases c : z = n
    · rw [c]; exact name_lay h
    · rw [if_neg c] at e; exact hf z p e
  | _ => exact hf
theorem amount_lay {f : Env} (hf : EnvC f) {most : Int} {a : Key} {l : Int × Int} (e : amount f most a = some l) : (kP a).canLay0 = true := by
  cases a with
  | inl i => rfl
  | inr z =>
    simp only [amount] at e
    cases h : f z with
    | none => rw [h] at e; cases e
    | some p => simp only [kP, PyData.canLay0]; exact hf z p h
theorem kw_lay : PyData.strOk "number" = true ∧ PyData.strOk "bytes" = true ∧ PyData.strOk "text" = true ∧ PyData.strOk "check" = true ∧ PyData.strOk "pad" = true ∧ PyData.strOk "repeat" = true ∧ PyData.strOk "either" = true ∧ PyData.strOk "switch" = true ∧ PyData.strOk "big" = true ∧ PyData.strOk "little" = true := by decide +kernel
mutual
theorem It.lay : ∀ (x : It) (f : Env) (l : Int × Int) (d : Int), EnvC f → x.ok d = true → x.lens f = some l → x.data.canLay0 = true
  | .num n s o lo hi, f, l, d, hf, ok, e => by
    have nm : PyData.strOk n = true := name_lay (ok_isName ok)
    simp only [It.lens] at e
    by_cases c : numOk s o lo hi = true
    · unfold numOk at c
      rw [Bool.and_eq_true, Bool.and_eq_true] at c
      have c2 := of_decide_eq_true c.2.1
      have os : PyData.strOk o = true := by rcases c2 with rfl | rfl <;> decide +kernel
      simp only [It.data, PyData.canLay0, PyData.canLayAll0, nm, os, kw_lay.1, Bool.and_true]
    · rw [if_neg c] at e; cases e
  | .byt n a, f, l, d, hf, ok, e => by
    have nm : PyData.strOk n = true := name_lay (ok_isName ok)
    simp only [It.lens] at e
    simp only [It.data, PyData.canLay0, PyData.canLayAll0, nm, amount_lay hf e, kw_lay.2.1, Bool.and_true]
  | .txt n st m, f, l, d, hf, ok, e => by
    have nm : PyData.strOk n = true := name_lay (ok_isName ok)
    simp only [It.data, PyData.canLay0, PyData.canLayAll0, nm, kw_lay.2.2.1, Bool.and_true]
  | .chk n m, f, l, d, hf, ok, e => by
    have nm : PyData.strOk n = true := name_lay (ok_isName ok)
    simp only [It.data, PyData.canLay0, PyData.canLayAll0, nm, kw_lay.2.2.2.1, Bool.and_true]
  | .pad n m b, f, l, d, hf, ok, e => by
    have nm : PyData.strOk n = true := name_lay (ok_isName ok)
    simp only [It.data, PyData.canLay0, PyData.canLayAll0, nm, kw_lay.2.2.2.2.1, Bool.and_true]
  | .rep n a b, f, l, d, hf, ok, e => by
    have nm : PyData.strOk n = true := name_lay (ok_isName ok)
    simp only [It.lens] at e
    rw [It.ok, Bool.and_eq_true, Bool.and_eq_true, Bool.and_eq_true] at ok
    cases ha : amount f 16 a with
    | none => rw [ha] at e; cases e
    | some q =>
      cases hb : b.lens f with
      | none => rw [ha, hb] at e; cases e
      | some p => simp only [It.data, PyData.canLay0, PyData.canLayAll0, nm, amount_lay hf ha, Its.lay b f p _ hf ok.2.2.2 hb, kw_lay.2.2.2.2.2.1, Bool.and_true]
  | .eit n bs, f, l, d, hf, ok, e => by
    have nm : PyData.strOk n = true := name_lay (ok_isName ok)
    simp only [It.lens] at e
    rw [It.ok, Bool.and_eq_true, Bool.and_eq_true, Bool.and_eq_true] at ok
    cases hb : bs.lens f with
    | none => rw [hb] at e; cases e
    | some p => simp only [It.data, PyData.canLay0, PyData.canLayAll0, nm, Blks.layE bs f p _ hf ok.2.2.2 hb, kw_lay.2.2.2.2.2.2.1, Bool.and_true]
  | .swi n tag bs, f, l, d, hf, ok, e => by
    have nm : PyData.strOk n = true := name_lay (ok_isName ok)
    simp only [It.lens] at e
    rw [It.ok, Bool.and_eq_true, Bool.and_eq_true, Bool.and_eq_true] at ok
    by_cases c : (f tag).isSome = true ∧ (∀ v ∈ bs.vals, 0 ≤ v ∧ v ≤ 65535) ∧ bs.vals.Nodup
    · rw [if_pos c] at e
      obtain ⟨q, hq⟩ := Option.isSome_iff_exists.mp c.1
      have ht := hf tag q hq
      cases hb : bs.lens f with
      | none => rw [hb] at e; cases e
      | some p => simp only [It.data, PyData.canLay0, PyData.canLayAll0, nm, ht, Blks.layS bs f p _ hf ok.2.2.2 hb, kw_lay.2.2.2.2.2.2.2.1, Bool.and_true]
    · rw [if_neg c] at e; cases e
theorem Its.lay : ∀ (x : Its) (f : Env) (l : Int × Int) (d : Int), EnvC f → x.ok d = true → x.lens f = some l → PyData.canLayAll0 x.data = true
  | .nil, f, l, d, hf, ok, e => by simp only [Its.data, PyData.canLayAll0]
  | .cons x r, f, l, d, hf, ok, e => by
    rw [lens_cons] at e
    rw [Its.ok, Bool.and_eq_true] at ok
    cases hx : x.lens f with
    | none => rw [hx] at e; cases e
    | some a =>
      rw [hx] at e
      simp only at e
      cases hr : r.lens (x.seen f) with
      | none => rw [hr] at e; cases e
      | some b => simp only [Its.data, PyData.canLayAll0, It.lay x f a d hf ok.1 hx, Its.lay r _ b d (envC_seen hf (ok_isName ok.1)) ok.2 hr, Bool.and_true]
theorem Blks.layE : ∀ (x : Blks) (f : Env) (l : List (Int × Int)) (d : Int), EnvC f → x.ok d = true → x.lens f = some l → PyData.canLayAll0 x.dataE = true
  | .nil, f, l, d, hf, ok, e => by simp only [Blks.dataE, PyData.canLayAll0]
  | .cons v b r, f, l, d, hf, ok, e => by
    rw [lensB_cons] at e
    rw [Blks.ok, Bool.and_eq_true, Bool.and_eq_true] at ok
    cases hx : b.lens f with
    | none => rw [hx] at e; cases e
    | some a =>
      rw [hx] at e
      simp only at e
      cases hr : r.lens f with
      | none => rw [hr] at e; cases e
      | some c => simp only [Blks.dataE, PyData.canLay0, PyData.canLayAll0, Its.lay b f a d hf ok.1.2 hx, Blks.layE r f c d hf ok.2 hr, Bool.and_true]
theorem Blks.layS : ∀ (x : Blks) (f : Env) (l : List (Int × Int)) (d : Int), EnvC f → x.ok d = true → x.lens f = some l → PyData.canLayAll0 x.dataS = true
  | .nil, f, l, d, hf, ok, e => by simp only [Blks.dataS, PyData.canLayAll0]
  | .cons v b r, f, l, d, hf, ok, e => by
    rw [lensB_cons] at e
    rw [Blks.ok, Bool.and_eq_true, Bool.and_eq_true] at ok
    cases hx : b.lens f with
    | none => rw [hx] at e; cases e
    | some a =>
      rw [hx] at e
      simp only at e
      cases hr : r.lens f with
      | none => rw [hr] at e; cases e
      | some c => simp only [Blks.dataS, PyData.canLay0, PyData.canLayAll0, Its.lay b f a d hf ok.1.2 hx, Blks.layS r f c d hf ok.2 hr, Bool.and_true]
end
theorem dep_k (a : Key) : (kP a).depth = 0 := by cases a <;> simp only [kP, PyData.depth]
theorem ok_d {x : It} {d : Int} (h : x.ok d = true) : d ≤ 3 := by
  cases x with
  | rep => rw [It.ok, Bool.and_eq_true, Bool.and_eq_true] at h; have := of_decide_eq_true h.2.1; omega
  | eit => rw [It.ok, Bool.and_eq_true, Bool.and_eq_true] at h; have := of_decide_eq_true h.2.1; omega
  | swi => rw [It.ok, Bool.and_eq_true, Bool.and_eq_true] at h; have := of_decide_eq_true h.2.1; omega
  | odd => simp [It.ok] at h
  | _ => simp only [It.ok, Bool.and_eq_true] at h; exact of_decide_eq_true h.2
mutual
theorem It.dep : ∀ (x : It) (d : Int), x.ok d = true → (x.data.depth : Int) ≤ 13 - 4 * d
  | .num .., d, h => by have := ok_d h; simp only [It.data, PyData.depth, PyData.depthAll]; omega
  | .byt n a, d, h => by have := ok_d h; simp only [It.data, PyData.depth, PyData.depthAll, dep_k]; omega
  | .txt .., d, h => by have := ok_d h; simp only [It.data, PyData.depth, PyData.depthAll]; omega
  | .chk .., d, h => by have := ok_d h; simp only [It.data, PyData.depth, PyData.depthAll]; omega
  | .pad .., d, h => by have := ok_d h; simp only [It.data, PyData.depth, PyData.depthAll]; omega
  | .rep n a b, d, h => by
    rw [It.ok, Bool.and_eq_true, Bool.and_eq_true, Bool.and_eq_true] at h
    have d2 := of_decide_eq_true h.2.1
    have := Its.dep b (d + 1) (by omega) h.2.2.2
    simp only [It.data, PyData.depth, PyData.depthAll, dep_k]
    omega
  | .eit n bs, d, h => by
    rw [It.ok, Bool.and_eq_true, Bool.and_eq_true, Bool.and_eq_true] at h
    have d2 := of_decide_eq_true h.2.1
    have := Blks.depE bs (d + 1) (by omega) h.2.2.2
    simp only [It.data, PyData.depth, PyData.depthAll]
    omega
  | .swi n t bs, d, h => by
    rw [It.ok, Bool.and_eq_true, Bool.and_eq_true, Bool.and_eq_true] at h
    have d2 := of_decide_eq_true h.2.1
    have := Blks.depS bs (d + 1) (by omega) h.2.2.2
    simp only [It.data, PyData.depth, PyData.depthAll]
    omega
theorem Its.dep : ∀ (x : Its) (d : Int), d ≤ 3 → x.ok d = true → (PyData.depthAll x.data : Int) ≤ 13 - 4 * d
  | .nil, d, h3, h => by simp only [Its.data, PyData.depthAll]; omega
  | .cons x r, d, h3, h => by
    rw [Its.ok, Bool.and_eq_true] at h
    have a := It.dep x d h.1
    have b := Its.dep r d h3 h.2
    simp only [Its.data, PyData.depthAll]
    omega
theorem Blks.depE : ∀ (x : Blks) (d : Int), d ≤ 3 → x.ok d = true → (PyData.depthAll x.dataE : Int) ≤ 14 - 4 * d
  | .nil, d, h3, h => by simp only [Blks.dataE, PyData.depthAll]; omega
  | .cons v b r, d, h3, h => by
    rw [Blks.ok, Bool.and_eq_true, Bool.and_eq_true] at h
    have a := Its.dep b d h3 h.1.2
    have c := Blks.depE r d h3 h.2
    simp only [Blks.dataE, PyData.depth, PyData.depthAll]
    omega
theorem Blks.depS : ∀ (x : Blks) (d : Int), d ≤ 3 → x.ok d = true → (PyData.depthAll x.dataS : Int) ≤ 15 - 4 * d
  | .nil, d, h3, h => by simp only [Blks.dataS, PyData.depthAll]; omega
  | .cons v b r, d, h3, h => by
    rw [Blks.ok, Bool.and_eq_true, Bool.and_eq_true] at h
    have a := Its.dep b d h3 h.1.2
    have c := Blks.depS r d h3 h.2
    simp only [Blks.dataS, PyData.depth, PyData.depthAll]
    omega
end
theorem shaped_data {x : Its} {l : Int × Int} (ok : x.ok 0 = true) (e : x.lens (fun _ => none) = some l) : SeqAt.shaped (.tuple x.data) = true := by
  have a := Its.lay x _ l 0 (fun z p h => by cases h) ok e
  have b := Its.dep x 0 (by decide) ok
  unfold SeqAt.shaped
  simp only [PyData.canLay0, PyData.depth, a, Bool.true_and]
  exact decide_eq_true (by omega)
theorem eqv_data {x : Its} {l : Int × Int} (ok : x.ok 0 = true) (e : x.lens (fun _ => none) = some l) : PyData.eqv (.tuple x.data) (.tuple x.data) = true := by
  have h := shaped_data ok e
  unfold SeqAt.shaped at h
  rw [Bool.and_eq_true] at h
  exact SeqAt.eqv_refl _ h.1
/-! ### the first items -/
theorem take_At {fz : Bool} {H : Hp} : ∀ {x : Its} {l : List V} (i : Nat), x.At fz H l → (x.take i).At fz H (l.take i)
  | x, l, 0, _ => by simp [Its.take, Its.At]
  | .nil, l, i + 1, h => by simp only [Its.At] at h; subst h; simp [Its.take, Its.At]
  | .cons x r, l, i + 1, h => by
    simp only [Its.At] at h
    obtain ⟨v, l', rfl, h1, h2⟩ := h
    show (Its.cons x (r.take i)).At fz H (v :: l'.take i)
    simp only [Its.At]
    exact ⟨v, _, rfl, h1, take_At i h2⟩
end Bs

set_option Elab.async false
set_option linter.all false
set_option maxRecDepth 100000
set_option maxHeartbeats 4000000
namespace Bs
open PySem L2
/-! ### items with one name replaced -/
theorem kind_flat {x : It} (h : x.blocky = false) (ho : x.isOdd = false) : x.kind ≠ "repeat" ∧ x.kind ≠ "either" ∧ x.kind ≠ "switch" := by
  cases x <;> first | (cases h; done) | (cases ho; done) | (simp only [It.kind]; decide +kernel)
def Its.app : Its → Its → Its
  | .nil, y => y
  | .cons x r, y => .cons x (r.app y)
mutual
def It.repl : It → Str → Its → It
  | .rep n a b, z, ys => .rep n a (b.repl z ys)
  | .eit n bs, z, ys => .eit n (bs.repl z ys)
  | .swi n t bs, z, ys => .swi n t (bs.repl z ys)
  | .num n s o lo hi, _, _ => .num n s o lo hi
  | .byt n a, _, _ => .byt n a
  | .txt n s m, _, _ => .txt n s m
  | .chk n m, _, _ => .chk n m
  | .pad n m b, _, _ => .pad n m b
  | .odd k n m, _, _ => .odd k n m
def Its.repl : Its → Str → Its → Its
  | .nil, _, _ => .nil
  | .cons x r, z, ys => if x.name = z then ys.app (r.repl z ys) else .cons (x.repl z ys) (r.repl z ys)
def Blks.repl : Blks → Str → Its → Blks
  | .nil, _, _ => .nil
  | .cons v b r, z, ys => .cons v (b.repl z ys) (r.repl z ys)
end
def It.one (y : It) (z : Str) (ys : Its) : Its := if y.name = z then ys else .cons (y.repl z ys) .nil
theorem app_nil : ∀ (x : Its), x.app .nil = x
  | .nil => rfl
  | .cons x r => by simp [Its.app, app_nil r]
theorem app_assoc : ∀ (x y w : Its), (x.app y).app w = x.app (y.app w)
  | .nil, _, _ => rfl
  | .cons x r, y, w => by simp [Its.app, app_assoc r y w]
theorem app_len : ∀ (x y : Its), (x.app y).len = x.len + y.len
  | .nil, _ => by simp [Its.app, Its.len]
  | .cons x r, y => by simp [Its.app, Its.len, app_len r y]; omega
theorem app_tame : ∀ {x y : Its}, x.tame → y.tame → (x.app y).tame
  | .nil, _, _, h => h
  | .cons x r, y, h, g => by
    simp only [Its.tame] at h
    simp only [Its.app, Its.tame]
    exact ⟨h.1, app_tame h.2 g⟩
theorem app_at {fz : Bool} {H : Hp} : ∀ {x y : Its} {l m : List V}, x.At fz H l → y.At fz H m → (x.app y).At fz H (l ++ m)
  | .nil, _, _, _, h, g => by simp only [Its.At] at h; subst h; exact g
  | .cons x r, y, _, m, h, g => by
    simp only [Its.At] at h
    obtain ⟨v, l', rfl, h1, h2⟩ := h
    simp only [Its.app, Its.At, List.cons_append]
    exact ⟨v, l' ++ m, rfl, h1, app_at h2 g⟩
theorem repl_cons (z : Str) (ys : Its) (x : It) (r : Its) : (Its.cons x r).repl z ys = (x.one z ys).app (r.repl z ys) := by
  unfold It.one
  rw [Its.repl]
  split
  · rfl
  · rfl
theorem repl_take {z : Str} {ys : Its} : ∀ {x : Its} {i : Nat} {y : It}, x.get i = some y → (x.take (i + 1)).repl z ys = ((x.take i).repl z ys).app (y.one z ys)
  | .nil, _, _, e => by simp [Its.get] at e
  | .cons x r, 0, y, e => by
    simp [Its.get] at e
    subst e
    show (Its.cons x (r.take 0)).repl z ys = (Its.nil.repl z ys).app _
    have : r.take 0 = .nil := by cases r <;> rfl
    rw [this, repl_cons, Its.repl, app_nil, Its.app]
  | .cons x r, i + 1, y, e => by
    show (Its.cons x (r.take (i + 1))).repl z ys = ((Its.cons x (r.take i)).repl z ys).app _
    rw [repl_cons, repl_cons, repl_take (x := r) e, app_assoc]
theorem repl_name (z : Str) (ys : Its) (x : It) : (x.repl z ys).name = x.name := by cases x <;> rfl
theorem repl_blist (z : Str) (ys : Its) : ∀ (bs : Blks), (bs.repl z ys).list = bs.list.map (·.repl z ys)
  | .nil => rfl
  | .cons v b r => by simp [Blks.repl, Blks.list, repl_blist z ys r]
theorem repl_bget {z : Str} {ys : Its} : ∀ {bs : Blks} {i : Nat} {c : Int} {b : Its}, bs.get i = some (c, b) → (bs.repl z ys).get i = some (c, b.repl z ys)
  | .nil, _, _, _, e => by simp [Blks.get] at e
  | .cons v b r, 0, _, _, e => by simp only [Blks.get, Option.some.injEq, Prod.mk.injEq] at e; obtain ⟨rfl, rfl⟩ := e; rfl
  | .cons v b r, i + 1, _, _, e => repl_bget (bs := r) e
theorem repl_blen (z : Str) (ys : Its) : ∀ (bs : Blks), (bs.repl z ys).len = bs.len
  | .nil => rfl
  | .cons v b r => by simp [Blks.repl, Blks.len, repl_blen z ys r]
theorem repl_vals (z : Str) (ys : Its) : ∀ (bs : Blks), (bs.repl z ys).vals = bs.vals
  | .nil => rfl
  | .cons v b r => by simp [Blks.repl, Blks.vals, repl_vals z ys r]
theorem one_len {z : Str} {ys : Its} {y : It} (h : ys.len ≤ 1) : (y.one z ys).len ≤ 1 := by
  unfold It.one
  split
  · exact h
  · simp [Its.len]
theorem repl_len {z : Str} {ys : Its} (h : ys.len ≤ 1) : ∀ (x : Its), (x.repl z ys).len ≤ x.len
  | .nil => by simp [Its.repl, Its.len]
  | .cons x r => by
    rw [repl_cons, app_len]
    have := repl_len (z := z) h r
    have := one_len (z := z) (y := x) h
    simp only [Its.len]
    omega
theorem repl_len2 {z : Str} {ys : Its} (h : ys.len ≤ 2) : ∀ (x : Its), (x.repl z ys).len ≤ 2 * x.len
  | .nil => by simp [Its.repl, Its.len]
  | .cons x r => by
    rw [repl_cons, app_len]
    have := repl_len2 (z := z) h r
    have : (x.one z ys).len ≤ 2 := by
      unfold It.one
      split
      · exact h
      · simp [Its.len]
    simp only [Its.len]
    omega
mutual
theorem It.repl_tame (z : Str) (ys : Its) (h : ys.tame) : ∀ (x : It), x.tame → (x.repl z ys).tame
  | .rep n a b, t => by simp only [It.tame] at t; simp only [It.repl, It.tame]; exact ⟨t.1, t.2.1, Its.repl_tame z ys h b t.2.2⟩
  | .eit n bs, t => by simp only [It.tame] at t; simp only [It.repl, It.tame]; exact ⟨t.1, Blks.repl_tame z ys h bs t.2⟩
  | .swi n tg bs, t => by simp only [It.tame] at t; simp only [It.repl, It.tame]; exact ⟨t.1, by rw [repl_vals]; exact t.2.1, Blks.repl_tame z ys h bs t.2.2⟩
  | .num .., t => t
  | .byt .., t => t
  | .txt .., t => t
  | .chk .., t => t
  | .pad .., t => t
  | .odd .., t => t
theorem Its.repl_tame (z : Str) (ys : Its) (h : ys.tame) : ∀ (x : Its), x.tame → (x.repl z ys).tame
  | .nil, t => t
  | .cons x r, t => by
    simp only [Its.tame] at t
    rw [repl_cons]
    refine app_tame ?_ (Its.repl_tame z ys h r t.2)
    unfold It.one
    split
    · exact h
    · simp only [Its.tame]; exact ⟨It.repl_tame z ys h x t.1, trivial⟩
theorem Blks.repl_tame (z : Str) (ys : Its) (h : ys.tame) : ∀ (x : Blks), x.tame → (x.repl z ys).tame
  | .nil, t => t
  | .cons v b r, t => by
    simp only [Blks.tame] at t
    simp only [Blks.repl, Blks.tame]
    exact ⟨Its.repl_tame z ys h b t.1, Blks.repl_tame z ys h r t.2⟩
end
theorem take_len_le : ∀ (x : Its) (i : Nat), (x.take i).len ≤ x.len
  | x, 0 => by simp [Its.take, Its.len]
  | .nil, i + 1 => by simp [Its.take, Its.len]
  | .cons x r, i + 1 => by have := take_len_le r i; simp only [Its.take, Its.len]; omega

end Bs

set_option Elab.async false
set_option linter.all false
set_option maxRecDepth 100000
set_option maxHeartbeats 4000000
/-! tuple(zip(a list, a list)): the zip's tuples are held -/
namespace Bs
open PySem PySem.Spec PyProof.Rows L2
theorem fpOk_upd {X : Cx} {pins : List (Addr × Obj)} {H : Hp} {b T : Addr} {o : HO} (h : FpOk X pins H b) (n : b ≠ T) : FpOk X pins (upd H T o) b := ⟨by rw [upd_ne n]; exact h.1, h.2⟩
/-- the pairs as they stand -/
def ZipAt (H0 H : Hp) (xs ys vs : List V) : Prop := ∀ (j : Nat) (v : V), vs[j]? = some v → ∃ p x y, v = V.ref p ∧ xs[j]? = some x ∧ ys[j]? = some y ∧ H0 p = none ∧ H p = some (.tup [x, y])
theorem ZipAt.same {H0 H H' : Hp} {xs ys vs : List V} (s : Same H H') (h : ZipAt H0 H xs ys vs) : ZipAt H0 H' xs ys vs := fun j v e => by
  obtain ⟨p, x, y, e1, e2, e3, e0, e4⟩ := h j v e
  exact ⟨p, x, y, e1, e2, e3, e0, s _ _ e4⟩
theorem ZipAt.snoc {H0 H : Hp} {xs ys vs : List V} {p : Addr} {x y : V} (h : ZipAt H0 H xs ys vs) (e1 : xs[vs.length]? = some x) (e2 : ys[vs.length]? = some y) (e0 : H0 p = none) (e3 : H p = some (.tup [x, y])) : ZipAt H0 H xs ys (vs ++ [.ref p]) := fun j v e => by
  by_cases c : j < vs.length
  · rw [List.getElem?_append_left c] at e; exact h j v e
  · have : j = vs.length := by
      have := (List.getElem?_eq_some_iff.mp e).1
      simp at this
      omega
    subst this
    simp at e
    subst e
    exact ⟨p, x, y, rfl, e1, e2, e0, e3⟩
theorem vals_snoc {vs : List V} {us : List Value} {v : V} {u : Value} (h : Vals vs us) (r : RelV v u) : Vals (vs ++ [v]) (us ++ [u]) := by
  induction h with
  | nil => exact .cons r .nil
  | cons a _ ih => exact .cons a ih
theorem sqL_same {K : PySem.W.Frag} {H H' : Hp} (s : Same H H') {a : Addr} {xs : List V} (h : SqL K H a xs) : SqL K H' a xs := h.elim (fun h => .inl (h.elim (fun h => .inl (s _ _ h)) fun ⟨o, h⟩ => .inr ⟨o, s _ _ h⟩)) .inr
theorem zl_held {X : Cx} {pins : List (Addr × Obj)} {σ : L2.St} {z TI TO i1 i2 a b S T : Addr} {res : Value} {A : Around} {R : Result → Shared → Prop} {H0 : Hp} (hh : A.in1.handled = none) (D : ZipApart z TI TO i1 i2 a b)
    (nS : S ≠ z ∧ S ≠ TI ∧ S ≠ i1 ∧ S ≠ i2 ∧ S ≠ T) (nT : T ≠ z ∧ T ≠ i1 ∧ T ≠ i2) {xs ys : List V} (hl : xs.length = ys.length) (h100 : xs.length ≤ 1000) :
    ∀ (k i : Nat) (s : Shared) (H : Hp) (acc : Array Value) (c : Nat) (f : Bool) (vs : List V), xs.length - i = k → i ≤ xs.length → L2.Inv X pins σ H s → Same H0 H → (∀ q ∈ [z, i1, i2, S], FpOk X pins H q) → IsZipHeld s.heap z TI TO T f → (∃ oT, s.heap.get? T = some oT) → IsPair s.heap TI (.ref i1) (.ref i2) →
      s.heap.IsListIter i1 a i → s.heap.IsListIter i2 b i → s.heap.get? S = some { cls := Value.type "list", data := Data.seq acc c } → SqL X.K H a xs → SqL X.K H b ys → Vals vs acc.toList → vs.length = i → ZipAt H0 H xs ys vs →
      (∀ (H' : Hp) (s' : Shared) (acc' : Array Value) (c' : Nat) (vs' : List V), L2.Inv X pins σ H' s' → Same H H' → s'.heap.get? S = some { cls := Value.type "list", data := Data.seq acc' c' } → Vals vs' acc'.toList → vs'.length = xs.length → ZipAt H0 H' xs ys vs' → R (.ok (.ret res)) s') →
      codeAny (model X.prog X.w) A (Code.builtin "list.extend.loop" { pos := [.ref S, .ref z, res] }) R s := by
  intro k
  induction k with
  | zero =>
    intro i s H acc c f vs hk hi I sH fr hz hT hTI g1 g2 hS q1 q2 hv hvl hp fin
    obtain ⟨oT, hT⟩ := hT
    obtain ⟨its, rl, p1, _⟩ := I.list q1
    obtain ⟨jts, rt, p2, _⟩ := I.list q2
    refine codeAny_builtin F.entry_extend_loop ?_
    rw [Around.under_plainId F.plain_extend_loop]
    show wpAny _ _ (pyNext (.ref z) >>= _) _ _ _
    refine wpAny_bind ?_
    have n1 : its.length = xs.length := rl.length.symm
    refine wpAny_pyNext_zip_end_held hh D hz hT hTI g1 g2 p1.isList p2.isList (.inl (by simp; omega)) fun h' old => ?_
    refine wpAny_pure ?_
    refine fin H _ acc c vs (I.turnedL (t' := s.toks) (ch := [z, i1, i2]) (fun q o hq e => ?_) (fun q hq => fr q ?_)) (Same.refl _) (old S _ nS.1 nS.2.2.1 nS.2.2.2.1 hS) hv (by omega) hp
    · simp only [List.mem_cons, List.not_mem_nil, or_false, not_or] at hq
      exact old q o hq.1 hq.2.1 hq.2.2 e
    · simp only [List.mem_cons, List.not_mem_nil, or_false] at hq ⊢
      rcases hq with h | h | h <;> simp [h]
  | succ k ih =>
    intro i s H acc c f vs hk hi I sH fr hz hT hTI g1 g2 hS q1 q2 hv hvl hp fin
    obtain ⟨oT, hT⟩ := hT
    obtain ⟨its, rl, p1, _⟩ := I.list q1
    obtain ⟨jts, rt, p2, _⟩ := I.list q2
    have lt : i < xs.length := by omega
    have e1 : xs[i]? = some (xs[i]) := List.getElem?_eq_getElem lt
    have e2 : ys[i]? = some (ys[i]'(by omega)) := List.getElem?_eq_getElem (by omega)
    generalize xs[i] = x at e1
    generalize ys[i]'(by omega) = y at e2
    obtain ⟨v1, a1, r1⟩ := rl.get e1
    obtain ⟨v2, a2, r2⟩ := rt.get e2
    have as : acc.size = i := by have := hv.length; simpa [hvl] using this.symm
    refine codeAny_builtin F.entry_extend_loop ?_
    rw [Around.under_plainId F.plain_extend_loop]
    show wpAny _ _ (pyNext (.ref z) >>= _) _ _ _
    refine wpAny_bind ?_
    refine wpAny_pyNext_zip_item_held D hz hT hTI g1 g2 p1.isList p2.isList (x := v1) (y := v2) (by simpa using a1) (by simpa using a2) fun h' hz' g1' g2' hpr hsz old => ?_
    show wpAny _ _ (updateSeq S (fun w => w.push (.ref s.heap.objs.size)) >>= _) _ _ _
    refine wpAny_bind ?_
    have hS' := old S _ nS.1 nS.2.2.1 nS.2.2.2.1 hS
    have aS : acc.size ≤ sizeLine := le_line (by omega)
    refine wpAny_updateSeq (xs := acc) (n := c) hS' rfl ?_ aS (by rw [Array.size_push]; have : acc.size ≤ sizeLine := aS; omega)
    refine wpAny_pure ⟨plainId_quiet F.plain_extend_loop _, ?_⟩
    have neS : ∀ q, q ≠ S → (h'.update S (Obj.mapSeq fun w => w.push (.ref s.heap.objs.size))).get? q = h'.get? q := fun q n => Heap.get?_update_ne _ _ _ _ n
    have hSn : (h'.update S (Obj.mapSeq fun w => w.push (.ref s.heap.objs.size))).get? S = some { cls := Value.type "list", data := Data.seq (acc.push (.ref s.heap.objs.size)) (c + 1) } := by
      rw [Heap.get?_update_self _ hS' rfl]
      simp [Obj.mapSeq]
    have ltS : S < s.heap.objs.size := Heap.lt_size hS
    have nTS : s.heap.objs.size ≠ S := Nat.ne_of_gt ltS
    have J := I.turnedNew (h' := h'.update S (Obj.mapSeq fun w => w.push (.ref s.heap.objs.size))) (t' := s.toks) (ch := [z, i1, i2, S]) (T := s.heap.objs.size) (ob := .tup [x, y]) (fun q o hq e => by
      simp only [List.mem_cons, List.not_mem_nil, or_false, not_or] at hq
      rw [neS q hq.2.2.2]
      exact old q o hq.1 hq.2.1 hq.2.2.1 e) fr (Nat.le_refl _) ⟨(by show 2 ≤ sizeLine; decide), [v1, v2], .cons r1 (.cons r2 .nil), ⟨_, by rw [neS _ nTS]; exact hpr, rfl, 0, rfl⟩⟩
    have hn : H s.heap.objs.size = none := I.hok.fresh (Nat.le_refl _)
    have sm := same_new hn (.tup [x, y])
    refine ih (i + 1) _ (upd H s.heap.objs.size (.tup [x, y])) (acc.push (.ref s.heap.objs.size)) (c + 1) true (vs ++ [.ref s.heap.objs.size]) (by omega) lt J (sH.trans sm) (fun q hq => fpOk_upd (fr q hq) ?_) ?_ ⟨oT, ?_⟩ ?_ ?_ ?_ hSn (sqL_same sm q1) (sqL_same sm q2) ?_ (by simp [hvl]) ((hp.same sm).snoc (by rw [hvl]; exact e1) (by rw [hvl]; exact e2) (sH.free hn) upd_same) (fun H' s' acc' c' vs' I' S' => fin H' s' acc' c' vs' I' (sm.trans S'))
    · -- the fixed ones are not the new one
      have lq : ∀ q ∈ [z, i1, i2, S], q < s.heap.objs.size := fun q hq => by
        obtain ⟨o1, g1, _⟩ := g1
        obtain ⟨o2, g2, _⟩ := g2
        simp only [List.mem_cons, List.not_mem_nil, or_false] at hq
        rcases hq with rfl | rfl | rfl | rfl
        · exact Heap.lt_size hz
        · exact Heap.lt_size g1
        · exact Heap.lt_size g2
        · exact ltS
      exact Nat.ne_of_lt (lq q hq)
    · show (h'.update S _).get? z = _
      rw [neS z nS.1.symm]; exact hz'
    · show (h'.update S _).get? T = _
      rw [neS T nS.2.2.2.2.symm]; exact old T _ nT.1 nT.2.1 nT.2.2 hT
    · show (h'.update S _).get? TI = _
      rw [neS TI nS.2.1.symm]; exact old TI _ D.TIz D.TIi1 D.TIi2 hTI
    · exact g1'.at fun o e => by rw [← e]; exact neS i1 nS.2.2.1.symm
    · exact g2'.at fun o e => by rw [← e]; exact neS i2 nS.2.2.2.1.symm
    · rw [Array.toList_push]; exact vals_snoc hv rfl
theorem zl_all {X : Cx} {pins : List (Addr × Obj)} {σ : L2.St} {z TI TO i1 i2 a b S : Addr} {res : Value} {A : Around} {R : Result → Shared → Prop} (hh : A.in1.handled = none) (D : ZipApart z TI TO i1 i2 a b)
    (nS : S ≠ z ∧ S ≠ TI ∧ S ≠ TO ∧ S ≠ i1 ∧ S ≠ i2) {xs ys : List V} (hl : xs.length = ys.length) (h100 : xs.length ≤ 1000) {s : Shared} {H : Hp} {c : Nat} {u0 u1 : Value} (I : L2.Inv X pins σ H s) (fr : ∀ q ∈ [z, TO, i1, i2, S], FpOk X pins H q) (hz : IsZip s.heap z TI TO .none) (hTI : IsPair s.heap TI (.ref i1) (.ref i2)) (hTO : IsPair s.heap TO u0 u1)
    (g1 : s.heap.IsListIter i1 a 0) (g2 : s.heap.IsListIter i2 b 0) (hS : s.heap.get? S = some { cls := Value.type "list", data := Data.seq #[] c }) (q1 : SqL X.K H a xs) (q2 : SqL X.K H b ys)
    (fin : ∀ (H' : Hp) (s' : Shared) (acc' : Array Value) (c' : Nat) (vs' : List V), L2.Inv X pins σ H' s' → Same H H' → s'.heap.get? S = some { cls := Value.type "list", data := Data.seq acc' c' } → Vals vs' acc'.toList → vs'.length = xs.length → ZipAt H H' xs ys vs' → R (.ok (.ret res)) s') :
    codeAny (model X.prog X.w) A (Code.builtin "list.extend.loop" { pos := [.ref S, .ref z, res] }) R s := by
  obtain ⟨its, rl, p1, _⟩ := I.list q1
  obtain ⟨jts, rt, p2, _⟩ := I.list q2
  refine codeAny_builtin F.entry_extend_loop ?_
  rw [Around.under_plainId F.plain_extend_loop]
  show wpAny _ _ (pyNext (.ref z) >>= _) _ _ _
  refine wpAny_bind ?_
  have n1 : its.length = xs.length := rl.length.symm
  by_cases lt : 0 < xs.length
  · have e1 : xs[0]? = some (xs[0]) := List.getElem?_eq_getElem lt
    have e2 : ys[0]? = some (ys[0]'(by omega)) := List.getElem?_eq_getElem (by omega)
    generalize xs[0] = x at e1
    generalize ys[0]'(by omega) = y at e2
    obtain ⟨v1, a1, r1⟩ := rl.get e1
    obtain ⟨v2, a2, r2⟩ := rt.get e2
    refine wpAny_pyNext_zip_item D hz hTI hTO g1 g2 p1.isList p2.isList (x := v1) (y := v2) (by simpa using a1) (by simpa using a2) fun h' hz' hTO' g1' g2' hpr hsz old => ?_
    show wpAny _ _ (updateSeq S (fun w => w.push (.ref s.heap.objs.size)) >>= _) _ _ _
    refine wpAny_bind ?_
    have hS' := old S _ nS.1 nS.2.2.1 nS.2.2.2.1 nS.2.2.2.2 hS
    refine wpAny_updateSeq (xs := #[]) (n := c) hS' rfl ?_ (le_line (by simp)) (by simp)
    refine wpAny_pure ⟨plainId_quiet F.plain_extend_loop _, ?_⟩
    have neS : ∀ q, q ≠ S → (h'.update S (Obj.mapSeq fun w => w.push (.ref s.heap.objs.size))).get? q = h'.get? q := fun q n => Heap.get?_update_ne _ _ _ _ n
    have hSn : (h'.update S (Obj.mapSeq fun w => w.push (.ref s.heap.objs.size))).get? S = some { cls := Value.type "list", data := Data.seq (#[].push (.ref s.heap.objs.size)) (c + 1) } := by
      rw [Heap.get?_update_self _ hS' rfl]
      simp [Obj.mapSeq]
    have ltS : S < s.heap.objs.size := Heap.lt_size hS
    have nTS : s.heap.objs.size ≠ S := Nat.ne_of_gt ltS
    have J := I.turnedNew (h' := h'.update S (Obj.mapSeq fun w => w.push (.ref s.heap.objs.size))) (t' := s.toks) (ch := [z, TO, i1, i2, S]) (T := s.heap.objs.size) (ob := .tup [x, y]) (fun q o hq e => by
      simp only [List.mem_cons, List.not_mem_nil, or_false, not_or] at hq
      rw [neS q hq.2.2.2.2]
      exact old q o hq.1 hq.2.1 hq.2.2.1 hq.2.2.2.1 e) fr (Nat.le_refl _) ⟨(by show 2 ≤ sizeLine; decide), [v1, v2], .cons r1 (.cons r2 .nil), ⟨_, by rw [neS _ nTS]; exact hpr, rfl, 0, rfl⟩⟩
    have hn : H s.heap.objs.size = none := I.hok.fresh (Nat.le_refl _)
    have sm := same_new hn (.tup [x, y])
    have lq : ∀ q ∈ [z, TO, i1, i2, S], q < s.heap.objs.size := fun q hq => by
      obtain ⟨o1, g1, _⟩ := g1
      obtain ⟨o2, g2, _⟩ := g2
      simp only [List.mem_cons, List.not_mem_nil, or_false] at hq
      rcases hq with rfl | rfl | rfl | rfl | rfl
      · exact Heap.lt_size hz
      · exact Heap.lt_size hTO
      · exact Heap.lt_size g1
      · exact Heap.lt_size g2
      · exact ltS
    refine zl_held (H0 := H) hh D (T := s.heap.objs.size) ⟨nS.1, nS.2.1, nS.2.2.2.1, nS.2.2.2.2, nTS.symm⟩ ⟨Nat.ne_of_gt (lq z (by simp)), Nat.ne_of_gt (lq i1 (by simp)), Nat.ne_of_gt (lq i2 (by simp))⟩ hl h100 (xs.length - 1) 1 _ (upd H s.heap.objs.size (.tup [x, y])) (#[].push (.ref s.heap.objs.size)) (c + 1) false [.ref s.heap.objs.size] rfl lt J sm (fun q hq => fpOk_upd (fr q ?_) ?_) ?_ ⟨_, (by show (h'.update S _).get? _ = _; rw [neS _ nTS]; exact hpr)⟩ ?_ ?_ ?_ hSn (sqL_same sm q1) (sqL_same sm q2) (.cons rfl .nil) rfl ?_ (fun H' s' acc' c' vs' I' S' => fin H' s' acc' c' vs' I' (sm.trans S'))
    · simp only [List.mem_cons, List.not_mem_nil, or_false] at hq ⊢
      rcases hq with h | h | h | h <;> simp [h]
    · refine Nat.ne_of_lt (lq q ?_)
      simp only [List.mem_cons, List.not_mem_nil, or_false] at hq ⊢
      rcases hq with h | h | h | h <;> simp [h]
    · show (h'.update S _).get? z = _
      rw [neS z nS.1.symm]; exact hz'
    · show (h'.update S _).get? TI = _
      rw [neS TI nS.2.1.symm]; exact old TI _ D.TIz D.TITO D.TIi1 D.TIi2 hTI
    · exact g1'.at fun o e => by rw [← e]; exact neS i1 nS.2.2.2.1.symm
    · exact g2'.at fun o e => by rw [← e]; exact neS i2 nS.2.2.2.2.symm
    · exact ZipAt.snoc (vs := []) (fun j v e => by simp at e) e1 e2 hn upd_same
  · have e0 : xs = [] := List.eq_nil_of_length_eq_zero (by omega)
    refine wpAny_pyNext_zip_end hh D hz hTI hTO g1 g2 p1.isList p2.isList (.inl (by rw [show its = [] from List.eq_nil_of_length_eq_zero (by omega)]; rfl)) fun h' old => ?_
    refine wpAny_pure ?_
    refine fin H _ #[] c [] (I.turnedL (t' := s.toks) (ch := [z, TO, i1, i2]) (fun q o hq e => ?_) (fun q hq => fr q ?_)) (Same.refl _) (old S _ nS.1 nS.2.2.1 nS.2.2.2.1 nS.2.2.2.2 hS) .nil (by rw [e0]) (fun j v e => by simp at e)
    · simp only [List.mem_cons, List.not_mem_nil, or_false, not_or] at hq
      exact old q o hq.1 hq.2.1 hq.2.2.1 hq.2.2.2 e
    · simp only [List.mem_cons, List.not_mem_nil, or_false] at hq ⊢
      rcases hq with h | h | h | h <;> simp [h]
end Bs

set_option Elab.async false
set_option linter.all false
set_option maxRecDepth 100000
set_option maxHeartbeats 4000000
namespace Bs
open PySem PySem.Spec PyProof.Rows L2
theorem nolen_zip : typeLookup (Value.type "zip") (Str.ofString "__len__") = pure none := by
  rw [typeLookup_type, builtinLookup_eq_fast]; rfl
theorem nohint_zip : typeLookup (Value.type "zip") (Str.ofString "__length_hint__") = pure none := by
  rw [typeLookup_type, builtinLookup_eq_fast]; rfl
theorem collect_zip {X : Cx} {pins : List (Addr × Obj)} {σ : L2.St} {z TI TO i1 i2 a b : Addr} {A : Around} {E : Value → Shared → Prop} {Q : List Value → Shared → Prop} (hh : A.in1.handled = none) (D : ZipApart z TI TO i1 i2 a b)
    {xs ys : List V} (hl : xs.length = ys.length) (h100 : xs.length ≤ 1000) {s : Shared} {H : Hp} {u0 u1 : Value} (I : L2.Inv X pins σ H s) (fr : ∀ q ∈ [z, TO, i1, i2], FpOk X pins H q) (hz : IsZip s.heap z TI TO .none) (hTI : IsPair s.heap TI (.ref i1) (.ref i2)) (hTO : IsPair s.heap TO u0 u1)
    (g1 : s.heap.IsListIter i1 a 0) (g2 : s.heap.IsListIter i2 b 0) (q1 : SqL X.K H a xs) (q2 : SqL X.K H b ys)
    (fin : ∀ (H' : Hp) (s' : Shared) (us : List Value) (vs' : List V), L2.Inv X pins σ H' s' → Same H H' → Vals vs' us → vs'.length = xs.length → ZipAt H H' xs ys vs' → Q us s') :
    wpAny (model X.prog X.w) A (collect (.ref z)) Q E s := by
  have ltz : z < s.heap.objs.size := Heap.lt_size hz
  have ltI : TI < s.heap.objs.size := Heap.lt_size hTI
  have ltO : TO < s.heap.objs.size := Heap.lt_size hTO
  have lt1 : i1 < s.heap.objs.size := by obtain ⟨o, g, _⟩ := g1; exact Heap.lt_size g
  have lt2 : i2 < s.heap.objs.size := by obtain ⟨o, g, _⟩ := g2; exact Heap.lt_size g
  have hn : H s.heap.objs.size = none := I.hok.fresh (Nat.le_refl _)
  unfold collect
  refine wpAny_bind ?_
  refine wpAny_runValue ?_
  refine codeAny_builtin F.entry_proto_collect ?_
  rw [Around.under_plainId F.plain_proto_collect]
  show wpAny _ _ (newObj (.type "list") (.seq #[]) >>= _) _ _ _
  refine wpAny_bind ?_
  refine wpAny_newObj_type ?_
  refine wpAny_pure ⟨plainId_quiet F.plain_list_iadd _, ?_⟩
  refine codeAny_builtin F.entry_list_iadd ?_
  rw [Around.under_plainId F.plain_list_iadd]
  have push : ∀ q o, s.heap.get? q = some o → (s.heap.push { cls := Value.type "list", data := Data.seq #[] }).get? q = some o := fun q o e => Heap.get?_push_of_some _ e
  have hS : (s.heap.push { cls := Value.type "list", data := Data.seq #[] }).get? s.heap.objs.size = some { cls := Value.type "list", data := Data.seq #[] } := Heap.get?_push_size s.heap rfl
  have hz1 := push _ _ hz
  have hT : Shared.TypeIs { s with heap := s.heap.push { cls := Value.type "list", data := Data.seq #[] } } (.ref z) "zip" := ⟨_, hz1, rfl⟩
  show wpAny _ _ (typeOf (.ref z) >>= _) _ _ _
  refine wpAny_bind ?_
  refine wpAny_typeOf hT ?_
  have ne : (s.heap.objs.size == z) = false := by simpa using Nat.ne_of_gt ltz
  have cnd : (Builtin.List.listSameRef (.ref s.heap.objs.size) (.ref z) || Value.type "zip" == Value.type "list" || Value.type "zip" == Value.type "tuple") = false := by
    show ((s.heap.objs.size == z) || Value.type "zip" == Value.type "list" || Value.type "zip" == Value.type "tuple") = false
    rw [ne]
    decide
  rw [cnd]
  refine wpAny_ite_false rfl ?_
  refine wpAny_bind ?_
  refine wpAny_pyIter_zip hz1 ?_
  refine wpAny_bind ?_
  refine wpAny_holding ?_
  show wpAny _ _ (specialOf (.ref z) _ >>= _) _ _ _
  refine wpAny_bind ?_
  refine wpAny_specialOf hT nolen_zip ?_
  show wpAny _ _ (specialOf (.ref z) _ >>= _) _ _ _
  refine wpAny_bind ?_
  refine wpAny_specialOf hT nohint_zip ?_
  refine wpAny_pure ?_
  show wpAny _ _ (rule _ >>= _) _ _ _
  refine wpAny_bind ?_
  refine wpAny_rule ?_
  refine wpAny_bind ?_
  show wpAny _ _ (updateSeq s.heap.objs.size (fun w => w.push .none) >>= fun _ => updateSeq s.heap.objs.size fun w => w.pop) _ _ _
  refine wpAny_bind ?_
  refine wpAny_updateSeq (xs := #[]) (n := 0) hS rfl ?_ (le_line (by simp)) (by simp)
  have hS2 : ((s.heap.push { cls := Value.type "list", data := Data.seq #[] }).update s.heap.objs.size (Obj.mapSeq fun w => w.push .none)).get? s.heap.objs.size = some { cls := Value.type "list", data := Data.seq #[Value.none] 1 } := by
    rw [Heap.get?_update_self _ hS rfl]
    rfl
  refine wpAny_updateSeq (xs := #[Value.none]) (n := 1) hS2 rfl ?_ (le_line (by simp)) (by simp)
  have hS3 : (((s.heap.push { cls := Value.type "list", data := Data.seq #[] }).update s.heap.objs.size (Obj.mapSeq fun w => w.push .none)).update s.heap.objs.size (Obj.mapSeq fun w => w.pop)).get? s.heap.objs.size = some { cls := Value.type "list", data := Data.seq #[] 2 } := by
    rw [Heap.get?_update_self _ hS2 rfl]
    rfl
  have old : ∀ q o, s.heap.get? q = some o → (((s.heap.push { cls := Value.type "list", data := Data.seq #[] }).update s.heap.objs.size (Obj.mapSeq fun w => w.push .none)).update s.heap.objs.size (Obj.mapSeq fun w => w.pop)).get? q = some o := fun q o e => by
    have n : q ≠ s.heap.objs.size := Nat.ne_of_lt (Heap.lt_size e)
    rw [Heap.get?_update_ne _ _ _ _ n, Heap.get?_update_ne _ _ _ _ n]
    exact push q o e
  refine wpAny_pure ⟨plainId_quiet F.plain_extend_loop _, ?_⟩
  generalize ((s.heap.push { cls := Value.type "list", data := Data.seq #[] }).update s.heap.objs.size (Obj.mapSeq fun w => w.push .none)).update s.heap.objs.size (Obj.mapSeq fun w => w.pop) = h3 at hS3 old ⊢
  have J : L2.Inv X pins σ H { s with heap := h3 } := I.kept (t' := s.toks) old
  refine zl_all hh D (S := s.heap.objs.size) ⟨Nat.ne_of_gt ltz, Nat.ne_of_gt ltI, Nat.ne_of_gt ltO, Nat.ne_of_gt lt1, Nat.ne_of_gt lt2⟩ hl h100 J (fun q hq => ?_) (old _ _ hz) (old _ _ hTI) (old _ _ hTO) (g1.at fun o e => old _ _ e) (g2.at fun o e => old _ _ e) hS3 q1 q2 fun H' s' acc' c' vs' I' S' hS' hv hvl hp => ?_
  · simp only [List.mem_cons, List.not_mem_nil, or_false] at hq
    rcases hq with h | h | h | h | h
    · exact fr q (by simp [h])
    · exact fr q (by simp [h])
    · exact fr q (by simp [h])
    · exact fr q (by simp [h])
    · rw [h]; exact I.fpOk (Nat.le_refl _) hn
  · show wpAny _ _ (load s.heap.objs.size >>= _) _ _ _
    refine wpAny_bind ?_
    refine wpAny_load hS' ?_
    refine wpAny_pure ?_
    exact fin H' s' acc'.toList vs' I' S' hv hvl hp
end Bs

set_option Elab.async false
set_option linter.all false
set_option maxRecDepth 100000
set_option maxHeartbeats 4000000
namespace Bs
open PySem PySem.Spec PyProof.Rows L2
theorem code_tuple_zip {X : Cx} {pins : List (Addr × Obj)} {σ : L2.St} {z TI TO i1 i2 a b : Addr} {A : Around} {E : Value → Shared → Prop} {Q : Value → Shared → Prop} (hh : A.handled = none) (D : ZipApart z TI TO i1 i2 a b)
    {xs ys : List V} (hl : xs.length = ys.length) (h100 : xs.length ≤ 1000) {s : Shared} {H : Hp} {u0 u1 : Value} (I : L2.Inv X pins σ H s) (fr : ∀ q ∈ [z, TO, i1, i2], FpOk X pins H q) (hz : IsZip s.heap z TI TO .none) (hTI : IsPair s.heap TI (.ref i1) (.ref i2)) (hTO : IsPair s.heap TO u0 u1)
    (g1 : s.heap.IsListIter i1 a 0) (g2 : s.heap.IsListIter i2 b 0) (q1 : SqL X.K H a xs) (q2 : SqL X.K H b ys)
    (fin : ∀ (H' : Hp) (s' : Shared) (us : List Value) (vs' : List V), L2.Inv X pins σ H' s' → Same H H' → Vals vs' us → vs'.length = xs.length → ZipAt H H' xs ys vs' →
      Q (.ref s'.heap.objs.size) { s' with heap := s'.heap.push { cls := Value.type "tuple", data := Data.seq us.toArray } }) :
    codeAny (model X.prog X.w) A (Code.call (.builtin "tuple.__new__") { pos := [.type "tuple", .ref z] }) (wants Q E) s := by
  refine codeAny_of_tree ?_
  refine wpAny_bind ?_
  refine wpAny_of_eq (F.newCall_tuple_1 (.ref z)) ?_
  refine wpAny_pure ⟨plainId_quiet F.plain_tuple_new _, codeAny_builtin F.entry_tuple_new ?_⟩
  rw [Around.under_plainId F.plain_tuple_new]
  have hT : Shared.TypeIs s (.ref z) "zip" := ⟨_, hz, rfl⟩
  refine wpAny_bind ?_
  change wpAny _ _ (pure true) _ _ _
  refine wpAny_pure ?_
  refine wpAny_ite_false rfl ?_
  refine wpAny_bind ?_
  refine wpAny_of_eq sub_tuple_self ?_
  refine wpAny_ite_false rfl ?_
  refine wpAny_ite_false rfl ?_
  refine wpAny_bind ?_
  refine wpAny_of_eq madeHere_tuple ?_
  refine wpAny_bind ?_
  refine wpAny_of_eq init_tuple_lookup ?_
  refine wpAny_ite_true rfl ?_
  refine wpAny_bind ?_
  unfold noKeywords
  refine wpAny_ite_true rfl ?_
  refine wpAny_pure ?_
  refine wpAny_bind ?_
  unfold checkCount
  refine wpAny_ite_false rfl ?_
  refine wpAny_ite_false rfl ?_
  refine wpAny_ite_false rfl ?_
  refine wpAny_pure ?_
  refine wpAny_ite_true rfl ?_
  refine wpAny_bind ?_
  unfold Builtin.Tuple.tupleIsExact
  refine wpAny_bind ?_
  refine wpAny_typeOf hT ?_
  refine wpAny_pure ?_
  refine wpAny_ite_false rfl ?_
  refine wpAny_bind ?_
  refine collect_zip (A := A.in1) (show A.in1.in1.handled = none from hh) D hl h100 I fr hz hTI hTO g1 g2 q1 q2 fun H' s' us vs' I' S' hv hvl hp => ?_
  refine wpAny_bind ?_
  refine wpAny_pure ?_
  refine wpAny_bind ?_
  have ul : us.toArray.size ≤ sizeLine := le_line (by have := hv.length; simp; omega)
  unfold Builtin.Tuple.tupleExact
  refine wpAny_newObj_type ?_ ul
  refine wpAny_pure ?_
  exact fin H' s' us vs' I' S' hv hvl hp
theorem call_tuple_zip {X : Cx} {pins : List (Addr × Obj)} {σ : L2.St} {z TI TO i1 i2 a b : Addr} {A : Around} {E : Value → Shared → Prop} {Q : Value → Shared → Prop} (hh : A.handled = none) (D : ZipApart z TI TO i1 i2 a b)
    {xs ys : List V} (hl : xs.length = ys.length) (h100 : xs.length ≤ 1000) {s : Shared} {H : Hp} {u0 u1 : Value} (I : L2.Inv X pins σ H s) (fr : ∀ q ∈ [z, TO, i1, i2], FpOk X pins H q) (hz : IsZip s.heap z TI TO .none) (hTI : IsPair s.heap TI (.ref i1) (.ref i2)) (hTO : IsPair s.heap TO u0 u1)
    (g1 : s.heap.IsListIter i1 a 0) (g2 : s.heap.IsListIter i2 b 0) (q1 : SqL X.K H a xs) (q2 : SqL X.K H b ys)
    (fin : ∀ (H' : Hp) (s' : Shared) (us : List Value) (vs' : List V), L2.Inv X pins σ H' s' → Same H H' → Vals vs' us → vs'.length = xs.length → ZipAt H H' xs ys vs' →
      Q (.ref s'.heap.objs.size) { s' with heap := s'.heap.push { cls := Value.type "tuple", data := Data.seq us.toArray } }) :
    wpAny (model X.prog X.w) A (call (.type "tuple") [.ref z]) Q E s :=
  callType_codes F.called_tuple (F.typeCall_tuple_1 (.ref z)) F.entry_object_init
    (code_tuple_zip (A := A.in1) (Q := fun v s' => s'.TypeIs v "tuple" ∧ Q v s') hh D hl h100 I fr hz hTI hTO g1 g2 q1 q2 fun H' s' us vs' I' S' hv hvl hp => ⟨⟨_, Heap.get?_push_size s'.heap rfl, rfl⟩, fin H' s' us vs' I' S' hv hvl hp⟩)
    fun obj s₁ h₁ => ⟨h₁.1, F.args_object_init_2 obj (.ref z), object_init_meets F.called_tuple.init.lookup F.called_tuple.made (by decide) X.prog X.w A.in1 (wants (fun r s₂ => r = .none ∧ Q obj s₂) E) s₁ ⟨h₁.1, rfl, h₁.2⟩⟩
def tTupZip (K : PySem.W.Frag) (ta : TA) : TE := fun σ H Q => ta σ H fun vs H1 => ∃ a b xs ys, vs = [V.ref a, V.ref b] ∧ SqL K H1 a xs ∧ SqL K H1 b ys ∧ xs.length = ys.length ∧ xs.length ≤ 1000 ∧ ∀ q H2 ps, Same H1 H2 → H1 q = none → H2 q = some (.tup ps) → ps.length = xs.length → ZipAt H1 H2 xs ys ps → Q (.ref q) H2
/-- tuple(zip(xs, ys)), two lists of one length -/
theorem pe_tupZip {X : Cx} {e f : Expr} {ta : TA} {p p2 pos pos2 : Pos} (hc : X.calm = true) (hg : Gl X "tuple") (hm : X.mg "tuple" = none) (hg2 : Gl X "zip") (hm2 : X.mg "zip" = none) (ha : PA X [e, f] ta)
    (h1 : starEach [e, f] X.env = (false, eval e X.env) :: starEach [f] X.env := by rfl) (h2 : (backTo pos2 (starEach [f] X.env)).any (·.1) = false := by rfl)
    (hs : starEach [.Call (.Name "zip" p2) [e, f] [] pos2] X.env = (false, eval (.Call (.Name "zip" p2) [e, f] [] pos2) X.env) :: starEach [] X.env := by rfl) :
    PE X (.Call (.Name "tuple" p) [.Call (.Name "zip" p2) [e, f] [] pos2] [] pos) (tTupZip X.K ta) := by
  constructor
  intro pins s σ H Q I h
  refine Call_ ?_
  refine ld_blt I hg hm boot_tuple ?_
  refine PyProof.Rows.callWith_type1 (args_cons (Call_ (ld_blt I hg2 hm2 PyProof.Rows.boot_zip (PyProof.Rows.callWith_type1 (thn (ha.run pos2 pins s σ H _ I h) ?_) h1 h2))) hs) hs rfl
  rintro us s1 ⟨vs, G, J, rel, a, b, xs, ys, rfl, q1, q2, hl, h100, q⟩
  cases rel with
  | cons ra rr =>
    cases rr with
    | cons rb rr =>
      cases rr
      cases ra
      cases rb
      obtain ⟨its, rl, p1, _⟩ := J.list q1
      obtain ⟨jts, rt, p2', _⟩ := J.list q2
      refine zip_begins2 (begins_list a its.toArray) (begins_list b jts.toArray) p1.isList p2'.isList fun h' hz hI hO g1 g2 hsz hk => args_nil ?_
      have J2 : L2.Inv X pins σ G { s1 with heap := h' } := J.kept (t' := s1.toks) hk
      refine call_tuple_zip (J.ok.hd hc) (PySem.W.ktu_apart s1.heap.objs.size a b p1.lt p2'.lt) hl h100 J2 (fun c hc => ?_) hz hI hO ⟨_, g1, rfl, rfl⟩ ⟨_, g2, rfl, rfl⟩ q1 q2 fun H' s' us vs' I' S' hv hvl hp => ?_
      · have le : s1.heap.objs.size ≤ c := by
          simp only [List.mem_cons, List.not_mem_nil, or_false] at hc
          rcases hc with rfl | rfl | rfl | rfl
          · exact Nat.le_add_right _ _
          · exact Nat.le_add_right _ _
          · exact Nat.le_refl _
          · exact Nat.le_add_right _ _
        exact J.fpOk le (J.hok.fresh le)
      · have hn : H' s'.heap.objs.size = none := I'.hok.fresh (Nat.le_refl _)
        have hlen : us.toArray.size ≤ sizeLine := le_line (by have := hv.length; simp; omega)
        refine ⟨V.ref s'.heap.objs.size, upd H' s'.heap.objs.size (.tup vs'), I'.laid (t' := s'.toks) (fun c o e => Heap.get?_push_of_some _ e) (Nat.le_refl _) ⟨le_line (by omega), us, hv, IsTup.new _ _⟩, rfl, ?_⟩
        exact q _ _ vs' (S'.trans (same_new hn _)) (S'.free hn) upd_same hvl (hp.same (same_new hn _))
end Bs

set_option Elab.async false
set_option linter.all false
set_option maxRecDepth 100000
set_option maxHeartbeats 4000000
namespace Bs
open PySem PySem.Spec PyProof.Rows L2
/-- xs.extend(t), t a tuple -/
theorem extend_tup (l b : Addr) (items : Array Value) (n : Nat) (items2 : Array Value) (hz : items.size + items2.size ≤ sizeLine) : Meets (Builtin.«list.extend» { pos := [.ref l, .ref b] }) fun x R s =>
    s.heap.get? l = some { cls := Value.type "list", data := Data.seq items n } ∧ IsTup s.heap b items2 ∧
      R (.ok (.ret .none)) { s with heap := s.heap.update l (Obj.mapSeq fun x => x ++ items2) } := by
  rintro prog w A R s ⟨hl, ⟨o, hb, hc, m, hd⟩, q⟩
  have hT : s.TypeIs (.ref b) "tuple" := ⟨o, hb, hc⟩
  show wpAny _ _ (Builtin.List.listExtendWith (.ref l) (.ref b) .none) _ _ _
  unfold Builtin.List.listExtendWith
  refine wpAny_bind ?_
  refine wpAny_typeOf hT ?_
  refine wpAny_ite_true (by simp) ?_
  refine wpAny_bind ?_
  refine wpAny_listItems hb hd ?_
  refine wpAny_bind ?_
  refine wpAny_listItems hl rfl ?_
  refine wpAny_ite_false (by rw [notLongL hz, Bool.and_false]; rfl) ?_
  show wpAny _ _ (updateSeq l (fun x => x ++ items2) >>= _) _ _ _
  refine wpAny_bind ?_
  refine wpAny_updateSeq (xs := items) (n := n) hl rfl ?_ (by omega) (by simp only [Array.size_append]; omega)
  exact wpAny_pure q
def rExtendT (K : PySem.W.Frag) : V → List V → Hp → VK → Prop := fun x vs H Q => ∃ l b xs zs, x = V.ref l ∧ vs = [V.ref b] ∧ H l = some (.lst xs) ∧ SqT K H b zs ∧ xs.length + zs.length ≤ sizeLine ∧ Q .non (upd H l (.lst (xs ++ zs)))
theorem mt_extendT {X : Cx} : MtM X "list.extend" (rExtendT X.K) := by
  rintro pins s σ H x vs v us Q I rx rv ⟨l, b, xs, zs, rfl, rfl, hH, hB, hz, q⟩
  cases rx
  obtain ⟨u, rfl, ru⟩ := Vals.one rv
  cases ru
  obtain ⟨z, its, n, r, hl, e⟩ := I.lstM hH
  obtain ⟨its2, r2, p2, z2⟩ := I.tuple hB
  have l2 := r2.length
  exact call_meets F.slot_list_extend ⟨_, e, rfl⟩ F.entry_list_extend (F.args_list_extend_2 (.ref l) (.ref b)) (extend_tup l b its.toArray n its2.toArray (by simp only [List.size_toArray]; omega)) ⟨e, p2, V.non, upd H l (.lst (xs ++ zs)), I.lset hH e (by simp) (r.append r2) (by rw [List.length_append]; exact hz), rfl, q⟩
end Bs

set_option Elab.async false
set_option linter.all false
set_option maxRecDepth 100000
set_option maxHeartbeats 8000000
namespace Bs
open PySem L2
abbrev sWithB : Stmt := top 14
/-! ### an item with other blocks -/
abbrev RowsM (S : Hp) : List V → List Its → Prop := Paired fun v b => ∃ q xs, v = .ref q ∧ S q = some (.tup xs) ∧ b.At false S xs
theorem RowsM.len {H : Hp} : ∀ {l : List V} {r : List Its}, RowsM H l r → l.length = r.length
  | _, _, .nil => rfl
  | _, _, .cons _ t => by simp [RowsM.len t]
theorem RowsM.same {S M : Hp} (s : Same S M) : ∀ {l : List V} {r : List Its}, RowsM S l r → RowsM M l r
  | _, _, .nil => .nil
  | _, _, .cons ⟨q, xs, e, h, g⟩ t => .cons ⟨q, xs, e, s _ _ h, g.same s⟩ (RowsM.same s t)
theorem RowsM.app {H : Hp} {v : V} {p : Its} (h : ∃ q xs, v = .ref q ∧ H q = some (.tup xs) ∧ p.At false H xs) : ∀ {l : List V} {r : List Its}, RowsM H l r → RowsM H (l ++ [v]) (r ++ [p])
  | _, _, .nil => .cons h .nil
  | _, _, .cons q t => .cons q (RowsM.app h t)
theorem rowsM_E {M : Hp} {z : Str} {ys : Its} : ∀ {bs : Blks} {l : List V}, RowsM M l (bs.list.map (·.repl z ys)) → (bs.repl z ys).AtE false M l
  | .nil, l, h => by
    simp only [Blks.list, List.map_nil] at h
    cases h
    simp only [Blks.repl, Blks.AtE]
  | .cons v b r, l, h => by
    simp only [Blks.list, List.map_cons] at h
    cases h with
    | cons a t =>
      obtain ⟨q, xs, rfl, h1, h2⟩ := a
      simp only [Blks.repl, Blks.AtE]
      exact ⟨q, xs, _, rfl, .inl h1, h2, rowsM_E t⟩
theorem rowsM_S {M : Hp} {z : Str} {ys : Its} : ∀ {bs : Blks} {l ps : List V}, RowsM M l (bs.list.map (·.repl z ys)) → ps.length = l.length → (∀ (j : Nat) (v : V), ps[j]? = some v → ∃ p x y, v = V.ref p ∧ (bs.vals.map V.int)[j]? = some x ∧ l[j]? = some y ∧ M p = some (.tup [x, y])) → (bs.repl z ys).AtS false M ps
  | .nil, l, ps, h, hl, hp => by
    simp only [Blks.list, List.map_nil] at h
    cases h
    have : ps = [] := List.eq_nil_of_length_eq_zero hl
    subst this
    simp only [Blks.repl, Blks.AtS]
  | .cons v b r, l, ps, h, hl, hp => by
    simp only [Blks.list, List.map_cons] at h
    cases h with
    | cons a t =>
      obtain ⟨q, xs, rfl, h1, h2⟩ := a
      cases ps with
      | nil => simp at hl
      | cons p0 ps =>
        obtain ⟨p, x, y, e1, e2, e3, e4⟩ := hp 0 p0 rfl
        simp only [Blks.vals, List.map_cons, List.getElem?_cons_zero, Option.some.injEq] at e2 e3
        subst e1 e2 e3
        simp only [Blks.repl, Blks.AtS]
        refine ⟨p, q, xs, ps, rfl, e4, .inl h1, h2, rowsM_S t (by simpa using hl) fun j u e => ?_⟩
        obtain ⟨p', x', y', f1, f2, f3, f4⟩ := hp (j + 1) u (by simpa using e)
        exact ⟨p', x', y', f1, by simpa [Blks.vals] using f2, by simpa using f3, f4⟩
theorem at_false {H : Hp} {q : Addr} {xs : List V} (h : RowAt true H q xs) : RowAt false H q xs := .inl (rowT h)
def spWithB : Sp := fun vs H Q _ => ∃ (v : V) (L : Addr) (y : It) (z : Str) (ys : Its) (bl : List V) (S : Hp), vs = [v, .ref L] ∧ y.isOdd = false ∧ Same S H ∧ y.At true S v ∧ y.blocks.length ≤ 8 ∧ H L = some (.lst bl) ∧ RowsM S bl (y.blocks.map (·.repl z ys)) ∧
  ∀ v' H', Same H H' → (∀ M, Same S M → (∀ b xs, H b = none → H' b = some (.tup xs) → M b = some (.tup xs)) → (y.repl z ys).At false M v') → Q v' H'
section
variable {P : Program} {w : World} {K : PySem.W.Frag} {mg : Str → Option Value} {base : Heap} {f : Addr} {fd : FuncData}
abbrev nWB : List Str := ["item", "blocks", "values", "value", "_"]
theorem scWithB : FnScope nWB ["item", "blocks"] (defScope sWithB) := ⟨rfl, rfl, rfl, by decide +kernel, rfl, by decide +kernel, by decide +kernel⟩
theorem ok_withb (F : Fun K "with_blocks" "with_blocks" sWithB f fd) (mt : mg "tuple" = none) (mz : mg "zip" = none) : FnOk P w K mg base CX0 1 f fd ["item", "blocks"] spWithB := by
  refine F.ok scWithB (fun vs H Q E h => ?_) (fun cdv A outer s H vs Q E hr h => ?_)
  · obtain ⟨v, L, y, z, ys, bl, S, rfl, _⟩ := h
    rfl
  · obtain ⟨v, L, y, z, ys, bl, S, rfl, ho, sS, hat, hb8, hL, hrows, q⟩ := h
    obtain ⟨p, rest, rfl, hp, hlen⟩ := At_head (hat.same sS)
    have hT : SqT K H p _ := SqT.of hp
    refine ⟨_, pss_cons (ps_if (pt_cmpR op_eq (pe_ix ix_tup (pv 0) pe_int (fun _ _ => rfl)) pe_str (nomark _)) (pss_one (ps_ret (pe_op op_catT (pe_slice sl_tup (pv 0) po_none (po_some pe_int)) (pe_tup (pa_cons (pe_ix ix_list (pv 1) pe_int (fun _ _ => rfl)) pa_nil))))) pss_nil)
      (pss_cons (ps_if (pt_cmpR op_eq (pe_ix ix_tup (pv 0) pe_int (fun _ _ => rfl)) pe_str (nomark _)) (pss_one (ps_ret (pe_op op_catT (pe_slice sl_tup (pv 0) po_none (po_some pe_int)) (pe_tup (pa_cons (pe_tupleOf (by rfl) mt (pv 1)) pa_nil))))) pss_nil)
      (pss_cons (ps_if (pt_cmpR op_eq (pe_ix ix_tup (pv 0) pe_int (fun _ _ => rfl)) pe_str (nomark _))
        (pss_cons (ps_setLc (i := 2) (own := [("value", 3), ("_", 4)]) (g := gTup K 2 (gCons (gName 3) (gCons (gName 4) gNil))) (tt := tYes) rfl scWithB.nd rfl rfl (sw_true rfl rfl rfl (by decide +kernel)) (pi_tup (pe_ix ix_tup (pv 0) pe_int (fun _ _ => rfl)))
            (blkOk_by (own := [("value", 3), ("_", 4)]) (N := nWB) (sc := defScope sWithB) (by decide +kernel)) (fun _ _ _ _ _ => pg_tup rfl (pgs_cons (pg_name (i := 3) scWithB.nd rfl (Or.inl rfl)) (pgs_cons (pg_name (i := 4) scWithB.nd rfl (Or.inl rfl)) pgs_nil))) (fun _ _ _ _ _ => pts_nil) (fun _ _ _ _ _ => pv 3))
        (pss_one (ps_ret (pe_op op_catT (pe_slice sl_tup (pv 0) po_none (po_some pe_int)) (pe_tup (pa_cons (pe_tupZip rfl (by rfl) mt (by rfl) mz (pa_cons (pv 2) (pa_cons (pv 1) pa_nil))) pa_nil)))))) pss_nil)
      (pss_one (ps_ret (pv 0))))), ?_⟩
    refine ⟨_, rfl, p, _, 0, _, rfl, rfl, hT, atI_nat (j := 0) rfl, rfl, _, rfl, ?_⟩
    cases hb : y.blocky with
    | false =>
      obtain ⟨f1, f2, f3⟩ := kind_flat hb ho
      refine ite2 (fun z => absurd (of_decide_eq_true z) (kne f1)) (fun _ => ?_)
      refine ⟨_, rfl, p, _, 0, _, rfl, rfl, hT, atI_nat (j := 0) rfl, rfl, _, rfl, ite2 (fun z => absurd (of_decide_eq_true z) (kne f2)) (fun _ => ?_)⟩
      refine ⟨_, rfl, p, _, 0, _, rfl, rfl, hT, atI_nat (j := 0) rfl, rfl, _, rfl, ite2 (fun z => absurd (of_decide_eq_true z) (kne f3)) (fun _ => ?_)⟩
      refine ⟨_, rfl, q _ H (Same.refl H) fun M sM _ => ?_⟩
      have er : y.repl z ys = y := by cases y <;> first | (cases hb; done) | rfl
      rw [er]
      have a := hat.same sM
      cases y <;> first | (cases hb; done) | (simp only [It.At] at a ⊢; exact a)
    | true =>
      cases y with
      | rep n' amt b =>
        refine ite2 (fun _ => ?_) (fun z => (z (decide_eq_true rfl)).elim)
        simp only [It.At] at hat
        obtain ⟨p', qb, xb, ep, hp', hrow', hb'⟩ := hat
        cases ep
        simp only [It.blocks, List.map_cons, List.map_nil] at hrows
        cases hrows with
        | cons a0 t0 =>
        cases t0
        obtain ⟨q0, xs0, rfl, h0, a0⟩ := a0
        refine ⟨_, rfl, 3, rfl, p, _, rfl, SqT.of (sS _ _ hp'), by simp only [List.length_cons, List.length_nil]; decide, fun p1 hp1 => ?_⟩
        have s1 := same_new hp1 (.tup (cutV [.str "repeat", .str n', kV amt, .ref qb] none (some 3)))
        refine ⟨_, rfl, L, _, 0, _, rfl, rfl, SqL.of (s1 _ _ hL), atI_nat (j := 0) rfl, (by show 1 ≤ sizeLine; decide), fun t ht => ?_⟩
        have s2 := same_new ht (.tup [.ref q0])
        refine ⟨p1, t, [.str "repeat", .str n', kV amt], [.ref q0], rfl, rfl, SqT.of (s2 _ _ upd_same), SqT.of upd_same, by simp, by show 4 ≤ sizeLine; decide, fun z => absurd z (by simp), fun _ p3 hp3 => ?_⟩
        refine q _ _ (s1.trans (s2.trans (same_new hp3 _))) fun M sM nM => ?_
        simp only [It.repl, It.At]
        exact ⟨p3, q0, xs0, rfl, nM _ _ ((s1.trans s2).free hp3) upd_same, .inl (sM _ _ h0), a0.same sM⟩
      | eit n' bs =>
        refine ite2 (fun z => absurd (of_decide_eq_true z) (kne (by simp only [It.kind]; decide +kernel))) (fun _ => ?_)
        refine ⟨_, rfl, p, _, 0, _, rfl, rfl, hT, atI_nat (j := 0) rfl, rfl, _, rfl, ite2 (fun _ => ?_) (fun z => (z (decide_eq_true rfl)).elim)⟩
        simp only [It.At] at hat
        obtain ⟨p', qb, xb, ep, hp', hrow', hb'⟩ := hat
        cases ep
        refine ⟨_, rfl, 2, rfl, p, _, rfl, SqT.of (sS _ _ hp'), by simp only [List.length_cons, List.length_nil]; decide, fun p1 hp1 => ?_⟩
        have s1 := same_new hp1 (.tup (cutV [.str "either", .str n', .ref qb] none (some 2)))
        refine ⟨_, rfl, .inl ⟨L, bl, rfl, SqL.of (s1 _ _ hL), fun t0 ht0 => ⟨(by show 1 ≤ sizeLine; decide), fun t ht => ?_⟩⟩⟩
        have s2 := same_new ht0 (.tup bl)
        have s3 := same_new ht (.tup [.ref t0])
        refine ⟨p1, t, [.str "either", .str n'], [.ref t0], rfl, rfl, SqT.of (s3 _ _ (s2 _ _ upd_same)), SqT.of upd_same, by simp, by show 3 ≤ sizeLine; decide, fun z => absurd z (by simp), fun _ p3 hp3 => ?_⟩
        have s4 := same_new hp3 (.tup ([.str "either", .str n'] ++ [.ref t0]))
        refine q _ _ (s1.trans (s2.trans (s3.trans s4))) fun M sM nM => ?_
        simp only [It.repl, It.At]
        exact ⟨p3, t0, bl, rfl, nM _ _ ((s1.trans (s2.trans s3)).free hp3) upd_same, .inl (nM _ _ (s1.free ht0) ((s3.trans s4) _ _ upd_same)), rowsM_E (hrows.same sM)⟩
      | swi n' tag bs =>
        refine ite2 (fun z => absurd (of_decide_eq_true z) (kne (by simp only [It.kind]; decide +kernel))) (fun _ => ?_)
        refine ⟨_, rfl, p, _, 0, _, rfl, rfl, hT, atI_nat (j := 0) rfl, rfl, _, rfl, ite2 (fun z => absurd (of_decide_eq_true z) (kne (by simp only [It.kind]; decide +kernel))) (fun _ => ?_)⟩
        refine ⟨_, rfl, p, _, 0, _, rfl, rfl, hT, atI_nat (j := 0) rfl, rfl, _, rfl, ite2 (fun _ => ?_) (fun z => (z (decide_eq_true rfl)).elim)⟩
        simp only [It.At] at hat
        obtain ⟨p', qb, xb, ep, hp', hrow', hb'⟩ := hat
        cases ep
        have hq := sS _ _ (rowT hrow')
        have el := hb'.len
        have hb8 : bs.list.length ≤ 8 := hb8
        rw [listB_len] at hb8
        have hbl : bl.length = bs.len := by rw [hrows.len]; simp [It.blocks, listB_len]
        refine ⟨_, rfl, p, _, 3, _, rfl, rfl, SqT.of (sS _ _ hp'), atI_nat (j := 3) rfl, qb, rfl, ⟨_, SqT.of hq⟩, fun D hD => lc_tup (K := K) (a := qb) (xs := xb) (fun i H' => Same H H' ∧ H' D = some (.lst ((bs.vals.take i).map V.int))) ⟨same_new hD _, upd_same⟩ (fun i H' _ z => SqT.of (z.1 _ _ hq)) ?_ ?_⟩
        · rintro i v H2 hi ⟨s2, hacc⟩
          obtain ⟨c, b, pc, q9, zs, gb, rfl, hpc, hrw, hb2⟩ := AtS_item hb' hi
          refine ⟨pc, _, rfl, SqT.of ((sS.trans s2) _ _ hpc), rfl, _, _, rfl, _, _, rfl, rfl, rfl, yes_go ⟨_, rfl, _, hacc, small1000 (by rw [List.length_map, List.length_take, vals_len]; omega), same_set s2 hD, ?_⟩⟩
          rw [upd_same, take_more (vals_get gb), List.map_append]
          rfl
        rintro H2 ⟨s2, hacc⟩
        rw [el, ← vals_len, List.take_length] at hacc
        refine ⟨_, rfl, 3, rfl, p, _, rfl, SqT.of ((sS.trans s2) _ _ hp'), by simp only [List.length_cons, List.length_nil]; decide, fun p1 hp1 => ?_⟩
        have s3 := same_new hp1 (.tup (cutV [.str "switch", .str n', .str tag, .ref qb] none (some 3)))
        refine ⟨_, rfl, _, rfl, D, L, bs.vals.map V.int, bl, rfl, SqL.of (s3 _ _ hacc), SqL.of ((s2.trans s3) _ _ hL), by rw [List.length_map, vals_len, hbl], by rw [List.length_map, vals_len]; omega, fun q4 H4 ps S4 hq4 h4 pl hps => ?_⟩
        refine ⟨(by show 1 ≤ sizeLine; decide), fun t ht => ?_⟩
        have s5 := same_new ht (.tup [.ref q4])
        refine ⟨p1, t, [.str "switch", .str n', .str tag], [.ref q4], rfl, rfl, SqT.of (s5 _ _ (S4 _ _ upd_same)), SqT.of upd_same, by simp, by show 4 ≤ sizeLine; decide, fun z => absurd z (by simp), fun _ p6 hp6 => ?_⟩
        have s6 := same_new hp6 (.tup ([.str "switch", .str n', .str tag] ++ [.ref q4]))
        have s23 := s2.trans s3
        refine q _ _ (s23.trans (S4.trans (s5.trans s6))) fun M sM nM => ?_
        simp only [It.repl, It.At]
        refine ⟨p6, q4, ps, rfl, nM _ _ ((s23.trans (S4.trans s5)).free hp6) upd_same, .inl (nM _ _ (s23.free hq4) ((s5.trans s6) _ _ h4)), rowsM_S (hrows.same sM) (by rw [pl, List.length_map, vals_len, hbl]) ?_⟩
        intro j v e
        obtain ⟨pp, xx, yy, e1, e2, e3, e0, e4⟩ := hps j v e
        exact ⟨pp, xx, yy, e1, e2, e3, nM _ _ (s23.free e0) ((s5.trans s6) _ _ e4)⟩
      | _ => cases hb
end
end Bs

set_option Elab.async false
set_option linter.all false
set_option maxRecDepth 100000
set_option maxHeartbeats 8000000
namespace Bs
open PySem L2
abbrev sEdited : Stmt := top 17
/-! ### the edited items -/
/-- what G holds, and all tuples -/
def tl (G H : Hp) : Hp := fun b => match G b with
  | some o => some o
  | none => match H b with
    | some (.tup xs) => some (.tup xs)
    | _ => none
theorem tl_G {G H : Hp} : Same G (tl G H) := fun b o e => by unfold tl; rw [e]
theorem tl_tup {G H : Hp} (s : Same G H) {b : Addr} {xs : List V} (h : H b = some (.tup xs)) : tl G H b = some (.tup xs) := by
  unfold tl
  cases e : G b with
  | some o => have := s _ _ e; rw [h] at this; cases this; rfl
  | none => rw [h]
theorem tl_le {G H : Hp} (s : Same G H) : Same (tl G H) H := fun b o e => by
  unfold tl at e
  cases g : G b with
  | some u => rw [g] at e; cases e; exact s _ _ g
  | none =>
    rw [g] at e
    cases h : H b with
    | none => rw [h] at e; cases e
    | some u => rw [h] at e; cases u <;> first | (cases e; rfl) | cases e
theorem tl_kp {G H H' : Hp} (s : Same G H) (s' : Same G H') (k : ∀ b xs, H b = some (.tup xs) → H' b = some (.tup xs)) : Same (tl G H) (tl G H') := fun b o e => by
  cases g : G b with
  | some u => unfold tl at e ⊢; rw [g] at e ⊢; exact e
  | none =>
    unfold tl at e
    rw [g] at e
    cases h : H b with
    | none => rw [h] at e; cases e
    | some u =>
      rw [h] at e
      cases u with
      | tup xs => cases e; exact tl_tup s' (k _ _ h)
      | _ => cases e
theorem kp_tl {G H : Hp} (s : Same G H) : Kp true H (tl G H) := ⟨fun b xs h => tl_tup s h, fun z => by cases z⟩
mutual
theorem It.At.unfz {H : Hp} : ∀ {x : It} {v : V}, x.At true H v → x.At false H v
  | .num .., _, h => by simp only [It.At] at h ⊢; exact h
  | .byt .., _, h => by simp only [It.At] at h ⊢; exact h
  | .txt .., _, h => by simp only [It.At] at h ⊢; exact h
  | .chk .., _, h => by simp only [It.At] at h ⊢; exact h
  | .pad .., _, h => by simp only [It.At] at h ⊢; exact h
  | .odd .., _, h => by simp only [It.At] at h ⊢; exact h
  | .rep .., _, h => by simp only [It.At] at h ⊢; obtain ⟨p, q, xs, e, h, r, b⟩ := h; exact ⟨p, q, xs, e, h, at_false r, Its.At.unfz b⟩
  | .eit .., _, h => by simp only [It.At] at h ⊢; obtain ⟨p, q, xs, e, h, r, b⟩ := h; exact ⟨p, q, xs, e, h, at_false r, Blks.AtE.unfz b⟩
  | .swi .., _, h => by simp only [It.At] at h ⊢; obtain ⟨p, q, xs, e, h, r, b⟩ := h; exact ⟨p, q, xs, e, h, at_false r, Blks.AtS.unfz b⟩
theorem Its.At.unfz {H : Hp} : ∀ {x : Its} {v : List V}, x.At true H v → x.At false H v
  | .nil, _, h => by simp only [Its.At] at h ⊢; exact h
  | .cons .., _, h => by simp only [Its.At] at h ⊢; obtain ⟨v, l', e, h, r⟩ := h; exact ⟨v, l', e, It.At.unfz h, Its.At.unfz r⟩
theorem Blks.AtE.unfz {H : Hp} : ∀ {x : Blks} {v : List V}, x.AtE true H v → x.AtE false H v
  | .nil, _, h => by simp only [Blks.AtE] at h ⊢; exact h
  | .cons .., _, h => by simp only [Blks.AtE] at h ⊢; obtain ⟨q, xs, l', e, r, h, t⟩ := h; exact ⟨q, xs, l', e, at_false r, Its.At.unfz h, Blks.AtE.unfz t⟩
theorem Blks.AtS.unfz {H : Hp} : ∀ {x : Blks} {v : List V}, x.AtS true H v → x.AtS false H v
  | .nil, _, h => by simp only [Blks.AtS] at h ⊢; exact h
  | .cons .., _, h => by simp only [Blks.AtS] at h ⊢; obtain ⟨p, q, xs, l', e, hp, r, h, t⟩ := h; exact ⟨p, q, xs, l', e, hp, at_false r, Its.At.unfz h, Blks.AtS.unfz t⟩
end
def spEdited (n : Nat) : Sp := fun vs H Q _ => ∃ (G : Hp) (a m : Addr) (x ys : Its) (xs es : List V) (z : Str) (d : Int), vs = [.ref a, .str z, .ref m] ∧ d + n = 3 ∧ x.ok d = true ∧ x.len ≤ 12 ∧ ys.len ≤ 2 ∧ Same G H ∧ H a = some (.tup xs) ∧ x.At true H xs ∧ H m = some (.tup es) ∧ ys.At false G es ∧
  ∀ r zs H', Same H H' → H' r = some (.tup zs) → (x.repl z ys).At false (tl G H') zs → Q (.ref r) H'
theorem okB_mem : ∀ {bs : Blks} {d : Int} {b : Its}, bs.ok d = true → b ∈ bs.list → b.len ≤ 12
  | .nil, _, _, _, m => by simp [Blks.list] at m
  | .cons v c r, d, b, h, m => by
    rw [Blks.ok, Bool.and_eq_true, Bool.and_eq_true] at h
    rcases List.mem_cons.mp m with e | m
    · rw [e]; exact of_decide_eq_true h.1.1
    · exact okB_mem h.2 m
theorem blocks_len {y : It} {d : Int} (ok : y.ok d = true) {b : Its} (hb : b ∈ y.blocks) : b.len ≤ 12 := by
  cases y with
  | rep n a c =>
    have : b = c := by simpa [It.blocks] using hb
    rw [It.ok, Bool.and_eq_true, Bool.and_eq_true, Bool.and_eq_true] at ok
    rw [this]; exact of_decide_eq_true ok.2.2.1
  | eit n bs => rw [It.ok, Bool.and_eq_true, Bool.and_eq_true, Bool.and_eq_true] at ok; exact okB_mem ok.2.2.2 hb
  | swi n t bs => rw [It.ok, Bool.and_eq_true, Bool.and_eq_true, Bool.and_eq_true] at ok; exact okB_mem ok.2.2.2 hb
  | _ => simp [It.blocks] at hb
section
variable {P : Program} {w : World} {K : PySem.W.Frag} {mg : Str → Option Value} {base : Heap} {f : Addr} {fd : FuncData}
abbrev nEd : List Str := ["items", "name", "made", "found", "item", "block"]
theorem scEdited : FnScope nEd ["items", "name", "made"] (defScope sEdited) := ⟨rfl, rfl, rfl, by decide +kernel, rfl, by decide +kernel, by decide +kernel⟩
theorem ok_edited {n k : Nat} (hk : 1 ≤ k) (F : Fun K "edited" "edited" sEdited f fd) (gW : Cal P w K mg base CX0 1 "with_blocks" ["item", "blocks"] spWithB) (gB : Cal P w K mg base CX0 1 "blocks_of" ["item"] spBlocks) (gS : Cal P w K mg base CX0 k "edited" ["items", "name", "made"] (spSub spEdited n)) (mt : mg "tuple" = none) :
    FnOk P w K mg base CX0 (k + 1) f fd ["items", "name", "made"] (spEdited n) := by
  refine F.ok scEdited (fun vs H Q E h => ?_) (fun cdv A outer s H vs Q E hr h => ?_)
  · obtain ⟨G, a, m, x, ys, xs, es, z, d, rfl, _⟩ := h
    rfl
  · obtain ⟨G, a, m, x, ys, xs, es, z, d, rfl, hd, ok, h12, y1, sG, ha, hat, hm, hes, q⟩ := h
    have hr1 : Room 1 _ := hr.mono hk
    refine ⟨_, pss_cons (ps_set (i := 3) scEdited.nd rfl (.inl rfl) (pe_lst pa_nil))
      (pss_cons (ps_for PassesOwn.never rfl (pi_tup (pv 0)) (pg_name (i := 4) scEdited.nd rfl (.inl rfl))
        (pss_one (ps_if (pt_cmpR op_eq (pe_ix ix_tup (pv 4) pe_int (fun _ _ => rfl)) (pv 1) (nomark _))
          (pss_one (ps_expr (pe_bm PySem.F.plainAttrs_list PySem.F.slot_list_extend PySem.F.type_list_extend mt_extendT (pv 3) (pa_cons (pv 2) pa_nil))))
          (pss_one (ps_expr (pe_bm PySem.F.plainAttrs_list PySem.F.slot_list_append PySem.F.type_list_append mt_append (pv 3) (pa_cons (pe_cal gW hr1 pass0 (pa_cons (pv 4) (pa_cons (pe_lc (own := [("block", 5)]) (g := gName 5) (tt := tYes) rfl scEdited.nd (pi_tup (pe_cal gB hr1 pass0 (pa_cons (pv 4) pa_nil)))
              (blkOk_by (own := [("block", 5)]) (N := nEd) (sc := defScope sEdited) (by decide +kernel)) (fun _ _ _ _ _ => pg_name (i := 5) scEdited.nd rfl (Or.inl rfl)) (fun _ _ _ _ _ => pts_nil) (fun _ _ _ _ _ => pe_cal gS hr pass0 (pa_cons (pv 5) (pa_cons (pv 1) (pa_cons (pv 2) pa_nil))))) pa_nil))) pa_nil)))))))
      (pss_one (ps_ret (pe_tupleOf (by rfl) mt (pv 3))))), ?_⟩
    refine ⟨(by show 0 ≤ sizeLine; decide), fun D hD => ?_⟩
    have s0 := same_new hD (.lst [])
    have el := hat.len
    refine ⟨_, rfl, a, rfl, ⟨_, SqT.of (s0 _ _ ha)⟩, for_tup (K := K) (a := a) (xs := xs) (fun i σ H' => ∃ i4 i5, σ = [some (.ref a), some (.str z), some (.ref m), some (.ref D), i4, i5] ∧ Same H H' ∧ ∃ acc, H' D = some (.lst acc) ∧ ((x.take i).repl z ys).At false (tl G H') acc)
      ⟨none, none, rfl, s0, [], upd_same, by simp [Its.take, Its.repl, Its.At]⟩ (fun i σ H' _ z => by obtain ⟨_, _, _, z, _⟩ := z; exact SqT.of (z _ _ ha)) ?_ ?_⟩
    rotate_left
    · rintro σ H2 ⟨i4, i5, rfl, s2, acc, hacc, hat2⟩
      rw [el, take_all] at hat2
      refine ⟨_, rfl, .inl ⟨D, acc, rfl, SqL.of hacc, fun p hp => ?_⟩⟩
      have s3 := same_new hp (.tup acc)
      exact q p acc _ (s2.trans s3) upd_same (hat2.same (tl_kp (sG.trans s2) (sG.trans (s2.trans s3)) fun b xs e => s3 _ _ e))
    rintro i v σ H2 hi ⟨i4, i5, rfl, s2, acc, hacc, hat2⟩
    obtain ⟨y, gy, ay⟩ := At_item (hat.same s2) hi
    have oky := get_okd ok gy
    obtain ⟨b8, bok⟩ := blocks_ok oky
    obtain ⟨p, rest, rfl, hp, hlenp⟩ := At_head ay
    have sG2 := sG.trans s2
    have hT : SqT K H2 p _ := SqT.of hp
    have al : acc.length ≤ 24 := by
      rw [hat2.len]
      have h1 := repl_len2 (z := z) y1 (x.take i)
      have h2 := take_len_le x i
      omega
    have sl : acc.length < sizeLine := small1000 (by omega)
    have tk := repl_take (z := z) (ys := ys) gy
    have kD : ∀ {H3 : Hp} (u : HO), Same H2 H3 → ∀ b xs, H2 b = some (.tup xs) → (upd H3 D u) b = some (.tup xs) := fun u s b xs e => by rw [upd_ne (ne_of e hacc (by intro z; cases z))]; exact s _ _ e
    refine ⟨_, rfl, p, _, 1, _, rfl, rfl, hT, atI_nat (j := 1) rfl, _, rfl, rfl, _, rfl, ?_⟩
    by_cases hz : y.name = z
    · rw [decide_eq_true (show V.str y.name = V.str z by rw [hz])]
      refine iteT ?_
      have eone : y.one z ys = ys := by unfold It.one; rw [if_pos hz]
      rw [eone] at tk
      refine ⟨_, rfl, .inl ⟨rfl, _, SqL.of hacc⟩, _, rfl, D, m, acc, es, rfl, rfl, hacc, SqT.of (s2 _ _ hm), le_line (by have := hes.len; omega), ?_⟩
      have S3 : Same H (upd H2 D (.lst (acc ++ es))) := same_set s2 hD
      refine ⟨_, _, rfl, S3, _, upd_same, ?_⟩
      rw [tk]
      exact app_at (hat2.same (tl_kp sG2 (sG.trans S3) (kD _ (Same.refl _)))) (hes.same tl_G)
    · rw [decide_eq_false (kne hz)]
      refine iteF ?_
      have eone : y.one z ys = .cons (y.repl z ys) .nil := by unfold It.one; rw [if_neg hz]
      rw [eone] at tk
      refine ⟨_, rfl, .inl ⟨rfl, _, SqL.of hacc⟩, _, rfl, _, rfl, .ref p, y, rfl, odd_of oky, ay, by omega, fun r1 zs1 H3 s3 hr1' hrows1 => ?_⟩
      have sG3 := sG2.trans s3
      have hacc3 := s3 _ _ hacc
      refine ⟨r1, rfl, ⟨_, SqT.of hr1'⟩, fun D2 hD2 => lc_tup (K := K) (a := r1) (xs := zs1) (fun j H' => Same H3 H' ∧ ∃ ac, H' D2 = some (.lst ac) ∧ RowsM (tl G H') ac ((y.blocks.take j).map (·.repl z ys))) ⟨same_new hD2 _, [], upd_same, .nil⟩ (fun j H' _ z => SqT.of (z.1 _ _ hr1')) ?_ ?_⟩
      · rintro j u H4 hj ⟨s4, ac, hac, hrm⟩
        obtain ⟨b, q9, xb, gb, rfl, hq9, hb9⟩ := (hrows1.kp (.of s4)).get hj
        have mb := List.mem_of_getElem? gb
        obtain ⟨d2, bk⟩ := bok b mb
        have sG4 := sG3.trans s4
        cases n with
        | zero => exfalso; omega
        | succ n =>
        refine ⟨rfl, yes_go ?_⟩
        refine ⟨_, rfl, _, rfl, _, rfl, G, q9, m, b, ys, xb, es, z, d + 1, rfl, by omega, bk, blocks_len oky mb, y1, sG4, hq9, hb9, (s2.trans (s3.trans s4)) _ _ hm, hes, fun r zs H5 s5 h5 a5 => ?_⟩
        have hac5 := s5 _ _ hac
        have al2 : ac.length ≤ 8 := by rw [hrm.len, List.length_map, List.length_take]; omega
        have S6 : Same H3 (upd H5 D2 (.lst (ac ++ [.ref r]))) := same_set (s4.trans s5) hD2
        have k56 : ∀ b xs, H5 b = some (.tup xs) → (upd H5 D2 (.lst (ac ++ [.ref r]))) b = some (.tup xs) := fun b xs e => by rw [upd_ne (ne_of e hac5 (by intro z; cases z))]; exact e
        have sG6 := sG3.trans S6
        refine ⟨ac, hac5, small1000 (by omega), S6, ac ++ [.ref r], upd_same, ?_⟩
        rw [take_more gb, List.map_append]
        exact RowsM.app ⟨r, zs, rfl, tl_tup sG6 (k56 _ _ h5), a5.same (tl_kp (sG4.trans s5) sG6 k56)⟩ (hrm.same (tl_kp sG4 sG6 fun b xs e => k56 _ _ (s5 _ _ e)))
      · rintro H4 ⟨s4, ac, hac, hrm⟩
        rw [hrows1.len, List.take_length] at hrm
        have sG4 := sG3.trans s4
        refine ⟨.ref p, D2, y, z, ys, ac, tl G H4, rfl, odd_of oky, tl_le sG4, (ay.same (s3.trans s4)).kp (kp_tl sG4), b8, hac, hrm, fun v' H7 s7 hM => ?_⟩
        have s27 := s3.trans (s4.trans s7)
        have hacc7 := s27 _ _ hacc
        refine ⟨D, acc, _, rfl, rfl, hacc7, sl, ?_⟩
        have S8 : Same H (upd H7 D (.lst (acc ++ [v']))) := same_set (s2.trans s27) hD
        have k78 : ∀ b xs, H7 b = some (.tup xs) → (upd H7 D (.lst (acc ++ [v']))) b = some (.tup xs) := fun b xs e => by rw [upd_ne (ne_of e hacc7 (by intro z; cases z))]; exact e
        have sG8 := sG.trans S8
        refine ⟨_, _, rfl, S8, _, upd_same, ?_⟩
        rw [tk]
        refine app_at (hat2.same (tl_kp sG2 sG8 fun b xs e => k78 _ _ (s27 _ _ e))) ?_
        simp only [Its.At]
        exact ⟨v', [], rfl, hM _ (tl_kp sG4 sG8 fun b xs e => k78 _ _ (s7 _ _ e)) (fun b xs _ e => tl_tup sG8 (k78 _ _ e)), rfl⟩
end
end Bs

set_option Elab.async false
set_option linter.all false
set_option maxRecDepth 100000
set_option maxHeartbeats 4000000
namespace Bs
open PySem L2
/-! ### the shapes of a bench: which are shapes -/
def Its.toL : Its → List It
  | .nil => []
  | .cons x r => x :: r.toL
theorem toL_len : ∀ x : Its, x.toL.length = x.len
  | .nil => rfl
  | .cons y r => by simp [Its.toL, Its.len, toL_len r]
/-- an item without blocks that may be no item -/
def It.pl (k0 : Int) : It → Prop
  | .num n s o lo hi => isName n = true ∧ s = 1 ∧ o = "big" ∧ 0 ≤ lo ∧ 0 ≤ hi ∧ hi ≤ 255
  | .byt n a => isName n = true ∧ ∃ k, a = .inl k ∧ k0 ≤ k
  | .txt n s m => isName n = true ∧ 0 ≤ s ∧ 0 ≤ m ∧ m ≤ 64
  | .odd k _ _ => k = "box"
  | _ => False
/-- an item of a bench's shapes -/
def It.bc : It → Prop
  | .eit n (.cons _ b0 (.cons _ b1 .nil)) => isName n = true ∧ b0.len ≤ 1 ∧ b1.len ≤ 1 ∧ (∀ y ∈ b0.toL, y.pl 1) ∧ ∀ y ∈ b1.toL, y.pl 1
  | y => y.pl 0
def lvP : It → Bool
  | .num _ _ _ lo hi => decide (lo ≤ hi)
  | .byt _ (.inl k) => decide (k ≤ 64)
  | .txt _ s _ => decide (s ≤ 255)
  | _ => false
def lvI : It → Bool
  | .eit _ (.cons _ b0 (.cons _ b1 .nil)) => !(decide (b0.len = 0) && decide (b1.len = 0)) && (decide (b0.app b1).names.Nodup && (b0.app b1).toL.all lvP)
  | y => lvP y
def lv (x : Its) : Bool := decide x.names.Nodup && x.toL.all lvI
theorem pl_ok {y : It} {k0 d : Int} (h : y.pl k0) (hd : d ≤ 3) : y.ok d = !y.isOdd := by
  cases y with
  | num => simp only [It.pl] at h; simp [It.ok, It.isOdd, It.name, h.1, hd]
  | byt => simp only [It.pl] at h; simp [It.ok, It.isOdd, It.name, h.1, hd]
  | txt => simp only [It.pl] at h; simp [It.ok, It.isOdd, It.name, h.1, hd]
  | odd => simp [It.ok, It.isOdd]
  | _ => exact h.elim
theorem pl_lens {y : It} {k0 : Int} (h0 : 0 ≤ k0) (h1 : k0 ≤ 1) (h : y.pl k0) : (lvP y = true → ∃ l : Int × Int, (∀ f, y.lens f = some l) ∧ k0 ≤ l.1) ∧ (lvP y = false → ∀ f, y.lens f = none) := by
  cases y with
  | num n s o lo hi =>
    obtain ⟨_, rfl, rfl, a, b, c⟩ := h
    have e : numOk 1 "big" lo hi = lvP (.num n 1 "big" lo hi) := by
      unfold numOk lvP
      by_cases q : lo ≤ hi
      · simp [q, a, b, c]
      · simp [q]
    refine ⟨fun q => ⟨(1, 1), fun f => ?_, h1⟩, fun q f => ?_⟩
    · simp only [It.lens, e, q, if_true]
    · simp only [It.lens, e, q, Bool.false_eq_true, if_false]
  | byt n a =>
    obtain ⟨_, k, rfl, hk⟩ := h
    refine ⟨fun q => ⟨(k, k), fun f => ?_, hk⟩, fun q f => ?_⟩
    · have q := of_decide_eq_true q
      simp only [It.lens, amount]
      rw [if_pos ⟨by omega, q⟩]
    · have q := of_decide_eq_false q
      simp only [It.lens, amount]
      rw [if_neg (fun z => q z.2)]
  | txt n s m =>
    obtain ⟨_, a, b, c⟩ := h
    refine ⟨fun q => ⟨(1, m + 1), fun f => ?_, h1⟩, fun q f => ?_⟩
    · have q := of_decide_eq_true q
      simp only [It.lens]
      rw [if_pos ⟨⟨a, q⟩, b, c⟩]
    · have q := of_decide_eq_false q
      simp only [It.lens]
      rw [if_neg (fun z => q z.1.2)]
  | odd => exact ⟨fun q => (by cases q), fun _ f => by simp only [It.lens]⟩
  | _ => exact h.elim
theorem pl_odd {y : It} {k0 : Int} (h : y.pl k0) (q : lvP y = true) : y.isOdd = false := by
  cases y <;> first | rfl | (cases q; done)
/-- a block of at most one such item -/
theorem blk_lens {b : Its} (h1 : b.len ≤ 1) (h : ∀ y ∈ b.toL, y.pl 1) : (b.toL.all lvP = true → ∃ l : Int × Int, (∀ f, b.lens f = some l) ∧ (l.1 = 0 ↔ b.len = 0) ∧ 0 ≤ l.1) ∧ (b.toL.all lvP = false → ∀ f, b.lens f = none) := by
  cases b with
  | nil => exact ⟨fun _ => ⟨(0, 0), fun f => by simp [Its.lens], by simp [Its.len], Int.le_refl 0⟩, fun q => by simp [Its.toL] at q⟩
  | cons y r =>
    cases r with
    | cons z t => simp only [Its.len] at h1; omega
    | nil =>
      obtain ⟨a, b⟩ := pl_lens (by decide) (by decide) (h y (by simp [Its.toL]))
      have e : (Its.cons y .nil).toL.all lvP = lvP y := by simp [Its.toL]
      rw [e]
      refine ⟨fun q => ?_, fun q f => ?_⟩
      · obtain ⟨l, hl, h2⟩ := a q
        refine ⟨l, fun f => ?_, ⟨fun z => by omega, fun z => by simp [Its.len] at z⟩, by omega⟩
        rw [lens_cons, hl f]
        simp [Its.lens]
      · rw [lens_cons, b q f]
theorem blk_ok {d : Int} (hd : d ≤ 3) : ∀ {b : Its}, (∀ y ∈ b.toL, y.pl 1) → b.ok d = b.toL.all fun y => !y.isOdd
  | .nil, _ => by simp [Its.ok, Its.toL]
  | .cons y r, h => by
    rw [Its.ok, blk_ok hd (b := r) (fun z hz => h z (List.mem_cons_of_mem _ hz)), pl_ok (h y (List.mem_cons_self ..)) hd]
    simp [Its.toL]
/-- an item that can stand, whatever stands ahead -/
def stI : It → Bool
  | .eit _ (.cons _ b0 (.cons _ b1 .nil)) => !(decide (b0.len = 0) && decide (b1.len = 0)) && (b0.toL.all lvP && b1.toL.all lvP)
  | y => lvP y
theorem all_lvP {l : List It} (h : l.all lvP = true) : (l.all fun y => !y.isOdd) = true := by
  rw [List.all_eq_true] at h ⊢
  intro y hy
  have q := h y hy
  cases y <;> first | rfl | (cases q; done)
theorem bc_st {y : It} (h : y.bc) : (stI y = true → y.ok 0 = true ∧ ∃ l, ∀ f, y.lens f = some l) ∧ (stI y = false → y.ok 0 = false ∨ ∀ f, y.lens f = none) := by
  have plain : y.pl 0 → stI y = lvP y → (stI y = true → y.ok 0 = true ∧ ∃ l, ∀ f, y.lens f = some l) ∧ (stI y = false → y.ok 0 = false ∨ ∀ f, y.lens f = none) := fun hp e => by
    rw [e]
    obtain ⟨a, b⟩ := pl_lens (by decide) (by decide) hp
    refine ⟨fun q => ?_, fun q => .inr (b q)⟩
    obtain ⟨l, hl, _⟩ := a q
    exact ⟨by rw [pl_ok hp (by decide), pl_odd hp q]; rfl, l, hl⟩
  cases y with
  | eit n bs =>
    match bs, h with
    | .cons v b0 (.cons u b1 .nil), h =>
      obtain ⟨hn, l0, l1, p0, p1⟩ := h
      obtain ⟨a0, c0⟩ := blk_lens l0 p0
      obtain ⟨a1, c1⟩ := blk_lens l1 p1
      have eo : (It.eit n (.cons v b0 (.cons u b1 .nil))).ok 0 = ((b0.toL.all fun y => !y.isOdd) && (b1.toL.all fun y => !y.isOdd)) := by
        simp only [It.ok, Blks.ok, Blks.len, hn]
        rw [blk_ok (by decide) p0, blk_ok (by decide) p1]
        have m0 : b0.len ≤ 12 := by omega
        have m1 : b1.len ≤ 12 := by omega
        simp [m0, m1]
      refine ⟨fun q => ?_, fun q => ?_⟩
      · simp only [stI, Bool.and_eq_true] at q
        obtain ⟨q0, q1, q2⟩ := q
        obtain ⟨x0, e0, z0, y0⟩ := a0 q1
        obtain ⟨x1, e1, z1, y1⟩ := a1 q2
        refine ⟨by rw [eo, all_lvP q1, all_lvP q2]; rfl, (min x0.1 x1.1, max x0.2 x1.2), fun f => ?_⟩
        have ne : ¬ (x0.1 = 0 ∧ x1.1 = 0) := fun ⟨a, b⟩ => by
          rw [decide_eq_true (z0.mp a), decide_eq_true (z1.mp b)] at q0
          cases q0
        have eb : Blks.lens f (.cons v b0 (.cons u b1 .nil)) = some [x0, x1] := by rw [lensB_cons, e0 f, lensB_cons, e1 f]; simp [Blks.lens]
        simp only [It.lens, eb]
        have fl : ([x0, x1].filter fun p => decide (p.1 = 0)).length ≤ 1 := by
          by_cases h0 : x0.1 = 0
          · have h1 : ¬ x1.1 = 0 := fun z => ne ⟨h0, z⟩
            simp [List.filter, h0, h1]
          · by_cases h1 : x1.1 = 0 <;> simp [List.filter, h0, h1]
        rw [if_pos fl]
        simp [spread]
      · by_cases q1 : b0.toL.all lvP = true
        · by_cases q2 : b1.toL.all lvP = true
          · right
            intro f
            obtain ⟨x0, e0, z0, y0⟩ := a0 q1
            obtain ⟨x1, e1, z1, y1⟩ := a1 q2
            have eb : Blks.lens f (.cons v b0 (.cons u b1 .nil)) = some [x0, x1] := by rw [lensB_cons, e0 f, lensB_cons, e1 f]; simp [Blks.lens]
            simp only [stI, q1, q2, Bool.and_true, Bool.not_eq_false', Bool.and_eq_true, decide_eq_true_eq] at q
            have h0 := z0.mpr q.1
            have h1 := z1.mpr q.2
            simp only [It.lens, eb]
            rw [if_neg (by simp [List.filter, h0, h1])]
          · right
            intro f
            simp only [It.lens]
            rw [lensB_cons]
            have : b0.lens f = none ∨ ∃ l, b0.lens f = some l := by cases b0.lens f <;> simp
            rcases this with e | ⟨l, e⟩
            · rw [e]
            · rw [e, lensB_cons, c1 (by simpa using q2) f]; rfl
        · right
          intro f
          simp only [It.lens]
          rw [lensB_cons, c0 (by simpa using q1) f]
    | .nil, h => exact h.elim
    | .cons _ _ .nil, h => exact h.elim
    | .cons _ _ (.cons _ _ (.cons _ _ _)), h => exact h.elim
  | num => exact plain h rfl
  | byt => exact plain h rfl
  | txt => exact plain h rfl
  | odd => exact plain h rfl
  | _ => exact h.elim
end Bs

set_option Elab.async false
set_option linter.all false
set_option maxRecDepth 100000
set_option maxHeartbeats 4000000
namespace Bs
open PySem L2
theorem app_toL : ∀ (x y : Its), (x.app y).toL = x.toL ++ y.toL
  | .nil, y => rfl
  | .cons z r, y => by simp [Its.app, Its.toL, app_toL r y]
theorem pl_walk {y : It} {k0 d : Int} (h : y.pl k0) : y.walk d = [(d, y)] := by
  cases y <;> first | rfl | exact h.elim
theorem walk_plain {d k0 : Int} : ∀ {b : Its}, (∀ y ∈ b.toL, y.pl k0) → b.walk d = b.toL.map fun y => (d, y)
  | .nil, _ => by simp [Its.walk, Its.toL]
  | .cons y r, h => by
    rw [Its.walk, walk_plain (b := r) (fun z hz => h z (List.mem_cons_of_mem _ hz)), pl_walk (h y (List.mem_cons_self ..))]
    simp [Its.toL]
theorem names_plain {k0 : Int} {b : Its} (h : ∀ y ∈ b.toL, y.pl k0) : b.names = b.toL.map It.name := by
  unfold Its.names
  rw [walk_plain h, List.map_map]
  rfl
/-- a bench item's walk -/
theorem bc_walk {y : It} (h : y.bc) : (∃ n v b0 u b1, y = .eit n (.cons v b0 (.cons u b1 .nil)) ∧ (∀ d, y.walk d = (d, y) :: (b0.toL ++ b1.toL).map fun z => (d + 1, z)) ∧ isName n = true ∧ b0.len ≤ 1 ∧ b1.len ≤ 1 ∧ (∀ z ∈ b0.toL, z.pl 1) ∧ ∀ z ∈ b1.toL, z.pl 1) ∨ (y.pl 0 ∧ stI y = lvP y ∧ lvI y = lvP y) := by
  cases y with
  | eit n bs =>
    match bs, h with
    | .cons v b0 (.cons u b1 .nil), h =>
      obtain ⟨hn, l0, l1, p0, p1⟩ := h
      refine .inl ⟨n, v, b0, u, b1, rfl, fun d => ?_, hn, l0, l1, p0, p1⟩
      simp only [It.walk, Blks.walk, List.append_nil]
      rw [walk_plain p0, walk_plain p1, List.map_append]
    | .nil, h => exact h.elim
    | .cons _ _ .nil, h => exact h.elim
    | .cons _ _ (.cons _ _ (.cons _ _ _)), h => exact h.elim
  | num => exact .inr ⟨h, rfl, rfl⟩
  | byt => exact .inr ⟨h, rfl, rfl⟩
  | txt => exact .inr ⟨h, rfl, rfl⟩
  | odd => exact .inr ⟨h, rfl, rfl⟩
  | _ => exact h.elim
theorem bc_len {y : It} (h : y.bc) (d : Int) : (y.walk d).length ≤ 3 ∧ ∀ p ∈ y.walk d, p.2.isChk = false := by
  have nc : ∀ {z : It} {k0 : Int}, z.pl k0 → z.isChk = false := fun {z k0} hz => by cases z <;> first | rfl | exact hz.elim
  rcases bc_walk h with ⟨n, v, b0, u, b1, e, hw, _, l0, l1, p0, p1⟩ | ⟨hp, _⟩
  · rw [hw d]
    have t0 := toL_len b0
    have t1 := toL_len b1
    refine ⟨by simp only [List.length_cons, List.length_map, List.length_append]; omega, fun p hp => ?_⟩
    rcases List.mem_cons.mp hp with hp | hp
    · rw [hp, e]; rfl
    · obtain ⟨z, hz, rfl⟩ := List.mem_map.mp hp
      rcases List.mem_append.mp hz with hz | hz
      · exact nc (p0 z hz)
      · exact nc (p1 z hz)
  · rw [pl_walk hp]
    exact ⟨by simp, fun p h => by rw [List.mem_singleton.mp h]; exact nc hp⟩
theorem bc_walks {d : Int} : ∀ {x : Its}, (∀ y ∈ x.toL, y.bc) → (x.walk d).length ≤ 3 * x.len ∧ ∀ p ∈ x.walk d, p.2.isChk = false
  | .nil, _ => ⟨by simp [Its.walk], fun p h => by simp [Its.walk] at h⟩
  | .cons y r, h => by
    obtain ⟨a, b⟩ := bc_walks (d := d) (x := r) fun z hz => h z (List.mem_cons_of_mem _ hz)
    obtain ⟨c, e⟩ := bc_len (h y (List.mem_cons_self ..)) d
    refine ⟨by simp only [Its.walk, List.length_append, Its.len]; omega, fun p hp => ?_⟩
    simp only [Its.walk] at hp
    rcases List.mem_append.mp hp with hp | hp
    · exact e p hp
    · exact b p hp
theorem ok_all {d : Int} : ∀ {x : Its}, x.ok d = x.toL.all (·.ok d)
  | .nil => by simp [Its.ok, Its.toL]
  | .cons y r => by rw [Its.ok, ok_all (x := r)]; simp [Its.toL]
theorem lens_some : ∀ {x : Its} {f : Env}, (∀ y ∈ x.toL, ∃ l, ∀ f, y.lens f = some l) → ∃ l, x.lens f = some l
  | .nil, f, _ => ⟨(0, 0), by simp [Its.lens]⟩
  | .cons y r, f, h => by
    obtain ⟨l, hl⟩ := h y (List.mem_cons_self ..)
    obtain ⟨m, hm⟩ := lens_some (x := r) (f := y.seen f) fun z hz => h z (List.mem_cons_of_mem _ hz)
    exact ⟨_, by rw [lens_cons, hl f, hm]; rfl⟩
theorem lens_none : ∀ {x : Its} {f : Env} {y : It}, y ∈ x.toL → (∀ f, y.lens f = none) → x.lens f = none
  | .nil, f, y, h, _ => by cases h
  | .cons z r, f, y, h, e => by
    rw [lens_cons]
    rcases List.mem_cons.mp h with h | h
    · rw [← h, e f]
    · rw [lens_none h e]
      cases z.lens f <;> rfl
theorem names_cons (y : It) (r : Its) : (Its.cons y r).names = (y.walk 0).map (·.2.name) ++ r.names := by
  show ((y.walk 0 ++ r.walk 0)).map _ = _
  rw [List.map_append]; rfl
theorem names_in : ∀ {x : Its} {y : It}, y ∈ x.toL → x.names.Nodup → ((y.walk 0).map (·.2.name)).Nodup
  | .nil, y, h, _ => by cases h
  | .cons z r, y, h, nd => by
    rw [names_cons] at nd
    have nd := List.nodup_append.mp nd
    rcases List.mem_cons.mp h with h | h
    · rw [h]; exact nd.1
    · exact names_in h nd.2.1
theorem lv_st {y : It} (h : y.bc) : (lvI y = true → stI y = true) ∧ (((y.walk 0).map (·.2.name)).Nodup → stI y = true → lvI y = true) := by
  rcases bc_walk h with ⟨n, v, b0, u, b1, rfl, hw, _, l0, l1, p0, p1⟩ | ⟨hp, e1, e2⟩
  · have ea : (b0.app b1).toL.all lvP = (b0.toL.all lvP && b1.toL.all lvP) := by rw [app_toL, List.all_append]
    refine ⟨fun q => ?_, fun nd q => ?_⟩
    · simp only [lvI, Bool.and_eq_true] at q
      simp only [stI, Bool.and_eq_true]
      rw [ea, Bool.and_eq_true] at q
      exact ⟨q.1, q.2.2⟩
    · simp only [stI, Bool.and_eq_true] at q
      simp only [lvI, Bool.and_eq_true]
      refine ⟨q.1, decide_eq_true ?_, by rw [ea, Bool.and_eq_true]; exact q.2⟩
      rw [names_plain (k0 := 1) (fun z hz => by rw [app_toL] at hz; rcases List.mem_append.mp hz with hz | hz; exact p0 z hz; exact p1 z hz), app_toL]
      rw [hw 0, List.map_cons, List.nodup_cons, List.map_map] at nd
      exact nd.2
  · rw [e1, e2]; exact ⟨id, fun _ => id⟩
theorem shape_lv {x : Its} (h : ∀ y ∈ x.toL, y.bc) (h3 : x.len ≤ 3) : x.shape = (decide (1 ≤ x.len) && lv x) := by
  obtain ⟨w, nc⟩ := bc_walks (d := 0) h
  have fl : ((x.walk 0).filter (·.2.isChk)) = [] := List.filter_eq_nil_iff.mpr fun p hp => by rw [nc p hp]; decide
  have e : x.shape = (x.ok 0 && (decide (1 ≤ x.len) && (decide x.names.Nodup && (x.lens fun _ => none).isSome))) := by
    unfold Its.shape
    rw [fl, decide_eq_true (show x.len ≤ 12 by omega), decide_eq_true (show (x.walk 0).length ≤ 30 by omega), decide_eq_true (show ([] : List (Int × It)).length ≤ 1 by decide)]
    simp only [Bool.true_and]
  rw [e]
  by_cases st : ∀ y ∈ x.toL, stI y = true
  · have o : x.ok 0 = true := by rw [ok_all, List.all_eq_true]; exact fun y hy => ((bc_st (h y hy)).1 (st y hy)).1
    obtain ⟨l, hl⟩ := lens_some (x := x) (f := fun _ => none) fun y hy => ((bc_st (h y hy)).1 (st y hy)).2
    rw [o, hl]
    unfold lv
    by_cases nd : x.names.Nodup
    · have : x.toL.all lvI = true := by rw [List.all_eq_true]; exact fun y hy => (lv_st (h y hy)).2 (names_in hy nd) (st y hy)
      rw [this, decide_eq_true nd]; simp
    · rw [decide_eq_false nd]; simp
  · obtain ⟨y, hy, hst⟩ : ∃ y, y ∈ x.toL ∧ stI y = false := by
      apply Classical.byContradiction
      intro c
      exact st fun y hy => by
        cases e : stI y with
        | true => rfl
        | false => exact absurd ⟨y, hy, e⟩ c
    have r : lv x = false := by
      unfold lv
      have : x.toL.all lvI = false := by
        rw [List.all_eq_false]
        exact ⟨y, hy, fun q => by rw [(lv_st (h y hy)).1 q] at hst; cases hst⟩
      rw [this, Bool.and_false]
    rw [r, Bool.and_false]
    rcases (bc_st (h y hy)).2 hst with q | q
    · have : x.ok 0 = false := by rw [ok_all, List.all_eq_false]; exact ⟨y, hy, by rw [q]; decide⟩
      rw [this, Bool.false_and]
    · rw [lens_none hy q]; simp
/-! ### an edited shape is such again -/
theorem pl_repl {y : It} {k0 : Int} {z : Str} {ys : Its} (h : y.pl k0) : y.repl z ys = y := by cases y <;> first | rfl | exact h.elim
theorem repl_toL {z : Str} {ys : Its} {P : It → Prop} (hys : ∀ y ∈ ys.toL, P y) : ∀ {x : Its}, (∀ y ∈ x.toL, P (y.repl z ys)) → ∀ y ∈ (x.repl z ys).toL, P y
  | .nil, _, y, hy => by simp [Its.repl, Its.toL] at hy
  | .cons w r, h, y, hy => by
    rw [repl_cons, app_toL] at hy
    rcases List.mem_append.mp hy with hy | hy
    · unfold It.one at hy
      split at hy
      · exact hys y hy
      · have : y = w.repl z ys := by simpa [Its.toL] using hy
        rw [this]; exact h w (List.mem_cons_self ..)
    · exact repl_toL hys (x := r) (fun v hv => h v (List.mem_cons_of_mem _ hv)) y hy
theorem pl_mono {y : It} (h : y.pl 1) : y.pl 0 := by
  cases y with
  | byt => obtain ⟨a, k, b, c⟩ := h; exact ⟨a, k, b, by omega⟩
  | _ => first | exact h | exact h.elim
theorem pl_bc {y : It} (h : y.pl 0) : y.bc := by cases y <;> first | exact h | exact h.elim
theorem bc_repl {x : Its} {z : Str} {ys : Its} (h1 : ys.len ≤ 1) (hys : ∀ y ∈ ys.toL, y.pl 1) (h : ∀ y ∈ x.toL, y.bc) : ∀ y ∈ (x.repl z ys).toL, y.bc := by
  refine repl_toL (fun y hy => pl_bc (pl_mono (hys y hy))) fun y hy => ?_
  rcases bc_walk (h y hy) with ⟨n, v, b0, u, b1, rfl, hw, hn, l0, l1, p0, p1⟩ | ⟨hp, _⟩
  · have q0 : ∀ y ∈ (b0.repl z ys).toL, y.pl 1 := repl_toL hys fun w hw => by rw [pl_repl (p0 w hw)]; exact p0 w hw
    have q1 : ∀ y ∈ (b1.repl z ys).toL, y.pl 1 := repl_toL hys fun w hw => by rw [pl_repl (p1 w hw)]; exact p1 w hw
    have m0 := repl_len h1 (z := z) b0
    have m1 := repl_len h1 (z := z) b1
    exact ⟨hn, by omega, by omega, q0, q1⟩
  · rw [pl_repl hp]; exact pl_bc hp
end Bs

set_option Elab.async false
set_option linter.all false
set_option maxRecDepth 100000
set_option maxHeartbeats 4000000
/-! isinstance(e, c), e a caught exception that has a dict of its own -/
namespace Rj
open PySem PySem.Spec PySem.Calls PyProof.Rows PySem.W L2
section
variable {prog : Program} {w : World} {A : Around} {E : Value → Shared → Prop} {s : Shared} {K : Frag} {x D : Addr} {ox : Obj} {od : Option Obj}
theorem findObj_dataD {C : Addr} {name : Str} {a g : Value} (hc : (clsIn K C).isSome = true) (ha : findIn K (.ref C) name = some (some a)) (hg : specialIn K a "__get__" = some (some g)) (ht : takesIn K a = some true) : findObj K C od name = some (.bind g a) := by
  obtain ⟨cd, hc⟩ := Option.isSome_iff_exists.mp hc
  unfold findObj
  rw [hc, Option.bind_some, ha, Option.bind_some]
  simp [hg, ht]
theorem kin_classD {Q : Option Value → Shared → Prop} (hga : findIn K (.ref D) "__getattribute__" = some (some (.builtin "BaseException.__getattribute__"))) (hgt : findIn K (.ref D) "__getattr__" = some none) (hsub : subIn K (.ref D) (.type "BaseException") = some true)
    (hdct : hasDictIn K D = true) (ha : findIn K (.ref D) "__class__" = some (some (.builtin "object.__class__")))
    (hn : specialIn K (.builtin "object.__class__") "__get__" = some (some (.builtin "getset_descriptor.__get__"))) (htk : takesIn K (.builtin "object.__class__") = some true) (hm : mroIn K D (.type "object") = some true)
    (X : K.In s.heap) (I : InstAt s.heap x ox D od) (h : Q (some (.ref D)) { s with toks := s.toks + 1 }) : wpAny (model prog w) A (getAttr? (.ref x) "__class__") Q E s := by
  have hf : findObj K D od "__class__" = some (.bind (.builtin "getset_descriptor.__get__") (.builtin "object.__class__")) := findObj_dataD (by obtain ⟨cd, hc, _⟩ := any_some hdct; rw [hc]; rfl) ha hn htk
  obtain ⟨hp, g, d, t, os⟩ := s
  have L0 := I.type (M := model prog w)
  have L1 := looks_findIn (M := model prog w) X hga
  have L2 := looks_findIn (M := model prog w) X hgt
  have L3 := looks_find (M := model prog w) X I hf
  have sub : Looks (model prog w) hp (isInstance (.ref x) (.type "BaseException")) true := L0.andThen (looks_subIn X hsub)
  have hx0 : (false && onTheHeap (Value.builtin "BaseException.__getattribute__")) = false := rfl
  have hx2 : (Value.builtin "BaseException.__getattribute__" == Value.builtin "object.__getattribute__") = false := by decide +kernel
  have hx1 : (onTheHeap (Value.ref D) && Value.builtin "BaseException.__getattribute__" == Value.builtin "object.__getattribute__") = false := by rw [hx2]; rfl
  unfold getAttr? getAttrBy? getAttrBy
  refine wpAny_bind (wpAny_mkText (wpAny_bind (wpAny_attempt (wpAny_holding (wpAny_bind (L0.at (wpAny_bind (L1.at ?_))))))))
  show wpAny _ _ (if (onTheHeap (Value.ref D) && Value.builtin "BaseException.__getattribute__" == Value.builtin "object.__getattribute__") = true then _ else _) _ _ _
  rw [hx1, if_neg Bool.false_ne_true]
  unfold getAttrByItsOwn hookBefore
  refine wpAny_bind ?_
  rw [if_pos (show onTheHeap (Value.ref D) = true from rfl)]
  refine L2.at ?_
  refine wpAny_bind (wpAny_attempt (wpAny_holding ?_))
  unfold callGetattribute
  rw [hx0, if_neg Bool.false_ne_true]
  unfold boundAndCalled
  rw [PySem.F.excAttr_ValueError.ga.bind (.ref x)]
  refine wpAny_bind (wpAny_pure ?_)
  show wpAny _ _ (call (.builtin "BaseException.__getattribute__") [.ref x, .str "__class__" t]) _ _ _
  refine wpAny_call (codeAny_call_builtin PySem.F.excAttr_ValueError.ga.plain PySem.F.entry_bexc_ga ?_)
  refine @check_slot (model prog w) _ _ ⟨hp, g, d, t + 1, os⟩ "BaseException.__getattribute__" "BaseException" "__getattribute__" (.ref x) [.str "__class__" t] [] _ (by decide +kernel) (by decide +kernel) sub (PySem.F.args_bexc_ga (.ref x) (.str "__class__" t)) ?_
  unfold Builtin.«object.__getattribute__»
  refine wpAny_bind (wpAny_of_eq (a := ((Value.ref x : Value), [Value.str "__class__" t])) (by first | rfl | (simp only [slotArgs]; rfl)) ?_)
  refine wpAny_bind (wpAny_pure (wpAny_bind (L0.at (wpAny_bind (L3.at ?_)))))
  show wpAny _ _ (holding [Value.builtin "object.__class__"] (call (.builtin "getset_descriptor.__get__") [.builtin "object.__class__", .ref x, .ref D]) >>= ret) _ _ _
  refine wpAny_bind (wpAny_holding (wpAny_call (class_get (s := ⟨hp, g, d, t + 1, os⟩) (ox := ox) (od := od) X I hm ?_)))
  refine wpAny_pure ?_
  show wpAny _ _ (handedOut (.ref D)) _ _ _
  rw [handedOut_of (v := .ref D) rfl]
  first
    | exact wpAny_pure (wpAny_pure h)
    | exact wpAny_pure h
    | exact wpAny_pure (wpAny_bind (wpAny_pure (wpAny_pure h)))
theorem kitx_excD (hga : findIn K (.ref D) "__getattribute__" = some (some (.builtin "BaseException.__getattribute__"))) (hgt : findIn K (.ref D) "__getattr__" = some none) (hsub : subIn K (.ref D) (.type "BaseException") = some true) (hdct : hasDictIn K D = true) (ha : findIn K (.ref D) "__class__" = some (some (.builtin "object.__class__")))
    (hn : specialIn K (.builtin "object.__class__") "__get__" = some (some (.builtin "getset_descriptor.__get__"))) (htk : takesIn K (.builtin "object.__class__") = some true) (hm : mroIn K D (.type "object") = some true) :
    KitX K (.ref x) (.ref D) (fun h => InstAt h x ox D od) where
  ty := fun _ _ _ I => I.type
  it := fun _ _ X _ => by
    obtain ⟨cdD, hcD, _⟩ := any_some hdct
    unfold clsIn at hcD
    split at hcD
    · rename_i c' d' cd' sl' ho
      intro A' Q' E' s' k q
      unfold isType loadHead
      exact wpAny_bind (wpAny_loadPart (k _ _ (X _ _ ho)) (wpAny_pure q))
    · cases hcD
  ne := fun h tp dd its n sl X htp => by
    obtain ⟨cdD, hcD, _⟩ := any_some hdct
    refine Bool.eq_false_iff.mpr fun q => ?_
    have e : D = tp := Value.ref.inj (beq_iff_eq.mp q)
    subst e
    unfold clsIn at hcD
    split at hcD
    · rename_i c' d' cd' sl' ho
      have z := (X _ _ ho).symm.trans htp
      cases z
    · cases hcD
  ca := fun X I k => kin_classD hga hgt hsub hdct ha hn htk hm X I k
end
/-- isinstance(e, c), e the exception that the suite holds, its dict at dd -/
def rIsED (K : PySem.W.Frag) (D a : Addr) (d : Option Addr) : List V → Hp → VK → Prop := fun xs H Q => ∃ (c : V) (cv : Value) (b : Bool) (dd : Addr) (fs : List (Str × V)), xs = [.ref a, c] ∧ (∀ u, RelV c u → u = cv) ∧ PySem.W.kitOne K (.ref D) cv = some b ∧ d = some dd ∧ H dd = some (.xd fs) ∧ Q (.bl b) H
theorem call_isED {X : Cx} {a D : Addr} {d : Option Addr} {oe : Obj} {pn : List (Addr × Obj)} (C : ExcC X.K D) (hz : Zc (.ref D) d oe) (hf : ∃ vs, oe.data = .fields vs) : CallR (X.suite a ((a, oe) :: pn)) (.builtin "isinstance") (rIsED X.K D a d) := by
  intro pins s σ H xs us Q I r h
  obtain ⟨c, cv, b, dd, fs, rfl, hcv, e, ed, hd, q⟩ := h
  subst ed
  cases r with
  | cons rx rr =>
    cases rr with
    | cons rt rr =>
      cases rr
      cases rx
      have ec := hcv _ rt
      subst ec
      obtain ⟨hget, _⟩ := I.pin (a, oe) (List.mem_append.mpr (.inl List.mem_cons_self))
      obtain ⟨vs, hv⟩ := hf
      have hx : ObjOk X.prog X.w H s.heap dd (.xd fs) := I.hok dd _ hd
      obtain ⟨mA, hns, hr⟩ := hx
      obtain ⟨od, ho, hl⟩ := lookIn_ns hns
      have J : PySem.W.InstAt s.heap a oe D (some od) := ⟨hget, hz.1, by unfold PySem.W.notCls; rw [hv] <;> rfl, by rw [hz.2]; exact ho⟩
      exact PySem.W.kia_one (kitx_excD C.hg C.hk C.hs C.hd C.ha C.hn C.ht C.hm) I.kIn J e (fun z => nomatch z) fun tk => ⟨.bl b, H, I.kept (t' := tk) fun _ _ z => z, rfl, q⟩
end Rj

set_option Elab.async false
set_option linter.all false
set_option maxRecDepth 100000
set_option maxHeartbeats 4000000
/-! o.m(e, ..) in a try: what is wished of an exception knows the slots -/
namespace Rj
open PySem PySem.Spec PyProof.Rows L2
def tMethAt (C : Addr) (m : Str) (sp : Sp) (E : L2.St → XK) (ta : TE) (t : TA) : TE := fun σ H Q => ta σ H fun x H1 => ∃ a dx fs, x = .ref a ∧ H1 a = some (.ins C dx fs) ∧ fs.lookup m = none ∧ t σ H1 fun vs H2 => sp (x :: vs) H2 Q (E σ)
section
variable {X : Cx} {CX : CXT} {k : Nat} {C f : Addr} {fd : FuncData} {ps : List Str} {m : Str} {sp : Sp} {E : L2.St → XK} {o e : Expr} {es : List Expr} {ta : TE} {t : TA} {apos pos : Pos}
theorem pe_methAt {pl : Sem Bool} (he : PE X o ta) (c : Cls X.K C) (hm : Meth X.K C m f) (F : FnOk X.prog X.w X.K X.mg X.base CX k f fd ps sp) (hr : Room k X.A) (hb : Binds X.K fd ps []) (hx : ∀ σ, PassesAt CX X σ (E σ)) (ha : PA X (e :: es) t)
    (hst : starEach (e :: es) X.env = (false, eval e X.env) :: starEach es X.env := by rfl) (hpl : (backTo pos (starEach es X.env)).any (·.1) = false := by rfl)
    (ht : eval (.Call (.Attribute o m apos) (e :: es) [] pos) X.env = (do
      let ov ← eval o X.env
      standAt apos.atName
      let (f, first) ← holding [ov] (getMethod ov m pl)
      callWith pos f first (backTo pos (starEach (e :: es) X.env)) (backToKw pos (keywordEach [] X.env))) := by rfl) :
    PE X (.Call (.Attribute o m apos) (e :: es) [] pos) (tMethAt C m sp E ta t) := by
  refine ⟨fun pins s σ H Q I h => ?_⟩
  refine PySem.W.methodCall_KW (pl := pl) (thn (he.run pins s σ H _ I h) fun u s1 ⟨x, H1, I1, rx, a, dx, fs, ex, ea, l, q⟩ => ?_) ht
  subst ex
  obtain rfl : u = Value.ref a := rx
  refine getmeth_ok I1 ea c hm l ?_
  refine PySem.W.callWith_K (first := [.ref a]) (h₀ := X.base) I.ok.mod.kin hm.kp (thn (ha.run pos pins s1 σ H1 _ I1 q) fun us s2 ⟨vs, H2, I2, r, q2⟩ => ⟨I2.kIn, ?_⟩) hst hpl
  exact run_fnS (us := .ref a :: us) (vs := .ref a :: vs) F hr hb (hx σ) I2 (.cons rfl r) q2
end
end Rj

set_option Elab.async false
set_option linter.all false
set_option maxRecDepth 100000
set_option maxHeartbeats 4000000
/-! {**d, k: v}: a rule of one's own. -/
namespace Rj
open PySem PySem.Spec PyProof.Rows
section
variable {prog : Program} {w : World} {K : Type} [DecidableEq K] {knd : PySem.KeyKind prog w K} {A : Around} {E : Value → Shared → Prop} {s : Shared}
theorem dictPut_pairs {d : Addr} {kvs : List (K × Value)} {k : K} {key v : Value} {Q : Unit → Shared → Prop} (hkey : knd.is k key = true) (hm : s.heap.DictOf knd d kvs)
    (hQ : ∀ h', h'.DictOf knd d (stored kvs k v) → Heap.SameBut d s.heap h' → Q () { s with heap := h' }) (hsz : kvs.length ≤ sizeLine) : wpAny (model prog w) A (dictPut d (knd.hash k) key v) Q E s := by
  obtain ⟨o, es, ep, ho, hc, hd, hk, hp, hn⟩ := hm
  have hes : es.size ≤ sizeLine := by
    have e1 := hp.length
    have e2 : es.toList.length = es.size := by simp
    omega
  unfold dictPut
  refine wpAny_bind (wpAny_dictFind_of hkey ho hd hk ?_)
  have hidx : (es.findIdx? fun e => knd.is k e.key) = kvs.findIdx? fun kv => decide (kv.1 = k) := by
    rw [← hp.findIdx k]; obtain ⟨l⟩ := es; simp
  cases hi : es.findIdx? fun e => knd.is k e.key with
  | some i =>
    refine wpAny_updateDict ho hd (hQ _ ⟨_, _, ep, Heap.get?_update_self _ ho (Obj.isFreed_of_dict (Obj.data_mapDict hd _)), hc.mapDict _, Obj.data_mapDict hd _, hk.modify _ _, ?_, ?_⟩ (Heap.SameBut.update ..))
    · rw [stored, if_pos (any_of_findIdx_some (hidx ▸ hi))]
      have hl : (es.toList.findIdx? fun e => knd.is k e.key) = some i := by rw [← hi]; obtain ⟨l⟩ := es; simp
      have := hp.modify hn hl v
      obtain ⟨l⟩ := es
      simpa using this
    · rw [stored, if_pos (any_of_findIdx_some (hidx ▸ hi)), keys_map_store]; exact hn
  | none =>
    have hnot : k ∉ kvs.map (·.1) := not_mem_of_findIdx_none (hidx ▸ hi)
    have hany : ¬ (kvs.any fun kv => decide (kv.1 = k)) = true := by
      rw [List.any_eq_true]; rintro ⟨kv, hkv, he⟩
      exact hnot (List.mem_map.mpr ⟨kv, hkv, of_decide_eq_true he⟩)
    refine wpAny_updateDictKeys (hz := hes) ho hd (hQ _ ⟨_, _, ep + 1, Heap.get?_update_self _ ho (Obj.isFreed_of_dict (Obj.data_mapDictKeys hd _)), hc.mapDictKeys _, Obj.data_mapDictKeys hd _, hk.push hkey _, ?_, ?_⟩ (Heap.SameBut.update ..))
    · rw [stored, if_neg hany]
      have := hp.append hkey (knd.hash k) v
      obtain ⟨l⟩ := es
      simpa using this
    · rw [stored, if_neg hany, List.map_append, List.nodup_append]
      refine ⟨hn, by simp, ?_⟩
      intro a ha b hb
      simp only [List.map_cons, List.map_nil, List.mem_singleton] at hb
      subst hb
      exact fun e => hnot (e ▸ ha)
theorem merge_pairs {d o : Addr} {kvs more : List (K × Value)} {Q : Unit → Shared → Prop} (hdo : d ≠ o) (hoS : (o == sysModules) = false) (hd : s.heap.DictOf knd d kvs) (ho : s.heap.DictOf knd o more)
    (hQ : ∀ h', h'.DictOf knd d (merged kvs more) → Heap.SameBut d s.heap h' → Q () { s with heap := h' }) (hsz : kvs.length + more.length ≤ sizeLine) : wpAny (model prog w) A (mergeMapping d (.ref o) false) Q E s := by
  obtain ⟨od, esd, epd, hod, hcd, hdd, hkd, hpd, hnd⟩ := id hd
  obtain ⟨oo, eso, epo, hoo, hco, hdo', hko, hpo, hno⟩ := id ho
  have hlen : more.length = eso.size := by rw [← hpo.length]; simp
  have nref : ∀ e ∈ eso, ∀ a, e.key ≠ .ref a := fun e he a z => by
    obtain ⟨k', hk', _⟩ := hko e he
    have q := knd.byValue _ _ hk'
    rw [z] at q
    cases q
  unfold mergeMapping
  refine wpAny_bind (wpAny_isInstance ho.typeIs isSubtype_dict_dict ?_)
  rw [if_pos rfl]
  refine wpAny_bind (wpAny_specialOf ho.typeIs F.slot_dict_iter.lookup ?_)
  refine wpAny_bind (wpAny_pure ?_)
  simp only [beq_self_eq_true]
  rw [if_neg (by rw [hoS]; exact Bool.false_ne_true)]
  refine wpAny_bind (wpAny_dictEntries hod hdd ?_)
  split
  · refine wpAny_bind (wpAny_dictEntries hoo hdo' ?_)
    rw [← Array.forIn_toList]
    refine wpAny_bind (wpAny_forIn_list _ (fun rest _ s' => s' = s ∧ ∀ e ∈ rest, e ∈ eso) _ ?_ ?_ _ _ ⟨rfl, fun e he => by simpa using he⟩)
    · rintro e rest b s' ⟨rfl, he⟩
      have nr := nref e (he e (List.mem_cons_self ..))
      cases hk : e.key with
      | ref a => exact absurd hk (nr a)
      | _ => exact wpAny_pure ⟨rfl, fun x hx => he x (List.mem_cons_of_mem _ hx)⟩
    rintro b s' ⟨rfl, _⟩
    refine wpAny_bind (wpAny_dictEntries hoo hdo' ?_)
    refine wpAny_bind (wpAny_dictEpoch hoo hdo' ?_)
    refine wpAny_bind ?_
    rw [List.range_eq_range']
    refine wpAny_forIn_list _
      (fun rest _ s2 => ∃ h' i, s2 = { s' with heap := h' } ∧ rest = List.range' i (eso.size - i) ∧ i ≤ eso.size ∧ h'.DictOf knd d (merged kvs (more.take i)) ∧ h'.get? o = some oo ∧ Heap.SameBut d s'.heap h')
      _ ?_ ?_ _ _ ⟨s'.heap, 0, rfl, by simp, Nat.zero_le _, by simpa [merged] using hd, hoo, Heap.SameBut.refl _ _⟩
    · rintro x rest b s2 ⟨h', i, rfl, hr, hi, hd', hoo', hs'⟩
      have hlt : i < eso.size := by
        rcases Nat.lt_or_ge i eso.size with h | h
        · exact h
        · rw [Nat.sub_eq_zero_of_le h] at hr; simp at hr
      obtain ⟨rfl, hrest⟩ : x = i ∧ rest = List.range' (i + 1) (eso.size - (i + 1)) := by
        have e : eso.size - i = (eso.size - (i + 1)) + 1 := by omega
        rw [e, List.range'_succ] at hr
        injection hr with h1 h2
        exact ⟨h1, h2⟩
      refine wpAny_bind (wpAny_dictEntries hoo' hdo' ?_)
      rw [Array.getElem?_eq_getElem hlt]
      obtain ⟨kv, hkv⟩ : ∃ kv, more[x]? = some kv := ⟨more[x]'(by rw [hlen]; exact hlt), List.getElem?_eq_getElem _⟩
      obtain ⟨k, v⟩ := kv
      obtain ⟨hkey, hval⟩ := hpo.get? (e := eso[x]) (by simp [hlt]) hkv
      obtain ⟨k', hkey', hhash⟩ := hko eso[x] (Array.getElem_mem hlt)
      obtain rfl : k' = k := knd.inj _ _ _ hkey' hkey
      show wpAny _ _ (holding [eso[x].key, eso[x].val] (if false = true then _ else dictPut d eso[x].hash eso[x].key eso[x].val) >>= _) _ _ _
      rw [if_neg Bool.false_ne_true, hhash, hval]
      have hmx : (merged kvs (more.take x)).length ≤ sizeLine := by
        have e1 := merged_length_le kvs (more.take x)
        have e2 : (more.take x).length ≤ more.length := by rw [List.length_take]; omega
        omega
      refine wpAny_bind (wpAny_holding (dictPut_pairs (hsz := hmx) hkey hd' fun h'' hd'' hs'' => ?_))
      have hoo'' : h''.get? o = some oo := (hs''.2 o (Ne.symm hdo)).trans hoo'
      refine wpAny_bind (wpAny_dictEpoch hoo'' hdo' ?_)
      rw [if_neg (by simp)]
      exact wpAny_pure ⟨h'', x + 1, rfl, hrest, hlt, by rw [merged_take_succ kvs more x (k', v) hkv]; exact hd'', hoo'', hs'.trans hs''⟩
    · rintro b s2 ⟨h', i, rfl, hr, hi, hd', hoo', hs'⟩
      have hin : i = eso.size := by
        rcases Nat.lt_or_ge i eso.size with h | h
        · have e : eso.size - i = (eso.size - (i + 1)) + 1 := by omega
          rw [e, List.range'_succ] at hr; exact nomatch hr
        · exact Nat.le_antisymm hi h
      refine wpAny_pure (hQ h' ?_ hs')
      rw [hin, ← hlen, List.take_length] at hd'; exact hd'
  · refine wpAny_bind (wpAny_dictEntries hoo hdo' ?_)
    refine wpAny_bind (wpAny_dictEpoch hoo hdo' ?_)
    refine wpAny_bind ?_
    rw [List.range_eq_range']
    refine wpAny_forIn_list _
      (fun rest _ s2 => ∃ h' i, s2 = { s with heap := h' } ∧ rest = List.range' i (eso.size - i) ∧ i ≤ eso.size ∧ h'.DictOf knd d (merged kvs (more.take i)) ∧ h'.get? o = some oo ∧ Heap.SameBut d s.heap h')
      _ ?_ ?_ _ _ ⟨s.heap, 0, rfl, by simp, Nat.zero_le _, by simpa [merged] using hd, hoo, Heap.SameBut.refl _ _⟩
    · rintro x rest b s2 ⟨h', i, rfl, hr, hi, hd', hoo', hs'⟩
      have hlt : i < eso.size := by
        rcases Nat.lt_or_ge i eso.size with h | h
        · exact h
        · rw [Nat.sub_eq_zero_of_le h] at hr; simp at hr
      obtain ⟨rfl, hrest⟩ : x = i ∧ rest = List.range' (i + 1) (eso.size - (i + 1)) := by
        have e : eso.size - i = (eso.size - (i + 1)) + 1 := by omega
        rw [e, List.range'_succ] at hr
        injection hr with h1 h2
        exact ⟨h1, h2⟩
      refine wpAny_bind (wpAny_dictEntries hoo' hdo' ?_)
      rw [Array.getElem?_eq_getElem hlt]
      obtain ⟨kv, hkv⟩ : ∃ kv, more[x]? = some kv := ⟨more[x]'(by rw [hlen]; exact hlt), List.getElem?_eq_getElem _⟩
      obtain ⟨k, v⟩ := kv
      obtain ⟨hkey, hval⟩ := hpo.get? (e := eso[x]) (by simp [hlt]) hkv
      obtain ⟨k', hkey', hhash⟩ := hko eso[x] (Array.getElem_mem hlt)
      obtain rfl : k' = k := knd.inj _ _ _ hkey' hkey
      show wpAny _ _ (holding [eso[x].key, eso[x].val] (if false = true then _ else dictPut d eso[x].hash eso[x].key eso[x].val) >>= _) _ _ _
      rw [if_neg Bool.false_ne_true, hhash, hval]
      have hmx : (merged kvs (more.take x)).length ≤ sizeLine := by
        have e1 := merged_length_le kvs (more.take x)
        have e2 : (more.take x).length ≤ more.length := by rw [List.length_take]; omega
        omega
      refine wpAny_bind (wpAny_holding (dictPut_pairs (hsz := hmx) hkey hd' fun h'' hd'' hs'' => ?_))
      have hoo'' : h''.get? o = some oo := (hs''.2 o (Ne.symm hdo)).trans hoo'
      refine wpAny_bind (wpAny_dictEpoch hoo'' hdo' ?_)
      rw [if_neg (by simp)]
      exact wpAny_pure ⟨h'', x + 1, rfl, hrest, hlt, by rw [merged_take_succ kvs more x (k', v) hkv]; exact hd'', hoo'', hs'.trans hs''⟩
    · rintro b s2 ⟨h', i, rfl, hr, hi, hd', hoo', hs'⟩
      have hin : i = eso.size := by
        rcases Nat.lt_or_ge i eso.size with h | h
        · have e : eso.size - i = (eso.size - (i + 1)) + 1 := by omega
          rw [e, List.range'_succ] at hr; exact nomatch hr
        · exact Nat.le_antisymm hi h
      refine wpAny_pure (hQ h' ?_ hs')
      rw [hin, ← hlen, List.take_length] at hd'; exact hd'
theorem wp_display_star {v k x : Sem Value} {Q : Value → Shared → Prop}
    (h : wpAny (model prog w) A v (fun m s1 => wpAny (model prog w) A (mergeMapping s.heap.objs.size m false) (fun _ s2 => wpAny (model prog w) A (subDict [(k, x)]) (fun sub s3 =>
      wpAny (model prog w) A (mergeMapping s.heap.objs.size (.ref sub) false) (fun _ s4 => Q (.ref s.heap.objs.size) s4) (fun _ _ => False) s3) E s2) (fun _ _ => False) s1) E { s with heap := s.heap.push { cls := .type "dict", data := .dict #[] } }) :
    wpAny (model prog w) A (dictDisplay [(none, v), (some k, x)]) Q E s := by
  unfold dictDisplay
  dsimp only
  simp only [List.forIn_cons, List.forIn_nil, List.isEmpty_nil, if_true, pure_bind, bind_assoc]
  refine wpAny_bind (wpAny_alloc ?_)
  refine wpAny_bind (wpAny_holding (wpAny_mono h (fun m s1 h1 => ?_) fun _ _ e => e))
  refine wpAny_bind (wpAny_onRaise (wpAny_tryCatch (wpAny_onRaise (wpAny_holding (wpAny_mono h1 (fun _ s2 h2 => ?_) fun _ _ e => e.elim)))))
  simp only [List.nil_append, List.length_singleton, show ((1 : Nat) == 17) = false from rfl, Bool.false_eq_true, if_false, pure_bind, List.isEmpty_cons]
  refine wpAny_bind (wpAny_bind (wpAny_holding (wpAny_mono h2 (fun sub s3 h3 => ?_) fun _ _ e => e)))
  refine wpAny_bind (wpAny_onRaise (wpAny_holding (wpAny_mono h3 (fun _ s4 h4 => ?_) fun _ _ e => e.elim)))
  exact wpAny_pure (wpAny_pure h4)
end
section
open L2
variable {X : Cx}
def tStar (td tk tv : TE) : TE := fun σ H Q => ∀ p, H p = none → td σ (upd H p (.dK [])) fun x H1 => ∃ a kvs, x = .ref a ∧ a ≠ p ∧ Rd H1 a (.dK kvs) ∧ H1 p = some (.dK []) ∧ kvs.length + 1 ≤ sizeLine ∧
  ∀ p2, upd H1 p (.dK kvs) p2 = none → tk σ (upd (upd H1 p (.dK kvs)) p2 (.dK [])) fun y H3 => tv σ H3 fun z H4 => p2 ≠ p ∧ H4 p2 = some (.dK []) ∧ H4 p = some (.dK kvs) ∧
    ∃ k, y = kV k ∧ Q (.ref p) (upd (upd H4 p2 (.dK [(k, z)])) p (.dK (putK kvs k z)))
theorem pe_star {d k v : Expr} {pos : Pos} {td tk tv : TE} (hd : PE X d td) (hk : PE X k tk) (hv : PE X v tv) : PE X (.Dict [none, some k] [d, v] pos) (tStar td tk tv) := by
  refine ⟨fun pins s σ H Q I q => ?_⟩
  have hn := I.hok.fresh (Nat.le_refl s.heap.objs.size)
  have I1 := I.laid (a := s.heap.objs.size) (o := .dK []) (h' := s.heap.push { cls := .type "dict", data := .dict #[] }) (t' := s.toks) (fun _ _ q => Heap.get?_push_of_some _ q) (Nat.le_refl _) (dk_empty s.heap I.big)
  rw [arm_eval_Dict]
  show wpAny _ _ (standAt pos >>= fun _ => dictDisplay [(none, do let x ← eval d X.env; standAt pos; pure x), (some (eval k X.env), do let x ← eval v X.env; standAt pos; pure x)]) _ _ s
  refine wpAny_bind (wpAny_standAt ?_)
  refine wp_display_star (wpAny_bind (thn (hd.run pins _ σ _ _ I1 (q _ hn)) fun u s1 h1 => wpAny_bind (wpAny_standAt (wpAny_pure ?_))))
  obtain ⟨x, H1, I2, rx, a, kvs, ex, nap, ra, hp, hz, q2⟩ := h1
  subst ex
  obtain rfl : u = Value.ref a := rx
  obtain ⟨_, hdp, vs0, r0, dd0⟩ := dk_of I2.hok hp
  cases r0
  obtain ⟨z1, hda, vs, rel, dd⟩ := dk_rd I2.hok ra
  have hvl := rel.length
  refine merge_pairs (Ne.symm nap) hda dd0 dd (fun h' dd' hs => ?_) (by rw [List.length_nil]; omega)
  have hnd : (vs.map (·.1)).Nodup := let ⟨_, _, _, _, _, _, _, _, hn⟩ := dd; hn
  rw [merged_nil_of_nodup vs hnd] at dd'
  have he : ∃ q, h'.get? s.heap.objs.size = some q := let ⟨q, _, _, hq, _⟩ := dd'; ⟨q, hq⟩
  have I3 := d_write (t' := s1.toks) I2 (by rw [hp]; exact True.intro) hs he (dk_new (P := X.prog) (w := X.w) (H' := upd H1 s.heap.objs.size (.dK kvs)) (by omega) hdp rel dd')
  -- the pair
  have hn2 := I3.hok.fresh (Nat.le_refl _)
  have I4 := I3.laid (a := h'.objs.size) (o := .dK []) (h' := h'.push { cls := .type "dict", data := .dict #[] }) (t' := s1.toks) (fun _ _ q => Heap.get?_push_of_some _ q) (Nat.le_refl _) (dk_empty h' I3.big)
  refine wpAny_subDict (knd := mixKind X.prog X.w) (by simp) ?_
  refine evalPairs_cons (thn (hk.run pins _ σ _ _ I4 (q2 _ hn2)) fun u2 s5 h5 => ?_)
  obtain ⟨y, H3, I5, ry, q3⟩ := h5
  refine wpAny_bind (thn (hv.run pins s5 σ H3 _ I5 q3) fun u3 s6 h6 => wpAny_bind (wpAny_standAt (wpAny_pure ?_)))
  obtain ⟨z, H4, I6, rz, np, hp2, hp4, key, ey, q4⟩ := h6
  subst ey
  refine evalPairs_nil ?_
  obtain ⟨_, hdp2, vs2, r2, dd2⟩ := dk_of I6.hok hp2
  cases r2
  refine ⟨[(key, u3)], ⟨kV_is ry, rfl, True.intro⟩, dd2, fun h2 dd3 hs3 => ?_⟩
  have he2 : ∃ q, h2.get? h'.objs.size = some q := let ⟨q, _, _, hq, _⟩ := dd3; ⟨q, hq⟩
  have e1 : merged [] [(key, u3)] = [(key, u3)] := by simp [merged, stored]
  have dd3' := dd3
  rw [e1] at dd3'
  have I7 := d_write (t' := s6.toks + ([(u2, u3)] : List (Value × Value)).length) (ob := .dK [(key, z)]) I6 (by rw [hp2]; exact True.intro) hs3 he2 (dk_new (P := X.prog) (w := X.w) (H' := upd H4 h'.objs.size (.dK [(key, z)])) (by show 1 ≤ sizeLine; decide) hdp2 (.cons ⟨rfl, rz⟩ .nil) dd3')
  have hp7 : (upd H4 h'.objs.size (.dK [(key, z)])) s.heap.objs.size = some (.dK kvs) := by rw [upd_ne (Ne.symm np)]; exact hp4
  obtain ⟨_, _, vs7, rel7, dd7⟩ := dk_of I7.hok hp7
  have hvl7 := rel7.length
  refine merge_pairs (Ne.symm np) hdp2 dd7 dd3' (fun h3 dd4 hs4 => ?_) (by rw [List.length_singleton]; omega)
  have e2 : merged vs7 [(key, u3)] = stored vs7 key u3 := rfl
  rw [e2] at dd4
  have he3 : ∃ q, h3.get? s.heap.objs.size = some q := let ⟨q, _, _, hq, _⟩ := dd4; ⟨q, hq⟩
  have lp := length_putK kvs key z
  exact ⟨.ref s.heap.objs.size, _, d_write (ob := .dK (putK kvs key z)) I7 (by rw [hp7]; exact True.intro) hs4 he3 (dk_new (by omega) hdp (rel7.put key rz) dd4), rfl, q4⟩
end
end Rj

set_option Elab.async false
set_option linter.all false
set_option maxRecDepth 100000
set_option maxHeartbeats 8000000
namespace Bs
open PySem L2
/-! ### errors with a name; a shape's methods -/
abbrev sUnk : Stmt := inClass (top 7) 0
abbrev sUsed : Stmt := inClass (top 9) 0
abbrev sRow : Stmt := inClass (top 110) 9
abbrev sWithItem : Stmt := inClass (top 110) 7
abbrev sWithout : Stmt := inClass (top 110) 8
/-- an UnknownName in the making gets its name -/
def spUnk (C : Addr) : Sp := fun vs H Q _ => ∃ (a : Addr) (z : Str), vs = [.ref a, .str z] ∧ H a = some (exo a C none) ∧ (reprText z).length ≤ 10020 ∧
  ∀ dx, H dx = none → dx ≠ a → Q .non (upd (upd H dx (exd dx [("name", .str z)])) a (exo a C (some dx)))
section
variable {P : Program} {w : World} {K : PySem.W.Frag} {mg : Str → Option Value} {base : Heap} {f C CU CS cc c : Addr} {fd : FuncData}
abbrev nfUnk (cc c : Addr) : NdefX.NF := ⟨"__init__", "UnknownName.__init__", defArgs sUnk, defBody sUnk, defScope sUnk, [(("__class__" : Str), cc)], c⟩
theorem ok_unk {oc : Value} {od an : Option Addr} {osl : Array (Option Value)} {kV doc pm ctv : Value} (lk : K.lookup f = some ⟨oc, od, .func (PySem.W.fnX "__init__" "UnknownName.__init__" (defArgs sUnk) (defBody sUnk) (defScope sUnk) [(("__class__" : Str), cc)] .none kV doc pm an (.ref c) ctv), osl⟩)
    (hcd : PySem.W.codeIn K (.ref c) "UnknownName.__init__" = true) (Cs : Rj.SupC P K c cc CU) (T : OexC K CU) (hm : mg "super" = none) (hno : PySem.W.findIn K (.ref CU) "name" = some none) :
    FnOk P w K mg base CX0 1 f (PySem.W.fnX "__init__" "UnknownName.__init__" (defArgs sUnk) (defBody sUnk) (defScope sUnk) [(("__class__" : Str), cc)] .none kV doc pm an (.ref c) ctv) ["self", "name"] (spUnk CU) := by
  refine Rj.fn_super (F := nfUnk cc c) (N := ["self", "name", "__class__"]) lk hcd rfl (NdefX.nscope_by (by show NdefX.nscB ["self", "name", "__class__"] ["self", "name"] ["__class__"] (defScope sUnk) = true; decide +kernel)) Cs T hm rfl rfl rfl (by show (defScope sUnk).names.lookup ("super" : Str) = some .globalImplicit; decide +kernel) (fun env _ => ⟨_, rfl⟩) (fun _ => rfl) (fun _ => rfl) (fun vs H Q E h => ?_) (fun A outer s H vs Q E hr h => ?_)
  · obtain ⟨a, z, rfl, _⟩ := h
    rfl
  · obtain ⟨a, z, rfl, ha, hz, q⟩ := h
    refine ⟨_, _, a, pe_joined (.cons pe_str (.cons (pe_fmtR (pv 1)) .nil)), pss_one (ps_ost (pv 0) (pv 1)), rfl, ha, fun R hR => ?_⟩
    have l0 : (Str.empty ++ ("unknown name " : Str)).length = 13 := by decide +kernel
    refine ⟨_, rfl, by decide +kernel, _, rfl, .inl ⟨z, rfl, le_line (by omega), _, rfl, ?_, ?_⟩⟩
    · rw [slen0, l0]; exact le_line (by omega)
    · refine hR _ _ ha ?_
      exact ⟨_, rfl, _, rfl, a, CU, rfl, T, hno, .inl ⟨ha, fun dx n ne => q dx n ne⟩⟩
end
section
variable {P : Program} {w : World} {K : PySem.W.Frag} {mg : Str → Option Value} {base : Heap} {f C CU CS cc c : Addr} {fd : FuncData}
abbrev nfUsed (cc c : Addr) : NdefX.NF := ⟨"__init__", "NameInUse.__init__", defArgs sUsed, defBody sUsed, defScope sUsed, [(("__class__" : Str), cc)], c⟩
theorem ok_used {oc : Value} {od an : Option Addr} {osl : Array (Option Value)} {kV doc pm ctv : Value} (lk : K.lookup f = some ⟨oc, od, .func (PySem.W.fnX "__init__" "NameInUse.__init__" (defArgs sUsed) (defBody sUsed) (defScope sUsed) [(("__class__" : Str), cc)] .none kV doc pm an (.ref c) ctv), osl⟩)
    (hcd : PySem.W.codeIn K (.ref c) "NameInUse.__init__" = true) (Cs : Rj.SupC P K c cc CU) (T : OexC K CU) (hm : mg "super" = none) (hno : PySem.W.findIn K (.ref CU) "name" = some none) :
    FnOk P w K mg base CX0 1 f (PySem.W.fnX "__init__" "NameInUse.__init__" (defArgs sUsed) (defBody sUsed) (defScope sUsed) [(("__class__" : Str), cc)] .none kV doc pm an (.ref c) ctv) ["self", "name"] (spUnk CU) := by
  refine Rj.fn_super (F := nfUsed cc c) (N := ["self", "name", "__class__"]) lk hcd rfl (NdefX.nscope_by (by show NdefX.nscB ["self", "name", "__class__"] ["self", "name"] ["__class__"] (defScope sUsed) = true; decide +kernel)) Cs T hm rfl rfl rfl (by show (defScope sUsed).names.lookup ("super" : Str) = some .globalImplicit; decide +kernel) (fun env _ => ⟨_, rfl⟩) (fun _ => rfl) (fun _ => rfl) (fun vs H Q E h => ?_) (fun A outer s H vs Q E hr h => ?_)
  · obtain ⟨a, z, rfl, _⟩ := h
    rfl
  · obtain ⟨a, z, rfl, ha, hz, q⟩ := h
    refine ⟨_, _, a, pe_joined (.cons pe_str (.cons (pe_fmtR (pv 1)) .nil)), pss_one (ps_ost (pv 0) (pv 1)), rfl, ha, fun R hR => ?_⟩
    have l0 : (Str.empty ++ ("name in use: " : Str)).length = 13 := by decide +kernel
    refine ⟨_, rfl, by decide +kernel, _, rfl, .inl ⟨z, rfl, le_line (by omega), _, rfl, ?_, ?_⟩⟩
    · rw [slen0, l0]; exact le_line (by omega)
    · refine hR _ _ ha ?_
      exact ⟨_, rfl, _, rfl, a, CU, rfl, T, hno, .inl ⟨ha, fun dx n ne => q dx n ne⟩⟩
end
section
variable {P : Program} {w : World} {K : PySem.W.Frag} {mg : Str → Option Value} {base : Heap} {f C CU CS cc c : Addr} {fd : FuncData}
/-- the row of a name, or UnknownName with it -/
def spByName (CU CS : Addr) : Sp := fun vs H Q E => ∃ (o dx : Addr) (fs : List (Str × V)) (x : Its) (z : Str), vs = [.ref o, .str z] ∧ H o = some (.ins CS dx fs) ∧ RowOf x H fs ∧ (reprText z).length ≤ 10020 ∧
  (z ∈ x.names → ∀ v, RowV H (x.walk 0) z v → Q v H) ∧ (z ∉ x.names → ∀ d H', Same H H' → H d = none → H' d = some (.xd [("name", .str z)]) → E (.ref CU) (some d) H')
structure UnkC (K : PySem.W.Frag) (mg : Str → Option Value) (CU fU : Addr) : Prop where
  T : OexC K CU
  g : mg "UnknownName" = some (.ref CU)
  i : PySem.W.findIn K (.ref CU) "__init__" = some (some (.ref fU))
  t : PySem.W.typeIn K (.ref fU) = some (.type "function")
theorem scRow : FnScope ["self", "name"] ["self", "name"] (defScope sRow) := ⟨rfl, rfl, rfl, by decide +kernel, rfl, by decide +kernel, by decide +kernel⟩
theorem ok_row {fU : Addr} {fdU : FuncData} (F : Fun K "_row" "Shape._row" sRow f fd) (T : ShapeC K CS) (U : UnkC K mg CU fU) (GU : FnOk P w K mg base CX0 1 fU fdU ["self", "name"] (spUnk CU)) (bU : Binds K fdU ["self", "name"] []) :
    FnOk P w K mg base (L2.CX P w) 3 f fd ["self", "name"] (spByName CU CS) := by
  refine F.okX scRow (fun vs H Q E h => ?_) (fun cdv A outer s H vs Q E hr h => ?_)
  · obtain ⟨o, dx, fs, x, z, rfl, _⟩ := h
    rfl
  · obtain ⟨o, dx, fs, x, z, rfl, ho, hrow, hz, q1, q2⟩ := h
    have hu := hu_of hr
    have tk : Takes (cxOf (L2.CX P w) P w K mg base ["self", "name"] "Shape._row" (defScope sRow) f cdv A outer s H E) (fun cls d _ H => E cls d H) := takes_of rfl rfl rfl rfl
    refine ⟨_, pss_cons (ps_if (pt_cmp (pc_dnotin hu (pv 1) (pe_fld (pv 0) rfl)) (by rfl)) (pss_one (ps_raise rfl tk (pmk_oex U.T U.i U.t GU hr bU .nil pass0 (by rfl) U.g (pa_cons (pv 1) pa_nil)))) pss_nil)
      (pss_one (ps_ret (pe_dget hu (pe_fld (pv 0) rfl) (pv 1) (fun _ _ => rfl)))), ?_⟩
    obtain ⟨no, D, kvs, e1, e2, e3⟩ := hrow
    have hN : x.names = (x.walk 0).map (·.2.name) := rfl
    refine ⟨_, rfl, _, rfl, o, CS, dx, fs, _, rfl, ho, T.cl, T.n6, e1, D, _, rfl, DGet.k (k := .inr z) e2, _, rfl, ?_⟩
    by_cases hin : z ∈ x.names
    · obtain ⟨v, hv, rv⟩ := (e3 z).1 (hN ▸ hin)
      rw [hv]
      refine iteF ?_
      refine ⟨_, rfl, o, CS, dx, fs, _, rfl, ho, T.cl, T.n6, e1, _, rfl, D, v, rfl, ?_, q1 hin v rv⟩
      have t := DGet.k (k := .inr z) e2
      rw [hv] at t
      exact t
    · have hv := (e3 z).2 (hN ▸ hin)
      rw [hv]
      refine iteT ?_
      refine ⟨_, rfl, (by show 1 ≤ 1000; decide), fun a na => ?_⟩
      refine ⟨a, z, rfl, upd_same, hz, fun dd n ne => ⟨rfl, dd, [("name", .str z)], upd_same, ?_, ?_, ?_⟩⟩
      · rw [upd_ne ne, upd_same]
      · rw [upd_ne ne] at n; exact n
      · have n0 : H dd = none := by rw [upd_ne ne] at n; exact n
        refine q2 hin dd _ (fun b u e => ?_) n0 upd_same
        have b1 : b ≠ dd := ne_of_none e n0
        have b2 : b ≠ a := ne_of_none e na
        rw [upd_ne b1, del_ne b2, upd_ne b2, upd_ne b1, upd_ne b2]
        exact e
def NoName (CU : Addr) (z : Str) (H : Hp) (E : XK) : Prop := ∀ d H', Same H H' → H d = none → H' d = some (.xd [("name", .str z)]) → E (.ref CU) (some d) H'
structure ShapeAt (CS o dx : Addr) (fs : List (Str × V)) (x : Its) (H : Hp) : Prop where
  ins : H o = some (.ins CS dx fs)
  sf : ShapeFs x H fs
  row : RowOf x H fs
  ok : x.ok 0 = true
  l12 : x.len ≤ 12
theorem ShapeAt.same {CS o dx : Addr} {fs : List (Str × V)} {x : Its} {H H' : Hp} (s : Same H H') (h : ShapeAt CS o dx fs x H) : ShapeAt CS o dx fs x H' := ⟨s _ _ h.ins, h.sf.kp (.of s), h.row.same s, h.ok, h.l12⟩
/-- what an edited shape is, or the error -/
def Edits (C CS : Addr) (x' : Its) (H : Hp) (Q : VK) (E : XK) : Prop :=
  (x'.shape = true → ∀ H' o dx fs, Same H H' → ShapeAt CS o dx fs x' H' → Q (.ref o) H') ∧ (x'.shape = false → ∀ H', Same H H' → E (.ref C) none H')
theorem shape_12 {x : Its} (h : x.shape = true) : x.ok 0 = true ∧ x.len ≤ 12 := by
  unfold Its.shape at h
  simp only [Bool.and_eq_true, decide_eq_true_eq] at h
  exact ⟨h.1.2, h.1.1⟩
def spWithItem (C CU CS : Addr) : Sp := fun vs H Q E => ∃ (o dx : Addr) (fs : List (Str × V)) (x : Its) (z : Str) (v : V), vs = [.ref o, .str z, v] ∧ ShapeAt CS o dx fs x H ∧ (reprText z).length ≤ 10020 ∧ (z ∉ x.names → NoName CU z H E) ∧
  (z ∈ x.names → ∃ y : It, y.At false H v ∧ (x.repl z (.cons y .nil)).tame ∧ ((x.repl z (.cons y .nil)).walk 0).length ≤ 1000 ∧ Edits C CS (x.repl z (.cons y .nil)) H Q E)
def spWithout (C CU CS : Addr) : Sp := fun vs H Q E => ∃ (o dx : Addr) (fs : List (Str × V)) (x : Its) (z : Str), vs = [.ref o, .str z] ∧ ShapeAt CS o dx fs x H ∧ (reprText z).length ≤ 10020 ∧ (z ∉ x.names → NoName CU z H E) ∧
  (z ∈ x.names → (x.repl z .nil).tame ∧ ((x.repl z .nil).walk 0).length ≤ 1000 ∧ Edits C CS (x.repl z .nil) H Q E)
theorem scWithItem : FnScope ["self", "name", "item"] ["self", "name", "item"] (defScope sWithItem) := ⟨rfl, rfl, rfl, by decide +kernel, rfl, by decide +kernel, by decide +kernel⟩
theorem ok_withitem {k : Nat} {fR fI : Addr} {fdR fdI : FuncData} (hk : 2 ≤ k) (F : Fun K "with_item" "Shape.with_item" sWithItem f fd) (T : ShapeC K CS) (mR : Meth K CS "_row" fR) (GR : FnOk P w K mg base (L2.CX P w) 3 fR fdR ["self", "name"] (spByName CU CS)) (bR : Binds K fdR ["self", "name"] [])
    (gE : Cal P w K mg base CX0 k "edited" ["items", "name", "made"] (spEdited 3)) (M : Mk K CS fI) (GI : FnOk P w K mg base (L2.CX P w) k fI fdI ["self", "items"] (spInit C CS)) (bI : Binds K fdI ["self", "items"] []) (gS : mg "Shape" = some (.ref CS)) :
    FnOk P w K mg base (L2.CX P w) (k + 2) f fd ["self", "name", "item"] (spWithItem C CU CS) := by
  refine F.okX scWithItem (fun vs H Q E h => ?_) (fun cdv A outer s H vs Q E hr h => ?_)
  · obtain ⟨o, dx, fs, x, z, v, rfl, _⟩ := h
    rfl
  · obtain ⟨o, dx, fs, x, z, v, rfl, sa, hz, q1, q2⟩ := h
    have tk : Takes (cxOf (L2.CX P w) P w K mg base ["self", "name", "item"] "Shape.with_item" (defScope sWithItem) f cdv A outer s H E) (fun cls d _ H => E cls d H) := takes_of rfl rfl rfl rfl
    have hx := passes_call tk (E := E) fun _ _ _ _ h => h
    refine ⟨_, pss_cons (ps_expr (pe_meth (pv 0) T.cl mR GR (hr.mono (by omega)) bR .nil hx (pa_cons (pv 1) pa_nil)))
      (pss_one (ps_ret (pe_make M GI hr (by rfl) gS bI .nil hx (pa_cons (pe_cal gE (hr.mono (by omega)) pass0 (pa_cons (pe_fld (pv 0) rfl) (pa_cons (pv 1) (pa_cons (pe_tup (pa_cons (pv 2) pa_nil)) pa_nil)))) pa_nil)))), ?_⟩
    have no := sa.row.1
    refine ⟨_, rfl, o, dx, _, rfl, sa.ins, no ("_row" : Str) (by decide +kernel), _, rfl, o, dx, fs, x, z, rfl, sa.ins, sa.row, hz, fun hin v0 rv0 => ?_, fun hin d H' s' n e => q1 hin d H' s' n e⟩
    obtain ⟨y, hy, ht, hw, q3, q4⟩ := q2 hin
    obtain ⟨p, ys, p1, p2, p3⟩ := sa.sf.parts
    refine ⟨_, rfl, o, CS, dx, fs, _, rfl, sa.ins, T.cl, T.n1, p1, _, rfl, _, rfl, (by show 1 ≤ sizeLine; decide), fun m hm => ?_⟩
    have s1 := same_new hm (.tup [v])
    refine ⟨upd H m (.tup [v]), p, m, x, .cons y .nil, ys, [v], z, 0, rfl, by decide, sa.ok, sa.l12, by simp [Its.len], Same.refl _, s1 _ _ p2, p3.same s1, upd_same, ?_, fun r zs H2 s2 hr2 hz2 => ?_⟩
    · simp only [Its.At]
      exact ⟨v, [], rfl, hy.same s1, rfl⟩
    have hz3 := hz2.same (tl_le s2)
    refine fun o2 dx2 no2 ndx2 nex2 => ?_
    have s3 : Same H2 (upd (upd H2 dx2 (.own o2)) o2 (.ins CS dx2 [])) := fun b u e => by
      rw [upd_ne (ne_of_none e no2), upd_ne (ne_of_none e ndx2)]
      exact e
    have z3 : ∀ H', Off o2 (upd (upd H2 dx2 (.own o2)) o2 (.ins CS dx2 [])) H' → Same H2 H' := fun H' off b u e => off b u (ne_of_none e no2) (s3 b u e)
    have S2 := s1.trans s2
    exact ⟨o2, r, dx2, _, zs, rfl, upd_same, .inl (s3 _ _ hr2), hz3.same s3, ht, hw, fun sh H' fs' off ho' sf row' => ⟨rfl, q3 sh H' o2 dx2 fs' (S2.trans (z3 H' off)) ⟨ho', sf, row', (shape_12 sh).1, (shape_12 sh).2⟩⟩, fun sh H' off => q4 sh H' (S2.trans (z3 H' off))⟩
theorem scWithout : FnScope ["self", "name"] ["self", "name"] (defScope sWithout) := ⟨rfl, rfl, rfl, by decide +kernel, rfl, by decide +kernel, by decide +kernel⟩
theorem ok_without {k : Nat} {fR fI : Addr} {fdR fdI : FuncData} (hk : 2 ≤ k) (F : Fun K "without_item" "Shape.without_item" sWithout f fd) (T : ShapeC K CS) (mR : Meth K CS "_row" fR) (GR : FnOk P w K mg base (L2.CX P w) 3 fR fdR ["self", "name"] (spByName CU CS)) (bR : Binds K fdR ["self", "name"] [])
    (gE : Cal P w K mg base CX0 k "edited" ["items", "name", "made"] (spEdited 3)) (M : Mk K CS fI) (GI : FnOk P w K mg base (L2.CX P w) k fI fdI ["self", "items"] (spInit C CS)) (bI : Binds K fdI ["self", "items"] []) (gS : mg "Shape" = some (.ref CS)) :
    FnOk P w K mg base (L2.CX P w) (k + 2) f fd ["self", "name"] (spWithout C CU CS) := by
  refine F.okX scWithout (fun vs H Q E h => ?_) (fun cdv A outer s H vs Q E hr h => ?_)
  · obtain ⟨o, dx, fs, x, z, rfl, _⟩ := h
    rfl
  · obtain ⟨o, dx, fs, x, z, rfl, sa, hz, q1, q2⟩ := h
    have tk : Takes (cxOf (L2.CX P w) P w K mg base ["self", "name"] "Shape.without_item" (defScope sWithout) f cdv A outer s H E) (fun cls d _ H => E cls d H) := takes_of rfl rfl rfl rfl
    have hx := passes_call tk (E := E) fun _ _ _ _ h => h
    refine ⟨_, pss_cons (ps_expr (pe_meth (pv 0) T.cl mR GR (hr.mono (by omega)) bR .nil hx (pa_cons (pv 1) pa_nil)))
      (pss_one (ps_ret (pe_make M GI hr (by rfl) gS bI .nil hx (pa_cons (pe_cal gE (hr.mono (by omega)) pass0 (pa_cons (pe_fld (pv 0) rfl) (pa_cons (pv 1) (pa_cons (pe_tup pa_nil) pa_nil)))) pa_nil)))), ?_⟩
    have no := sa.row.1
    refine ⟨_, rfl, o, dx, _, rfl, sa.ins, no ("_row" : Str) (by decide +kernel), _, rfl, o, dx, fs, x, z, rfl, sa.ins, sa.row, hz, fun hin v0 rv0 => ?_, fun hin d H' s' n e => q1 hin d H' s' n e⟩
    obtain ⟨ht, hw, q3, q4⟩ := q2 hin
    obtain ⟨p, ys, p1, p2, p3⟩ := sa.sf.parts
    refine ⟨_, rfl, o, CS, dx, fs, _, rfl, sa.ins, T.cl, T.n1, p1, _, rfl, (by show 0 ≤ sizeLine; decide), fun m hm => ?_⟩
    have s1 := same_new hm (.tup [])
    refine ⟨upd H m (.tup []), p, m, x, .nil, ys, [], z, 0, rfl, by decide, sa.ok, sa.l12, by simp [Its.len], Same.refl _, s1 _ _ p2, p3.same s1, upd_same, by simp only [Its.At], fun r zs H2 s2 hr2 hz2 => ?_⟩
    have hz3 := hz2.same (tl_le s2)
    refine fun o2 dx2 no2 ndx2 nex2 => ?_
    have s3 : Same H2 (upd (upd H2 dx2 (.own o2)) o2 (.ins CS dx2 [])) := fun b u e => by
      rw [upd_ne (ne_of_none e no2), upd_ne (ne_of_none e ndx2)]
      exact e
    have z3 : ∀ H', Off o2 (upd (upd H2 dx2 (.own o2)) o2 (.ins CS dx2 [])) H' → Same H2 H' := fun H' off b u e => off b u (ne_of_none e no2) (s3 b u e)
    have S2 := s1.trans s2
    exact ⟨o2, r, dx2, _, zs, rfl, upd_same, .inl (s3 _ _ hr2), hz3.same s3, ht, hw, fun sh H' fs' off ho' sf row' => ⟨rfl, q3 sh H' o2 dx2 fs' (S2.trans (z3 H' off)) ⟨ho', sf, row', (shape_12 sh).1, (shape_12 sh).2⟩⟩, fun sh H' off => q4 sh H' (S2.trans (z3 H' off))⟩
end
end Bs

set_option Elab.async false
set_option linter.all false
set_option maxRecDepth 100000
set_option maxHeartbeats 8000000
namespace Bs
open PySem L2
/-! ### tables by names -/
section
variable {α : Type}
def tget (l : List (Str × α)) (z : Str) : Option α := (l.find? fun p => decide (p.1 = z)).map (·.2)
def tput (l : List (Str × α)) (z : Str) (a : α) : List (Str × α) := if (l.any fun p => decide (p.1 = z)) = true then l.map (fun p => if p.1 = z then (p.1, a) else p) else l ++ [(z, a)]
def tdrop (l : List (Str × α)) (z : Str) : List (Str × α) := l.filter fun p => decide (p.1 ≠ z)
def TabR (r : V → α → Prop) : List (Key × V) → List (Str × α) → Prop := Paired fun p q => p.1 = .inr q.1 ∧ r p.2 q.2
variable {r r' : V → α → Prop}
theorem TabR.imp (h : ∀ v a, r v a → r' v a) : ∀ {k : List (Key × V)} {l : List (Str × α)}, TabR r k l → TabR r' k l
  | _, _, .nil => .nil
  | _, _, .cons a t => .cons ⟨a.1, h _ _ a.2⟩ (TabR.imp h t)
theorem TabR.len : ∀ {k : List (Key × V)} {l : List (Str × α)}, TabR r k l → k.length = l.length
  | _, _, .nil => rfl
  | _, _, .cons _ t => by rw [List.length_cons, List.length_cons, TabR.len t]
theorem TabR.keys : ∀ {k : List (Key × V)} {l : List (Str × α)}, TabR r k l → k.map (·.1) = (l.map (·.1)).map Sum.inr
  | _, _, .nil => rfl
  | _, _, .cons a t => by rw [List.map_cons, List.map_cons, List.map_cons, TabR.keys t, a.1]
theorem TabR.get : ∀ {k : List (Key × V)} {l : List (Str × α)} {z : Str}, TabR r k l → (∀ a, tget l z = some a → ∃ v, valV k (.inr z) = some v ∧ r v a) ∧ (tget l z = none → valV k (.inr z) = none)
  | _, _, z, .nil => ⟨fun a h => (by cases h), fun _ => rfl⟩
  | _, _, z, .cons (a := p) (b := q) a t => by
    obtain ⟨h1, h2⟩ := TabR.get (z := z) t
    by_cases e : q.1 = z
    · have e2 : p.1 = .inr z := by rw [a.1, e]
      refine ⟨fun b h => ?_, fun h => ?_⟩
      · simp only [tget, List.find?_cons, e, decide_true, Option.map_some, Option.some.injEq] at h
        exact ⟨p.2, valV_pos e2, h ▸ a.2⟩
      · simp [tget, List.find?_cons, e] at h
    · have e2 : ¬ p.1 = .inr z := by rw [a.1]; exact fun q => e (Sum.inr.inj q)
      have e3 : ∀ l', tget (q :: l') z = tget l' z := fun l' => by simp [tget, List.find?_cons, e]
      rw [valV_neg e2]
      exact ⟨fun b h => h1 b (by rw [e3] at h; exact h), fun h => h2 (by rw [e3] at h; exact h)⟩
theorem TabR.any (z : Str) : ∀ {k : List (Key × V)} {l : List (Str × α)}, TabR r k l → (k.any fun p => decide (p.1 = .inr z)) = l.any fun p => decide (p.1 = z)
  | _, _, .nil => rfl
  | _, _, .cons (a := p) (b := q) a t => by
    rw [List.any_cons, List.any_cons, TabR.any z t, a.1]
    congr 1
    by_cases e : q.1 = z
    · rw [e]; simp
    · rw [decide_eq_false e, decide_eq_false (fun q => e (Sum.inr.inj q))]
theorem TabR.put {z : Str} {v : V} {a : α} (h : r v a) {k : List (Key × V)} {l : List (Str × α)} (t : TabR r k l) : TabR r (putK k (.inr z) v) (tput l z a) := by
  unfold putK tput
  rw [t.any z]
  by_cases c : (l.any fun p => decide (p.1 = z)) = true
  · rw [if_pos c, if_pos c]
    clear c
    have t' : TabR r k l := t
    unfold TabR at t' ⊢
    induction t' with
    | nil => exact .nil
    | @cons p q ps qs x y ih =>
      have ih := ih y
      rw [List.map_cons, List.map_cons]
      refine .cons ?_ ih
      by_cases e : q.1 = z
      · rw [if_pos e, if_pos (by rw [x.1, e])]; exact ⟨x.1, h⟩
      · rw [if_neg e, if_neg (by rw [x.1]; exact fun q => e (Sum.inr.inj q))]; exact x
  · rw [if_neg c, if_neg c]
    exact Paired.snoc t ⟨rfl, h⟩
theorem TabR.drop {z : Str} {k : List (Key × V)} {l : List (Str × α)} (t : TabR r k l) : TabR r (dropK k (.inr z)) (tdrop l z) := by
  unfold dropK tdrop
  have t' : TabR r k l := t
  unfold TabR at t' ⊢
  induction t' with
  | nil => exact .nil
  | @cons p q ps qs x y ih =>
    have ih := ih y
    rw [List.filter_cons, List.filter_cons]
    by_cases e : q.1 = z
    · rw [if_neg (fun c => absurd (show p.1 = .inr z by rw [x.1, e]) (of_decide_eq_true c)), if_neg (fun c => absurd e (of_decide_eq_true c))]; exact ih
    · rw [if_pos (decide_eq_true (by rw [x.1]; exact fun q => e (Sum.inr.inj q))), if_pos (decide_eq_true e)]; exact .cons x ih
theorem tput_keys {l : List (Str × α)} {z : Str} {a : α} : (tput l z a).map (·.1) = if (l.any fun p => decide (p.1 = z)) = true then l.map (·.1) else l.map (·.1) ++ [z] := by
  unfold tput
  by_cases c : (l.any fun p => decide (p.1 = z)) = true
  · rw [if_pos c, if_pos c, List.map_map]
    apply List.map_congr_left
    intro p _
    show (if p.1 = z then (p.1, a) else p).1 = p.1
    by_cases e : p.1 = z
    · rw [if_pos e]
    · rw [if_neg e]
  · rw [if_neg c, if_neg c, List.map_append]; rfl
theorem tput_nodup {l : List (Str × α)} {z : Str} {a : α} (h : (l.map (·.1)).Nodup) : ((tput l z a).map (·.1)).Nodup := by
  rw [tput_keys]
  by_cases c : (l.any fun p => decide (p.1 = z)) = true
  · rw [if_pos c]; exact h
  · rw [if_neg c]
    refine List.nodup_append.mpr ⟨h, by simp, fun x hx y hy e => c ?_⟩
    rw [List.mem_singleton.mp hy] at e
    obtain ⟨p, hp, rfl⟩ := List.mem_map.mp hx
    exact List.any_eq_true.mpr ⟨p, hp, decide_eq_true e⟩
theorem tput_len {l : List (Str × α)} {z : Str} {a : α} : (tput l z a).length ≤ l.length + 1 := by
  unfold tput
  split
  · rw [List.length_map]; omega
  · rw [List.length_append, List.length_singleton]; omega
theorem tdrop_nodup {l : List (Str × α)} {z : Str} (h : (l.map (·.1)).Nodup) : ((tdrop l z).map (·.1)).Nodup := by
  unfold tdrop
  exact h.sublist (List.filter_sublist.map _)
theorem tdrop_len {l : List (Str × α)} {z : Str} : (tdrop l z).length ≤ l.length := List.length_filter_le _ _
theorem tput_mem {l : List (Str × α)} {z : Str} {a : α} {p : Str × α} (h : p ∈ tput l z a) : p ∈ l ∨ p = (z, a) := by
  unfold tput at h
  split at h
  · obtain ⟨q, hq, e⟩ := List.mem_map.mp h
    by_cases c : q.1 = z
    · rw [if_pos c] at e; right; rw [← e, c]
    · rw [if_neg c] at e; left; rw [← e]; exact hq
  · rcases List.mem_append.mp h with h | h
    · exact .inl h
    · exact .inr (List.mem_singleton.mp h)
theorem tdrop_mem {l : List (Str × α)} {z : Str} {p : Str × α} (h : p ∈ tdrop l z) : p ∈ l := (List.mem_filter.mp h).1
theorem tget_mem {l : List (Str × α)} {z : Str} {a : α} (h : tget l z = some a) : (z, a) ∈ l := by
  unfold tget at h
  cases e : l.find? fun p => decide (p.1 = z) with
  | none => rw [e] at h; cases h
  | some p =>
    rw [e] at h
    have h := Option.some.inj h
    have m := List.mem_of_find?_eq_some e
    have k0 := List.find?_some (p := fun p : Str × α => decide (p.1 = z)) e
    have k := of_decide_eq_true k0
    rw [← h, ← k]; exact m
end
/-! ### named, without -/
abbrev sNamed : Stmt := top 71
abbrev sWithoutT : Stmt := top 72
def spNamed (CU : Addr) : Sp := fun vs H Q E => ∃ (d : Addr) (kvs : List (Key × V)) (z : Str), vs = [.ref d, .str z] ∧ Rd H d (.dK kvs) ∧ (reprText z).length ≤ 10020 ∧ (∀ v, valV kvs (.inr z) = some v → Q v H) ∧ (valV kvs (.inr z) = none → NoName CU z H E)
def spWithoutT (CU : Addr) : Sp := fun vs H Q E => ∃ (d : Addr) (kvs : List (Key × V)) (z : Str), vs = [.ref d, .str z] ∧ H d = some (.dK kvs) ∧ (reprText z).length ≤ 10020 ∧ kvs.length ≤ 1000 ∧ (kvs.map (·.1)).Nodup ∧ (∀ p ∈ kvs, ∃ y : Str, p.1 = .inr y) ∧
  (∀ v, valV kvs (.inr z) = some v → ∀ p H', Same H H' → H p = none → H' p = some (.dK (dropK kvs (.inr z))) → Q (.ref p) H') ∧ (valV kvs (.inr z) = none → NoName CU z H E)
theorem val_of_nodup : ∀ {kvs : List (Key × V)} {i : Nat} {k : Key} {v : V}, (kvs.map (·.1)).Nodup → kvs[i]? = some (k, v) → valV kvs k = some v
  | [], i, k, v, _, h => by simp at h
  | p :: r, 0, k, v, nd, h => by simp at h; subst h; exact valV_pos rfl
  | p :: r, i + 1, k, v, nd, h => by
    rw [List.map_cons, List.nodup_cons] at nd
    have h : r[i]? = some (k, v) := by simpa using h
    rw [valV_neg (fun e => nd.1 (by rw [e]; exact List.mem_map.mpr ⟨(k, v), List.mem_of_getElem? h, rfl⟩))]
    exact val_of_nodup nd.2 h
theorem val_none {kvs : List (Key × V)} {k : Key} (h : k ∉ kvs.map (·.1)) : valV kvs k = none := by
  cases e : valV kvs k with
  | none => rfl
  | some v => exact absurd (valV_in e) h
section
variable {P : Program} {w : World} {K : PySem.W.Frag} {mg : Str → Option Value} {base : Heap} {f C CU CS : Addr} {fd : FuncData}
theorem scNamed : FnScope ["table", "name"] ["table", "name"] (defScope sNamed) := ⟨rfl, rfl, rfl, by decide +kernel, rfl, by decide +kernel, by decide +kernel⟩
theorem ok_named {fU : Addr} {fdU : FuncData} (F : Fun K "named" "named" sNamed f fd) (U : UnkC K mg CU fU) (GU : FnOk P w K mg base CX0 1 fU fdU ["self", "name"] (spUnk CU)) (bU : Binds K fdU ["self", "name"] []) :
    FnOk P w K mg base (L2.CX P w) 3 f fd ["table", "name"] (spNamed CU) := by
  refine F.okX scNamed (fun vs H Q E h => ?_) (fun cdv A outer s H vs Q E hr h => ?_)
  · obtain ⟨d, kvs, z, rfl, _⟩ := h
    rfl
  · obtain ⟨d, kvs, z, rfl, hd, hz, q1, q2⟩ := h
    have hu := hu_of hr
    have tk : Takes (cxOf (L2.CX P w) P w K mg base ["table", "name"] "named" (defScope sNamed) f cdv A outer s H E) (fun cls d _ H => E cls d H) := takes_of rfl rfl rfl rfl
    refine ⟨_, pss_cons (ps_if (pt_cmp (pc_dnotin hu (pv 1) (pv 0)) (by rfl)) (pss_one (ps_raise rfl tk (pmk_oex U.T U.i U.t GU hr bU .nil pass0 (by rfl) U.g (pa_cons (pv 1) pa_nil)))) pss_nil)
      (pss_one (ps_ret (pe_dget hu (pv 0) (pv 1) (fun _ _ => rfl)))), ?_⟩
    have dg : DGet H d (kV (.inr z)) (valV kvs (.inr z)) := .inl ⟨kvs, .inr z, hd, rfl, rfl⟩
    refine ⟨_, rfl, _, rfl, d, _, rfl, dg, _, rfl, ?_⟩
    cases hv : valV kvs (.inr z) with
    | some v =>
      refine iteF ?_
      refine ⟨_, rfl, _, rfl, d, v, rfl, ?_, q1 v hv⟩
      have t := dg
      rw [hv] at t
      exact t
    | none =>
      refine iteT ?_
      refine ⟨_, rfl, (by show 1 ≤ 1000; decide), fun a na => ?_⟩
      refine ⟨a, z, rfl, upd_same, hz, fun dd n ne => ⟨rfl, dd, [("name", .str z)], upd_same, ?_, ?_, ?_⟩⟩
      · rw [upd_ne ne, upd_same]
      · rw [upd_ne ne] at n; exact n
      · have n0 : H dd = none := by rw [upd_ne ne] at n; exact n
        refine q2 hv dd _ (fun b u e => ?_) n0 upd_same
        have b1 : b ≠ dd := ne_of_none e n0
        have b2 : b ≠ a := ne_of_none e na
        rw [upd_ne b1, del_ne b2, upd_ne b2, upd_ne b1, upd_ne b2]
        exact e
abbrev nWoT : List Str := ["table", "name", "one"]
theorem scWithoutT : FnScope nWoT ["table", "name"] (defScope sWithoutT) := ⟨rfl, rfl, rfl, by decide +kernel, rfl, by decide +kernel, by decide +kernel⟩
theorem ok_withoutT (F : Fun K "without" "without" sWithoutT f fd) (gN : Cal P w K mg base (L2.CX P w) 3 "named" ["table", "name"] (spNamed CU)) :
    FnOk P w K mg base (L2.CX P w) 4 f fd ["table", "name"] (spWithoutT CU) := by
  refine F.okX scWithoutT (fun vs H Q E h => ?_) (fun cdv A outer s H vs Q E hr h => ?_)
  · obtain ⟨d, kvs, z, rfl, _⟩ := h
    rfl
  · obtain ⟨d, kvs, z, rfl, hd, hz, hl, nd, hk, q1, q2⟩ := h
    have hu := hu_of hr
    have tk : Takes (cxOf (L2.CX P w) P w K mg base nWoT "without" (defScope sWithoutT) f cdv A outer s H E) (fun cls d _ H => E cls d H) := takes_of rfl rfl rfl rfl
    have hx := passes_call tk (E := E) fun _ _ _ _ h => h
    refine ⟨_, pss_cons (ps_expr (pe_cal gN hr hx (pa_cons (pv 0) (pa_cons (pv 1) pa_nil))))
      (pss_one (ps_ret (pe_lock (pe_dc (own := [("one", 2)]) (g := gName 2) rfl scWithoutT.nd (pi_keys (pv 0)) (blkOk_by (own := [("one", 2)]) (N := nWoT) (sc := defScope sWithoutT) (by decide +kernel))
          (fun _ _ _ _ _ => pg_name (i := 2) scWithoutT.nd rfl (Or.inl rfl)) (fun _ _ _ _ _ => pts_one (pt_cmpR op_ne (pv 2) (pv 1) (nomark _))) (fun _ _ _ _ _ => pv 2) (fun _ _ _ _ _ => pe_dget hu (pv 0) (pv 2) (fun _ _ => rfl)))))), ?_⟩
    refine ⟨_, rfl, _, rfl, d, kvs, z, rfl, .inl hd, hz, fun v hv => ?_, q2⟩
    have q1 := q1 v hv
    refine ⟨d, _, hd, True.intro, fun od => ?_⟩
    refine ⟨_, rfl, d, od, rfl, .inl ⟨kvs, upd_same, fun D hD => ?_⟩⟩
    have hDd : D ≠ d := fun e => by rw [e, upd_same] at hD; cases hD
    have hD0 : H D = none := by rw [upd_ne hDd] at hD; exact hD
    refine ⟨fun i m H' => m = kvs.length - i ∧ i ≤ kvs.length ∧ H' = upd (upd H d (.frz od (.dK kvs))) D (.dK (dropK (kvs.take i) (.inr z))), ⟨kvs.length, by simp, Nat.zero_le _, by simp [dropK]⟩, ?_⟩
    rintro i m H' ⟨rfl, hi, rfl⟩
    have hd' : (upd (upd H d (.frz od (.dK kvs))) D (.dK (dropK (kvs.take i) (.inr z)))) d = some (.frz od (.dK kvs)) := by rw [upd_ne (Ne.symm hDd), upd_same]
    by_cases c : i < kvs.length
    · refine .inr ⟨⟨hd', c⟩, fun H' => H' = upd (upd H d (.frz od (.dK kvs))) D (.dK (dropK (kvs.take (i + 1)) (.inr z))), fun H' e => ⟨kvs.length - (i + 1), by omega, rfl, by omega, e⟩, ?_⟩
      rintro x H2 ⟨rfl, k, v2, hk2, rfl⟩
      obtain ⟨y, ey⟩ := hk (k, v2) (List.mem_of_getElem? hk2)
      have ey : k = .inr y := ey
      subst ey
      have tm : kvs.take (i + 1) = kvs.take i ++ [(.inr y, v2)] := take_more hk2
      have dt : dropK (kvs.take (i + 1)) (.inr z) = dropK (kvs.take i) (.inr z) ++ if y = z then [] else [(.inr y, v2)] := by
        rw [tm]
        unfold dropK
        rw [List.filter_append]
        by_cases e : y = z
        · rw [if_pos e]; simp [List.filter, e]
        · rw [if_neg e]; simp [List.filter, e]
      refine ⟨rfl, _, rfl, _, rfl, rfl, _, rfl, ?_⟩
      by_cases e : y = z
      · rw [decide_eq_true (show kV (.inr y) = V.str z by rw [e]; rfl)]
        refine iteF ?_
        rw [dt, if_pos e, List.append_nil]
      · rw [decide_eq_false (show ¬ kV (.inr y) = V.str z from fun q => e (V.str.inj q))]
        refine iteT ?_
        refine ⟨_, rfl, _, rfl, _, rfl, d, v2, rfl, .inl ⟨kvs, .inr y, .inr ⟨od, hd'⟩, rfl, (val_of_nodup nd hk2).symm⟩, _, .inr y, rfl, upd_same, small1000 ?_, ?_⟩
        · have := dropK_le (kvs.take i) (.inr z)
          rw [List.length_take] at this
          omega
        · rw [upd_upd, dt, if_neg e, putK_new]
          refine val_none fun m => ?_
          obtain ⟨p, hp, ep⟩ := List.mem_map.mp m
          have hp := dropK_mem hp
          rw [← List.take_append_drop i kvs, List.map_append] at nd
          have dis := (List.nodup_append.mp nd).2.2
          refine dis p.1 (List.mem_map.mpr ⟨p, hp, rfl⟩) (.inr y) (List.mem_map.mpr ⟨(.inr y, v2), ?_, rfl⟩) ep
          exact List.mem_of_getElem? (i := 0) (by rw [List.getElem?_drop]; simpa using hk2)
    · have e : i = kvs.length := by omega
      subst e
      refine .inl ⟨⟨hd', Nat.le_refl _⟩, hd', ?_⟩
      rw [List.take_length]
      refine q1 D _ (fun b u e => ?_) hD0 (by rw [upd_ne hDd, upd_same])
      by_cases b1 : b = d
      · rw [b1, upd_same]; rw [b1, hd] at e; exact e
      · rw [upd_ne b1, upd_ne (ne_of_none e hD0), upd_ne b1]; exact e
end
end Bs

set_option Elab.async false
set_option linter.all false
set_option maxRecDepth 100000
set_option maxHeartbeats 8000000
namespace Bs
open PySem L2
/-! ### boards -/
structure Bd where
  sh : List (Str × Its)
  qs : List (Str × (Str × List Str))
def shortN (z : Str) : Prop := (reprText z).length ≤ 10020
/-- what holds of every board of a law (m: how many changes led to it) -/
structure Bd.ok (m : Nat) (b : Bd) : Prop where
  n1 : (b.sh.map (·.1)).Nodup
  n2 : (b.qs.map (·.1)).Nodup
  l1 : b.sh.length ≤ m
  l2 : b.qs.length ≤ m
  s : ∀ p ∈ b.sh, p.2.shape = true ∧ p.2.len ≤ 3 ∧ (∀ y ∈ p.2.toL, y.bc) ∧ p.2.tame
  q : ∀ p ∈ b.qs, p.2.2.length ≤ 10
def ShV (CS : Addr) (H : Hp) (v : V) (x : Its) : Prop := ∃ o dx fs, v = .ref o ∧ ShapeAt CS o dx fs x H
def EntV (CS : Addr) (H : Hp) (v : V) (x : Its) : Prop := ∃ (t : Addr) (n : Int) (u : V), v = .ref t ∧ H t = some (.tup [.int n, u]) ∧ ShV CS H u x
def QuV (H : Hp) (v : V) (q : Str × List Str) : Prop := ∃ t u : Addr, v = .ref t ∧ H t = some (.tup [.str q.1, .ref u]) ∧ H u = some (.tup (q.2.map V.str))
theorem ShV.same {CS : Addr} {H H' : Hp} (s : Same H H') {v : V} {x : Its} (h : ShV CS H v x) : ShV CS H' v x := let ⟨o, dx, fs, e, h⟩ := h; ⟨o, dx, fs, e, h.same s⟩
theorem EntV.same {CS : Addr} {H H' : Hp} (s : Same H H') {v : V} {x : Its} (h : EntV CS H v x) : EntV CS H' v x := let ⟨t, n, u, e, h1, h2⟩ := h; ⟨t, n, u, e, s _ _ h1, h2.same s⟩
theorem QuV.same {H H' : Hp} (s : Same H H') {v : V} {q : Str × List Str} (h : QuV H v q) : QuV H' v q := let ⟨t, u, e, h1, h2⟩ := h; ⟨t, u, e, s _ _ h1, s _ _ h2⟩
def fldB : List Str := ["shapes", "questions"]
structure BdAt (CB CS : Addr) (H : Hp) (v : V) (b : Bd) : Prop where
  h : ∃ (o dx d1 d2 : Addr) (fs : List (Str × V)) (k1 k2 : List (Key × V)), v = .ref o ∧ H o = some (.ins CB dx fs) ∧ fs.lookup ("shapes" : Str) = some (.ref d1) ∧ fs.lookup ("questions" : Str) = some (.ref d2) ∧ (∀ g, g ∉ fldB → fs.lookup g = none) ∧
    H d1 = some (.dK k1) ∧ TabR (EntV CS H) k1 b.sh ∧ H d2 = some (.dK k2) ∧ TabR (QuV H) k2 b.qs
theorem BdAt.same {CB CS : Addr} {H H' : Hp} (s : Same H H') {v : V} {b : Bd} (h : BdAt CB CS H v b) : BdAt CB CS H' v b := by
  obtain ⟨o, dx, d1, d2, fs, k1, k2, e, h1, h2, h3, h4, h5, h6, h7, h8⟩ := h.h
  exact ⟨o, dx, d1, d2, fs, k1, k2, e, s _ _ h1, h2, h3, h4, s _ _ h5, h6.imp fun _ _ => EntV.same s, s _ _ h7, h8.imp fun _ _ => QuV.same s⟩
structure BoardC (K : PySem.W.Frag) (CB : Addr) : Prop where
  cl : Cls K CB
  n1 : NoAttr K CB "shapes"
  n2 : NoAttr K CB "questions"
abbrev sBInit : Stmt := inClass (top 73) 0
abbrev sWithEntry : Stmt := inClass (top 73) 1
abbrev sWithoutS : Stmt := inClass (top 73) 2
abbrev sWithQ : Stmt := inClass (top 73) 3
abbrev sWithoutQ : Stmt := inClass (top 73) 4
/-- a board is made -/
def spBInit (CB : Addr) : Sp := fun vs H Q _ => ∃ (o dx d1 d2 : Addr), vs = [.ref o, .ref d1, .ref d2] ∧ H o = some (.ins CB dx []) ∧ ∀ H' fs, Off o H H' → H' o = some (.ins CB dx fs) → fs.lookup ("shapes" : Str) = some (.ref d1) → fs.lookup ("questions" : Str) = some (.ref d2) → (∀ g, g ∉ fldB → fs.lookup g = none) → Q .non H'
/-- the changed board, or an error -/
def BdRet (CB CS : Addr) (b' : Bd) (H : Hp) (Q : VK) : Prop := ∀ v H', Same H H' → BdAt CB CS H' v b' → Q v H'
def spWithEntry (CB CS : Addr) : Sp := fun vs H Q _ => ∃ (v u : V) (b : Bd) (z : Str) (x : Its) (m : Nat), vs = [v, .str z, u] ∧ BdAt CB CS H v b ∧ b.ok m ∧ m ≤ 1000 ∧ EntV CS H u x ∧ BdRet CB CS { b with sh := tput b.sh z x } H Q
section
variable {P : Program} {w : World} {K : PySem.W.Frag} {mg : Str → Option Value} {base : Heap} {f fI C CU CN CQ CB CS : Addr} {fd fdI : FuncData}
theorem scBInit : FnScope ["self", "shapes", "questions"] ["self", "shapes", "questions"] (defScope sBInit) := ⟨rfl, rfl, rfl, by decide +kernel, rfl, by decide +kernel, by decide +kernel⟩
theorem ok_binit (F : Fun K "__init__" "Board.__init__" sBInit f fd) (T : BoardC K CB) : FnOk P w K mg base CX0 1 f fd ["self", "shapes", "questions"] (spBInit CB) := by
  refine F.ok scBInit (fun vs H Q E h => ?_) (fun cdv A outer s H vs Q E hr h => ?_)
  · obtain ⟨o, dx, d1, d2, rfl, _⟩ := h
    rfl
  · obtain ⟨o, dx, d1, d2, rfl, ho, q⟩ := h
    refine ⟨_, pss_cons (ps_fld (pv 0) (pv 1) rfl) (pss_one (ps_fld (pv 0) (pv 2) rfl)), ?_⟩
    refine ⟨_, rfl, _, rfl, o, CB, dx, [], rfl, ho, T.cl, T.n1, by simp, ?_⟩
    refine ⟨_, rfl, _, rfl, o, CB, dx, _, rfl, upd_same, T.cl, T.n2, Nat.lt_of_le_of_lt (putF_len _ _ _) (by decide), ?_⟩
    refine q _ _ (fun b u n e => by rw [upd_ne n, upd_ne n]; exact e) upd_same ?_ ?_ fun g hg => ?_
    · rw [lookup_putF, if_neg (by decide +kernel), lookup_putF, if_pos rfl]
    · rw [lookup_putF, if_pos rfl]
    · have g1 : ¬ g = "questions" := fun e => hg (by rw [e]; decide +kernel)
      have g2 : ¬ g = "shapes" := fun e => hg (by rw [e]; decide +kernel)
      rw [lookup_putF, if_neg g1, lookup_putF, if_neg g2]; rfl
/-- behind the making of a board -/
theorem made_board {H H' : Hp} {o dx : Addr} (no : H o = none) (ndx : H dx = none) (off : Off o (upd (upd H dx (.own o)) o (.ins CB dx [])) H') : Same H H' := fun b u e => by
  have n2 : b ≠ dx := ne_of_none e ndx
  have n1 : b ≠ o := ne_of_none e no
  exact off b u n1 (by rw [upd_ne n1, upd_ne n2]; exact e)
theorem scWithEntry : FnScope ["self", "name", "entry"] ["self", "name", "entry"] (defScope sWithEntry) := ⟨rfl, rfl, rfl, by decide +kernel, rfl, by decide +kernel, by decide +kernel⟩
theorem ok_withentry (F : Fun K "with_entry" "Board.with_entry" sWithEntry f fd) (T : BoardC K CB) (M : Mk K CB fI) (GI : FnOk P w K mg base CX0 1 fI fdI ["self", "shapes", "questions"] (spBInit CB)) (bI : Binds K fdI ["self", "shapes", "questions"] []) (gB : mg "Board" = some (.ref CB)) :
    FnOk P w K mg base CX0 3 f fd ["self", "name", "entry"] (spWithEntry CB CS) := by
  refine F.ok scWithEntry (fun vs H Q E h => ?_) (fun cdv A outer s H vs Q E hr h => ?_)
  · obtain ⟨v, u, b, z, x, m, rfl, _⟩ := h
    rfl
  · obtain ⟨v, u, b, z, x, m, rfl, hb, ok, hm, hu, q⟩ := h
    obtain ⟨o, dx, d1, d2, fs, k1, k2, rfl, ho, l1, l2, ln, hd1, t1, hd2, t2⟩ := hb.h
    refine ⟨_, pss_one (ps_ret (pe_make M GI hr (by rfl) gB bI .nil pass0 (pa_cons (Rj.pe_star (pe_fld (pv 0) rfl) (pv 1) (pv 2)) (pa_cons (pe_fld (pv 0) rfl) pa_nil)))), ?_⟩
    intro p hp
    have s1 := same_new hp (.dK [])
    have nd1 : d1 ≠ p := ne_of_none hd1 hp
    have kl := t1.len
    have ol := ok.l1
    refine ⟨_, rfl, o, CB, dx, fs, _, rfl, s1 _ _ ho, T.cl, T.n1, l1, d1, k1, rfl, nd1, .inl (s1 _ _ hd1), upd_same, le_line (by omega), fun p2 hp2 => ?_⟩
    rw [upd_upd] at hp2 ⊢
    have np : p2 ≠ p := fun e => by rw [e, upd_same] at hp2; cases hp2
    have hp20 : H p2 = none := by rw [upd_ne np] at hp2; exact hp2
    refine ⟨_, rfl, _, rfl, np, upd_same, by rw [upd_ne (Ne.symm np), upd_same], .inr z, rfl, ?_⟩
    have sA : Same H (upd (upd (upd (upd H p (.dK k1)) p2 (.dK [])) p2 (.dK [(.inr z, u)])) p (.dK (putK k1 (.inr z) u))) := fun b u' e => by
      have n1 := ne_of_none e hp
      have n2 := ne_of_none e hp20
      rw [upd_ne n1, upd_ne n2, upd_ne n2, upd_ne n1]; exact e
    have hpA : (upd (upd (upd (upd H p (.dK k1)) p2 (.dK [])) p2 (.dK [(.inr z, u)])) p (.dK (putK k1 (.inr z) u))) p = some (.dK (putK k1 (.inr z) u)) := upd_same
    generalize upd (upd (upd (upd H p (.dK k1)) p2 (.dK [])) p2 (.dK [(.inr z, u)])) p (.dK (putK k1 (.inr z) u)) = HA at sA hpA ⊢
    refine ⟨_, rfl, o, CB, dx, fs, _, rfl, sA _ _ ho, T.cl, T.n2, l2, fun o2 dx2 no2 ndx2 nex2 => ?_⟩
    refine ⟨o2, dx2, p, d2, rfl, upd_same, fun H' fs2 off ho2 f1 f2 f3 => ⟨rfl, ?_⟩⟩
    have sB := made_board no2 ndx2 off
    have sAB := sA.trans sB
    exact q _ H' sAB ⟨o2, dx2, p, d2, fs2, _, k2, rfl, ho2, f1, f2, f3, sB _ _ hpA, (t1.imp fun _ _ => EntV.same sAB).put (hu.same sAB), sAB _ _ hd2, t2.imp fun _ _ => QuV.same sAB⟩
end
end Bs

set_option Elab.async false
set_option linter.all false
set_option maxRecDepth 100000
set_option maxHeartbeats 8000000
namespace Bs
open PySem L2
/-! ### a board's other methods; the steps of a board -/
inductive Er where
  | unk (z : Str)
  | used (z : Str)
  | shape
  | quest
deriving DecidableEq
/-- how an error ends a call -/
def Errs (CU CN C CQ : Addr) (H : Hp) (E : XK) : Er → Prop
  | .unk z => NoName CU z H E
  | .used z => NoName CN z H E
  | .shape => ∀ H', Same H H' → E (.ref C) none H'
  | .quest => ∀ H', Same H H' → E (.ref CQ) none H'
def wordOf (z : Str) : Option Nat := if z = "ways" then some 1 else if z = "shortest" then some 1 else if z = "longest" then some 1 else if z = "covers" then some 2 else if z = "same" then some 2 else none
def qWords : List Str := ["ways", "shortest", "longest", "covers", "same", "way"]
def wShape (b : Bd) (z : Str) : Except Er Bd := match tget b.sh z with
  | none => .error (.unk z)
  | some _ => if (b.qs.any fun p => p.2.2.any fun y => decide (y = z)) = true then .error (.used z) else .ok { b with sh := tdrop b.sh z }
def firstOut (l : List (Str × Its)) : List Str → Option Str
  | [] => none
  | z :: r => match tget l z with
    | none => some z
    | some _ => firstOut l r
def wQuest (b : Bd) (z : Str) (wd : Str) (ns : List Str) : Except Er Bd := match wordOf wd with
  | none => .error (.unk wd)
  | some n => if n = ns.length then (match firstOut b.sh ns with
      | some y => .error (.unk y)
      | none => .ok { b with qs := tput b.qs z (wd, ns) }) else .error .quest
def woQuest (b : Bd) (z : Str) : Except Er Bd := match tget b.qs z with
  | none => .error (.unk z)
  | some _ => .ok { b with qs := tdrop b.qs z }
/-- what a step gives: the board, or the error -/
def Res (CB CS CU CN C CQ : Addr) (H : Hp) (Q : VK) (E : XK) : Except Er Bd → Prop
  | .ok b => BdRet CB CS b H Q
  | .error e => Errs CU CN C CQ H E e
structure QstC (K : PySem.W.Frag) (mg : Str → Option Value) (C : Addr) : Prop where
  gC : mg "InvalidQuestion" = some (.ref C)
  kC : PySem.W.keepIn K (.ref C) = true
  xC : PySem.W.excIn K C veB "ValueError.__new__" = true
  bC : PySem.W.subIn K (.ref C) (.type "BaseException") = some true
  tC : PySem.W.typeIn K (.ref C) = some (.type "type")
structure UsedC (K : PySem.W.Frag) (mg : Str → Option Value) (CU fU : Addr) : Prop where
  T : OexC K CU
  g : mg "NameInUse" = some (.ref CU)
  i : PySem.W.findIn K (.ref CU) "__init__" = some (some (.ref fU))
  t : PySem.W.typeIn K (.ref fU) = some (.type "function")
/-- the words of questions -/
def WordsC (K : PySem.W.Frag) (w : World) (mg : Str → Option Value) : Prop := ∃ d es n, mg "WORDS" = some (.ref d) ∧ KDict K w d es n ∧ ∀ z ∈ qWords, match wordOf z with
  | some k => ∃ t, PySem.W.nsIn K d z = some (some (.int (k : Nat) t))
  | none => PySem.W.nsIn K d z = some none
theorem tab_keys {α : Type} {r : V → α → Prop} {k : List (Key × V)} {l : List (Str × α)} (t : TabR r k l) (n : (l.map (·.1)).Nodup) : (k.map (·.1)).Nodup ∧ ∀ p ∈ k, ∃ y : Str, p.1 = .inr y := by
  refine ⟨?_, fun p hp => ?_⟩
  · rw [t.keys]
    exact List.Pairwise.map Sum.inr (fun a b h e => h (Sum.inr.inj e)) n
  · have m : p.1 ∈ k.map (·.1) := List.mem_map.mpr ⟨p, hp, rfl⟩
    rw [t.keys] at m
    obtain ⟨y, _, e⟩ := List.mem_map.mp m
    exact ⟨y, e.symm⟩
theorem pget {α β : Type} {F : α → β → Prop} : ∀ {xs : List α} {ys : List β}, Paired F xs ys → ∀ {i : Nat} {x : α}, xs[i]? = some x → ∃ y, ys[i]? = some y ∧ F x y
  | _, _, .nil, i, x, h => by simp at h
  | _, _, .cons r t, 0, x, h => by simp at h; subst h; exact ⟨_, rfl, r⟩
  | _, _, .cons r t, i + 1, x, h => by
    simp at h
    obtain ⟨y, e, f⟩ := pget t h
    exact ⟨y, by simpa using e, f⟩
theorem str_at0 {ws : List Str} {i : Nat} {x : V} (h : (ws.map V.str)[i]? = some x) : ∃ z, ws[i]? = some z ∧ x = .str z := by
  rw [List.getElem?_map] at h
  cases e : ws[i]? with
  | none => rw [e] at h; cases h
  | some z => rw [e] at h; exact ⟨z, rfl, (Option.some.inj h).symm⟩
theorem flat_strs (l : List Str) : (l.map V.str).all flatV = true := by
  rw [List.all_map, List.all_eq_true]; intro x _; rfl
theorem inV_strs (z : Str) (l : List Str) : inV (.str z) (l.map V.str) = l.any fun y => decide (y = z) := by
  unfold inV
  rw [List.any_map]
  congr 1
def spWoShape (CB CS CU CN C CQ : Addr) : Sp := fun vs H Q E => ∃ (v : V) (b : Bd) (z : Str) (m : Nat), vs = [v, .str z] ∧ BdAt CB CS H v b ∧ b.ok m ∧ m ≤ 1000 ∧ shortN z ∧ Res CB CS CU CN C CQ H Q E (wShape b z)
def spWQuest (CB CS CU CN C CQ : Addr) : Sp := fun vs H Q E => ∃ (v : V) (l : Addr) (b : Bd) (z wd : Str) (ns : List Str) (m : Nat), vs = [v, .str z, .str wd, .ref l] ∧ BdAt CB CS H v b ∧ b.ok m ∧ m ≤ 1000 ∧ shortN z ∧ wd ∈ qWords ∧ H l = some (.lst (ns.map V.str)) ∧ ns.length ≤ 10 ∧ (∀ y ∈ ns, shortN y) ∧ Res CB CS CU CN C CQ H Q E (wQuest b z wd ns)
def spWoQuest (CB CS CU CN C CQ : Addr) : Sp := fun vs H Q E => ∃ (v : V) (b : Bd) (z : Str) (m : Nat), vs = [v, .str z] ∧ BdAt CB CS H v b ∧ b.ok m ∧ m ≤ 1000 ∧ shortN z ∧ Res CB CS CU CN C CQ H Q E (woQuest b z)
section
variable {P : Program} {w : World} {K : PySem.W.Frag} {mg : Str → Option Value} {base : Heap} {f fI fN C CU CN CQ CB CS : Addr} {fd fdI fdN : FuncData}
theorem Bd.ok.keys {m : Nat} {b : Bd} (ok : b.ok m) {r : V → Its → Prop} {k : List (Key × V)} (t : TabR r k b.sh) : (k.map (·.1)).Nodup ∧ ∀ p ∈ k, ∃ y : Str, p.1 = .inr y := tab_keys t ok.n1
abbrev nWoS : List Str := ["self", "name", "left", "_", "names"]
theorem scWoS : FnScope nWoS ["self", "name"] (defScope sWithoutS) := ⟨rfl, rfl, rfl, by decide +kernel, rfl, by decide +kernel, by decide +kernel⟩
theorem ok_woshape (F : Fun K "without_shape" "Board.without_shape" sWithoutS f fd) (T : BoardC K CB) (M : Mk K CB fI) (GI : FnOk P w K mg base CX0 1 fI fdI ["self", "shapes", "questions"] (spBInit CB)) (bI : Binds K fdI ["self", "shapes", "questions"] []) (gB : mg "Board" = some (.ref CB))
    (U : UsedC K mg CN fN) (GN : FnOk P w K mg base CX0 1 fN fdN ["self", "name"] (spUnk CN)) (bN : Binds K fdN ["self", "name"] []) (gW : Cal P w K mg base (L2.CX P w) 4 "without" ["table", "name"] (spWithoutT CU)) (man : mg "any" = none) :
    FnOk P w K mg base (L2.CX P w) 5 f fd ["self", "name"] (spWoShape CB CS CU CN C CQ) := by
  refine F.okX scWoS (fun vs H Q E h => ?_) (fun cdv A outer s H vs Q E hr h => ?_)
  · obtain ⟨v, b, z, m, rfl, _⟩ := h
    rfl
  · obtain ⟨v, b, z, m, rfl, hb, ok, hm, hz, q⟩ := h
    obtain ⟨o, dx, d1, d2, fs, k1, k2, rfl, ho, l1, l2, ln, hd1, t1, hd2, t2⟩ := hb.h
    have tk : Takes (cxOf (L2.CX P w) P w K mg base nWoS "Board.without_shape" (defScope sWithoutS) f cdv A outer s H E) (fun cls d _ H => E cls d H) := takes_of rfl rfl rfl rfl
    have hx := passes_call tk (E := E) fun _ _ _ _ h => h
    have kl := t1.len
    have ol := ok.l1
    have kl2 := t2.len
    have ol2 := ok.l2
    refine ⟨_, (pss_cons (ps_set (i := 2) scWoS.nd rfl (.inl rfl) (pe_cal gW hr hx (pa_cons (pe_fld (pv 0) rfl) (pa_cons (pv 1) pa_nil))))
      (pss_cons (ps_if (pt_val (pe_callB (cr_any rfl) (by rfl) man (by decide +kernel) (pa_cons (pe_lock (pe_lc (own := [("_", 3), ("names", 4)]) (g := gTup K 2 (gCons (gName 3) (gCons (gName 4) gNil))) (tt := tYes) rfl scWoS.nd (pi_values (pe_fld (pv 0) rfl)) (blkOk_by (own := [("_", 3), ("names", 4)]) (N := nWoS) (sc := defScope sWithoutS) (by decide +kernel))
          (fun _ _ _ _ _ => pg_tup rfl (pgs_cons (pg_name (i := 3) scWoS.nd rfl (.inl rfl)) (pgs_cons (pg_name (i := 4) scWoS.nd rfl (.inl rfl)) pgs_nil))) (fun _ _ _ _ _ => pts_nil) (fun _ _ _ _ _ => pe_cmpR (r := rIn K false) op_in_seq (pv 1) (pv 4) (by rfl)))) pa_nil)))
        (pss_one (ps_raise rfl tk (pmk_oex U.T U.i U.t GN (hr.mono (by decide)) bN .nil pass0 (by rfl) U.g (pa_cons (pv 1) pa_nil)))) pss_nil)
      (pss_one (ps_ret (pe_make M GI (hr.mono (by decide)) (by rfl) gB bI .nil pass0 (pa_cons (pv 2) (pa_cons (pe_fld (pv 0) rfl) pa_nil))))))), ?_⟩
    refine ⟨_, rfl, o, CB, dx, fs, _, rfl, ho, T.cl, T.n1, l1, _, rfl, d1, k1, z, rfl, hd1, hz, by omega, (ok.keys t1).1, (ok.keys t1).2, fun v0 hv p H1 s1 np hp => ?_, fun hv => ?_⟩
    · obtain ⟨a, ha⟩ : ∃ a, tget b.sh z = some a := by
        cases e : tget b.sh z with
        | none => rw [t1.get.2 e] at hv; cases hv
        | some a => exact ⟨a, rfl⟩
      have q' : Res CB CS CU CN C CQ H Q E (if (b.qs.any fun p => p.2.2.any fun y => decide (y = z)) = true then .error (.used z) else .ok { b with sh := tdrop b.sh z }) := by
        rw [wShape, ha] at q; exact q
      have hd21 := s1 _ _ hd2
      refine ⟨d2, _, hd21, True.intro, fun od => ?_⟩
      have od2 : o ≠ d2 := fun e => by rw [e, hd2] at ho; cases ho
      refine ⟨_, rfl, o, CB, dx, fs, _, rfl, by rw [upd_ne od2]; exact s1 _ _ ho, T.cl, T.n2, l2, d2, od, k2, rfl, upd_same, fun D hD => ?_⟩
      have nD : H1 D = none := by
        rw [upd_ne (fun e => by rw [e, upd_same] at hD; cases hD)] at hD; exact hD
      have Dd : D ≠ d2 := fun e => by rw [e, upd_same] at hD; cases hD
      refine lc_it walk_values (fun j H' => (∀ b u, b ≠ d2 → H1 b = some u → H' b = some u) ∧ H' d2 = some (.frz od (.dK k2)) ∧ H' D = some (.lst (((b.qs.take j).map fun p => p.2.2.any fun y => decide (y = z)).map V.bl))) ⟨fun b u n e => (by rw [upd_ne (ne_of_none e nD), upd_ne n]; exact e), (by rw [upd_ne (Ne.symm Dd), upd_same]), upd_same⟩ (fun _ _ _ h => h.2.1) ?_ ?_
      · rintro j v H2' H2 hj ⟨s2, f2, hac⟩ ⟨e3, kk, hv2⟩
        subst e3
        obtain ⟨qq, hq, eq, t, u, ev, ht, hu⟩ := pget t2 hv2
        have ev : v = .ref t := ev
        subst ev
        have ht1 := s1 _ _ ht
        have hu1 := s1 _ _ hu
        have td : t ≠ d2 := fun e => by rw [e, hd21] at ht1; cases ht1
        have ud : u ≠ d2 := fun e => by rw [e, hd21] at hu1; cases hu1
        have ht2 := s2 _ _ td ht1
        have hu2 := s2 _ _ ud hu1
        refine ⟨t, _, rfl, SqT.of ht2, rfl, _, _, rfl, _, _, rfl, rfl, ?_⟩
        refine ⟨rfl, yes_go ?_⟩
        refine ⟨_, rfl, _, rfl, u, _, rfl, .inr (SqT.of hu2), rfl, flat_strs _, _, hac, small1000 ?_, fun b u n e => ?_, ?_, ?_⟩
        · rw [List.length_map, List.length_map, List.length_take]; omega
        · rw [upd_ne (ne_of_none e nD)]; exact s2 _ _ n e
        · rw [upd_ne (Ne.symm Dd)]; exact f2
        · rw [upd_same, List.take_add_one, hq, Option.toList, List.map_append, List.map_append, List.map_cons, List.map_nil, List.map_cons, List.map_nil, ← inV_strs]
          rfl
      · rintro H2 ⟨s2, f2, hac⟩
        rw [kl2, List.take_length] at hac
        have sF : Same H1 (upd H2 d2 (.dK k2)) := fun b u e => by
          by_cases c : b = d2
          · rw [c, upd_same, ← hd21, ← c, e]
          · rw [upd_ne c]; exact s2 _ _ c e
        have hDF : upd H2 d2 (.dK k2) D = some (.lst ((b.qs.map fun p => p.2.2.any fun y => decide (y = z)).map V.bl)) := by rw [upd_ne Dd]; exact hac
        refine ⟨f2, ?_⟩
        generalize upd H2 d2 (.dK k2) = HF at sF hDF ⊢
        have sHF := s1.trans sF
        refine ⟨D, _, rfl, SqL.of hDF, ?_⟩
        rw [List.any_map]
        refine ⟨_, rfl, ?_⟩
        by_cases c : (b.qs.any fun p => p.2.2.any fun y => decide (y = z)) = true
        · rw [if_pos c] at q'
          rw [show (b.qs.any (id ∘ fun p => p.2.2.any fun y => decide (y = z))) = true from c]
          refine iteT ?_
          refine ⟨_, rfl, (by show 1 ≤ 1000; decide), fun a na => ?_⟩
          refine ⟨a, z, rfl, upd_same, hz, fun dd n ne => ⟨rfl, dd, [("name", .str z)], upd_same, ?_, ?_, ?_⟩⟩
          · rw [upd_ne ne, upd_same]
          · rw [upd_ne ne] at n; exact n
          · have n0 : HF dd = none := by rw [upd_ne ne] at n; exact n
            refine q' dd _ (fun b u e => ?_) (sHF.free n0) upd_same
            have e := sHF _ _ e
            have b1 : b ≠ dd := ne_of_none e n0
            have b2 : b ≠ a := ne_of_none e na
            rw [upd_ne b1, del_ne b2, upd_ne b2, upd_ne b1, upd_ne b2]
            exact e
        · rw [if_neg c] at q'
          rw [show (b.qs.any (id ∘ fun p => p.2.2.any fun y => decide (y = z))) = false from by simpa using c]
          refine iteF ?_
          refine ⟨_, rfl, _, rfl, o, CB, dx, fs, _, rfl, sHF _ _ ho, T.cl, T.n2, l2, fun o2 dx2 no2 ndx2 nex2 => ?_⟩
          refine ⟨o2, dx2, p, d2, rfl, upd_same, fun H' fs2 off ho2 f1 f2 f3 => ⟨rfl, ?_⟩⟩
          have sB := made_board no2 ndx2 off
          have sAB := sHF.trans sB
          exact q' _ H' sAB ⟨o2, dx2, p, d2, fs2, _, k2, rfl, ho2, f1, f2, f3, sB _ _ (sF _ _ hp), (t1.imp fun _ _ => EntV.same sAB).drop, sAB _ _ hd2, t2.imp fun _ _ => QuV.same sAB⟩
    · have e : tget b.sh z = none := by
        cases e : tget b.sh z with
        | none => rfl
        | some a => obtain ⟨v, h1, _⟩ := t1.get.1 a e; rw [hv] at h1; cases h1
      rw [wShape, e] at q
      exact q
theorem scWoQ : FnScope ["self", "name"] ["self", "name"] (defScope sWithoutQ) := ⟨rfl, rfl, rfl, by decide +kernel, rfl, by decide +kernel, by decide +kernel⟩
theorem ok_woquest (F : Fun K "without_question" "Board.without_question" sWithoutQ f fd) (T : BoardC K CB) (M : Mk K CB fI) (GI : FnOk P w K mg base CX0 1 fI fdI ["self", "shapes", "questions"] (spBInit CB)) (bI : Binds K fdI ["self", "shapes", "questions"] []) (gB : mg "Board" = some (.ref CB))
    (gW : Cal P w K mg base (L2.CX P w) 4 "without" ["table", "name"] (spWithoutT CU)) :
    FnOk P w K mg base (L2.CX P w) 5 f fd ["self", "name"] (spWoQuest CB CS CU CN C CQ) := by
  refine F.okX scWoQ (fun vs H Q E h => ?_) (fun cdv A outer s H vs Q E hr h => ?_)
  · obtain ⟨v, b, z, m, rfl, _⟩ := h
    rfl
  · obtain ⟨v, b, z, m, rfl, hb, ok, hm, hz, q⟩ := h
    obtain ⟨o, dx, d1, d2, fs, k1, k2, rfl, ho, l1, l2, ln, hd1, t1, hd2, t2⟩ := hb.h
    have tk : Takes (cxOf (L2.CX P w) P w K mg base ["self", "name"] "Board.without_question" (defScope sWithoutQ) f cdv A outer s H E) (fun cls d _ H => E cls d H) := takes_of rfl rfl rfl rfl
    have hx := passes_call tk (E := E) fun _ _ _ _ h => h
    have kl2 := t2.len
    have ol2 := ok.l2
    refine ⟨_, (pss_one (ps_ret (pe_make M GI (hr.mono (by decide)) (by rfl) gB bI .nil pass0 (pa_cons (pe_fld (pv 0) rfl) (pa_cons (pe_cal gW hr hx (pa_cons (pe_fld (pv 0) rfl) (pa_cons (pv 1) pa_nil))) pa_nil))))), ?_⟩
    refine ⟨_, rfl, o, CB, dx, fs, _, rfl, ho, T.cl, T.n1, l1, _, rfl, o, CB, dx, fs, _, rfl, ho, T.cl, T.n2, l2, _, rfl, d2, k2, z, rfl, hd2, hz, by omega, (tab_keys t2 ok.n2).1, (tab_keys t2 ok.n2).2, fun v0 hv p H1 s1 np hp => ?_, fun hv => ?_⟩
    · obtain ⟨a, ha⟩ : ∃ a, tget b.qs z = some a := by
        cases e : tget b.qs z with
        | none => rw [t2.get.2 e] at hv; cases hv
        | some a => exact ⟨a, rfl⟩
      have q' : BdRet CB CS { b with qs := tdrop b.qs z } H Q := by
        rw [woQuest, ha] at q; exact q
      refine fun o2 dx2 no2 ndx2 nex2 => ?_
      refine ⟨o2, dx2, d1, p, rfl, upd_same, fun H' fs2 off ho2 f1 f2 f3 => ⟨rfl, ?_⟩⟩
      have sB := made_board no2 ndx2 off
      have sAB := s1.trans sB
      exact q' _ H' sAB ⟨o2, dx2, d1, p, fs2, k1, _, rfl, ho2, f1, f2, f3, sAB _ _ hd1, t1.imp fun _ _ => EntV.same sAB, sB _ _ hp, (t2.imp fun _ _ => QuV.same sAB).drop⟩
    · have e : tget b.qs z = none := by
        cases e : tget b.qs z with
        | none => rfl
        | some a => obtain ⟨v, h1, _⟩ := t2.get.1 a e; rw [hv] at h1; cases h1
      rw [woQuest, e] at q
      exact q
theorem first_some {l : List (Str × Its)} : ∀ {ns : List Str} {i : Nat} {y : Str}, (∀ u ∈ ns.take i, tget l u ≠ none) → ns[i]? = some y → tget l y = none → firstOut l ns = some y
  | [], i, y, _, h, _ => by simp at h
  | z :: r, 0, y, _, h, e => by simp at h; subst h; simp [firstOut, e]
  | z :: r, i + 1, y, a, h, e => by
    have hz : tget l z ≠ none := a z (by simp)
    cases ez : tget l z with
    | none => exact absurd ez hz
    | some u => simp only [firstOut, ez]; exact first_some (i := i) (fun u hu => a u (by rw [List.take_succ_cons]; exact List.mem_cons_of_mem _ hu)) (by simpa using h) e
theorem first_none {l : List (Str × Its)} : ∀ {ns : List Str}, (∀ u ∈ ns, tget l u ≠ none) → firstOut l ns = none
  | [], _ => rfl
  | z :: r, a => by
    cases ez : tget l z with
    | none => exact absurd ez (a z (by simp))
    | some u => simp only [firstOut, ez]; exact first_none fun u hu => a u (List.mem_cons_of_mem _ hu)
abbrev nWQ : List Str := ["self", "name", "word", "names", "one"]
theorem scWQ : FnScope nWQ ["self", "name", "word", "names"] (defScope sWithQ) := ⟨rfl, rfl, rfl, by decide +kernel, rfl, by decide +kernel, by decide +kernel⟩
theorem ok_wquest {fU : Addr} {fdU : FuncData} (F : Fun K "with_question" "Board.with_question" sWithQ f fd) (T : BoardC K CB) (M : Mk K CB fI) (GI : FnOk P w K mg base CX0 1 fI fdI ["self", "shapes", "questions"] (spBInit CB)) (bI : Binds K fdI ["self", "shapes", "questions"] []) (gB : mg "Board" = some (.ref CB))
    (U : UnkC K mg CU fU) (GU : FnOk P w K mg base CX0 1 fU fdU ["self", "name"] (spUnk CU)) (bU : Binds K fdU ["self", "name"] []) (QC : QstC K mg CQ) (WC : WordsC K w mg)
    (gN : Cal P w K mg base (L2.CX P w) 3 "named" ["table", "name"] (spNamed CU)) (ml : mg "len" = none) (mt : mg "tuple" = none) :
    FnOk P w K mg base (L2.CX P w) 5 f fd ["self", "name", "word", "names"] (spWQuest CB CS CU CN C CQ) := by
  refine F.okX scWQ (fun vs H Q E h => ?_) (fun cdv A outer s H vs Q E hr h => ?_)
  · obtain ⟨v, l, b, z, wd, ns, m, rfl, _⟩ := h
    rfl
  · obtain ⟨v, l, b, z, wd, ns, m, rfl, hb, ok, hm, hz, hwd, hl, hn, hns, q⟩ := h
    obtain ⟨o, dx, d1, d2, fs, k1, k2, rfl, ho, l1, l2, ln, hd1, t1, hd2, t2⟩ := hb.h
    obtain ⟨dW, esW, nW, gW, DW, hW⟩ := WC
    have hW := hW wd hwd
    have hu := hu_of hr
    have tk : Takes (cxOf (L2.CX P w) P w K mg base nWQ "Board.with_question" (defScope sWithQ) f cdv A outer s H E) (fun cls d _ H => E cls d H) := takes_of rfl rfl rfl rfl
    have hx := passes_call tk (E := E) fun _ _ _ _ h => h
    have kl2 := t2.len
    have ol2 := ok.l2
    have swd : ((reprText wd).length ≤ 10020) := by
      simp only [qWords, List.mem_cons, List.not_mem_nil, or_false] at hwd
      rcases hwd with rfl | rfl | rfl | rfl | rfl | rfl <;> decide +kernel
    refine ⟨_, (pss_cons (ps_if (pt_cmpR (op_notIn_kd DW) (pv 2) (pe_glob (v := .ref dW) (by rfl) gW rfl) (by rfl)) (pss_one (ps_raise rfl tk (pmk_oex U.T U.i U.t GU (hr.mono (by decide)) bU .nil pass0 (by rfl) U.g (pa_cons (pv 2) pa_nil)))) pss_nil)
      (pss_cons (ps_if (pt_cmpR op_ne (pe_ix ix_kdict (pe_glob (v := .ref dW) (by rfl) gW rfl) (pv 2) (fun _ _ => rfl)) (pe_callB call_len (by rfl) ml boot_len (pa_cons (pv 3) pa_nil)) (nomark _))
          (pss_one (ps_raise rfl tk (SkE.pmk_own1 PySem.F.excBase_ValueError QC.xC QC.gC QC.kC (raises_own QC.bC QC.tC) rfl (pe_joined (.cons pe_str (.cons (pe_fmtR (pv 2)) (.cons pe_str .nil))))))) pss_nil)
      (pss_cons (ps_for (passes_of rfl) rfl (pi_list (pv 3)) (pg_name (i := 4) scWQ.nd rfl (.inl rfl)) (pss_one (ps_expr (pe_cal gN (hr.mono (by decide)) hx (pa_cons (pe_fld (pv 0) rfl) (pa_cons (pv 4) pa_nil))))))
      (pss_one (ps_ret (pe_make M GI (hr.mono (by decide)) (by rfl) gB bI .nil pass0 (pa_cons (pe_fld (pv 0) rfl) (pa_cons (Rj.pe_star (pe_fld (pv 0) rfl) (pv 1) (pe_tup (pa_cons (pv 2) (pa_cons (pe_tupleOf rfl mt (pv 3)) pa_nil)))) pa_nil)))))))), ?_⟩
    cases ew : wordOf wd with
    | none =>
      rw [ew] at hW
      have q : NoName CU wd H E := by rw [wQuest, ew] at q; exact q
      refine ⟨_, rfl, wd, _, rfl, rfl, hW, ?_⟩
      refine ⟨_, rfl, iteT ?_⟩
      refine ⟨_, rfl, (by show 1 ≤ 1000; decide), fun a na => ?_⟩
      refine ⟨a, wd, rfl, upd_same, swd, fun dd n ne => ⟨rfl, dd, [("name", .str wd)], upd_same, ?_, ?_, ?_⟩⟩
      · rw [upd_ne ne, upd_same]
      · rw [upd_ne ne] at n; exact n
      · have n0 : H dd = none := by rw [upd_ne ne] at n; exact n
        refine q dd _ (fun b u e => ?_) n0 upd_same
        have b1 : b ≠ dd := ne_of_none e n0
        have b2 : b ≠ a := ne_of_none e na
        rw [upd_ne b1, del_ne b2, upd_ne b2, upd_ne b1, upd_ne b2]
        exact e
    | some n =>
      rw [ew] at hW
      obtain ⟨tt, hW⟩ := hW
      refine ⟨_, rfl, wd, _, rfl, rfl, hW, ?_⟩
      refine ⟨_, rfl, iteF ?_⟩
      refine ⟨_, rfl, dW, wd, .int (n : Nat), rfl, rfl, ⟨esW, nW, _, DW.at_, DW.lit, hW, tt, rfl⟩, _, rfl, _, _, rfl, .inl ⟨_, SqL.of hl, rfl⟩, rfl, ?_⟩
      refine ⟨_, rfl, ite2 (fun c => ?_) (fun c => ?_)⟩
      · have c : ¬ n = ns.length := fun e => by
          have k : ns.length = (ns.map V.str).length := (List.length_map ..).symm
          rw [show V.int (n : Nat) = V.int ((ns.map V.str).length : Nat) by rw [e, ← k]] at c
          simp at c
        have q : ∀ H', Same H H' → E (.ref CQ) none H' := by rw [wQuest, ew] at q; simp only [if_neg c] at q; exact q
        have e1 : (Str.empty ++ ("another number of shapes than " : Str)).length = 30 := by decide +kernel
        have e2 : (" is about" : Str).length = 9 := by decide +kernel
        refine ⟨_, rfl, by decide +kernel, _, rfl, .inl ⟨wd, rfl, le_line (by omega), _, rfl, ?_, _, rfl, ?_, q H (Same.refl H)⟩⟩
        · rw [slen0, e1]; exact le_line (by omega)
        · rw [slen0, slen0, e1, e2]; exact le_line (by omega)
      · have c : n = ns.length := by
          have k : ns.length = (ns.map V.str).length := (List.length_map ..).symm
          simp at c
          omega
        have q : Res CB CS CU CN C CQ H Q E (match firstOut b.sh ns with
            | some y => .error (.unk y)
            | none => .ok { b with qs := tput b.qs z (wd, ns) }) := by rw [wQuest, ew] at q; simp only [if_pos c] at q; exact q
        refine ⟨_, rfl, l, rfl, ⟨_, SqL.of hl⟩, for_it (walk_list (K := K) (a := l) (xs := ns.map V.str)) (fun i σ H' => ∃ o5, σ = [some (.ref o), some (.str z), some (.str wd), some (.ref l), o5] ∧ H' = H ∧ ∀ u ∈ ns.take i, tget b.sh u ≠ none) ⟨_, rfl, rfl, by simp⟩ (fun _ _ _ _ h => by obtain ⟨_, _, e, _⟩ := h; rw [e]; exact SqL.of hl) ?_ ?_⟩
        · rintro i x σ H2' H2 hi ⟨o5, rfl, rfl, al⟩ ⟨e3, hv2⟩
          subst e3
          obtain ⟨y, hy, rfl⟩ := str_at0 hv2
          refine ⟨_, rfl, o, CB, dx, fs, _, rfl, ho, T.cl, T.n1, l1, _, rfl, d1, k1, y, rfl, .inl hd1, hns y (List.mem_of_getElem? hy), fun v hv => ?_, fun hv => ?_⟩
          · refine ⟨_, rfl, rfl, fun u hu => ?_⟩
            rw [List.take_add_one, hy] at hu
            rcases List.mem_append.mp hu with hu | hu
            · exact al u hu
            · have e : u = y := by simpa using hu
              subst e
              intro e
              rw [t1.get.2 e] at hv; cases hv
          · have e : tget b.sh y = none := by
              cases e : tget b.sh y with
              | none => rfl
              | some a => obtain ⟨v, h1, _⟩ := t1.get.1 a e; rw [hv] at h1; cases h1
            rw [first_some al hy e] at q
            exact q
        · rintro σ H2 ⟨o5, rfl, e, al⟩
          have e := e.symm
          subst e
          rw [List.length_map, List.take_length] at al
          rw [first_none al] at q
          refine ⟨_, rfl, o, CB, dx, fs, _, rfl, ho, T.cl, T.n1, l1, fun p hp => ?_⟩
          have s1 := same_new hp (.dK [])
          have nd2 : d2 ≠ p := ne_of_none hd2 hp
          refine ⟨_, rfl, o, CB, dx, fs, _, rfl, s1 _ _ ho, T.cl, T.n2, l2, d2, k2, rfl, nd2, .inl (s1 _ _ hd2), upd_same, le_line (by omega), fun p2 hp2 => ?_⟩
          rw [upd_upd] at hp2 ⊢
          have np : p2 ≠ p := fun e => by rw [e, upd_same] at hp2; cases hp2
          have hp20 : H p2 = none := by rw [upd_ne np] at hp2; exact hp2
          have sX : Same H (upd (upd H p (.dK k2)) p2 (.dK [])) := fun b u' e => by
            rw [upd_ne (ne_of_none e hp20), upd_ne (ne_of_none e hp)]; exact e
          have hpX : (upd (upd H p (.dK k2)) p2 (.dK [])) p = some (.dK k2) := by rw [upd_ne (Ne.symm np), upd_same]
          have hp2X : (upd (upd H p (.dK k2)) p2 (.dK [])) p2 = some (.dK []) := upd_same
          generalize upd (upd H p (.dK k2)) p2 (.dK []) = HX at sX hpX hp2X ⊢
          refine ⟨_, rfl, _, rfl, _, rfl, .inl ⟨l, _, rfl, SqL.of (sX _ _ hl), fun t ht => ?_⟩⟩
          have s3 := same_new ht (.tup (ns.map V.str))
          refine ⟨by show 2 ≤ sizeLine; decide, fun t2a ht2 => ?_⟩
          have s4 := same_new ht2 (.tup [.str wd, .ref t])
          refine ⟨np, s4 _ _ (s3 _ _ hp2X), s4 _ _ (s3 _ _ hpX), .inr z, rfl, ?_⟩
          have e2 : (upd (upd HX t (.tup (ns.map V.str))) t2a (.tup [.str wd, .ref t])) t2a = some (.tup [.str wd, .ref t]) := upd_same
          have e3 : (upd (upd HX t (.tup (ns.map V.str))) t2a (.tup [.str wd, .ref t])) t = some (.tup (ns.map V.str)) := s4 _ _ upd_same
          have sZ := sX.trans (s3.trans s4)
          have frp : ∀ a u, H a = some u → a ≠ p := fun a u e => ne_of_none e hp
          have fr2 : ∀ a u, H a = some u → a ≠ p2 := fun a u e => ne_of_none e hp20
          have tp : t ≠ p := (ne_of_none hpX ht).symm
          have tp2 : t ≠ p2 := (ne_of_none hp2X ht).symm
          have up : t2a ≠ p := (ne_of_none (s3 _ _ hpX) ht2).symm
          have up2 : t2a ≠ p2 := (ne_of_none (s3 _ _ hp2X) ht2).symm
          generalize upd (upd HX t (.tup (ns.map V.str))) t2a (.tup [.str wd, .ref t]) = HY at sZ e2 e3 ⊢
          have sF : Same H (upd (upd HY p2 (.dK [(.inr z, .ref t2a)])) p (.dK (putK k2 (.inr z) (.ref t2a)))) := fun b u e => by
            rw [upd_ne (frp _ _ e), upd_ne (fr2 _ _ e)]; exact sZ _ _ e
          have hpF : (upd (upd HY p2 (.dK [(.inr z, .ref t2a)])) p (.dK (putK k2 (.inr z) (.ref t2a)))) p = some (.dK (putK k2 (.inr z) (.ref t2a))) := upd_same
          have hqF : QuV (upd (upd HY p2 (.dK [(.inr z, .ref t2a)])) p (.dK (putK k2 (.inr z) (.ref t2a)))) (.ref t2a) (wd, ns) := ⟨t2a, t, rfl, by rw [upd_ne up, upd_ne up2]; exact e2, by rw [upd_ne tp, upd_ne tp2]; exact e3⟩
          generalize upd (upd HY p2 (.dK [(.inr z, .ref t2a)])) p (.dK (putK k2 (.inr z) (.ref t2a))) = HF at sF hpF hqF ⊢
          refine fun o2 dx2 no2 ndx2 nex2 => ?_
          refine ⟨o2, dx2, d1, p, rfl, upd_same, fun H' fs2 off ho2 f1 f2 f3 => ⟨rfl, ?_⟩⟩
          have sB := made_board no2 ndx2 off
          have sAB := sF.trans sB
          exact q _ H' sAB ⟨o2, dx2, d1, p, fs2, k1, _, rfl, ho2, f1, f2, f3, sAB _ _ hd1, t1.imp fun _ _ => EntV.same sAB, sB _ _ hpF, (t2.imp fun _ _ => QuV.same sAB).put (hqF.same sB)⟩
end
end Bs

set_option Elab.async false
set_option linter.all false
set_option maxRecDepth 100000
set_option maxHeartbeats 8000000
namespace Bs
open PySem L2
/-! ### the heap without the workbench -/
def wo (o : Addr) (H : Hp) : Hp := fun a => if a = o then none else H a
theorem wo_at {o a : Addr} {H : Hp} {u : HO} (e : H a = some u) (n : a ≠ o) : wo o H a = some u := by rw [wo, if_neg n]; exact e
theorem wo_same (o : Addr) (H : Hp) : Same (wo o H) H := fun b u e => by
  unfold wo at e
  by_cases c : b = o
  · rw [if_pos c] at e; cases e
  · rw [if_neg c] at e; exact e
theorem wo_off {o : Addr} {H H' : Hp} (off : Off o H H') : Same (wo o H) (wo o H') := fun b u e => by
  unfold wo at e ⊢
  by_cases c : b = o
  · rw [if_pos c] at e; cases e
  · rw [if_neg c] at e ⊢; exact off _ _ c e
theorem wo_upd {o : Addr} {H : Hp} {u : HO} : wo o (upd H o u) = wo o H := by
  funext b
  unfold wo
  by_cases c : b = o
  · rw [if_pos c, if_pos c]
  · rw [if_neg c, if_neg c, upd_ne c]
theorem off_same {o : Addr} {H H' : Hp} (s : Same H H') : Off o H H' := fun b u _ e => s b u e
theorem off_upd {o : Addr} {H : Hp} {u : HO} : Off o H (upd H o u) := fun b u n e => by rw [upd_ne n]; exact e
theorem off_trans {o : Addr} {H H' H2 : Hp} (a : Off o H H') (b : Off o H' H2) : Off o H H2 := fun c u n e => b c u n (a c u n e)
theorem wo_kp {o C dx : Addr} {fs : List (Str × V)} {H : Hp} (ho : H o = some (.ins C dx fs)) : Kp true H (wo o H) := ⟨fun a xs e => wo_at e (fun z => by rw [z, ho] at e; cases e), fun z => by cases z⟩
theorem ShapeAt.wo {CW CS o o' dx dx' : Addr} {fs fs' : List (Str × V)} {x : Its} {H : Hp} (h : ShapeAt CS o' dx' fs' x H) (ho : H o = some (.ins CW dx fs)) (n : CW ≠ CS) : ShapeAt CS o' dx' fs' x (wo o H) := by
  refine ⟨wo_at h.ins (fun z => by have k := h.ins; rw [z, ho] at k; cases k; exact n rfl), h.sf.kp (wo_kp ho), ?_, h.ok, h.l12⟩
  obtain ⟨a, D, kvs, e1, e2, e3⟩ := h.row
  exact ⟨a, D, kvs, e1, wo_at e2 (fun z => by rw [z, ho] at e2; cases e2), e3.kp (wo_kp ho)⟩
theorem BdAt.wo {CW CB CS o dx : Addr} {fs : List (Str × V)} {H : Hp} {v : V} {b : Bd} (h : BdAt CB CS H v b) (ho : H o = some (.ins CW dx fs)) (nB : CW ≠ CB) (nS : CW ≠ CS) : BdAt CB CS (wo o H) v b := by
  obtain ⟨o', dx', d1, d2, fs', k1, k2, e, h1, h2, h3, h4, h5, h6, h7, h8⟩ := h.h
  refine ⟨o', dx', d1, d2, fs', k1, k2, e, wo_at h1 (fun z => by rw [z, ho] at h1; cases h1; exact nB rfl), h2, h3, h4, wo_at h5 (fun z => by rw [z, ho] at h5; cases h5), h6.imp fun v a k => ?_, wo_at h7 (fun z => by rw [z, ho] at h7; cases h7), h8.imp fun v a k => ?_⟩
  · obtain ⟨t, n, u, e, ht, o2, dx2, fs2, e2, hs⟩ := k
    exact ⟨t, n, u, e, wo_at ht (fun z => by rw [z, ho] at ht; cases ht), o2, dx2, fs2, e2, hs.wo ho nS⟩
  · obtain ⟨t, u, e, ht, hu⟩ := k
    exact ⟨t, u, e, wo_at ht (fun z => by rw [z, ho] at ht; cases ht), wo_at hu (fun z => by rw [z, ho] at hu; cases hu)⟩
/-! ### a workbench -/
def wfs (l : Addr) (a e : Int) (kn : Addr) : List (Str × V) := [("decided", .int 0), ("kept", .int 0), ("_boards", .ref l), ("_at", .int a), ("_entries", .int e), ("_known", .ref kn)]
theorem wfs_b (l l' : Addr) (a e : Int) (kn : Addr) : putF "_boards" (.ref l') (wfs l a e kn) = wfs l' a e kn := rfl
theorem wfs_a (l : Addr) (a a' e : Int) (kn : Addr) : putF "_at" (.int a') (wfs l a e kn) = wfs l a' e kn := rfl
theorem wfs_e (l : Addr) (a e e' : Int) (kn : Addr) : putF "_entries" (.int e') (wfs l a e kn) = wfs l a e' kn := rfl
def fldW : List Str := ["decided", "kept", "_boards", "_at", "_entries", "_known"]
structure WbC (K : PySem.W.Frag) (CW CB CS : Addr) : Prop where
  cl : Cls K CW
  n : ∀ g ∈ fldW, NoAttr K CW g
  nB : CW ≠ CB
  nS : CW ≠ CS
theorem wfs_no {l : Addr} {a e : Int} {kn : Addr} {g : Str} (h : g ∉ fldW) : (wfs l a e kn).lookup g = none := by
  have k : ∀ y ∈ fldW, (g == y) = false := fun y hy => by
    rw [beq_eq_false_iff_ne]; intro z; exact h (by rw [z]; exact hy)
  simp only [wfs, List.lookup, k "decided" (by decide +kernel), k "kept" (by decide +kernel), k "_boards" (by decide +kernel), k "_at" (by decide +kernel), k "_entries" (by decide +kernel), k "_known" (by decide +kernel)]
structure Wb where
  bds : List Bd
  at_ : Nat
structure WbAt (CW CB CS o : Addr) (w : Wb) (H : Hp) : Prop where
  h : ∃ (dx l kn : Addr) (e : Int) (bs : List V), H o = some (.ins CW dx (wfs l w.at_ e kn)) ∧ wo o H l = some (.lst bs) ∧ Paired (BdAt CB CS (wo o H)) bs w.bds
/-- a method of a class -/
structure Mt (P : Program) (w : World) (K : PySem.W.Frag) (mg : Str → Option Value) (base : Heap) (CX : CXT) (k : Nat) (C : Addr) (m : Str) (ps : List Str) (sp : Sp) : Prop where
  ex : ∃ (f : Addr) (fd : FuncData), Meth K C m f ∧ FnOk P w K mg base CX k f fd ps sp ∧ Binds K fd ps []
/-! ### changes -/
inductive Ch where
  | set (z : Str) (x : Its)
  | rem (z : Str)
  | rep (z u : Str) (y : It)
  | del (z u : Str)
  | ask (z wd : Str) (ns : List Str)
  | drop (z : Str)
def wItem (b : Bd) (z u : Str) (ys : Its) : Except Er Bd := match tget b.sh z with
  | none => .error (.unk z)
  | some x => if u ∈ x.names then (if (x.repl u ys).shape = true then .ok { b with sh := tput b.sh z (x.repl u ys) } else .error .shape) else .error (.unk u)
def step (b : Bd) : Ch → Except Er Bd
  | .set z x => .ok { b with sh := tput b.sh z x }
  | .rem z => wShape b z
  | .rep z u y => wItem b z u (.cons y .nil)
  | .del z u => wItem b z u .nil
  | .ask z wd ns => wQuest b z wd ns
  | .drop z => woQuest b z
def Ch.ok : Ch → Prop
  | .set z x => shortN z ∧ x.shape = true ∧ x.len ≤ 3 ∧ (∀ y ∈ x.toL, y.bc) ∧ x.tame
  | .rem z => shortN z
  | .rep z u y => shortN z ∧ shortN u ∧ y.pl 1 ∧ y.tame
  | .del z u => shortN z ∧ shortN u
  | .ask z wd ns => shortN z ∧ wd ∈ qWords ∧ ns.length ≤ 10 ∧ ∀ y ∈ ns, shortN y
  | .drop z => shortN z
theorem item_ok {x : Its} {u : Str} {ys : Its} (h3 : x.len ≤ 3) (hx : ∀ y ∈ x.toL, y.bc) (ht : x.tame) (h1 : ys.len ≤ 1) (hy : ∀ y ∈ ys.toL, y.pl 1) (hyt : ys.tame) :
    (x.repl u ys).len ≤ 3 ∧ (∀ y ∈ (x.repl u ys).toL, y.bc) ∧ (x.repl u ys).tame ∧ ((x.repl u ys).walk 0).length ≤ 1000 := by
  have l := repl_len (z := u) h1 x
  have b := bc_repl (z := u) h1 hy hx
  have k := (bc_walks (d := 0) b).1
  exact ⟨by omega, b, Its.repl_tame u ys hyt x ht, by omega⟩
theorem ok_put {m : Nat} {b : Bd} {z : Str} {x : Its} (ok : b.ok m) (h : x.shape = true ∧ x.len ≤ 3 ∧ (∀ y ∈ x.toL, y.bc) ∧ x.tame) : ({ b with sh := tput b.sh z x } : Bd).ok (m + 1) :=
  ⟨tput_nodup ok.n1, ok.n2, Nat.le_trans tput_len (by have := ok.l1; omega), by have := ok.l2; show b.qs.length ≤ m + 1; omega, fun p hp => by
    rcases tput_mem hp with hp | rfl
    · exact ok.s p hp
    · exact h, ok.q⟩
theorem step_ok {m : Nat} {b b' : Bd} (ok : b.ok m) : ∀ {c : Ch}, c.ok → step b c = .ok b' → b'.ok (m + 1)
  | .set z x, hc, h => by
    simp only [step, Except.ok.injEq] at h
    subst h
    exact ok_put ok hc.2
  | .rem z, hc, h => by
    simp only [step, wShape] at h
    cases e : tget b.sh z with
    | none => rw [e] at h; cases h
    | some a =>
      rw [e] at h
      dsimp only at h
      split at h
      · cases h
      · cases h
        exact ⟨tdrop_nodup ok.n1, ok.n2, Nat.le_trans tdrop_len (by have := ok.l1; omega), by have := ok.l2; show b.qs.length ≤ m + 1; omega, fun p hp => ok.s p (tdrop_mem hp), ok.q⟩
  | .rep z u y, hc, h => by
    simp only [step, wItem] at h
    cases e : tget b.sh z with
    | none => rw [e] at h; cases h
    | some x =>
      rw [e] at h
      dsimp only at h
      split at h
      · split at h
        · rename_i s
          cases h
          have hx := ok.s _ (tget_mem e)
          have k := item_ok (u := u) (ys := .cons y .nil) hx.2.1 hx.2.2.1 hx.2.2.2 (by simp [Its.len]) (fun w hw => by simp [Its.toL] at hw; rw [hw]; exact hc.2.2.1) (by simp only [Its.tame]; exact ⟨hc.2.2.2, True.intro⟩)
          exact ok_put ok ⟨s, k.1, k.2.1, k.2.2.1⟩
        · cases h
      · cases h
  | .del z u, hc, h => by
    simp only [step, wItem] at h
    cases e : tget b.sh z with
    | none => rw [e] at h; cases h
    | some x =>
      rw [e] at h
      dsimp only at h
      split at h
      · split at h
        · rename_i s
          cases h
          have hx := ok.s _ (tget_mem e)
          have k := item_ok (u := u) (ys := .nil) hx.2.1 hx.2.2.1 hx.2.2.2 (by simp [Its.len]) (fun w hw => by simp [Its.toL] at hw) (by simp only [Its.tame])
          exact ok_put ok ⟨s, k.1, k.2.1, k.2.2.1⟩
        · cases h
      · cases h
  | .ask z wd ns, hc, h => by
    simp only [step, wQuest] at h
    split at h
    · cases h
    · split at h
      · split at h
        · cases h
        · cases h
          refine ⟨ok.n1, tput_nodup ok.n2, by have := ok.l1; show b.sh.length ≤ m + 1; omega, Nat.le_trans tput_len (by have := ok.l2; omega), ok.s, fun p hp => ?_⟩
          rcases tput_mem hp with hp | rfl
          · exact ok.q p hp
          · exact hc.2.2.1
      · cases h
  | .drop z, hc, h => by
    simp only [step, woQuest] at h
    split at h
    · cases h
    · cases h
      exact ⟨ok.n1, tdrop_nodup ok.n2, by have := ok.l1; show b.sh.length ≤ m + 1; omega, Nat.le_trans tdrop_len (by have := ok.l2; omega), ok.s, fun p hp => ok.q p (tdrop_mem hp)⟩
/-- a change as a tuple -/
def ChAt (CS : Addr) (H : Hp) (t : Addr) : Ch → Prop
  | .set z x => ∃ u, H t = some (.tup [.str "set_shape", .str z, u]) ∧ ShV CS H u x
  | .rem z => H t = some (.tup [.str "remove_shape", .str z])
  | .rep z u y => ∃ v, H t = some (.tup [.str "replace_item", .str z, .str u, v]) ∧ y.At false H v
  | .del z u => H t = some (.tup [.str "remove_item", .str z, .str u])
  | .ask z wd ns => ∃ l, H t = some (.tup [.str "ask", .str z, .str wd, .ref l]) ∧ H l = some (.lst (ns.map V.str))
  | .drop z => H t = some (.tup [.str "drop", .str z])
theorem ChAt.same {CS : Addr} {H H' : Hp} (s : Same H H') {t : Addr} : ∀ {c : Ch}, ChAt CS H t c → ChAt CS H' t c
  | .set .., ⟨u, a, b⟩ => ⟨u, s _ _ a, b.same s⟩
  | .rem .., h => s _ _ h
  | .rep .., ⟨u, a, b⟩ => ⟨u, s _ _ a, b.same s⟩
  | .del .., h => s _ _ h
  | .ask .., ⟨l, a, b⟩ => ⟨l, s _ _ a, s _ _ b⟩
  | .drop .., h => s _ _ h
/-- what a step of a workbench gives -/
def ResW (CW CB CS CU CN C CQ o dx l kn : Addr) (a : Int) (H : Hp) (Q : VK) (E : XK) : Except Er Bd → Prop
  | .ok b => ∀ v H' e, Off o H H' → H' o = some (.ins CW dx (wfs l a e kn)) → BdAt CB CS (wo o H') v b → Q v H'
  | .error r => Errs CU CN C CQ H E r
abbrev sWInit : Stmt := inClass (top 74) 0
abbrev sSetShape : Stmt := inClass (top 74) 1
abbrev sChangeAll : Stmt := inClass (top 74) 9
abbrev sShapeNames : Stmt := inClass (top 74) 10
abbrev sQuestionNames : Stmt := inClass (top 74) 11
abbrev sShapeOf : Stmt := inClass (top 74) 12
abbrev sQuestionOf : Stmt := inClass (top 74) 13
abbrev sBoard : Stmt := inClass (top 74) 16
abbrev sBehind : Stmt := inClass (top 74) 17
abbrev sWithShape : Stmt := inClass (top 74) 18
def spWithShape (CW CB CS : Addr) : Sp := fun vs H Q E => ∃ (o dx l kn : Addr) (a e : Int) (v u : V) (b : Bd) (z : Str) (x : Its) (m : Nat), vs = [.ref o, v, .str z, u] ∧ H o = some (.ins CW dx (wfs l a e kn)) ∧ BdAt CB CS (wo o H) v b ∧ b.ok m ∧ m ≤ 1000 ∧ ShV CS (wo o H) u x ∧
  ∀ v' H' e', Off o H H' → H' o = some (.ins CW dx (wfs l a e' kn)) → BdAt CB CS (wo o H') v' { b with sh := tput b.sh z x } → Q v' H'
def spBehind (CW CB CS CU CN C CQ : Addr) : Sp := fun vs H Q E => ∃ (o dx l kn t : Addr) (a e : Int) (v : V) (b : Bd) (c : Ch) (m : Nat), vs = [.ref o, v, .ref t] ∧ H o = some (.ins CW dx (wfs l a e kn)) ∧ BdAt CB CS (wo o H) v b ∧ b.ok m ∧ m ≤ 1000 ∧ ChAt CS (wo o H) t c ∧ c.ok ∧
  ResW CW CB CS CU CN C CQ o dx l kn a H Q E (step b c)
section
variable {P : Program} {w : World} {K : PySem.W.Frag} {mg : Str → Option Value} {base : Heap} {f C CU CN CQ CB CS CW : Addr} {fd : FuncData}
abbrev nWSh : List Str := ["self", "board", "name", "shape"]
theorem scWSh : FnScope nWSh nWSh (defScope sWithShape) := ⟨rfl, rfl, rfl, by decide +kernel, rfl, by decide +kernel, by decide +kernel⟩
theorem ok_withshape (F : Fun K "_with_shape" "Workbench._with_shape" sWithShape f fd) (T : BoardC K CB) (W : WbC K CW CB CS) (gE : Mt P w K mg base CX0 3 CB "with_entry" ["self", "name", "entry"] (spWithEntry CB CS)) :
    FnOk P w K mg base CX0 4 f fd nWSh (spWithShape CW CB CS) := by
  refine F.ok scWSh (fun vs H Q E h => ?_) (fun cdv A outer s H vs Q E hr h => ?_)
  · obtain ⟨o, dx, l, kn, a, e, v, u, b, z, x, m, rfl, _⟩ := h
    rfl
  · obtain ⟨o, dx, l, kn, a, e, v, u, b, z, x, m, rfl, ho, hb, ok, hm, hu, q⟩ := h
    obtain ⟨f1, fd1, m1, g1, b1⟩ := gE.ex
    refine ⟨_, pss_cons (ps_fldaug (pv 0) pe_int iop_add) (pss_one (ps_ret (pe_meth (pv 1) T.cl m1 g1 hr b1 .nil pass0 (pa_cons (pv 2) (pa_cons (pe_tup (pa_cons (pe_fld (pv 0) rfl) (pa_cons (pv 3) pa_nil))) pa_nil))))), ?_⟩
    refine ⟨_, rfl, o, CW, dx, _, _, rfl, ho, W.cl, W.n _ (by decide +kernel), rfl, ?_⟩
    refine ⟨e, 1, rfl, rfl, dx, _, ho, (by show 6 < 1000; decide), ?_⟩
    show tSeq _ _ _ _ _
    rw [wfs_e]
    have h1 : upd H o (.ins CW dx (wfs l a (e + 1) kn)) o = some (.ins CW dx (wfs l a (e + 1) kn)) := upd_same
    have w1 : wo o (upd H o (.ins CW dx (wfs l a (e + 1) kn))) = wo o H := wo_upd
    have f1 : Off o H (upd H o (.ins CW dx (wfs l a (e + 1) kn))) := off_upd
    generalize upd H o (.ins CW dx (wfs l a (e + 1) kn)) = H1 at h1 w1 f1 ⊢
    have hb1 : BdAt CB CS H1 v b := hb.same (w1 ▸ wo_same o H1)
    have hu1 : ShV CS H1 u x := hu.same (w1 ▸ wo_same o H1)
    obtain ⟨ob, dxb, d1, d2, fsb, k1, k2, rfl, hob, l1, l2, ln, _⟩ := hb1.h
    refine ⟨_, rfl, ob, dxb, fsb, rfl, hob, ln _ (by decide +kernel), _, rfl, ?_⟩
    refine ⟨_, rfl, o, CW, dx, _, _, rfl, h1, W.cl, W.n _ (by decide +kernel), rfl, _, rfl, by show 2 ≤ sizeLine; decide, fun t ht => ?_⟩
    have s2 := same_new ht (.tup [.int (e + 1), u])
    refine ⟨.ref ob, .ref t, b, z, x, m, rfl, hb1.same s2, ok, hm, ⟨t, e + 1, u, rfl, upd_same, hu1.same s2⟩, fun v' H' s3 hb' => ?_⟩
    have s4 := s2.trans s3
    exact q v' H' (e + 1) (off_trans f1 (off_same s4)) (s4 _ _ h1) (hb'.wo (s4 _ _ h1) W.nB W.nS)
theorem cut2 (a b : V) (rest : List V) : cutV (a :: b :: rest) none (some 2) = [a, b] := by
  have k : ∀ n : Nat, HT.sIx n n (some 2) = min 2 n := fun n => HT.sIx_nat n n 2
  unfold cutV
  rw [k]
  simp [HT.sIx_none]
theorem wyes {a b : Str} {X Y : Prop} (h : a = b) (x : X) : if decide (V.str a = V.str b) = true then X else Y := by
  rw [if_pos (decide_eq_true (congrArg V.str h))]; exact x
theorem wno {a b : Str} {X Y : Prop} (h : ¬ a = b) (y : Y) : if decide (V.str a = V.str b) = true then X else Y := by
  rw [if_neg (fun e => h (V.str.inj (of_decide_eq_true e)))]; exact y
abbrev nBh : List Str := ["self", "board", "change", "word", "name"]
theorem scBh : FnScope nBh ["self", "board", "change"] (defScope sBehind) := ⟨rfl, rfl, rfl, by decide +kernel, rfl, by decide +kernel, by decide +kernel⟩
theorem ok_behind {k : Nat} (hk : 5 ≤ k) (F : Fun K "_behind" "Workbench._behind" sBehind f fd) (T : BoardC K CB) (TS : ShapeC K CS) (W : WbC K CW CB CS)
    (gWS : Mt P w K mg base CX0 4 CW "_with_shape" nWSh (spWithShape CW CB CS)) (gWo : Mt P w K mg base (L2.CX P w) 5 CB "without_shape" ["self", "name"] (spWoShape CB CS CU CN C CQ)) (gQ : Mt P w K mg base (L2.CX P w) 5 CB "with_question" ["self", "name", "word", "names"] (spWQuest CB CS CU CN C CQ)) (gQo : Mt P w K mg base (L2.CX P w) 5 CB "without_question" ["self", "name"] (spWoQuest CB CS CU CN C CQ))
    (gI : Mt P w K mg base (L2.CX P w) k CS "with_item" ["self", "name", "item"] (spWithItem C CU CS)) (gO : Mt P w K mg base (L2.CX P w) k CS "without_item" ["self", "name"] (spWithout C CU CS)) (gN : Cal P w K mg base (L2.CX P w) 3 "named" ["table", "name"] (spNamed CU)) :
    FnOk P w K mg base (L2.CX P w) (k + 1) f fd ["self", "board", "change"] (spBehind CW CB CS CU CN C CQ) := by
  refine F.okX scBh (fun vs H Q E h => ?_) (fun cdv A outer s H vs Q E hr h => ?_)
  · obtain ⟨o, dx, l, kn, t, a, e, v, b, c, m, rfl, _⟩ := h
    rfl
  · obtain ⟨o, dx, l, kn, t, a, e, v, b, c, m, rfl, ho, hb, ok, hm, hc, hco, q⟩ := h
    obtain ⟨f1, fd1, m1, g1, b1⟩ := gWS.ex
    obtain ⟨f2, fd2, m2, g2, b2⟩ := gWo.ex
    obtain ⟨f3, fd3, m3, g3, b3⟩ := gQ.ex
    obtain ⟨f4, fd4, m4, g4, b4⟩ := gQo.ex
    obtain ⟨f5, fd5, m5, g5, b5⟩ := gI.ex
    obtain ⟨f6, fd6, m6, g6, b6⟩ := gO.ex
    have tk : Takes (cxOf (L2.CX P w) P w K mg base nBh "Workbench._behind" (defScope sBehind) f cdv A outer s H E) (fun cls d _ H => E cls d H) := takes_of rfl rfl rfl rfl
    have hx := passes_call tk (E := E) fun _ _ _ _ h => h
    refine ⟨_, (pss_cons (ps_asg (pe_slice sl_tupA (pv 2) po_none (po_some pe_int)) (pg_tup rfl (pgs_cons (pg_name (i := 3) scBh.nd rfl (.inl rfl)) (pgs_cons (pg_name (i := 4) scBh.nd rfl (.inl rfl)) pgs_nil))))
      (pss_cons (ps_if (pt_cmpR op_eq (pv 3) pe_str (nomark _)) (pss_one (ps_ret (pe_meth (pv 0) W.cl m1 g1 (hr.mono (by omega)) b1 .nil pass0 (pa_cons (pv 1) (pa_cons (pv 4) (pa_cons (pe_ix ix_tup (pv 2) pe_int (fun _ _ => rfl)) pa_nil)))))) pss_nil)
      (pss_cons (ps_if (pt_cmpR op_eq (pv 3) pe_str (nomark _)) (pss_one (ps_ret (pe_meth (pv 1) T.cl m2 g2 (hr.mono (by omega)) b2 .nil hx (pa_cons (pv 4) pa_nil)))) pss_nil)
      (pss_cons (ps_if (pt_cmpR op_eq (pv 3) pe_str (nomark _)) (pss_one (ps_ret (pe_meth (pv 0) W.cl m1 g1 (hr.mono (by omega)) b1 .nil pass0 (pa_cons (pv 1) (pa_cons (pv 4) (pa_cons
          (pe_meth (pe_ix ix_tup (pe_cal gN (hr.mono (by omega)) hx (pa_cons (pe_fld (pv 1) rfl) (pa_cons (pv 4) pa_nil))) pe_int (fun _ _ => rfl)) TS.cl m5 g5 hr b5 .nil hx (pa_cons (pe_ix ix_tup (pv 2) pe_int (fun _ _ => rfl)) (pa_cons (pe_ix ix_tup (pv 2) pe_int (fun _ _ => rfl)) pa_nil))) pa_nil)))))) pss_nil)
      (pss_cons (ps_if (pt_cmpR op_eq (pv 3) pe_str (nomark _)) (pss_one (ps_ret (pe_meth (pv 0) W.cl m1 g1 (hr.mono (by omega)) b1 .nil pass0 (pa_cons (pv 1) (pa_cons (pv 4) (pa_cons
          (pe_meth (pe_ix ix_tup (pe_cal gN (hr.mono (by omega)) hx (pa_cons (pe_fld (pv 1) rfl) (pa_cons (pv 4) pa_nil))) pe_int (fun _ _ => rfl)) TS.cl m6 g6 hr b6 .nil hx (pa_cons (pe_ix ix_tup (pv 2) pe_int (fun _ _ => rfl)) pa_nil)) pa_nil)))))) pss_nil)
      (pss_cons (ps_if (pt_cmpR op_eq (pv 3) pe_str (nomark _)) (pss_one (ps_ret (pe_meth (pv 1) T.cl m3 g3 (hr.mono (by omega)) b3 .nil hx (pa_cons (pv 4) (pa_cons (pe_ix ix_tup (pv 2) pe_int (fun _ _ => rfl)) (pa_cons (pe_ix ix_tup (pv 2) pe_int (fun _ _ => rfl)) pa_nil)))))) pss_nil)
      (pss_one (ps_ret (pe_meth (pv 1) T.cl m4 g4 (hr.mono (by omega)) b4 .nil hx (pa_cons (pv 4) pa_nil)))))))))), ?_⟩
    have hbH : BdAt CB CS H v b := hb.same (wo_same o H)
    have hcH : ChAt CS H t c := hc.same (wo_same o H)
    -- what comes of a board without errors, and of an error
    have fin : ∀ {H1 : Hp} {b' : Bd}, Same H H1 → step b c = .ok b' → BdRet CB CS b' H1 Q := fun {H1 b'} s1 es v' H' s2 hb' => by
      rw [es] at q
      have s := s1.trans s2
      exact q v' H' e (off_same s) (s _ _ ho) (hb'.wo (s _ _ ho) W.nB W.nS)
    have bad : ∀ {H1 : Hp} {r : Er}, Same H H1 → step b c = .error r → Errs CU CN C CQ H1 E r := fun {H1 r} s1 es => by
      rw [es] at q
      cases r with
      | unk z => exact fun d H' s2 n h => q d H' (s1.trans s2) (s1.free n) h
      | used z => exact fun d H' s2 n h => q d H' (s1.trans s2) (s1.free n) h
      | shape => exact fun H' s2 => q H' (s1.trans s2)
      | quest => exact fun H' s2 => q H' (s1.trans s2)
    have res : ∀ {H1 : Hp}, Same H H1 → Res CB CS CU CN C CQ H1 Q E (step b c) := fun {H1} s1 => by
      cases es : step b c with
      | ok b' => exact fin s1 es
      | error r => exact bad s1 es
    cases c with
    | set z x =>
      obtain ⟨u, htw, huw⟩ := hc
      have ht := wo_same o H _ _ htw
      refine ⟨_, rfl, 2, rfl, t, _, rfl, SqT.of ht, fun zz => absurd zz.2 (by show ¬ (HT.sIx 3 3 (some 2) = 3); decide +kernel), fun _ p hp => ?_⟩
      rw [cut2]
      have s1 := same_new hp (.tup [.str "set_shape", .str z])
      refine ⟨p, _, rfl, SqT.of upd_same, rfl, _, _, rfl, _, _, rfl, rfl, ?_⟩
      have ht1 := s1 _ _ ht
      have ho1 := s1 _ _ ho
      have w1 := wo_off (o := o) (off_same s1)
      generalize upd H p (.tup [.str "set_shape", .str z]) = H1 at s1 ht1 ho1 w1 ⊢
      refine ⟨_, rfl, rfl, _, rfl, wyes (by decide +kernel) ?_⟩
      refine ⟨_, rfl, o, dx, _, rfl, ho1, wfs_no (by decide +kernel), _, rfl, _, rfl, _, rfl, t, _, 2, _, rfl, rfl, SqT.of ht1, atI_nat (j := 2) rfl, ?_⟩
      exact ⟨o, dx, l, kn, a, e, v, u, b, z, x, m, rfl, ho1, hb.same w1, ok, hm, huw.same w1, fun v' H' e' f h r => q v' H' e' (off_trans (off_same s1) f) h r⟩
    | rem z =>
      have ht : H t = some (.tup [.str "remove_shape", .str z]) := hcH
      refine ⟨_, rfl, 2, rfl, t, _, rfl, SqT.of ht, fun _ => ?_, fun zz => absurd (by show HT.sIx 2 0 none = 0 ∧ HT.sIx 2 2 (some 2) = 2; decide +kernel) zz⟩
      refine ⟨t, _, rfl, SqT.of ht, rfl, _, _, rfl, _, _, rfl, rfl, ?_⟩
      have s1 := Same.refl H
      have ht1 := ht
      have ho1 := ho
      refine ⟨_, rfl, rfl, _, rfl, wno (by decide +kernel) ?_⟩
      refine ⟨_, rfl, rfl, _, rfl, wyes (by decide +kernel) ?_⟩
      obtain ⟨ob, dxb, d1, d2, fsb, k1, k2, rfl, hob, l1, l2, ln, _⟩ := hbH.h
      exact ⟨_, rfl, ob, dxb, fsb, rfl, hob, ln _ (by decide +kernel), _, rfl, .ref ob, b, z, m, rfl, hbH, ok, hm, hco, res s1⟩
    | rep z u y =>
      obtain ⟨vy, ht, hy⟩ := hcH
      refine ⟨_, rfl, 2, rfl, t, _, rfl, SqT.of ht, fun zz => absurd zz.2 (by show ¬ (HT.sIx 4 4 (some 2) = 4); decide +kernel), fun _ p hp => ?_⟩
      rw [cut2]
      have s1 := same_new hp (.tup [.str "replace_item", .str z])
      refine ⟨p, _, rfl, SqT.of upd_same, rfl, _, _, rfl, _, _, rfl, rfl, ?_⟩
      have ht1 := s1 _ _ ht
      have ho1 := s1 _ _ ho
      have w1 := wo_off (o := o) (off_same s1)
      generalize upd H p (.tup [.str "replace_item", .str z]) = H1 at s1 ht1 ho1 w1 ⊢
      refine ⟨_, rfl, rfl, _, rfl, wno (by decide +kernel) ?_⟩
      refine ⟨_, rfl, rfl, _, rfl, wno (by decide +kernel) ?_⟩
      refine ⟨_, rfl, rfl, _, rfl, wyes (by decide +kernel) ?_⟩
      have hbH := hbH.same s1
      obtain ⟨ob, dxb, d1, d2, fsb, k1, k2, rfl, hob, l1, l2, ln, hd1, t1, hd2, t2⟩ := hbH.h
      refine ⟨_, rfl, o, dx, _, rfl, ho1, wfs_no (by decide +kernel), _, rfl, _, rfl, ?_⟩
      refine ⟨_, rfl, ob, CB, dxb, fsb, _, rfl, hob, T.cl, T.n1, l1, _, rfl, d1, k1, z, rfl, .inl hd1, hco.1, fun v0 hv => ?_, fun hv => ?_⟩
      · obtain ⟨x, ex⟩ : ∃ x, tget b.sh z = some x := by
          cases e : tget b.sh z with
          | none => rw [t1.get.2 e] at hv; cases hv
          | some a => exact ⟨a, rfl⟩
        obtain ⟨v0', hv', te, ne, ue, ev, hte, os, dxs, fss, rfl, sa⟩ := t1.get.1 x ex
        obtain rfl : v0 = v0' := Option.some.inj (hv ▸ hv')
        subst ev
        refine ⟨te, _, 1, _, rfl, rfl, SqT.of hte, atI_nat (j := 1) rfl, ?_⟩
        have hx' := ok.s _ (tget_mem ex)
        have ki := item_ok (u := u) (ys := .cons y .nil) hx'.2.1 hx'.2.2.1 hx'.2.2.2 (by simp [Its.len]) (fun w hw => by simp [Its.toL] at hw; rw [hw]; exact hco.2.2.1) (by simp only [Its.tame]; exact ⟨hco.2.2.2, True.intro⟩)
        refine ⟨os, dxs, fss, rfl, sa.ins, sa.row.1 ("with_item" : Str) (by decide +kernel), _, rfl, t, _, 2, _, rfl, rfl, SqT.of ht1, atI_nat (j := 2) rfl, _, rfl, t, _, 3, _, rfl, rfl, SqT.of ht1, atI_nat (j := 3) rfl, ?_⟩
        refine ⟨os, dxs, fss, x, u, vy, rfl, sa, hco.2.1, fun nin => ?_, fun hin => ⟨y, hy.same s1, ki.2.2.1, ki.2.2.2, fun sh H2 o2 dx2 fs2 s2 sa2 => ?_, fun sh => ?_⟩⟩
        · exact bad s1 (by simp only [step, wItem, ex]; rw [if_neg nin])
        · have es : step b (.rep z u y) = .ok { b with sh := tput b.sh z (x.repl u (.cons y .nil)) } := by simp only [step, wItem, ex]; rw [if_pos hin, if_pos sh]
          rw [es] at q
          have S := s1.trans s2
          have ho2 := s2 _ _ ho1
          exact ⟨o, dx, l, kn, a, e, .ref ob, .ref o2, b, z, x.repl u (.cons y .nil), m, rfl, ho2, (hbH.same s2).wo ho2 W.nB W.nS, ok, hm, ⟨o2, dx2, fs2, rfl, sa2.wo ho2 W.nS⟩, fun v' H' e' f h r => q v' H' e' (off_trans (off_same S) f) h r⟩
        · exact bad s1 (by simp only [step, wItem, ex]; rw [if_pos hin, if_neg (by rw [sh]; decide)])
      · have e : tget b.sh z = none := by
          cases e : tget b.sh z with
          | none => rfl
          | some a => obtain ⟨v, h1, _⟩ := t1.get.1 a e; rw [hv] at h1; cases h1
        exact bad (r := .unk z) s1 (by simp only [step, wItem, e])
    | del z u =>
      have ht : H t = some (.tup [.str "remove_item", .str z, .str u]) := hcH
      refine ⟨_, rfl, 2, rfl, t, _, rfl, SqT.of ht, fun zz => absurd zz.2 (by show ¬ (HT.sIx 3 3 (some 2) = 3); decide +kernel), fun _ p hp => ?_⟩
      rw [cut2]
      have s1 := same_new hp (.tup [.str "remove_item", .str z])
      refine ⟨p, _, rfl, SqT.of upd_same, rfl, _, _, rfl, _, _, rfl, rfl, ?_⟩
      have ht1 := s1 _ _ ht
      have ho1 := s1 _ _ ho
      have w1 := wo_off (o := o) (off_same s1)
      generalize upd H p (.tup [.str "remove_item", .str z]) = H1 at s1 ht1 ho1 w1 ⊢
      refine ⟨_, rfl, rfl, _, rfl, wno (by decide +kernel) ?_⟩
      refine ⟨_, rfl, rfl, _, rfl, wno (by decide +kernel) ?_⟩
      refine ⟨_, rfl, rfl, _, rfl, wno (by decide +kernel) ?_⟩
      refine ⟨_, rfl, rfl, _, rfl, wyes (by decide +kernel) ?_⟩
      have hbH := hbH.same s1
      obtain ⟨ob, dxb, d1, d2, fsb, k1, k2, rfl, hob, l1, l2, ln, hd1, t1, hd2, t2⟩ := hbH.h
      refine ⟨_, rfl, o, dx, _, rfl, ho1, wfs_no (by decide +kernel), _, rfl, _, rfl, ?_⟩
      refine ⟨_, rfl, ob, CB, dxb, fsb, _, rfl, hob, T.cl, T.n1, l1, _, rfl, d1, k1, z, rfl, .inl hd1, hco.1, fun v0 hv => ?_, fun hv => ?_⟩
      · obtain ⟨x, ex⟩ : ∃ x, tget b.sh z = some x := by
          cases e : tget b.sh z with
          | none => rw [t1.get.2 e] at hv; cases hv
          | some a => exact ⟨a, rfl⟩
        obtain ⟨v0', hv', te, ne, ue, ev, hte, os, dxs, fss, rfl, sa⟩ := t1.get.1 x ex
        obtain rfl : v0 = v0' := Option.some.inj (hv ▸ hv')
        subst ev
        refine ⟨te, _, 1, _, rfl, rfl, SqT.of hte, atI_nat (j := 1) rfl, ?_⟩
        have hx' := ok.s _ (tget_mem ex)
        have ki := item_ok (u := u) (ys := .nil) hx'.2.1 hx'.2.2.1 hx'.2.2.2 (by simp [Its.len]) (fun w hw => by simp [Its.toL] at hw) (by simp only [Its.tame])
        refine ⟨os, dxs, fss, rfl, sa.ins, sa.row.1 ("without_item" : Str) (by decide +kernel), _, rfl, t, _, 2, _, rfl, rfl, SqT.of ht1, atI_nat (j := 2) rfl, ?_⟩
        refine ⟨os, dxs, fss, x, u, rfl, sa, hco.2, fun nin => ?_, fun hin => ⟨ki.2.2.1, ki.2.2.2, fun sh H2 o2 dx2 fs2 s2 sa2 => ?_, fun sh => ?_⟩⟩
        · exact bad s1 (by simp only [step, wItem, ex]; rw [if_neg nin])
        · have es : step b (.del z u) = .ok { b with sh := tput b.sh z (x.repl u .nil) } := by simp only [step, wItem, ex]; rw [if_pos hin, if_pos sh]
          rw [es] at q
          have S := s1.trans s2
          have ho2 := s2 _ _ ho1
          exact ⟨o, dx, l, kn, a, e, .ref ob, .ref o2, b, z, x.repl u .nil, m, rfl, ho2, (hbH.same s2).wo ho2 W.nB W.nS, ok, hm, ⟨o2, dx2, fs2, rfl, sa2.wo ho2 W.nS⟩, fun v' H' e' f h r => q v' H' e' (off_trans (off_same S) f) h r⟩
        · exact bad s1 (by simp only [step, wItem, ex]; rw [if_pos hin, if_neg (by rw [sh]; decide)])
      · have e : tget b.sh z = none := by
          cases e : tget b.sh z with
          | none => rfl
          | some a => obtain ⟨v, h1, _⟩ := t1.get.1 a e; rw [hv] at h1; cases h1
        exact bad (r := .unk z) s1 (by simp only [step, wItem, e])
    | ask z wd ns =>
      obtain ⟨ll, ht, hl⟩ := hcH
      refine ⟨_, rfl, 2, rfl, t, _, rfl, SqT.of ht, fun zz => absurd zz.2 (by show ¬ (HT.sIx 4 4 (some 2) = 4); decide +kernel), fun _ p hp => ?_⟩
      rw [cut2]
      have s1 := same_new hp (.tup [.str "ask", .str z])
      refine ⟨p, _, rfl, SqT.of upd_same, rfl, _, _, rfl, _, _, rfl, rfl, ?_⟩
      have ht1 := s1 _ _ ht
      have ho1 := s1 _ _ ho
      have w1 := wo_off (o := o) (off_same s1)
      generalize upd H p (.tup [.str "ask", .str z]) = H1 at s1 ht1 ho1 w1 ⊢
      refine ⟨_, rfl, rfl, _, rfl, wno (by decide +kernel) ?_⟩
      refine ⟨_, rfl, rfl, _, rfl, wno (by decide +kernel) ?_⟩
      refine ⟨_, rfl, rfl, _, rfl, wno (by decide +kernel) ?_⟩
      refine ⟨_, rfl, rfl, _, rfl, wno (by decide +kernel) ?_⟩
      refine ⟨_, rfl, rfl, _, rfl, wyes (by decide +kernel) ?_⟩
      have hbH := hbH.same s1
      obtain ⟨ob, dxb, d1, d2, fsb, k1, k2, rfl, hob, l1, l2, ln, _⟩ := hbH.h
      exact ⟨_, rfl, ob, dxb, fsb, rfl, hob, ln _ (by decide +kernel), _, rfl, _, rfl, t, _, 2, _, rfl, rfl, SqT.of ht1, atI_nat (j := 2) rfl, _, rfl, t, _, 3, _, rfl, rfl, SqT.of ht1, atI_nat (j := 3) rfl, .ref ob, ll, b, z, wd, ns, m, rfl, hbH, ok, hm, hco.1, hco.2.1, s1 _ _ hl, hco.2.2.1, hco.2.2.2, res s1⟩
    | drop z =>
      have ht : H t = some (.tup [.str "drop", .str z]) := hcH
      refine ⟨_, rfl, 2, rfl, t, _, rfl, SqT.of ht, fun _ => ?_, fun zz => absurd (by show HT.sIx 2 0 none = 0 ∧ HT.sIx 2 2 (some 2) = 2; decide +kernel) zz⟩
      refine ⟨t, _, rfl, SqT.of ht, rfl, _, _, rfl, _, _, rfl, rfl, ?_⟩
      have s1 := Same.refl H
      have ht1 := ht
      have ho1 := ho
      refine ⟨_, rfl, rfl, _, rfl, wno (by decide +kernel) ?_⟩
      refine ⟨_, rfl, rfl, _, rfl, wno (by decide +kernel) ?_⟩
      refine ⟨_, rfl, rfl, _, rfl, wno (by decide +kernel) ?_⟩
      refine ⟨_, rfl, rfl, _, rfl, wno (by decide +kernel) ?_⟩
      refine ⟨_, rfl, rfl, _, rfl, wno (by decide +kernel) ?_⟩
      obtain ⟨ob, dxb, d1, d2, fsb, k1, k2, rfl, hob, l1, l2, ln, _⟩ := hbH.h
      exact ⟨_, rfl, ob, dxb, fsb, rfl, hob, ln _ (by decide +kernel), _, rfl, .ref ob, b, z, m, rfl, hbH, ok, hm, hco, res s1⟩
end
end Bs

set_option Elab.async false
set_option linter.all false
set_option maxRecDepth 100000
set_option maxHeartbeats 8000000
namespace Bs
open PySem L2
/-! ### a workbench's changes -/
/-- what a board rests upon is kept -/
structure Kb (CB CS : Addr) (H H' : Hp) : Prop where
  t : ∀ a xs, H a = some (.tup xs) → H' a = some (.tup xs)
  d : ∀ a xs, H a = some (.dK xs) → H' a = some (.dK xs)
  b : ∀ a dx fs, H a = some (.ins CB dx fs) → H' a = some (.ins CB dx fs)
  s : ∀ a dx fs, H a = some (.ins CS dx fs) → H' a = some (.ins CS dx fs)
theorem ShapeAt.kb {CB CS o' dx' : Addr} {fs' : List (Str × V)} {x : Its} {H H' : Hp} (k : Kb CB CS H H') (h : ShapeAt CS o' dx' fs' x H) : ShapeAt CS o' dx' fs' x H' := by
  have kp : Kp true H H' := ⟨k.t, fun z => by cases z⟩
  refine ⟨k.s _ _ _ h.ins, h.sf.kp kp, ?_, h.ok, h.l12⟩
  obtain ⟨a, D, kvs, e1, e2, e3⟩ := h.row
  exact ⟨a, D, kvs, e1, k.d _ _ e2, e3.kp kp⟩
theorem BdAt.kb {CB CS : Addr} {H H' : Hp} (k : Kb CB CS H H') {v : V} {b : Bd} (h : BdAt CB CS H v b) : BdAt CB CS H' v b := by
  obtain ⟨o', dx', d1, d2, fs', k1, k2, e, h1, h2, h3, h4, h5, h6, h7, h8⟩ := h.h
  refine ⟨o', dx', d1, d2, fs', k1, k2, e, k.b _ _ _ h1, h2, h3, h4, k.d _ _ h5, h6.imp fun v a z => ?_, k.d _ _ h7, h8.imp fun v a z => ?_⟩
  · obtain ⟨t, n, u, e, ht, o2, dx2, fs2, e2, hs⟩ := z
    exact ⟨t, n, u, e, k.t _ _ ht, o2, dx2, fs2, e2, hs.kb k⟩
  · obtain ⟨t, u, e, ht, hu⟩ := z
    exact ⟨t, u, e, k.t _ _ ht, k.t _ _ hu⟩
/-- a list that is written on bears no board -/
theorem kb_lst {CB CS o D : Addr} {H : Hp} {xs : List V} {u : HO} (hD : H D = some (.lst xs)) : Kb CB CS (wo o H) (wo o (upd H D u)) := by
  have k : ∀ a y, wo o H a = some y → (∀ xs, y ≠ .lst xs) → wo o (upd H D u) a = some y := fun a y e n => by
    have c : a ≠ o := fun z => by rw [z, wo, if_pos rfl] at e; cases e
    have e2 : H a = some y := wo_same o H _ _ e
    refine wo_at ?_ c
    rw [upd_ne (fun z => by rw [z, hD] at e2; exact n _ (Option.some.inj e2).symm)]
    exact e2
  exact ⟨fun a xs e => k _ _ e (by intro _ z; cases z), fun a xs e => k _ _ e (by intro _ z; cases z), fun a _ _ e => k _ _ e (by intro _ z; cases z), fun a _ _ e => k _ _ e (by intro _ z; cases z)⟩
theorem WbAt.same {CW CB CS o : Addr} {w : Wb} {H H' : Hp} (s : Same H H') (h : WbAt CW CB CS o w H) : WbAt CW CB CS o w H' := by
  obtain ⟨dx, l, kn, e, bs, h1, h2, h3⟩ := h.h
  have k := wo_off (o := o) (off_same s)
  exact ⟨dx, l, kn, e, bs, s _ _ h1, k _ _ h2, L2.Paired.mapP h3 fun _ _ z => z.same k⟩
theorem plen {α β : Type} {F : α → β → Prop} : ∀ {xs : List α} {ys : List β}, Paired F xs ys → xs.length = ys.length
  | _, _, .nil => rfl
  | _, _, .cons _ t => by simp [plen t]
theorem papp {α β : Type} {F : α → β → Prop} : ∀ {xs xs' : List α} {ys ys' : List β}, Paired F xs ys → Paired F xs' ys' → Paired F (xs ++ xs') (ys ++ ys')
  | _, _, _, _, .nil, h => h
  | _, _, _, _, .cons r t, h => .cons r (papp t h)
theorem ptake {α β : Type} {F : α → β → Prop} : ∀ (n : Nat) {xs : List α} {ys : List β}, Paired F xs ys → Paired F (xs.take n) (ys.take n)
  | 0, _, _, _ => .nil
  | _ + 1, _, _, .nil => .nil
  | n + 1, _, _, .cons r t => .cons r (ptake n t)
theorem cut_to0 (xs : List V) (h : Nat) : cutV xs none (some (h : Int)) = xs.take h := by
  unfold cutV
  rw [HT.sIx_none, HT.sIx_nat, List.drop_zero, Nat.sub_zero]
  by_cases hh : h ≤ xs.length
  · rw [Nat.min_eq_left hh]
  · rw [Nat.min_eq_right (by omega), List.take_length, List.take_of_length_le (by omega)]
def steps (b : Bd) : List Ch → Except Er (List Bd)
  | [] => .ok []
  | c :: r => match step b c with
    | .error e => .error e
    | .ok b' => match steps b' r with
      | .error e => .error e
      | .ok l => .ok (b' :: l)
def Wb.push (w : Wb) (made : List Bd) : Wb := if made = [] then w else ⟨w.bds.take (w.at_ + 1) ++ made, w.at_ + made.length⟩
/-- how an error ends a call of a workbench -/
def ErrW (CW CB CS CU CN C CQ o : Addr) (wb : Wb) (H : Hp) (E : XK) : Er → Prop
  | .unk z => ∀ d H', Off o H H' → WbAt CW CB CS o wb H' → H d = none → H' d = some (.xd [("name", .str z)]) → E (.ref CU) (some d) H'
  | .used z => ∀ d H', Off o H H' → WbAt CW CB CS o wb H' → H d = none → H' d = some (.xd [("name", .str z)]) → E (.ref CN) (some d) H'
  | .shape => ∀ H', Off o H H' → WbAt CW CB CS o wb H' → E (.ref C) none H'
  | .quest => ∀ H', Off o H H' → WbAt CW CB CS o wb H' → E (.ref CQ) none H'
def ResC (CW CB CS CU CN C CQ o : Addr) (wb : Wb) (H : Hp) (Q : VK) (E : XK) : Except Er (List Bd) → Prop
  | .ok made => ∀ H', Off o H H' → WbAt CW CB CS o (wb.push made) H' → Q .non H'
  | .error r => ErrW CW CB CS CU CN C CQ o wb H E r
def spBoard (CW CB CS : Addr) : Sp := fun vs H Q _ => ∃ (o : Addr) (wb : Wb) (b : Bd), vs = [.ref o] ∧ WbAt CW CB CS o wb H ∧ wb.bds[wb.at_]? = some b ∧ ∀ v, BdAt CB CS (wo o H) v b → Q v H
def spChangeAll (CW CB CS CU CN C CQ : Addr) : Sp := fun vs H Q E => ∃ (o lc : Addr) (wb : Wb) (b : Bd) (ts : List Addr) (cs : List Ch) (m : Nat), vs = [.ref o, .ref lc] ∧ WbAt CW CB CS o wb H ∧ wb.bds[wb.at_]? = some b ∧ b.ok m ∧ m + cs.length ≤ 1000 ∧ wb.bds.length ≤ 1000 ∧
  wo o H lc = some (.lst (ts.map V.ref)) ∧ Paired (ChAt CS (wo o H)) ts cs ∧ (∀ c ∈ cs, c.ok) ∧ ResC CW CB CS CU CN C CQ o wb H Q E (steps b cs)
theorem errs_w {CW CB CS CU CN C CQ o : Addr} {wb : Wb} {H H1 : Hp} {E : XK} {r : Er} (f1 : Off o H H1) (w1 : WbAt CW CB CS o wb H1) (q : ErrW CW CB CS CU CN C CQ o wb H E r) : Errs CU CN C CQ H1 E r := by
  have fr : ∀ d, H1 d = none → H d = none := fun d h => by
    obtain ⟨dx, l, kn, e, bs, h1, _⟩ := w1.h
    have c : d ≠ o := fun z => by rw [z, h1] at h; cases h
    cases e2 : H d with
    | none => rfl
    | some u => rw [f1 _ _ c e2] at h; cases h
  cases r with
  | unk z => exact fun d H' s n h => q d H' (off_trans f1 (off_same s)) (w1.same s) (fr d n) h
  | used z => exact fun d H' s n h => q d H' (off_trans f1 (off_same s)) (w1.same s) (fr d n) h
  | shape => exact fun H' s => q H' (off_trans f1 (off_same s)) (w1.same s)
  | quest => exact fun H' s => q H' (off_trans f1 (off_same s)) (w1.same s)
section
variable {P : Program} {w : World} {K : PySem.W.Frag} {mg : Str → Option Value} {base : Heap} {f C CU CN CQ CB CS CW : Addr} {fd : FuncData}
theorem scBoard : FnScope ["self"] ["self"] (defScope sBoard) := ⟨rfl, rfl, rfl, by decide +kernel, rfl, by decide +kernel, by decide +kernel⟩
theorem ok_board (F : Fun K "_board" "Workbench._board" sBoard f fd) (W : WbC K CW CB CS) : FnOk P w K mg base CX0 1 f fd ["self"] (spBoard CW CB CS) := by
  refine F.ok scBoard (fun vs H Q E h => ?_) (fun cdv A outer s H vs Q E hr h => ?_)
  · obtain ⟨o, wb, b, rfl, _⟩ := h
    rfl
  · obtain ⟨o, wb, b, rfl, hw, hb, q⟩ := h
    obtain ⟨dx, l, kn, e, bs, h1, h2, h3⟩ := hw.h
    refine ⟨_, pss_one (ps_ret (pe_ix ix_list (pe_fld (pv 0) rfl) (pe_fld (pv 0) rfl) (fun _ _ => rfl))), ?_⟩
    obtain ⟨i, hi⟩ : ∃ v, bs[wb.at_]? = some v := by
      have := plen h3
      exact ⟨_, List.getElem?_eq_getElem (by rw [this]; exact (List.getElem?_eq_some_iff.mp hb).1)⟩
    obtain ⟨b', hb', hat⟩ := pget h3 hi
    rw [hb] at hb'
    obtain rfl := Option.some.inj hb'
    exact ⟨_, rfl, o, CW, dx, _, _, rfl, h1, W.cl, W.n _ (by decide +kernel), rfl, _, rfl, o, CW, dx, _, _, rfl, h1, W.cl, W.n _ (by decide +kernel), rfl, l, _, _, _, rfl, rfl, SqL.of (wo_same o H _ _ h2), atI_nat hi, q _ hat⟩
abbrev nCA : List Str := ["self", "changes", "board", "made", "change"]
theorem scCA : FnScope nCA ["self", "changes"] (defScope sChangeAll) := ⟨rfl, rfl, rfl, by decide +kernel, rfl, by decide +kernel, by decide +kernel⟩
theorem ok_changeall {k : Nat} (hk : 1 ≤ k) (F : Fun K "change_all" "Workbench.change_all" sChangeAll f fd) (W : WbC K CW CB CS) (gB : Mt P w K mg base CX0 1 CW "_board" ["self"] (spBoard CW CB CS)) (gBh : Mt P w K mg base (L2.CX P w) k CW "_behind" ["self", "board", "change"] (spBehind CW CB CS CU CN C CQ)) (ml : mg "len" = none) :
    FnOk P w K mg base (L2.CX P w) (k + 1) f fd ["self", "changes"] (spChangeAll CW CB CS CU CN C CQ) := by
  refine F.okX scCA (fun vs H Q E h => ?_) (fun cdv A outer s H vs Q E hr h => ?_)
  · obtain ⟨o, lc, wb, b, ts, cs, m, rfl, _⟩ := h
    rfl
  · obtain ⟨o, lc, wb, b, ts, cs, m, rfl, hw, hb, ok, hm, hbl, hlc, hcs, hok, q⟩ := h
    obtain ⟨f1, fd1, m1, g1, b1⟩ := gB.ex
    obtain ⟨f2, fd2, m2, g2, b2⟩ := gBh.ex
    have tk : Takes (cxOf (L2.CX P w) P w K mg base nCA "Workbench.change_all" (defScope sChangeAll) f cdv A outer s H E) (fun cls d _ H => E cls d H) := takes_of rfl rfl rfl rfl
    have hx := passes_call tk (E := E) fun _ _ _ _ h => h
    refine ⟨_, (pss_cons (ps_set (i := 2) scCA.nd rfl (.inl rfl) (pe_meth0 (pv 0) W.cl m1 g1 (hr.mono hk) b1 .nil pass0))
      (pss_cons (ps_set (i := 3) scCA.nd rfl (.inl rfl) (pe_lst pa_nil))
      (pss_cons (ps_for (passes_of rfl) rfl (pi_list (pv 1)) (pg_name (i := 4) scCA.nd rfl (.inl rfl)) (pss_cons (ps_set (i := 2) scCA.nd rfl (.inl rfl) (pe_meth (pv 0) W.cl m2 g2 hr b2 .nil hx (pa_cons (pv 2) (pa_cons (pv 4) pa_nil))))
          (pss_one (ps_expr (pe_bm PySem.F.plainAttrs_list PySem.F.slot_list_append PySem.F.type_list_append mt_append (pv 3) (pa_cons (pv 2) pa_nil))))))
      (pss_one (ps_if (pt_truth (pv 3) (fun _ => rfl)) (pss_cons (ps_fld (pv 0) (pe_op op_cat (pe_slice sl_list (pe_fld (pv 0) rfl) po_none (po_some (pe_op op_add (pe_fld (pv 0) rfl) pe_int))) (pv 3)) rfl)
          (pss_one (ps_fldaug (pv 0) (pe_callB call_len (by rfl) ml boot_len (pa_cons (pv 3) pa_nil)) iop_add))) pss_nil))))), ?_⟩
    have hw' := hw
    obtain ⟨dx, l, kn, e, bs, h1, h2, h3⟩ := hw.h
    refine ⟨_, rfl, o, dx, _, rfl, h1, wfs_no (by decide +kernel), o, wb, b, rfl, hw', hb, fun v hv => ?_⟩
    have herr : ∀ {H1 : Hp} {r : Er}, Off o H H1 → WbAt CW CB CS o wb H1 → steps b cs = .error r → Errs CU CN C CQ H1 E r := fun {H1 r} f1 w1 es => by
      rw [es] at q
      exact errs_w f1 w1 q
    refine ⟨by show 0 ≤ sizeLine; decide, fun D hD => ?_⟩
    have s0 := same_new hD (.lst [])
    have Do : D ≠ o := (ne_of_none h1 hD).symm
    refine ⟨_, rfl, lc, rfl, ⟨_, SqL.of (s0 _ _ (wo_same o H _ _ hlc))⟩, for_it (walk_list (K := K) (a := lc) (xs := ts.map V.ref)) (fun i σ H' => ∃ (vb : V) (o5 : Option V) (cur : Bd) (mades : List Bd) (vs : List V) (e' : Int), σ = [some (.ref o), some (.ref lc), some vb, some (.ref D), o5] ∧ Off o H H' ∧ H' o = some (.ins CW dx (wfs l wb.at_ e' kn)) ∧ BdAt CB CS (wo o H') vb cur ∧
        H' D = some (.lst vs) ∧ Paired (BdAt CB CS (wo o H')) vs mades ∧ mades.length = i ∧ cur.ok (m + i) ∧ steps b cs = (match steps cur (cs.drop i) with | .error e => .error e | .ok l => .ok (mades ++ l))) ⟨v, _, b, [], [], e, rfl, off_same s0, s0 _ _ h1, hv.same (wo_off (off_same s0)), upd_same, .nil, rfl, ok, ?_⟩ (fun _ _ H' _ h => ?_) ?_ ?_⟩
    · rw [List.drop_zero]; cases steps b cs <;> rfl
    · obtain ⟨vb, o5, cur, mades, vs, e', _, f1, _⟩ := h
      exact SqL.of (f1 _ _ (fun z => by rw [z, wo, if_pos rfl] at hlc; cases hlc) (wo_same o H _ _ hlc))
    · rintro i x σ H2' H2 hi ⟨vb, o5, cur, mades, vs, e', rfl, f1, ho, hvb, hDv, hvs, hml, hco, est⟩ ⟨e3, hv2⟩
      subst e3
      obtain ⟨t, ht, rfl⟩ : ∃ t, ts[i]? = some t ∧ x = .ref t := by
        rw [List.getElem?_map] at hv2
        cases e : ts[i]? with
        | none => rw [e] at hv2; cases hv2
        | some t => rw [e] at hv2; exact ⟨t, rfl, (Option.some.inj hv2).symm⟩
      obtain ⟨c, hc, hct⟩ := pget hcs ht
      have dr : cs.drop i = c :: cs.drop (i + 1) := by
        obtain ⟨hl, rfl⟩ := List.getElem?_eq_some_iff.mp hc
        exact List.drop_eq_getElem_cons hl
      have il : i < cs.length := (List.getElem?_eq_some_iff.mp hc).1
      have wk := wo_off f1
      have hW2 : WbAt CW CB CS o wb H2 := ⟨dx, l, kn, e', bs, ho, wk _ _ h2, L2.Paired.mapP h3 fun _ _ z => z.same wk⟩
      refine ⟨_, rfl, o, dx, _, rfl, ho, wfs_no (by decide +kernel), _, rfl, _, rfl, o, dx, l, kn, t, wb.at_, e', vb, cur, c, m + i, rfl, ho, hvb, hco, by omega, hct.same wk, hok c (List.mem_of_getElem? hc), ?_⟩
      cases es : step cur c with
      | error r =>
        exact herr f1 hW2 (by rw [est, dr]; simp only [steps, es])
      | ok b' =>
        intro v' H' e2 f2 ho' hb'
        have hD' := f2 _ _ Do hDv
        refine ⟨_, rfl, .inl ⟨rfl, _, SqL.of hD'⟩, _, rfl, D, vs, v', rfl, rfl, hD', small1000 (by rw [plen hvs, hml]; omega), ?_⟩
        have kb := kb_lst (CB := CB) (CS := CS) (o := o) (u := .lst (vs ++ [v'])) hD'
        refine ⟨v', _, b', mades ++ [b'], vs ++ [v'], e2, rfl, fun a u n e => ?_, by rw [upd_ne (Ne.symm Do)]; exact ho', hb'.kb kb, upd_same, Paired.snoc (L2.Paired.mapP hvs fun _ _ z => (z.same (wo_off f2)).kb kb) (hb'.kb kb), by rw [List.length_append, hml]; rfl, ?_, ?_⟩
        · rw [upd_ne (ne_of_none e hD)]; exact f2 _ _ n (f1 _ _ n e)
        · rw [← Nat.add_assoc]; exact step_ok hco (hok c (List.mem_of_getElem? hc)) es
        · rw [est, dr]; simp only [steps, es]
          cases steps b' (cs.drop (i + 1)) <;> simp
    · rintro σ H2 ⟨vb, o5, cur, mades, vs, e', rfl, f1, ho, hvb, hDv, hvs, hml, hco, est⟩
      have wk := wo_off f1
      have dn : cs.drop (ts.map V.ref).length = [] := by rw [List.length_map, plen hcs, List.drop_length]
      rw [dn] at est
      have est : steps b cs = .ok mades := by rw [est]; simp [steps]
      rw [est] at q
      refine ⟨_, rfl, _, .inl ⟨vs, SqL.of hDv, rfl⟩, ?_⟩
      cases mades with
      | nil =>
        cases hvs
        refine iteF ?_
        exact q H2 f1 ⟨dx, l, kn, e', bs, ho, wk _ _ h2, L2.Paired.mapP h3 fun _ _ z => z.same wk⟩
      | cons b0 mr =>
        cases vs with
        | nil => cases hvs
        | cons v0 vr =>
          refine iteT ?_
          have hlv : (v0 :: vr).length = (b0 :: mr).length := plen hvs
          generalize v0 :: vr = vs at hDv hvs hlv ⊢
          have hne : (b0 :: mr) ≠ [] := by simp
          generalize b0 :: mr = mades at hvs hml hlv hne q ⊢
          have bsl : bs.length = wb.bds.length := plen h3
          have hv1 : vs.length ≤ 1000 := by rw [hlv, hml, List.length_map, plen hcs]; omega
          have hl2 := wo_same o H2 _ _ (wk _ _ h2)
          refine ⟨_, rfl, o, CW, dx, _, _, rfl, ho, W.cl, W.n _ (by decide +kernel), rfl, _, rfl, o, CW, dx, _, _, rfl, ho, W.cl, W.n _ (by decide +kernel), rfl, _, _, rfl, rfl, _, rfl, l, bs, rfl, SqL.of hl2, fun p hp => ?_⟩
          rw [show ((wb.at_ : Int) + 1) = ((wb.at_ + 1 : Nat) : Int) by omega, cut_to0]
          have s3 := same_new hp (.lst (bs.take (wb.at_ + 1)))
          have tl : (bs.take (wb.at_ + 1)).length ≤ 1000 := by rw [List.length_take]; omega
          refine ⟨_, rfl, p, D, _, _, rfl, rfl, upd_same, s3 _ _ hDv, le_line (by omega), fun p2 hp2 => ?_⟩
          have s4 := s3.trans (same_new hp2 (.lst (bs.take (wb.at_ + 1) ++ vs)))
          have hp20 : H2 p2 = none := s3.free hp2
          have e4 : (upd (upd H2 p (.lst (bs.take (wb.at_ + 1)))) p2 (.lst (bs.take (wb.at_ + 1) ++ vs))) p2 = some (.lst (bs.take (wb.at_ + 1) ++ vs)) := upd_same
          generalize upd (upd H2 p (.lst (bs.take (wb.at_ + 1)))) p2 (.lst (bs.take (wb.at_ + 1) ++ vs)) = H4 at s4 e4 ⊢
          have p2o : p2 ≠ o := (ne_of_none ho hp20).symm
          refine ⟨_, rfl, o, CW, dx, _, rfl, s4 _ _ ho, W.cl, W.n _ (by decide +kernel), (by show 6 < 1000; decide), ?_⟩
          rw [wfs_b]
          refine ⟨_, rfl, o, CW, dx, _, _, rfl, upd_same, W.cl, W.n _ (by decide +kernel), rfl, _, rfl, _, _, rfl, .inl ⟨_, SqL.of (by rw [upd_ne Do]; exact s4 _ _ hDv), rfl⟩, _, _, rfl, rfl, dx, _, upd_same, (by show 6 < 1000; decide), ?_⟩
          rw [wfs_a, upd_upd]
          have fF : Off o H2 (upd H4 o (.ins CW dx (wfs p2 ((wb.at_ : Int) + (vs.length : Nat)) e' kn))) := off_trans (off_same s4) off_upd
          have kF := wo_off fF
          refine q _ (off_trans f1 fF) ⟨dx, p2, kn, e', bs.take (wb.at_ + 1) ++ vs, ?_, ?_, ?_⟩
          · rw [upd_same, Wb.push, if_neg hne, hlv]
            simp
          · exact wo_at (by rw [upd_ne p2o]; exact e4) p2o
          · rw [Wb.push, if_neg hne]
            exact papp (ptake _ (L2.Paired.mapP h3 fun _ _ z => z.same ((wo_off f1).trans kF))) (L2.Paired.mapP hvs fun _ _ z => z.same kF)
end
end Bs

set_option Elab.async false
set_option linter.all false
set_option maxRecDepth 100000
set_option maxHeartbeats 2000000
/-! MK: o.m(e, .., k = v, ..), a method called with keywords. -/
namespace Rj
open PySem L2
def tMethK (C : Addr) (m : Str) (sp : Sp) (gV : List V → List V → List V) (E : XK) (ta : TE) (t tk : TA) : TE := fun σ H Q => ta σ H fun x H1 => ∃ a dx fs, x = .ref a ∧ H1 a = some (.ins C dx fs) ∧ fs.lookup m = none ∧
  t σ H1 fun vs H2 => tk σ H2 fun zs H3 => sp (gV (x :: vs) zs) H3 Q E
theorem pe_methK {X : Cx} {CX : CXT} {k : Nat} {f C : Addr} {fd : FuncData} {ps ks : List Str} {sp : Sp} {E : XK} {m : Str} {apos pos : Pos} {e o : Expr} {es : List Expr} {kws : List Keyword} {ta : TE} {t tk : TA} {g : List Value → List Value → List Value} {gV : List V → List V → List V} {pl : Sem Bool}
    (he : PE X o ta) (c : Cls X.K C) (hm : Meth X.K C m f) (F : FnOk X.prog X.w X.K X.mg X.base CX k f fd ps sp) (hr : Room k X.A) (hb : KBinds X.K fd ps ks g gV) (hx : Passes CX X E) (ha : PA X (e :: es) t) (hkw : PK X kws tk)
    (hall : (backToKw pos (keywordEach kws X.env)).all (·.1.isSome) = true := by rfl) (hks : (backToKw pos (keywordEach kws X.env)).filterMap (·.1) = ks := by rfl)
    (hst : starEach (e :: es) X.env = (false, eval e X.env) :: starEach es X.env := by rfl) (hpl : ((backTo pos (starEach (e :: es) X.env)).any (·.1) || (backToKw pos (keywordEach kws X.env)).any (·.1.isNone)) = false := by rfl)
    (ht : eval (.Call (.Attribute o m apos) (e :: es) kws pos) X.env = (do
      let ov ← eval o X.env
      standAt apos.atName
      let (f, first) ← holding [ov] (getMethod ov m pl)
      callWith pos f first (backTo pos (starEach (e :: es) X.env)) (backToKw pos (keywordEach kws X.env))) := by rfl) :
    PE X (.Call (.Attribute o m apos) (e :: es) kws pos) (tMethK C m sp gV E ta t tk) := by
  refine ⟨fun pins s σ H Q I h => ?_⟩
  refine PySem.W.methodCall_KW (pl := pl) (thn (he.run pins s σ H _ I h) fun u s1 ⟨x, H1, I1, rx, a, dx, fs, ex, ea, l, q⟩ => ?_) ht
  subst ex
  obtain rfl : u = Value.ref a := rx
  refine getmeth_ok I1 ea c hm l ?_
  refine PySem.W.callWith_KW (first := [.ref a]) (h₀ := X.base) I.ok.mod.kin hm.kp hall (thn (ha.run pos pins s1 σ H1 _ I1 q) fun us s2 ⟨vs, H2, I2, r, q2⟩ => ?_) hpl hst
  refine thn (hkw.run pos pins s2 σ H2 _ I2 q2) fun ws s3 ⟨zs, H3, I3, rz, q3⟩ => ⟨I3.kIn, ?_⟩
  rw [hks]
  exact run_fnk (us := .ref a :: us) (vs := .ref a :: vs) F hr hb hx I3 (.cons rfl r) rz q3
/-- two and two -/
def g22 {α : Type} : List α → List α → List α
  | [a, b], [c, d] => [a, b, c, d]
  | _, _ => []
theorem g22_len {α : Type} : ∀ {us ws : List α}, (g22 us ws).length = 4 → ∃ a b c d, us = [a, b] ∧ ws = [c, d]
  | [], _, h => by simp [g22] at h
  | [_], _, h => by simp [g22] at h
  | [a, b], [], h => by simp [g22] at h
  | [a, b], [_], h => by simp [g22] at h
  | [a, b], [c, d], h => ⟨a, b, c, d, rfl, rfl⟩
  | [a, b], _ :: _ :: _ :: _, h => by simp [g22] at h
  | _ :: _ :: _ :: _, _, h => by simp [g22] at h
theorem g22_rel : ∀ {vs : List V} {us : List Value} {zs : List V} {ws : List Value}, Vals vs us → Vals zs ws → Vals (g22 vs zs) (g22 us ws)
  | _, _, _, _, .nil, _ => .nil
  | _, _, _, _, .cons _ .nil, _ => .nil
  | _, _, _, _, .cons _ (.cons _ .nil), .nil => .nil
  | _, _, _, _, .cons _ (.cons _ .nil), .cons _ .nil => .nil
  | _, _, _, _, .cons a (.cons b .nil), .cons c (.cons d .nil) => .cons a (.cons b (.cons c (.cons d .nil)))
  | _, _, _, _, .cons _ (.cons _ .nil), .cons _ (.cons _ (.cons _ _)) => .nil
  | _, _, _, _, .cons _ (.cons _ (.cons _ _)), _ => .nil
theorem kb22 {K : PySem.W.Frag} {fd : FuncData} {p1 p2 p3 p4 : Str} (h : ∀ a b c d : Value, bindArgs fd ⟨[a, b], [(p3, c), (p4, d)]⟩ = pure [(p1, a), (p2, b), (p3, c), (p4, d)]) : KBinds K fd [p1, p2, p3, p4] [p3, p4] g22 g22 := by
  refine ⟨fun s us ws _ hl => ?_, g22_rel⟩
  obtain ⟨a, b, c, d, rfl, rfl⟩ := g22_len (by simpa using hl)
  exact .of_eq (h a b c d)
end Rj

set_option Elab.async false
set_option linter.all false
set_option maxRecDepth 100000
set_option maxHeartbeats 8000000
namespace Bs
open PySem L2
/-! ### a workbench's methods -/
abbrev sRemoveShape : Stmt := inClass (top 74) 2
abbrev sReplaceItem : Stmt := inClass (top 74) 3
abbrev sRemoveItem : Stmt := inClass (top 74) 4
abbrev sAsk : Stmt := inClass (top 74) 5
abbrev sDrop : Stmt := inClass (top 74) 6
def ArgAt (CS : Addr) (H : Hp) (rest : List V) : Ch → Prop
  | .set z x => ∃ u, rest = [.str z, u] ∧ ShV CS H u x
  | .rem z => rest = [.str z]
  | .rep z u y => ∃ v, rest = [.str z, .str u, v] ∧ y.At false H v
  | .del z u => rest = [.str z, .str u]
  | .ask z wd ns => ∃ l, rest = [.str z, .str wd, .ref l] ∧ H l = some (.lst (ns.map V.str))
  | .drop z => rest = [.str z]
def Ch.kind : Ch → Nat
  | .set .. => 0 | .rem .. => 1 | .rep .. => 2 | .del .. => 3 | .ask .. => 4 | .drop .. => 5
def ResD (CW CB CS CU CN C CQ o : Addr) (wb : Wb) (H : Hp) (Q : VK) (E : XK) : Except Er Bd → Prop
  | .ok b => ∀ H', Off o H H' → WbAt CW CB CS o (wb.push [b]) H' → Q .non H'
  | .error r => ErrW CW CB CS CU CN C CQ o wb H E r
def spDo (CW CB CS CU CN C CQ : Addr) (n : Nat) : Sp := fun vs H Q E => ∃ (o : Addr) (wb : Wb) (b : Bd) (c : Ch) (m : Nat) (rest : List V), vs = .ref o :: rest ∧ c.kind = n ∧ ArgAt CS (wo o H) rest c ∧ WbAt CW CB CS o wb H ∧ wb.bds[wb.at_]? = some b ∧ b.ok m ∧ m + 1 ≤ 1000 ∧ wb.bds.length ≤ 1000 ∧ c.ok ∧
  ResD CW CB CS CU CN C CQ o wb H Q E (step b c)
theorem errw_shift {CW CB CS CU CN C CQ o : Addr} {wb : Wb} {H H1 : Hp} {E : XK} {r : Er} (f1 : Off o H H1) (ho : ∀ u, H o = some u → H1 o ≠ none) (q : ErrW CW CB CS CU CN C CQ o wb H E r) : ErrW CW CB CS CU CN C CQ o wb H1 E r := by
  have fr : ∀ d, H1 d = none → H d = none := fun d h => by
    cases e2 : H d with
    | none => rfl
    | some u =>
      by_cases c : d = o
      · subst c; exact absurd h (ho _ e2)
      · rw [f1 _ _ c e2] at h; cases h
  cases r with
  | unk z => exact fun d H' f w n h => q d H' (off_trans f1 f) w (fr d n) h
  | used z => exact fun d H' f w n h => q d H' (off_trans f1 f) w (fr d n) h
  | shape => exact fun H' f w => q H' (off_trans f1 f) w
  | quest => exact fun H' f w => q H' (off_trans f1 f) w
/-- from one change to change_all -/
theorem do_all {CW CB CS CU CN C CQ o t l : Addr} {wb : Wb} {b : Bd} {c : Ch} {m : Nat} {H H2 : Hp} {Q : VK} {E : XK} (s : Same H H2) (hc : ChAt CS (wo o H2) t c) (hl : wo o H2 l = some (.lst [.ref t])) (hw : WbAt CW CB CS o wb H) (hb : wb.bds[wb.at_]? = some b) (ok : b.ok m) (hm : m + 1 ≤ 1000) (hn : wb.bds.length ≤ 1000) (hco : c.ok)
    (q : ResD CW CB CS CU CN C CQ o wb H Q E (step b c)) : spChangeAll CW CB CS CU CN C CQ [.ref o, .ref l] H2 Q E := by
  refine ⟨o, l, wb, b, [t], [c], m, rfl, hw.same s, hb, ok, hm, hn, hl, .cons hc .nil, fun c' h => by rw [List.mem_singleton.mp h]; exact hco, ?_⟩
  simp only [steps]
  cases es : step b c with
  | error r =>
    rw [es] at q
    exact errw_shift (off_same s) (fun u e => by rw [s _ _ e]; intro z; cases z) q
  | ok b' =>
    rw [es] at q
    exact fun H' f w => q H' (off_trans (off_same s) f) w
section
variable {P : Program} {w : World} {K : PySem.W.Frag} {mg : Str → Option Value} {base : Heap} {f C CU CN CQ CB CS CW : Addr} {fd : FuncData}
theorem scSetShape : FnScope ["self", "name", "shape"] ["self", "name", "shape"] (defScope sSetShape) := ⟨rfl, rfl, rfl, by decide +kernel, rfl, by decide +kernel, by decide +kernel⟩
theorem ok_set_shape {k : Nat} (F : Fun K "set_shape" "Workbench.set_shape" sSetShape f fd) (W : WbC K CW CB CS) (gA : Mt P w K mg base (L2.CX P w) k CW "change_all" ["self", "changes"] (spChangeAll CW CB CS CU CN C CQ)) :
    FnOk P w K mg base (L2.CX P w) (k + 1) f fd ["self", "name", "shape"] (spDo CW CB CS CU CN C CQ 0) := by
  refine F.okX scSetShape (fun vs H Q E h => ?_) (fun cdv A outer s H vs Q E hr h => ?_)
  · obtain ⟨o, wb, b, c, m, rest, rfl, hk, ha, _⟩ := h
    cases c with
    | set z x =>
      obtain ⟨u, rfl, hu⟩ := ha
      rfl
    | _ => cases hk
  · obtain ⟨o, wb, b, c, m, rest, rfl, hk, ha, hw, hb, ok, hm, hn, hco, q⟩ := h
    obtain ⟨f1, fd1, m1, g1, b1⟩ := gA.ex
    have tk : Takes (cxOf (L2.CX P w) P w K mg base ["self", "name", "shape"] "Workbench.set_shape" (defScope sSetShape) f cdv A outer s H E) (fun cls d _ H => E cls d H) := takes_of rfl rfl rfl rfl
    have hx := passes_call tk (E := E) fun _ _ _ _ h => h
    refine ⟨_, pss_one (ps_expr (pe_meth (pv 0) W.cl m1 g1 hr b1 .nil hx (pa_cons (pe_lst (pa_cons (pe_tup (pa_cons pe_str (pa_cons (pv 1) (pa_cons (pv 2) pa_nil)))) pa_nil)) pa_nil))), ?_⟩
    cases c with
    | set z x =>
      obtain ⟨u, rfl, hu⟩ := ha
      obtain ⟨dx, l, kn, e, bs, h1, h2, h3⟩ := id hw.h
      refine ⟨_, rfl, o, dx, _, rfl, h1, wfs_no (by decide +kernel), _, rfl, _, rfl, by show 3 ≤ sizeLine; decide, fun t ht => ⟨by show 1 ≤ sizeLine; decide, fun lc hlc => ?_⟩⟩
      have s1 := same_new ht (.tup [.str "set_shape", .str z, u])
      have s2 := same_new hlc (.lst [.ref t])
      have to : t ≠ o := (ne_of_none h1 ht).symm
      have lo : lc ≠ o := (ne_of_none (s1 _ _ h1) hlc).symm
      have k2 := wo_off (o := o) (off_same (s1.trans s2))
      have wt := wo_at (o := o) (s2 _ _ (upd_same (H := H) (a := t) (o := .tup [.str "set_shape", .str z, u]))) to
      exact do_all (c := .set z x) (t := t) (s1.trans s2) ⟨u, wt, hu.same k2⟩ (wo_at upd_same lo) hw hb ok hm hn hco q
    | _ => cases hk
theorem scRemoveShape : FnScope ["self", "name"] ["self", "name"] (defScope sRemoveShape) := ⟨rfl, rfl, rfl, by decide +kernel, rfl, by decide +kernel, by decide +kernel⟩
theorem ok_remove_shape {k : Nat} (F : Fun K "remove_shape" "Workbench.remove_shape" sRemoveShape f fd) (W : WbC K CW CB CS) (gA : Mt P w K mg base (L2.CX P w) k CW "change_all" ["self", "changes"] (spChangeAll CW CB CS CU CN C CQ)) :
    FnOk P w K mg base (L2.CX P w) (k + 1) f fd ["self", "name"] (spDo CW CB CS CU CN C CQ 1) := by
  refine F.okX scRemoveShape (fun vs H Q E h => ?_) (fun cdv A outer s H vs Q E hr h => ?_)
  · obtain ⟨o, wb, b, c, m, rest, rfl, hk, ha, _⟩ := h
    cases c with
    | rem z =>
      obtain rfl : rest = [.str z] := ha
      rfl
    | _ => cases hk
  · obtain ⟨o, wb, b, c, m, rest, rfl, hk, ha, hw, hb, ok, hm, hn, hco, q⟩ := h
    obtain ⟨f1, fd1, m1, g1, b1⟩ := gA.ex
    have tk : Takes (cxOf (L2.CX P w) P w K mg base ["self", "name"] "Workbench.remove_shape" (defScope sRemoveShape) f cdv A outer s H E) (fun cls d _ H => E cls d H) := takes_of rfl rfl rfl rfl
    have hx := passes_call tk (E := E) fun _ _ _ _ h => h
    refine ⟨_, pss_one (ps_expr (pe_meth (pv 0) W.cl m1 g1 hr b1 .nil hx (pa_cons (pe_lst (pa_cons (pe_tup (pa_cons pe_str (pa_cons (pv 1) pa_nil))) pa_nil)) pa_nil))), ?_⟩
    cases c with
    | rem z =>
      obtain rfl : rest = [.str z] := ha
      obtain ⟨dx, l, kn, e, bs, h1, h2, h3⟩ := id hw.h
      refine ⟨_, rfl, o, dx, _, rfl, h1, wfs_no (by decide +kernel), _, rfl, by show 2 ≤ sizeLine; decide, fun t ht => ⟨by show 1 ≤ sizeLine; decide, fun lc hlc => ?_⟩⟩
      have s1 := same_new ht (.tup [.str "remove_shape", .str z])
      have s2 := same_new hlc (.lst [.ref t])
      have to : t ≠ o := (ne_of_none h1 ht).symm
      have lo : lc ≠ o := (ne_of_none (s1 _ _ h1) hlc).symm
      have k2 := wo_off (o := o) (off_same (s1.trans s2))
      have wt := wo_at (o := o) (s2 _ _ (upd_same (H := H) (a := t) (o := .tup [.str "remove_shape", .str z]))) to
      exact do_all (c := .rem z) (t := t) (s1.trans s2) wt (wo_at upd_same lo) hw hb ok hm hn hco q
    | _ => cases hk
theorem scReplaceItem : FnScope ["self", "name", "item_name", "item"] ["self", "name", "item_name", "item"] (defScope sReplaceItem) := ⟨rfl, rfl, rfl, by decide +kernel, rfl, by decide +kernel, by decide +kernel⟩
theorem ok_replace_item {k : Nat} (F : Fun K "replace_item" "Workbench.replace_item" sReplaceItem f fd) (W : WbC K CW CB CS) (gA : Mt P w K mg base (L2.CX P w) k CW "change_all" ["self", "changes"] (spChangeAll CW CB CS CU CN C CQ)) :
    FnOk P w K mg base (L2.CX P w) (k + 1) f fd ["self", "name", "item_name", "item"] (spDo CW CB CS CU CN C CQ 2) := by
  refine F.okX scReplaceItem (fun vs H Q E h => ?_) (fun cdv A outer s H vs Q E hr h => ?_)
  · obtain ⟨o, wb, b, c, m, rest, rfl, hk, ha, _⟩ := h
    cases c with
    | rep z u y =>
      obtain ⟨v, rfl, hy⟩ := ha
      rfl
    | _ => cases hk
  · obtain ⟨o, wb, b, c, m, rest, rfl, hk, ha, hw, hb, ok, hm, hn, hco, q⟩ := h
    obtain ⟨f1, fd1, m1, g1, b1⟩ := gA.ex
    have tk : Takes (cxOf (L2.CX P w) P w K mg base ["self", "name", "item_name", "item"] "Workbench.replace_item" (defScope sReplaceItem) f cdv A outer s H E) (fun cls d _ H => E cls d H) := takes_of rfl rfl rfl rfl
    have hx := passes_call tk (E := E) fun _ _ _ _ h => h
    refine ⟨_, pss_one (ps_expr (pe_meth (pv 0) W.cl m1 g1 hr b1 .nil hx (pa_cons (pe_lst (pa_cons (pe_tup (pa_cons pe_str (pa_cons (pv 1) (pa_cons (pv 2) (pa_cons (pv 3) pa_nil))))) pa_nil)) pa_nil))), ?_⟩
    cases c with
    | rep z u y =>
      obtain ⟨v, rfl, hy⟩ := ha
      obtain ⟨dx, l, kn, e, bs, h1, h2, h3⟩ := id hw.h
      refine ⟨_, rfl, o, dx, _, rfl, h1, wfs_no (by decide +kernel), _, rfl, _, rfl, _, rfl, by show 4 ≤ sizeLine; decide, fun t ht => ⟨by show 1 ≤ sizeLine; decide, fun lc hlc => ?_⟩⟩
      have s1 := same_new ht (.tup [.str "replace_item", .str z, .str u, v])
      have s2 := same_new hlc (.lst [.ref t])
      have to : t ≠ o := (ne_of_none h1 ht).symm
      have lo : lc ≠ o := (ne_of_none (s1 _ _ h1) hlc).symm
      have k2 := wo_off (o := o) (off_same (s1.trans s2))
      have wt := wo_at (o := o) (s2 _ _ (upd_same (H := H) (a := t) (o := .tup [.str "replace_item", .str z, .str u, v]))) to
      exact do_all (c := .rep z u y) (t := t) (s1.trans s2) ⟨v, wt, hy.same k2⟩ (wo_at upd_same lo) hw hb ok hm hn hco q
    | _ => cases hk
theorem scRemoveItem : FnScope ["self", "name", "item_name"] ["self", "name", "item_name"] (defScope sRemoveItem) := ⟨rfl, rfl, rfl, by decide +kernel, rfl, by decide +kernel, by decide +kernel⟩
theorem ok_remove_item {k : Nat} (F : Fun K "remove_item" "Workbench.remove_item" sRemoveItem f fd) (W : WbC K CW CB CS) (gA : Mt P w K mg base (L2.CX P w) k CW "change_all" ["self", "changes"] (spChangeAll CW CB CS CU CN C CQ)) :
    FnOk P w K mg base (L2.CX P w) (k + 1) f fd ["self", "name", "item_name"] (spDo CW CB CS CU CN C CQ 3) := by
  refine F.okX scRemoveItem (fun vs H Q E h => ?_) (fun cdv A outer s H vs Q E hr h => ?_)
  · obtain ⟨o, wb, b, c, m, rest, rfl, hk, ha, _⟩ := h
    cases c with
    | del z u =>
      obtain rfl : rest = [.str z, .str u] := ha
      rfl
    | _ => cases hk
  · obtain ⟨o, wb, b, c, m, rest, rfl, hk, ha, hw, hb, ok, hm, hn, hco, q⟩ := h
    obtain ⟨f1, fd1, m1, g1, b1⟩ := gA.ex
    have tk : Takes (cxOf (L2.CX P w) P w K mg base ["self", "name", "item_name"] "Workbench.remove_item" (defScope sRemoveItem) f cdv A outer s H E) (fun cls d _ H => E cls d H) := takes_of rfl rfl rfl rfl
    have hx := passes_call tk (E := E) fun _ _ _ _ h => h
    refine ⟨_, pss_one (ps_expr (pe_meth (pv 0) W.cl m1 g1 hr b1 .nil hx (pa_cons (pe_lst (pa_cons (pe_tup (pa_cons pe_str (pa_cons (pv 1) (pa_cons (pv 2) pa_nil)))) pa_nil)) pa_nil))), ?_⟩
    cases c with
    | del z u =>
      obtain rfl : rest = [.str z, .str u] := ha
      obtain ⟨dx, l, kn, e, bs, h1, h2, h3⟩ := id hw.h
      refine ⟨_, rfl, o, dx, _, rfl, h1, wfs_no (by decide +kernel), _, rfl, _, rfl, by show 3 ≤ sizeLine; decide, fun t ht => ⟨by show 1 ≤ sizeLine; decide, fun lc hlc => ?_⟩⟩
      have s1 := same_new ht (.tup [.str "remove_item", .str z, .str u])
      have s2 := same_new hlc (.lst [.ref t])
      have to : t ≠ o := (ne_of_none h1 ht).symm
      have lo : lc ≠ o := (ne_of_none (s1 _ _ h1) hlc).symm
      have k2 := wo_off (o := o) (off_same (s1.trans s2))
      have wt := wo_at (o := o) (s2 _ _ (upd_same (H := H) (a := t) (o := .tup [.str "remove_item", .str z, .str u]))) to
      exact do_all (c := .del z u) (t := t) (s1.trans s2) wt (wo_at upd_same lo) hw hb ok hm hn hco q
    | _ => cases hk
theorem scAsk : FnScope ["self", "name", "word", "shapes"] ["self", "name", "word", "shapes"] (defScope sAsk) := ⟨rfl, rfl, rfl, by decide +kernel, rfl, by decide +kernel, by decide +kernel⟩
theorem ok_ask {k : Nat} (F : Fun K "ask" "Workbench.ask" sAsk f fd) (W : WbC K CW CB CS) (gA : Mt P w K mg base (L2.CX P w) k CW "change_all" ["self", "changes"] (spChangeAll CW CB CS CU CN C CQ)) :
    FnOk P w K mg base (L2.CX P w) (k + 1) f fd ["self", "name", "word", "shapes"] (spDo CW CB CS CU CN C CQ 4) := by
  refine F.okX scAsk (fun vs H Q E h => ?_) (fun cdv A outer s H vs Q E hr h => ?_)
  · obtain ⟨o, wb, b, c, m, rest, rfl, hk, ha, _⟩ := h
    cases c with
    | ask z wd ns =>
      obtain ⟨ll, rfl, hl⟩ := ha
      rfl
    | _ => cases hk
  · obtain ⟨o, wb, b, c, m, rest, rfl, hk, ha, hw, hb, ok, hm, hn, hco, q⟩ := h
    obtain ⟨f1, fd1, m1, g1, b1⟩ := gA.ex
    have tk : Takes (cxOf (L2.CX P w) P w K mg base ["self", "name", "word", "shapes"] "Workbench.ask" (defScope sAsk) f cdv A outer s H E) (fun cls d _ H => E cls d H) := takes_of rfl rfl rfl rfl
    have hx := passes_call tk (E := E) fun _ _ _ _ h => h
    refine ⟨_, pss_one (ps_expr (pe_meth (pv 0) W.cl m1 g1 hr b1 .nil hx (pa_cons (pe_lst (pa_cons (pe_tup (pa_cons pe_str (pa_cons (pv 1) (pa_cons (pv 2) (pa_cons (pv 3) pa_nil))))) pa_nil)) pa_nil))), ?_⟩
    cases c with
    | ask z wd ns =>
      obtain ⟨ll, rfl, hl⟩ := ha
      obtain ⟨dx, l, kn, e, bs, h1, h2, h3⟩ := id hw.h
      refine ⟨_, rfl, o, dx, _, rfl, h1, wfs_no (by decide +kernel), _, rfl, _, rfl, _, rfl, by show 4 ≤ sizeLine; decide, fun t ht => ⟨by show 1 ≤ sizeLine; decide, fun lc hlc => ?_⟩⟩
      have s1 := same_new ht (.tup [.str "ask", .str z, .str wd, .ref ll])
      have s2 := same_new hlc (.lst [.ref t])
      have to : t ≠ o := (ne_of_none h1 ht).symm
      have lo : lc ≠ o := (ne_of_none (s1 _ _ h1) hlc).symm
      have k2 := wo_off (o := o) (off_same (s1.trans s2))
      have wt := wo_at (o := o) (s2 _ _ (upd_same (H := H) (a := t) (o := .tup [.str "ask", .str z, .str wd, .ref ll]))) to
      exact do_all (c := .ask z wd ns) (t := t) (s1.trans s2) ⟨ll, wt, k2 _ _ hl⟩ (wo_at upd_same lo) hw hb ok hm hn hco q
    | _ => cases hk
theorem scDrop : FnScope ["self", "name"] ["self", "name"] (defScope sDrop) := ⟨rfl, rfl, rfl, by decide +kernel, rfl, by decide +kernel, by decide +kernel⟩
theorem ok_drop {k : Nat} (F : Fun K "drop" "Workbench.drop" sDrop f fd) (W : WbC K CW CB CS) (gA : Mt P w K mg base (L2.CX P w) k CW "change_all" ["self", "changes"] (spChangeAll CW CB CS CU CN C CQ)) :
    FnOk P w K mg base (L2.CX P w) (k + 1) f fd ["self", "name"] (spDo CW CB CS CU CN C CQ 5) := by
  refine F.okX scDrop (fun vs H Q E h => ?_) (fun cdv A outer s H vs Q E hr h => ?_)
  · obtain ⟨o, wb, b, c, m, rest, rfl, hk, ha, _⟩ := h
    cases c with
    | drop z =>
      obtain rfl : rest = [.str z] := ha
      rfl
    | _ => cases hk
  · obtain ⟨o, wb, b, c, m, rest, rfl, hk, ha, hw, hb, ok, hm, hn, hco, q⟩ := h
    obtain ⟨f1, fd1, m1, g1, b1⟩ := gA.ex
    have tk : Takes (cxOf (L2.CX P w) P w K mg base ["self", "name"] "Workbench.drop" (defScope sDrop) f cdv A outer s H E) (fun cls d _ H => E cls d H) := takes_of rfl rfl rfl rfl
    have hx := passes_call tk (E := E) fun _ _ _ _ h => h
    refine ⟨_, pss_one (ps_expr (pe_meth (pv 0) W.cl m1 g1 hr b1 .nil hx (pa_cons (pe_lst (pa_cons (pe_tup (pa_cons pe_str (pa_cons (pv 1) pa_nil))) pa_nil)) pa_nil))), ?_⟩
    cases c with
    | drop z =>
      obtain rfl : rest = [.str z] := ha
      obtain ⟨dx, l, kn, e, bs, h1, h2, h3⟩ := id hw.h
      refine ⟨_, rfl, o, dx, _, rfl, h1, wfs_no (by decide +kernel), _, rfl, by show 2 ≤ sizeLine; decide, fun t ht => ⟨by show 1 ≤ sizeLine; decide, fun lc hlc => ?_⟩⟩
      have s1 := same_new ht (.tup [.str "drop", .str z])
      have s2 := same_new hlc (.lst [.ref t])
      have to : t ≠ o := (ne_of_none h1 ht).symm
      have lo : lc ≠ o := (ne_of_none (s1 _ _ h1) hlc).symm
      have k2 := wo_off (o := o) (off_same (s1.trans s2))
      have wt := wo_at (o := o) (s2 _ _ (upd_same (H := H) (a := t) (o := .tup [.str "drop", .str z]))) to
      exact do_all (c := .drop z) (t := t) (s1.trans s2) wt (wo_at upd_same lo) hw hb ok hm hn hco q
    | _ => cases hk
end
end Bs

set_option Elab.async false
set_option linter.all false
set_option maxRecDepth 100000
set_option maxHeartbeats 8000000
namespace Bs
open PySem L2
open PyProof.Rows (sortedS)
/-! ### a workbench made; what it tells -/
def wb0 : Wb := ⟨[⟨[], []⟩], 0⟩
def spWInit (CW CB CS : Addr) : Sp := fun vs H Q _ => ∃ (o dx : Addr), vs = [.ref o] ∧ H o = some (.ins CW dx []) ∧ ∀ H', Off o H H' → WbAt CW CB CS o wb0 H' → Q .non H'
def spNamesS (CW CB CS : Addr) (sel : Bd → List Str) : Sp := fun vs H Q _ => ∃ (o : Addr) (wb : Wb) (b : Bd) (m : Nat), vs = [.ref o] ∧ WbAt CW CB CS o wb H ∧ wb.bds[wb.at_]? = some b ∧ b.ok m ∧ m < 64 ∧
  ∀ ys p H', Same H H' → H p = none → H' p = some (.lst (ys.map V.str)) → ys.Perm (sel b) → sortedS ys = true → Q (.ref p) H'
/-- boards as they are read, their tables perhaps locked -/
def ShR (CS : Addr) (H : Hp) (v : V) (x : Its) : Prop := ∃ (o dx : Addr) (fs : List (Str × V)) (p : Addr) (ys : List V), v = .ref o ∧ H o = some (.ins CS dx fs) ∧ fs.lookup ("parts" : Str) = some (.ref p) ∧ H p = some (.tup ys) ∧ x.At true H ys
def EntR (CS : Addr) (H : Hp) (v : V) (x : Its) : Prop := ∃ (t : Addr) (n : Int) (u : V), v = .ref t ∧ H t = some (.tup [.int n, u]) ∧ ShR CS H u x
structure BdR (CB CS : Addr) (H : Hp) (v : V) (b : Bd) : Prop where
  h : ∃ (o dx d1 d2 : Addr) (fs : List (Str × V)) (k1 k2 : List (Key × V)), v = .ref o ∧ H o = some (.ins CB dx fs) ∧ fs.lookup ("shapes" : Str) = some (.ref d1) ∧ fs.lookup ("questions" : Str) = some (.ref d2) ∧
    Rd H d1 (.dK k1) ∧ TabR (EntR CS H) k1 b.sh ∧ Rd H d2 (.dK k2) ∧ TabR (QuV H) k2 b.qs
structure WbR (CW CB CS o : Addr) (w : Wb) (H : Hp) : Prop where
  h : ∃ (dx l kn : Addr) (e : Int) (bs : List V), H o = some (.ins CW dx (wfs l w.at_ e kn)) ∧ H l = some (.lst bs) ∧ Paired (BdR CB CS H) bs w.bds
/-- a dict is locked -/
theorem lock_keep {H : Hp} {d : Addr} {k : List (Key × V)} {od : Obj} (hd : H d = some (.dK k)) : ∀ a u, H a = some u → (∀ kv, u ≠ .dK kv) → upd H d (.frz od (.dK k)) a = some u := fun a u e n => by
  rw [upd_ne (fun z => by rw [z, hd] at e; exact n _ (Option.some.inj e).symm)]; exact e
theorem lock_rd {H : Hp} {d : Addr} {k : List (Key × V)} {od : Obj} (hd : H d = some (.dK k)) : ∀ a kv, H a = some (.dK kv) → Rd (upd H d (.frz od (.dK k))) a (.dK kv) := fun a kv e => by
  by_cases c : a = d
  · subst c
    rw [hd] at e
    have e := HO.dK.inj (Option.some.inj e)
    subst e
    exact .inr ⟨od, upd_same⟩
  · exact .inl (by rw [upd_ne c]; exact e)
theorem EntV.rd {CS : Addr} {H H' : Hp} (k : ∀ a u, H a = some u → (∀ kv, u ≠ .dK kv) → H' a = some u) {v : V} {x : Its} (h : EntV CS H v x) : EntR CS H' v x := by
  obtain ⟨t, n, u, e, ht, o, dx, fs, eo, sa⟩ := h
  obtain ⟨p, ys, l, hp, hx⟩ := sa.sf.parts
  have kp : Kp true H H' := ⟨fun a xs e => k _ _ e (by intro _ z; cases z), fun z => by cases z⟩
  exact ⟨t, n, u, e, k _ _ ht (by intro _ z; cases z), o, dx, fs, p, ys, eo, k _ _ sa.ins (by intro _ z; cases z), l, k _ _ hp (by intro _ z; cases z), Its.At.kp kp hx⟩
theorem BdAt.rd {CB CS : Addr} {H H' : Hp} (k : ∀ a u, H a = some u → (∀ kv, u ≠ .dK kv) → H' a = some u) (r : ∀ a kv, H a = some (.dK kv) → Rd H' a (.dK kv)) {v : V} {b : Bd} (h : BdAt CB CS H v b) : BdR CB CS H' v b := by
  obtain ⟨o, dx, d1, d2, fs, k1, k2, e, h1, h2, h3, h4, h5, h6, h7, h8⟩ := h.h
  exact ⟨o, dx, d1, d2, fs, k1, k2, e, k _ _ h1 (by intro _ z; cases z), h2, h3, r _ _ h5, h6.imp fun _ _ => EntV.rd k, r _ _ h7, h8.imp fun _ _ ⟨t, u, e, a, b⟩ => ⟨t, u, e, k _ _ a (by intro _ z; cases z), k _ _ b (by intro _ z; cases z)⟩⟩
theorem WbAt.rd {CW CB CS o : Addr} {wb : Wb} {H H' : Hp} (k : ∀ a u, H a = some u → (∀ kv, u ≠ .dK kv) → H' a = some u) (r : ∀ a kv, H a = some (.dK kv) → Rd H' a (.dK kv)) (h : WbAt CW CB CS o wb H) : WbR CW CB CS o wb H' := by
  obtain ⟨dx, l, kn, e, bs, h1, h2, h3⟩ := h.h
  exact ⟨dx, l, kn, e, bs, k _ _ h1 (by intro _ z; cases z), k _ _ (wo_same o H _ _ h2) (by intro _ z; cases z), L2.Paired.mapP h3 fun _ _ z => (z.same (wo_same o H)).rd k r⟩
theorem WbAt.toR {CW CB CS o : Addr} {wb : Wb} {H : Hp} (h : WbAt CW CB CS o wb H) : WbR CW CB CS o wb H := h.rd (fun _ _ e _ => e) fun _ _ e => .inl e
def spBoardR (CW CB CS : Addr) : Sp := fun vs H Q _ => ∃ (o : Addr) (wb : Wb) (b : Bd), vs = [.ref o] ∧ WbR CW CB CS o wb H ∧ wb.bds[wb.at_]? = some b ∧ ∀ v, BdR CB CS H v b → Q v H
def spShapeOf (CW CB CS CU : Addr) : Sp := fun vs H Q E => ∃ (o : Addr) (wb : Wb) (b : Bd) (z : Str), vs = [.ref o, .str z] ∧ WbR CW CB CS o wb H ∧ wb.bds[wb.at_]? = some b ∧ shortN z ∧ (∀ x v, tget b.sh z = some x → ShR CS H v x → Q v H) ∧ (tget b.sh z = none → NoName CU z H E)
def spQuestionOf (CW CB CS CU : Addr) : Sp := fun vs H Q E => ∃ (o : Addr) (wb : Wb) (b : Bd) (z : Str), vs = [.ref o, .str z] ∧ WbR CW CB CS o wb H ∧ wb.bds[wb.at_]? = some b ∧ shortN z ∧ (∀ x v, tget b.qs z = some x → QuV H v x → Q v H) ∧ (tget b.qs z = none → NoName CU z H E)
section
variable {P : Program} {w : World} {K : PySem.W.Frag} {mg : Str → Option Value} {base : Heap} {f fI C CU CN CQ CB CS CW : Addr} {fd fdI : FuncData}
theorem scWInit : FnScope ["self"] ["self"] (defScope sWInit) := ⟨rfl, rfl, rfl, by decide +kernel, rfl, by decide +kernel, by decide +kernel⟩
theorem ok_winit (F : Fun K "__init__" "Workbench.__init__" sWInit f fd) (W : WbC K CW CB CS) (M : Mk K CB fI) (GI : FnOk P w K mg base CX0 1 fI fdI ["self", "shapes", "questions"] (spBInit CB)) (bI : Binds K fdI ["self", "shapes", "questions"] []) (gB : mg "Board" = some (.ref CB)) :
    FnOk P w K mg base CX0 3 f fd ["self"] (spWInit CW CB CS) := by
  refine F.ok scWInit (fun vs H Q E h => ?_) (fun cdv A outer s H vs Q E hr h => ?_)
  · obtain ⟨o, dx, rfl, _⟩ := h
    rfl
  · obtain ⟨o, dx, rfl, ho, q⟩ := h
    refine ⟨_, pss_cons (ps_fld (pv 0) pe_int rfl) (pss_cons (ps_fld (pv 0) pe_int rfl) (pss_cons (ps_fld (pv 0) (pe_lst (pa_cons (pe_make M GI hr (by rfl) gB bI .nil pass0 (pa_cons pe_dnewK (pa_cons pe_dnewK pa_nil))) pa_nil)) rfl)
      (pss_cons (ps_fld (pv 0) pe_int rfl) (pss_cons (ps_fld (pv 0) pe_int rfl) (pss_one (ps_fld (pv 0) pe_dnewK rfl)))))), ?_⟩
    refine ⟨_, rfl, o, CW, dx, [], rfl, ho, W.cl, W.n _ (by decide +kernel), by decide, ?_⟩
    refine ⟨_, rfl, o, CW, dx, _, rfl, upd_same, W.cl, W.n _ (by decide +kernel), by decide, ?_⟩
    rw [upd_upd]
    have o2 : (upd H o (.ins CW dx (putF "kept" (.int 0) (putF "decided" (.int 0) [])))) o = some (.ins CW dx (putF "kept" (.int 0) (putF "decided" (.int 0) []))) := upd_same
    have f2 : Off o H (upd H o (.ins CW dx (putF "kept" (.int 0) (putF "decided" (.int 0) [])))) := off_upd
    generalize upd H o (.ins CW dx (putF "kept" (.int 0) (putF "decided" (.int 0) []))) = H2 at o2 f2 ⊢
    intro d1 hd1
    have s1 := same_new hd1 (.dK [])
    intro d2 hd2
    have s2 := same_new hd2 (.dK [])
    have s3 := s1.trans s2
    have e1 : (upd (upd H2 d1 (.dK [])) d2 (.dK [])) d1 = some (.dK []) := s2 _ _ upd_same
    have e2 : (upd (upd H2 d1 (.dK [])) d2 (.dK [])) d2 = some (.dK []) := upd_same
    generalize upd (upd H2 d1 (.dK [])) d2 (.dK []) = H3 at s3 e1 e2 ⊢
    intro ob dxb nob ndxb neb
    refine ⟨ob, dxb, d1, d2, rfl, upd_same, fun H4 fsb off hob g1 g2 g3 => ⟨rfl, ?_⟩⟩
    have s4 := made_board nob ndxb off
    refine ⟨by show 1 ≤ sizeLine; decide, fun l hl => ?_⟩
    have s5 := same_new hl (.lst [.ref ob])
    have S := s3.trans (s4.trans s5)
    have hl5 : (upd H4 l (.lst [.ref ob])) l = some (.lst [.ref ob]) := upd_same
    have hb5 : BdAt CB CS (upd H4 l (.lst [.ref ob])) (.ref ob) ⟨[], []⟩ := ⟨ob, dxb, d1, d2, fsb, [], [], rfl, s5 _ _ hob, g1, g2, g3, s5 _ _ (s4 _ _ e1), .nil, s5 _ _ (s4 _ _ e2), .nil⟩
    generalize upd H4 l (.lst [.ref ob]) = H5 at S hl5 hb5 ⊢
    refine ⟨_, rfl, o, CW, dx, _, rfl, S _ _ o2, W.cl, W.n _ (by decide +kernel), by decide, ?_⟩
    refine ⟨_, rfl, o, CW, dx, _, rfl, upd_same, W.cl, W.n _ (by decide +kernel), (by show 3 < 1000; decide), ?_⟩
    refine ⟨_, rfl, o, CW, dx, _, rfl, upd_same, W.cl, W.n _ (by decide +kernel), (by show 4 < 1000; decide), ?_⟩
    rw [upd_upd, upd_upd]
    intro kn hkn
    have kno : kn ≠ o := fun z => by rw [z, upd_same] at hkn; cases hkn
    refine ⟨_, rfl, o, CW, dx, _, rfl, by rw [upd_ne (Ne.symm kno), upd_same], W.cl, W.n _ (by decide +kernel), (by show 5 < 1000; decide), ?_⟩
    have ho5 := S _ _ o2
    have lo : l ≠ o := fun z => by rw [z, ho5] at hl5; cases hl5
    rw [upd_ne kno] at hkn
    generalize hX : putF "_entries" (.int 0) (putF "_at" (.int 0) (putF "_boards" (.ref l) (putF "kept" (.int 0) (putF "decided" (.int 0) [])))) = X
    have eX : putF "_known" (.ref kn) X = wfs l 0 0 kn := by rw [← hX]; rfl
    rw [eX]
    have fF : Off o H5 (upd (upd (upd H5 o (.ins CW dx X)) kn (.dK [])) o (.ins CW dx (wfs l 0 0 kn))) := fun b u n e => by
      rw [upd_ne n, upd_ne (ne_of_none e hkn), upd_ne n]; exact e
    refine q _ (off_trans f2 (off_trans (off_same S) fF)) ⟨dx, l, kn, 0, [.ref ob], upd_same, ?_, ?_⟩
    · exact wo_at (by rw [upd_ne lo, upd_ne (ne_of_none hl5 hkn), upd_ne lo]; exact hl5) lo
    · exact .cons ((hb5.wo ho5 W.nB W.nS).same (wo_off fF)) .nil
theorem scNamesS : FnScope ["self"] ["self"] (defScope sShapeNames) := ⟨rfl, rfl, rfl, by decide +kernel, rfl, by decide +kernel, by decide +kernel⟩
theorem ok_snames (F : Fun K "shape_names" "Workbench.shape_names" sShapeNames f fd) (T : BoardC K CB) (W : WbC K CW CB CS) (gB : Mt P w K mg base CX0 1 CW "_board" ["self"] (spBoard CW CB CS)) (ms : mg "sorted" = none) : FnOk P w K mg base CX0 2 f fd ["self"] (spNamesS CW CB CS fun b => b.sh.map (·.1)) := by
  refine F.ok scNamesS (fun vs H Q E h => ?_) (fun cdv A outer s H vs Q E hr h => ?_)
  · obtain ⟨o, wb, b, m, rfl, _⟩ := h
    rfl
  · obtain ⟨o, wb, b, m, rfl, hw, hb, ok, hm, q⟩ := h
    obtain ⟨f1, fd1, m1, g1, b1⟩ := gB.ex
    refine ⟨_, pss_one (ps_ret (pe_callB (call_sortedD rfl) (by rfl) ms (by decide +kernel) (pa_cons (pe_fld (pe_meth0 (pv 0) W.cl m1 g1 hr b1 .nil pass0) rfl) pa_nil))), ?_⟩
    obtain ⟨dx, l, kn, e, bs, h1, h2, h3⟩ := id hw.h
    refine ⟨_, rfl, o, dx, _, rfl, h1, wfs_no (by decide +kernel), o, wb, b, rfl, hw, hb, fun v hv => ?_⟩
    obtain ⟨ob, dxb, d1, d2, fsb, k1, k2, rfl, hob, l1, l2, ln, hd1, t1, hd2, t2⟩ := (hv.same (wo_same o H)).h
    have ol := ok.l1
    exact ⟨ob, CB, dxb, fsb, _, rfl, hob, T.cl, T.n1, l1, d1, k1, b.sh.map (·.1), rfl, .inl hd1, t1.keys, by rw [List.length_map]; omega, fun ys p pm so hp => q ys p _ (same_new hp _) hp upd_same pm so⟩
theorem scNamesQ : FnScope ["self"] ["self"] (defScope sQuestionNames) := ⟨rfl, rfl, rfl, by decide +kernel, rfl, by decide +kernel, by decide +kernel⟩
theorem ok_qnames (F : Fun K "question_names" "Workbench.question_names" sQuestionNames f fd) (T : BoardC K CB) (W : WbC K CW CB CS) (gB : Mt P w K mg base CX0 1 CW "_board" ["self"] (spBoard CW CB CS)) (ms : mg "sorted" = none) : FnOk P w K mg base CX0 2 f fd ["self"] (spNamesS CW CB CS fun b => b.qs.map (·.1)) := by
  refine F.ok scNamesQ (fun vs H Q E h => ?_) (fun cdv A outer s H vs Q E hr h => ?_)
  · obtain ⟨o, wb, b, m, rfl, _⟩ := h
    rfl
  · obtain ⟨o, wb, b, m, rfl, hw, hb, ok, hm, q⟩ := h
    obtain ⟨f1, fd1, m1, g1, b1⟩ := gB.ex
    refine ⟨_, pss_one (ps_ret (pe_callB (call_sortedD rfl) (by rfl) ms (by decide +kernel) (pa_cons (pe_fld (pe_meth0 (pv 0) W.cl m1 g1 hr b1 .nil pass0) rfl) pa_nil))), ?_⟩
    obtain ⟨dx, l, kn, e, bs, h1, h2, h3⟩ := id hw.h
    refine ⟨_, rfl, o, dx, _, rfl, h1, wfs_no (by decide +kernel), o, wb, b, rfl, hw, hb, fun v hv => ?_⟩
    obtain ⟨ob, dxb, d1, d2, fsb, k1, k2, rfl, hob, l1, l2, ln, hd1, t1, hd2, t2⟩ := (hv.same (wo_same o H)).h
    have ol := ok.l2
    exact ⟨ob, CB, dxb, fsb, _, rfl, hob, T.cl, T.n2, l2, d2, k2, b.qs.map (·.1), rfl, .inl hd2, t2.keys, by rw [List.length_map]; omega, fun ys p pm so hp => q ys p _ (same_new hp _) hp upd_same pm so⟩
theorem ok_boardR (F : Fun K "_board" "Workbench._board" sBoard f fd) (W : WbC K CW CB CS) : FnOk P w K mg base CX0 1 f fd ["self"] (spBoardR CW CB CS) := by
  refine F.ok scBoard (fun vs H Q E h => ?_) (fun cdv A outer s H vs Q E hr h => ?_)
  · obtain ⟨o, wb, b, rfl, _⟩ := h
    rfl
  · obtain ⟨o, wb, b, rfl, hw, hb, q⟩ := h
    obtain ⟨dx, l, kn, e, bs, h1, h2, h3⟩ := hw.h
    refine ⟨_, pss_one (ps_ret (pe_ix ix_list (pe_fld (pv 0) rfl) (pe_fld (pv 0) rfl) (fun _ _ => rfl))), ?_⟩
    obtain ⟨i, hi⟩ : ∃ v, bs[wb.at_]? = some v := by
      have := plen h3
      exact ⟨_, List.getElem?_eq_getElem (by rw [this]; exact (List.getElem?_eq_some_iff.mp hb).1)⟩
    obtain ⟨b', hb', hat⟩ := pget h3 hi
    rw [hb] at hb'
    obtain rfl := Option.some.inj hb'
    exact ⟨_, rfl, o, CW, dx, _, _, rfl, h1, W.cl, W.n _ (by decide +kernel), rfl, _, rfl, o, CW, dx, _, _, rfl, h1, W.cl, W.n _ (by decide +kernel), rfl, l, _, _, _, rfl, rfl, SqL.of h2, atI_nat hi, q _ hat⟩
theorem scShapeOf : FnScope ["self", "name"] ["self", "name"] (defScope sShapeOf) := ⟨rfl, rfl, rfl, by decide +kernel, rfl, by decide +kernel, by decide +kernel⟩
theorem ok_shapeof (F : Fun K "shape" "Workbench.shape" sShapeOf f fd) (T : BoardC K CB) (W : WbC K CW CB CS) (gB : Mt P w K mg base CX0 1 CW "_board" ["self"] (spBoardR CW CB CS)) (gN : Cal P w K mg base (L2.CX P w) 3 "named" ["table", "name"] (spNamed CU)) : FnOk P w K mg base (L2.CX P w) 4 f fd ["self", "name"] (spShapeOf CW CB CS CU) := by
  refine F.okX scShapeOf (fun vs H Q E h => ?_) (fun cdv A outer s H vs Q E hr h => ?_)
  · obtain ⟨o, wb, b, z, rfl, _⟩ := h
    rfl
  · obtain ⟨o, wb, b, z, rfl, hw, hb, hz, q1, q2⟩ := h
    obtain ⟨f1, fd1, m1, g1, b1⟩ := gB.ex
    have tk : Takes (cxOf (L2.CX P w) P w K mg base ["self", "name"] "Workbench.shape" (defScope sShapeOf) f cdv A outer s H E) (fun cls d _ H => E cls d H) := takes_of rfl rfl rfl rfl
    have hx := passes_call tk (E := E) fun _ _ _ _ h => h
    refine ⟨_, pss_one (ps_ret (pe_ix ix_tup (pe_cal gN hr hx (pa_cons (pe_fld (pe_meth0 (pv 0) W.cl m1 g1 (hr.mono (by decide)) b1 .nil pass0) rfl) (pa_cons (pv 1) pa_nil))) pe_int (fun _ _ => rfl))), ?_⟩
    obtain ⟨dx, l, kn, e, bs, h1, h2, h3⟩ := id hw.h
    refine ⟨_, rfl, o, dx, _, rfl, h1, wfs_no (by decide +kernel), o, wb, b, rfl, hw, hb, fun v hv => ?_⟩
    obtain ⟨ob, dxb, d1, d2, fsb, k1, k2, rfl, hob, l1, l2, hd1, t1, hd2, t2⟩ := hv.h
    refine ⟨ob, CB, dxb, fsb, _, rfl, hob, T.cl, T.n1, l1, _, rfl, d1, k1, z, rfl, hd1, hz, fun v0 hv0 => ?_, fun hv0 => q2 ?_⟩
    · obtain ⟨x, ex⟩ : ∃ x, tget b.sh z = some x := by
        cases e : tget b.sh z with
        | none => rw [t1.get.2 e] at hv0; cases hv0
        | some a => exact ⟨a, rfl⟩
      obtain ⟨v0', hv', te, ne, ue, ev, hte, hs⟩ := t1.get.1 x ex
      obtain rfl : v0 = v0' := Option.some.inj (hv0 ▸ hv')
      subst ev
      exact ⟨te, _, 1, _, rfl, rfl, SqT.of hte, atI_nat (j := 1) rfl, q1 x ue ex hs⟩
    · cases e : tget b.sh z with
      | none => rfl
      | some a => obtain ⟨v, h1, _⟩ := t1.get.1 a e; rw [hv0] at h1; cases h1
theorem scQuestionOf : FnScope ["self", "name"] ["self", "name"] (defScope sQuestionOf) := ⟨rfl, rfl, rfl, by decide +kernel, rfl, by decide +kernel, by decide +kernel⟩
theorem ok_questionof (F : Fun K "question" "Workbench.question" sQuestionOf f fd) (T : BoardC K CB) (W : WbC K CW CB CS) (gB : Mt P w K mg base CX0 1 CW "_board" ["self"] (spBoardR CW CB CS)) (gN : Cal P w K mg base (L2.CX P w) 3 "named" ["table", "name"] (spNamed CU)) : FnOk P w K mg base (L2.CX P w) 4 f fd ["self", "name"] (spQuestionOf CW CB CS CU) := by
  refine F.okX scQuestionOf (fun vs H Q E h => ?_) (fun cdv A outer s H vs Q E hr h => ?_)
  · obtain ⟨o, wb, b, z, rfl, _⟩ := h
    rfl
  · obtain ⟨o, wb, b, z, rfl, hw, hb, hz, q1, q2⟩ := h
    obtain ⟨f1, fd1, m1, g1, b1⟩ := gB.ex
    have tk : Takes (cxOf (L2.CX P w) P w K mg base ["self", "name"] "Workbench.question" (defScope sQuestionOf) f cdv A outer s H E) (fun cls d _ H => E cls d H) := takes_of rfl rfl rfl rfl
    have hx := passes_call tk (E := E) fun _ _ _ _ h => h
    refine ⟨_, pss_one (ps_ret (pe_cal gN hr hx (pa_cons (pe_fld (pe_meth0 (pv 0) W.cl m1 g1 (hr.mono (by decide)) b1 .nil pass0) rfl) (pa_cons (pv 1) pa_nil)))), ?_⟩
    obtain ⟨dx, l, kn, e, bs, h1, h2, h3⟩ := id hw.h
    refine ⟨_, rfl, o, dx, _, rfl, h1, wfs_no (by decide +kernel), o, wb, b, rfl, hw, hb, fun v hv => ?_⟩
    obtain ⟨ob, dxb, d1, d2, fsb, k1, k2, rfl, hob, l1, l2, hd1, t1, hd2, t2⟩ := hv.h
    refine ⟨ob, CB, dxb, fsb, _, rfl, hob, T.cl, T.n2, l2, _, rfl, d2, k2, z, rfl, hd2, hz, fun v0 hv0 => ?_, fun hv0 => q2 ?_⟩
    · obtain ⟨x, ex⟩ : ∃ x, tget b.qs z = some x := by
        cases e : tget b.qs z with
        | none => rw [t2.get.2 e] at hv0; cases hv0
        | some a => exact ⟨a, rfl⟩
      obtain ⟨v0', hv', hs⟩ := t2.get.1 x ex
      obtain rfl : v0 = v0' := Option.some.inj (hv0 ▸ hv')
      exact q1 x v0 ex hs
    · cases e : tget b.qs z with
      | none => rfl
      | some a => obtain ⟨v, h1, _⟩ := t2.get.1 a e; rw [hv0] at h1; cases h1
end
end Bs

set_option Elab.async false
set_option linter.all false
set_option maxRecDepth 100000
set_option maxHeartbeats 4000000
/-! What the later laws share: small words. -/
namespace Bm
open PySem L2
def top (i : Nat) : Stmt := PySem.Challenge.pw_byteshape_k86_all_changes_or_none.main.body.getD i (.Pass ⟨0, 0, 0, 0⟩)
/-! ### names -/
abbrev letters : Str := "abcdefghijklmnopqrstuvwxyz"
abbrev digits : Str := "0123456789"
def isLetter (c : Nat) : Bool := decide (c ∈ letters.cps.toList)
def isDigit (c : Nat) : Bool := decide (c ∈ digits.cps.toList)
def isSign (c : Nat) : Bool := isLetter c || isDigit c
def nameOk : List Nat → Bool
  | [] => false
  | c :: r => decide (r.length < 12) && (isLetter c && (c :: r).all isSign)
def isName (z : Str) : Bool := nameOk z.cps.toList

/-! ### small words -/
theorem same_new {H : Hp} {p : Addr} (h : H p = none) (o : HO) : Same H (upd H p o) := fun b u q => by rw [upd_ne (ne_of_none q h)]; exact q
theorem same_set {H H' : Hp} {p : Addr} {o : HO} (s : Same H H') (h : H p = none) : Same H (upd H' p o) := fun b u q => by rw [upd_ne (ne_of_none q h)]; exact s b u q
theorem yes_go {te : TE} {σ : L2.St} {H : Hp} {R : V → Hp → Prop} {N : Hp → Prop} (h : te σ H R) : tYes σ H fun b H3 => if b = true then te σ H3 R else N H3 := by
  show if true = true then te σ H R else N H
  rw [if_pos rfl]
  exact h
theorem sizeLine_big : 16777216 = sizeLine := by decide
theorem le_line {n : Nat} (h : n ≤ 16777216) : n ≤ sizeLine := by rw [← sizeLine_big]; exact h
theorem lt_line {n : Nat} (h : n < 16777216) : n < sizeLine := by rw [← sizeLine_big]; exact h
theorem kne {a b : Str} (h : a ≠ b) : ¬ V.str a = V.str b := fun z => h (V.str.inj z)
theorem with_rest {t u : TS} {D : Ends} {σ : L2.St} {H : Hp} (Pv : L2.St → Hp → Prop) (h2 : ∀ σ' H', Pv σ' H' → u D σ' H') (h1 : (∀ σ' H', Pv σ' H' → u D σ' H') → tSeq t u D σ H) : tSeq t u D σ H := h1 h2
theorem nx_go {D : Ends} {σ : L2.St} {H : Hp} (h : D.nx σ H) : tNext D σ H := h
theorem g_nx {i : Nat} {v : V} {σ : L2.St} {H : Hp} {N : L2.St → Hp → Prop} (h : N (σ.set i (some v)) H) : gName i v σ H N := h
theorem seq_asg {te : TE} {g : TG} {u : TS} {D : Ends} {σ : L2.St} {H : Hp} (h : te σ H fun x H1 => g x σ H1 (u D)) : tSeq (tAsg te g) u D σ H := h
theorem slen0 (x y : Str) : (x ++ y).length = x.length + y.length := by
  show (x.cps ++ y.cps).size = _
  rw [Array.size_append]; rfl
theorem slen_tl (z : Str) : z.length = z.cps.toList.length := by simp [Str.length]
def rInt1 : List V → Hp → VK → Prop := fun xs H Q => (∃ i, xs = [.int i] ∧ Q (.int i) H) ∨ ∃ k, xs = [.bl k] ∧ Q (.int (if k then 1 else 0)) H
def spSub (sp : Nat → Sp) : Nat → Sp
  | 0 => fun _ _ _ _ => False
  | n + 1 => sp n
theorem ifT {a b : Str} {p q : Prop} (e : a = b) (h : p) : if decide (V.str a = V.str b) = true then p else q := by
  rw [if_pos (decide_eq_true (by rw [e]))]; exact h
theorem ifN {a b : Str} {p q : Prop} (e : a ≠ b) (h : q) : if decide (V.str a = V.str b) = true then p else q := by
  rw [if_neg (fun z => e (V.str.inj (of_decide_eq_true z)))]; exact h
theorem ifP {i j : Int} {p q : Prop} (e : i = j) (h : p) : if decide (V.int i = V.int j) = true then p else q := by
  rw [if_pos (decide_eq_true (by rw [e]))]; exact h
theorem ifQ {i j : Int} {p q : Prop} (e : ¬ i = j) (h : q) : if decide (V.int i = V.int j) = true then p else q := by
  rw [if_neg (fun z => e (V.int.inj (of_decide_eq_true z)))]; exact h
theorem ifB {b : Bool} {p q : Prop} (e : b = true) (h : p) : if b = true then p else q := by rw [if_pos e]; exact h
theorem ifF {b : Bool} {p q : Prop} (e : b = false) (h : q) : if b = true then p else q := by rw [e]; exact iteF h
theorem map_snoc (ns : List Int) (i : Int) : ns.map V.int ++ [V.int i] = (ns ++ [i]).map V.int := by rw [List.map_append]; rfl
theorem cutV_to (xs : List V) (j : Nat) : cutV xs none (some (j : Int)) = xs.take j := by
  unfold cutV
  rw [HT.sIx_none, HT.sIx_nat, List.drop_zero, Nat.sub_zero]
  by_cases c : j ≤ xs.length
  · rw [Nat.min_eq_left c]
  · rw [Nat.min_eq_right (by omega), List.take_length, List.take_of_length_le (by omega)]
theorem cutV_from (xs : List V) (j : Nat) : cutV xs (some (j : Int)) none = xs.drop j := by
  unfold cutV
  rw [HT.sIx_none, HT.sIx_nat]
  by_cases c : j ≤ xs.length
  · rw [Nat.min_eq_left c, List.take_of_length_le (by rw [List.length_drop]; omega)]
  · rw [Nat.min_eq_right (by omega), List.drop_length, List.take_nil, List.drop_eq_nil_of_le (by omega)]
theorem cutV_part (xs : List V) (i j : Nat) : cutV xs (some (i : Int)) (some (j : Int)) = (xs.drop i).take (j - i) := by
  unfold cutV
  rw [HT.sIx_nat, HT.sIx_nat]
  by_cases c : i ≤ xs.length
  · rw [Nat.min_eq_left c]
    by_cases d : j ≤ xs.length
    · rw [Nat.min_eq_left d]
    · rw [Nat.min_eq_right (by omega), List.take_of_length_le (by rw [List.length_drop]; omega), List.take_of_length_le (by rw [List.length_drop]; omega)]
  · rw [Nat.min_eq_right (show xs.length ≤ i by omega), List.drop_length, List.take_nil, List.drop_eq_nil_of_le (show xs.length ≤ i by omega), List.take_nil]
theorem at_mem {xs : List V} {r : Int} (h0 : 0 ≤ r) (h1 : r < (xs.length : Int)) : ∃ v, v ∈ xs ∧ atI xs r = some v := by
  obtain ⟨n, rfl⟩ := Int.eq_ofNat_of_zero_le h0
  have hn : n < xs.length := by omega
  exact ⟨xs[n], List.getElem_mem hn, atI_nat (List.getElem?_eq_getElem hn)⟩
/-- one of some ints -/
theorem at_ints {is : List Int} {r : Int} (h0 : 0 ≤ r) (h1 : r < (is.length : Int)) : ∃ i, i ∈ is ∧ atI (is.map V.int) r = some (.int i) := by
  obtain ⟨v, hv, e⟩ := at_mem (xs := is.map V.int) h0 (by rw [List.length_map]; exact h1)
  obtain ⟨i, hi, rfl⟩ := List.mem_map.mp hv
  exact ⟨i, hi, e⟩
theorem ixN_nat {n j : Nat} (h : j < n) : ixN n (j : Int) = some j := by
  unfold ixN
  rw [if_pos (by omega), if_pos (by omega)]
  simp
theorem passE0 {X : Cx} {P : Program} {w : World} : Passes (L2.CX P w) X E0 := fun _ _ _ _ _ _ _ h => by
  obtain ⟨_, _, _, _, _, _, _, _, _, _, _, _, h⟩ := h
  exact h.elim
theorem str_app (z y : Str) : (z ++ y).cps.toList = z.cps.toList ++ y.cps.toList := by
  show (z.cps ++ y.cps).toList = _
  simp
theorem cutS_to (z : Str) (p : Nat) : (cutS z none (some (p : Int))).cps.toList = z.cps.toList.take p := by
  have h : ∀ z : Str, z.length = z.cps.toList.length := fun z => by simp [Str.length]
  unfold cutS
  rw [HT.sIx_none, HT.sIx_nat, h, List.drop_zero, Nat.sub_zero]
  by_cases c : p ≤ z.cps.toList.length
  · rw [Nat.min_eq_left c]
  · rw [Nat.min_eq_right (by omega), List.take_length, List.take_of_length_le (by omega)]
theorem cutS_from (z : Str) (p : Nat) : (cutS z (some (p : Int)) none).cps.toList = z.cps.toList.drop p := by
  have h : ∀ z : Str, z.length = z.cps.toList.length := fun z => by simp [Str.length]
  unfold cutS
  rw [HT.sIx_none, HT.sIx_nat, h]
  by_cases c : p ≤ z.cps.toList.length
  · rw [Nat.min_eq_left c, List.take_of_length_le (by rw [List.length_drop]; omega)]
  · rw [Nat.min_eq_right (by omega)]
    rw [List.drop_of_length_le (by omega), List.drop_of_length_le (by omega)]
    simp
abbrev chs : Str := "abcdefghijklmnopqrstuvwxyz0123456789"
theorem chs_len : chs.cps.toList.length = 36 := by decide +kernel
theorem chs_sign : ∀ c ∈ chs.cps.toList, isSign c = true := by decide +kernel
theorem chs_letter : ∀ c ∈ chs.cps.toList.take 26, isLetter c = true := by decide +kernel
theorem chs_nodup : chs.cps.toList.Nodup := by decide +kernel
theorem ch_at (i : Int) (h0 : 0 ≤ i) (h1 : i < 36) : ∃ c, atI chs.cps.toList i = some c ∧ chs.cps.toList[i.toNat]? = some c ∧ isSign c = true ∧ (i < 26 → isLetter c = true) := by
  obtain ⟨n, rfl⟩ := Int.eq_ofNat_of_zero_le h0
  have hn : n < chs.cps.toList.length := by rw [chs_len]; omega
  have e : chs.cps.toList[n]? = some chs.cps.toList[n] := List.getElem?_eq_getElem hn
  refine ⟨chs.cps.toList[n], atI_nat e, e, chs_sign _ (List.getElem_mem hn), fun h => chs_letter _ ?_⟩
  refine List.mem_of_getElem? (i := n) ?_
  rw [List.getElem?_take, if_pos (by omega)]
  exact e
/-! ### calls in short -/
structure Cal (P : Program) (w : World) (K : PySem.W.Frag) (mg : Str → Option Value) (base : Heap) (CX : CXT) (k : Nat) (x : Str) (ps : List Str) (sp : Sp) : Prop where
  ex : ∃ (f : Addr) (fd : FuncData), mg x = some (.ref f) ∧ PySem.W.keepIn K (.ref f) = true ∧ Binds K fd ps [] ∧ FnOk P w K mg base CX k f fd ps sp
def tCl (sp : Sp) (E : XK) (t : TA) : TE := fun σ H Q => t σ H fun vs H1 => sp vs H1 Q E
theorem tCall_nil {sp : Sp} {E : XK} {t : TA} : tCall sp [] E t = tCl sp E t := by
  funext σ H Q
  show t σ H (fun vs H1 => sp (vs ++ []) H1 Q E) = _
  congr
  funext vs H1
  rw [List.append_nil]
/-- x(e, ..), x a def of the text -/
theorem pe_cal {X : Cx} {CX : CXT} {k : Nat} {x : Str} {ps : List Str} {sp : Sp} {E : XK} {e : Expr} {es : List Expr} {t : TA} {p pos : Pos} (G : Cal X.prog X.w X.K X.mg X.base CX k x ps sp) (hr : Room k X.A) (hx : Passes CX X E) (ha : PA X (e :: es) t) (hg : Gl X x := by rfl)
    (hdb : (x == ("__debug__" : Str)) = false := by decide) (he : starEach (e :: es) X.env = (false, eval e X.env) :: starEach es X.env := by rfl) (hpl : (backTo pos (starEach es X.env)).any (·.1) = false := by rfl) :
    PE X (.Call (.Name x p) (e :: es) [] pos) (tCl sp E t) := by
  obtain ⟨f, fd, h1, h2, h3, h4⟩ := G.ex
  rw [← tCall_nil]
  exact pe_call h4 hr hg h1 h2 h3 .nil hx ha hdb he hpl
/-- x in a list or a tuple -/
def RowR (K : PySem.W.Frag) (a : Addr) (R : L2.It → Hp → Prop) (H : Hp) : Prop := ((∃ xs, SqL K H a xs) ∧ R (Itl K a) H) ∨ ((∃ xs, SqT K H a xs) ∧ R (Itt K a) H)
def iRow (K : PySem.W.Frag) (tl : TE) : TI := fun σ H R => tl σ H fun x H1 => ∃ a, x = .ref a ∧ RowR K a R H1
theorem pi_row {X : Cx} {tg l : Expr} {tl : TE} (hl : PE X l tl) : PI X tg l (iRow X.K tl) := by
  refine ⟨fun pins s σ H R I h => thn (hl.run pins s σ H _ I h) fun v s1 ⟨x, H1, I1, r1, a, ex, q1⟩ => ?_⟩
  subst ex
  cases r1
  rcases q1 with ⟨⟨xs, hq⟩, q⟩ | ⟨⟨xs, hq⟩, q⟩
  · obtain ⟨its, rv, p, hz⟩ := I1.list hq
    exact wpAny_pyIter_list p.isList (pi_one (tk := s1.toks) I1 _ (turn_list a _) ⟨_, Heap.get?_push_size _ rfl, rfl, rfl⟩ q)
  · obtain ⟨its, rv, p, hz⟩ := I1.tuple hq
    exact PySem.wpAny_pyIter_tuple (show s1.heap.IsTuple a its.toArray from p) (pi_one (tk := s1.toks) I1 _ (turn_tuple a _) ⟨_, Heap.get?_push_size _ rfl, rfl, rfl⟩ q)
theorem row_t {K : PySem.W.Frag} {H : Hp} {p : Addr} {xs : List V} {R : L2.It → Hp → Prop} (hp : H p = some (.tup xs)) (h : ∀ J, Walk J xs.length (fun H' => Same H H') (YAt xs) → R J H) : RowR K p R H :=
  .inr ⟨⟨xs, SqT.of hp⟩, h _ (walk_tup.mono (fun H' s => SqT.of (s _ _ hp)) fun _ _ _ _ _ _ y => y)⟩
theorem row_l {K : PySem.W.Frag} {H : Hp} {p : Addr} {xs : List V} {R : L2.It → Hp → Prop} (hp : H p = some (.lst xs)) (h : ∀ J, Walk J xs.length (fun H' => Same H H') (YAt xs) → R J H) : RowR K p R H :=
  .inl ⟨⟨xs, SqL.of hp⟩, h _ (walk_list.mono (fun H' s => SqL.of (s _ _ hp)) fun _ _ _ _ _ _ y => y)⟩
/-- the same, what is looked at since an earlier heap -/
theorem row_t2 {K : PySem.W.Frag} {H0 H : Hp} {p : Addr} {xs : List V} {R : L2.It → Hp → Prop} (hp : H0 p = some (.tup xs)) (s0 : Same H0 H) (h : ∀ J, Walk J xs.length (fun H' => Same H0 H') (YAt xs) → R J H) : RowR K p R H :=
  .inr ⟨⟨xs, SqT.of (s0 _ _ hp)⟩, h _ (walk_tup.mono (fun H' s => SqT.of (s _ _ hp)) fun _ _ _ _ _ _ y => y)⟩
theorem row_l2 {K : PySem.W.Frag} {H0 H : Hp} {p : Addr} {xs : List V} {R : L2.It → Hp → Prop} (hp : H0 p = some (.lst xs)) (s0 : Same H0 H) (h : ∀ J, Walk J xs.length (fun H' => Same H0 H') (YAt xs) → R J H) : RowR K p R H :=
  .inl ⟨⟨xs, SqL.of (s0 _ _ hp)⟩, h _ (walk_list.mono (fun H' s => SqL.of (s _ _ hp)) fun _ _ _ _ _ _ y => y)⟩
theorem Cal.mono {P : Program} {w : World} {K : PySem.W.Frag} {mg : Str → Option Value} {base : Heap} {CX : CXT} {j k : Nat} {x : Str} {ps : List Str} {sp : Sp} (g : Cal P w K mg base CX j x ps sp) (h : j ≤ k) : Cal P w K mg base CX k x ps sp := by
  obtain ⟨f, fd, a, b, c, d⟩ := g.ex
  exact ⟨f, fd, a, b, c, d.mono h⟩
end Bm

set_option Elab.async false
set_option linter.all false
set_option maxRecDepth 100000
set_option maxHeartbeats 4000000
/-! the law's own numbers -/
namespace Bm
open PySem L2
abbrev sRow : Stmt := top 112
abbrev sNums : Stmt := top 113
/-- an int where the text leaves int() out -/
theorem pe_noint {X : Cx} {e : Expr} {te : TE} (he : PE X e te) : PE X e (fun σ H Q => te σ H fun x H1 => (∃ i, x = .int i ∧ Q (.int i) H1) ∨ False) := by
  refine ⟨fun pins s σ H Q I h => thn (he.run pins s σ H _ I h) fun v s1 ⟨x, H1, I1, r1, q1⟩ => ?_⟩
  rcases q1 with ⟨i, rfl, q⟩ | z
  · exact ⟨_, H1, I1, r1, q⟩
  · exact z.elim
/-- small numbers -/
def Nb (ns : List Int) : Prop := ∀ n ∈ ns, 0 ≤ n ∧ n < 1009
theorem Nb.nil : Nb [] := fun _ h => by cases h
theorem Nb.snoc {ns : List Int} {i : Int} (h : Nb ns) (hi : 0 ≤ i ∧ i < 1009) : Nb (ns ++ [i]) := fun n hn => (List.mem_append.mp hn).elim (h n) fun k => by rw [List.mem_singleton.mp k]; exact hi
theorem Nb.take {ns : List Int} (h : Nb ns) (k : Nat) : Nb (ns.take k) := fun n hn => h n (List.mem_of_mem_take hn)
theorem mod_nb (x : Int) : 0 ≤ x % 1009 ∧ x % 1009 < 1009 := ⟨Int.emod_nonneg x (by decide), Int.emod_lt_of_pos x (by decide)⟩
/-- ints of any size come back, so many -/
def spRow : Sp := fun vs H Q _ => ∃ c m : Int, vs = [.int c, .int m] ∧ 0 ≤ m ∧ m ≤ 900 ∧ ∀ p (ns : List Int) H', Same H H' → H p = none → H' p = some (.lst (ns.map V.int)) → ns.length = m.toNat → Nb ns → Q (.ref p) H'
def spNums (m : Nat) (K : PySem.W.Frag) : Sp := fun vs H Q _ => ∃ (a : Addr) (ns : List Int), vs = [.ref a, .int (m : Int)] ∧ m ≤ 400 ∧ SqL K H a (ns.map V.int) ∧ ns.length ≤ 63 ∧ ∀ p (rs : List Int) H', Same H H' → H' p = some (.lst (rs.map V.int)) → rs.length = m → Nb rs → Q (.ref p) H'
section
variable {P : Program} {w : World} {K : PySem.W.Frag} {mg : Str → Option Value} {base : Heap} {f C : Addr} {fd : FuncData}
abbrev nRow : List Str := ["cell", "many", "row", "rest", "mixed", "k"]
theorem scRow : FnScope nRow ["cell", "many"] (defScope sRow) := ⟨rfl, rfl, rfl, by decide +kernel, rfl, by decide +kernel, by decide +kernel⟩
theorem ok_row (F : Fun K "_law_row" "_law_row" sRow f fd) (mabs : mg "abs" = none) (mint : mg "int" = none) (mr : mg "range" = none) : FnOk P w K mg base CX0 1 f fd ["cell", "many"] spRow := by
  refine F.ok scRow (fun vs H Q E h => ?_) (fun cdv A outer s H vs Q E hr h => ?_)
  · obtain ⟨c, m, rfl, _⟩ := h
    rfl
  · obtain ⟨c, m, rfl, h0, h1, q⟩ := h
    refine ⟨_, pss_cons (ps_set (i := 2) scRow.nd rfl (.inl rfl) (pe_lst pa_nil))
      (pss_cons (ps_set (i := 3) scRow.nd rfl (.inl rfl) (pe_callB call_abs (by rfl) mabs (by decide +kernel) (pa_cons (pv 0) pa_nil)))
      (pss_cons (ps_set (i := 4) scRow.nd rfl (.inl rfl) (pe_op op_mod (pe_callTy call_int1 (by rfl) mint (by decide +kernel) (pa_cons (pe_op op_add (pe_op op_mul (pv 3) pe_int) pe_int) pa_nil)) pe_int))
      (pss_cons (ps_for PassesOwn.never rfl (pi_range1 (by rfl) mr (pa_cons (pv 1) pa_nil)) (pg_name (i := 5) scRow.nd rfl (.inl rfl))
        (pss_cons (ps_set (i := 4) scRow.nd rfl (.inl rfl) (pe_op op_mod (pe_callTy call_int1 (by rfl) mint (by decide +kernel) (pa_cons (pe_op op_add (pe_op op_mul (pv 4) pe_int) (pe_op op_mul pe_int (pe_op op_add (pv 5) pe_int))) pa_nil)) pe_int))
        (pss_one (ps_if (pt_cmpR op_ge (pe_callB call_abs (by rfl) mabs (by decide +kernel) (pa_cons (pv 0) pa_nil)) (pe_op op_pow pe_int pe_int) (nomark _))
          (pss_cons (ps_expr (pe_bm PySem.F.plainAttrs_list PySem.F.slot_list_append PySem.F.type_list_append mt_append (pv 2) (pa_cons (pe_op op_mod (pe_callTy call_int1 (by rfl) mint (by decide +kernel) (pa_cons (pv 3) pa_nil)) pe_int) pa_nil)))
            (pss_one (ps_set (i := 3) scRow.nd rfl (.inl rfl) (pe_op op_fdiv (pv 3) pe_int))))
          (pss_one (ps_expr (pe_bm PySem.F.plainAttrs_list PySem.F.slot_list_append PySem.F.type_list_append mt_append (pv 2) (pa_cons (pe_op op_mod (pe_callTy call_int1 (by rfl) mint (by decide +kernel) (pa_cons (pe_op op_fdiv (pv 4) pe_int) pa_nil)) pe_int) pa_nil))))))))
      (pss_one (ps_ret (pv 2)))))), ?_⟩
    refine ⟨(by show 0 ≤ sizeLine; decide), fun D hD => ?_⟩
    refine ⟨_, rfl, _, rfl, _, rfl, _, _, rfl, rfl, .inr ⟨by decide, by decide⟩, _, _, rfl, rfl, .inl ⟨_, rfl, _, _, rfl, rfl, (by show (0 : Int) < 2147483647; decide), ?_⟩⟩
    refine ⟨_, rfl, m, rfl, by omega, by omega, for_range (lo := 0) (n := m.toNat) (fun i σ H' => ∃ rest mixed k5, σ = [some (.int c), some (.int m), some (.ref D), some (.int rest), some (.int mixed), k5] ∧ Same H H' ∧ ∃ ns : List Int, ns.length = i ∧ Nb ns ∧ H' D = some (.lst (ns.map V.int)))
      ⟨_, _, none, rfl, same_new hD _, [], rfl, Nb.nil, upd_same⟩ ?_ ?_⟩
    · rintro i σ H2 hi ⟨rest, mixed, k5, rfl, s2, ns, hn, hb, hD2⟩
      refine ⟨_, rfl, _, _, rfl, rfl, .inr ⟨by decide, by decide⟩, _, rfl, _, _, rfl, rfl, _, _, rfl, rfl, .inl ⟨by decide, by decide⟩, _, _, rfl, rfl, .inl ⟨_, rfl, _, _, rfl, rfl, (by show (0 : Int) < 2147483629; decide), ?_⟩⟩
      have hz : (ns.map V.int).length < sizeLine := small1000 (by rw [List.length_map]; omega)
      refine ⟨_, rfl, _, rfl, _, _, rfl, rfl, ⟨by decide, by decide, by decide⟩, _, _, rfl, rfl, _, rfl, ite2 (fun _ => ?_) (fun _ => ?_)⟩
      · refine ⟨_, rfl, .inl ⟨rfl, _, SqL.of hD2⟩, _, rfl, .inl ⟨_, rfl, _, _, rfl, rfl, (by show (0 : Int) < 1009; decide), D, _, _, rfl, rfl, hD2, hz, ?_⟩⟩
        rw [map_snoc]
        refine ⟨_, rfl, _, _, rfl, rfl, ⟨by decide, by decide⟩, ?_⟩
        exact ⟨_, _, _, rfl, same_set s2 hD, _, by rw [List.length_append, hn]; rfl, hb.snoc (mod_nb _), upd_same⟩
      · refine ⟨_, rfl, .inl ⟨rfl, _, SqL.of hD2⟩, _, rfl, _, _, rfl, rfl, ⟨by decide, by decide⟩, .inl ⟨_, rfl, _, _, rfl, rfl, (by show (0 : Int) < 1009; decide), D, _, _, rfl, rfl, hD2, hz, ?_⟩⟩
        rw [map_snoc]
        exact ⟨_, _, _, rfl, same_set s2 hD, _, by rw [List.length_append, hn]; rfl, hb.snoc (mod_nb _), upd_same⟩
    · rintro σ H2 ⟨rest, mixed, k5, rfl, s2, ns, hn, hb, hD2⟩
      exact ⟨_, rfl, q D ns H2 s2 hD hD2 hn hb⟩
theorem cut_ints (ns : List Int) (h : Nat) : cutV (ns.map V.int) none (some (h : Int)) = (ns.take h).map V.int := by
  unfold cutV
  rw [HT.sIx_none, HT.sIx_nat, List.drop_zero, Nat.sub_zero, List.map_take]
  by_cases hh : h ≤ (ns.map V.int).length
  · rw [Nat.min_eq_left hh]
  · rw [Nat.min_eq_right (by omega), List.take_length, List.take_of_length_le (by omega)]
abbrev nNums : List Str := ["script", "many", "cells", "each", "numbers", "cell", "number"]
theorem scNums : FnScope nNums ["script", "many"] (defScope sNums) := ⟨rfl, rfl, rfl, by decide +kernel, rfl, by decide +kernel, by decide +kernel⟩
theorem ok_nums {m k : Nat} (hk : 1 ≤ k) (F : Fun K "_law_numbers" "_law_numbers" sNums f fd) (gR : Cal P w K mg base CX0 1 "_law_row" ["cell", "many"] spRow) (mmax : mg "max" = none) (ml : mg "len" = none) : FnOk P w K mg base CX0 2 f fd ["script", "many"] (spNums m K) := by
  refine F.ok scNums (fun vs H Q E h => ?_) (fun cdv A outer s H vs Q E hr h => ?_)
  · obtain ⟨a, ns, rfl, _⟩ := h
    rfl
  · obtain ⟨a, ns, rfl, hm4, ha, hlen, q⟩ := h
    refine ⟨_, pss_cons (ps_set (i := 2) scNums.nd rfl (.inl rfl) (pe_slice sl_list (pv 0) po_none (po_some pe_int)))
      (pss_cons (ps_set (i := 3) scNums.nd rfl (.inl rfl) (pe_op op_add pe_int (pe_op op_fdiv (pv 1) (pe_callB (call_max2 rfl) (by rfl) mmax (by decide +kernel) (pa_cons pe_int (pa_cons (pe_callB call_len (by rfl) ml boot_len (pa_cons (pv 2) pa_nil)) pa_nil))))))
      (pss_cons (ps_set (i := 4) scNums.nd rfl (.inl rfl) (pe_lst pa_nil))
      (pss_cons (ps_for PassesOwn.never rfl (pi_list (pv 2)) (pg_name (i := 5) scNums.nd rfl (.inl rfl))
        (pss_one (ps_for PassesOwn.never rfl (pi_list (pe_cal gR (hr.mono (by decide)) pass0 (pa_cons (pv 5) (pa_cons (pv 3) pa_nil)))) (pg_name (i := 6) scNums.nd rfl (.inl rfl))
          (pss_one (ps_expr (pe_bm PySem.F.plainAttrs_list PySem.F.slot_list_append PySem.F.type_list_append mt_append (pv 4) (pa_cons (pv 6) pa_nil)))))))
      (pss_cons (ps_while PassesOwn.never (pt_cmpR op_lt (pe_callB call_len (by rfl) ml boot_len (pa_cons (pv 4) pa_nil)) (pv 1) (nomark _))
        (pss_one (ps_expr (pe_bm PySem.F.plainAttrs_list PySem.F.slot_list_append PySem.F.type_list_append mt_append (pv 4) (pa_cons pe_int pa_nil)))))
      (pss_one (ps_ret (pe_slice sl_list (pv 4) po_none (po_some (pv 1))))))))), ?_⟩
    refine ⟨_, rfl, 63, rfl, a, _, rfl, ha, fun pc hpc => ?_⟩
    rw [show ((63 : Int) = ((63 : Nat) : Int)) from rfl, cut_ints]
    have lc : (ns.take 63).length ≤ 63 := by rw [List.length_take]; omega
    generalize hcs : ns.take 63 = cs at lc ⊢
    have s1 := same_new hpc (.lst (cs.map V.int))
    have hc1 : upd H pc (.lst (cs.map V.int)) pc = some (.lst (cs.map V.int)) := upd_same
    generalize upd H pc _ = H1 at s1 hc1 ⊢
    refine ⟨_, rfl, _, rfl, _, _, rfl, .inl ⟨_, SqL.of hc1, rfl⟩, _, _, rfl, ?_⟩
    rw [List.length_map]
    have hmx : (1 : Int) ≤ (if (cs.length : Int) > 1 then (cs.length : Int) else 1) ∧ (if (cs.length : Int) > 1 then (cs.length : Int) else 1) ≤ 63 := by split <;> omega
    generalize hmm : (if (cs.length : Int) > 1 then (cs.length : Int) else 1) = mx at hmx
    have he : (1 : Int) ≤ 1 + (m : Int) / mx ∧ 1 + (m : Int) / mx ≤ (m : Int) + 1 := by
      have h1 : (0 : Int) ≤ (m : Int) / mx := Int.ediv_nonneg (by omega) (by omega)
      have h2 : (m : Int) / mx ≤ (m : Int) := Int.ediv_le_self _ (by omega)
      omega
    refine ⟨_, _, rfl, rfl, ⟨by omega, by omega⟩, _, _, rfl, rfl, ?_⟩
    refine ⟨(by show 0 ≤ sizeLine; decide), fun D hD => ?_⟩
    have zz : ∀ n : Nat, n ≤ 27000 → n < sizeLine := fun n h => Nat.lt_of_le_of_lt h (by decide)
    refine ⟨_, rfl, pc, rfl, ⟨_, SqL.of (same_new hD (.lst []) _ _ hc1)⟩, for_list (K := K) (a := pc) (xs := cs.map V.int) (fun i σ H' => ∃ i5 i6, σ = [some (.ref a), some (.int (m : Int)), some (.ref pc), some (.int (1 + (m : Int) / mx)), some (.ref D), i5, i6] ∧ Same H1 H' ∧ ∃ ms : List Int, ms.length ≤ i * (m + 1) ∧ Nb ms ∧ H' D = some (.lst (ms.map V.int)))
      ⟨none, none, rfl, same_new hD _, [], Nat.zero_le _, Nb.nil, upd_same⟩ (fun i σ H' _ z => by obtain ⟨_, _, _, z, _⟩ := z; exact SqL.of (z _ _ hc1)) ?_ ?_⟩
    · rintro i v σ H2 hi ⟨i5, i6, rfl, s2, ms, hm, hb, hD2⟩
      have hil : i < (cs.map V.int).length := (List.getElem?_eq_some_iff.mp hi).1
      rw [List.length_map] at hil
      have nl : i * (m + 1) ≤ 62 * 401 := Nat.mul_le_mul (by omega) (by omega)
      have nl2 : (i + 1) * (m + 1) = i * (m + 1) + (m + 1) := Nat.succ_mul _ _
      obtain ⟨z, rfl⟩ : ∃ z, v = V.int z := by
        rw [List.getElem?_map] at hi
        cases e : cs[i]? with
        | none => rw [e] at hi; cases hi
        | some z => rw [e] at hi; exact ⟨z, (Option.some.inj hi).symm⟩
      refine ⟨_, rfl, _, rfl, z, _, rfl, by omega, by omega, fun pr rs H3 s3 hnew hr3 hrl hrb => ?_⟩
      refine ⟨pr, rfl, ⟨_, SqL.of hr3⟩, for_list (K := K) (a := pr) (xs := rs.map V.int) (fun j σ H' => ∃ i6, σ = [some (.ref a), some (.int (m : Int)), some (.ref pc), some (.int (1 + (m : Int) / mx)), some (.ref D), some (.int z), i6] ∧ Same H1 H' ∧ H' pr = some (.lst (rs.map V.int)) ∧ pr ≠ D ∧ ∃ ms : List Int, ms.length ≤ i * (m + 1) + j ∧ Nb ms ∧ H' D = some (.lst (ms.map V.int)))
        ⟨_, rfl, s2.trans s3, hr3, ?_, ms, by omega, hb, s3 _ _ hD2⟩ (fun j σ H' _ z => by obtain ⟨_, _, _, z, _⟩ := z; exact SqL.of z) ?_ ?_⟩
      · exact fun z => ne_of_none hD2 hnew z.symm
      · rintro j v σ H4 hj ⟨i6, rfl, s4, hr4, ne, ms', hm', hb', hD4⟩
        have hjl : j < (rs.map V.int).length := (List.getElem?_eq_some_iff.mp hj).1
        rw [List.length_map] at hjl
        obtain ⟨y, rfl, hy⟩ : ∃ z, v = V.int z ∧ (0 ≤ z ∧ z < 1009) := by
          rw [List.getElem?_map] at hj
          cases e : rs[j]? with
          | none => rw [e] at hj; cases hj
          | some z => rw [e] at hj; exact ⟨z, (Option.some.inj hj).symm, hrb z (List.mem_of_getElem? e)⟩
        refine ⟨_, rfl, .inl ⟨rfl, _, SqL.of hD4⟩, _, rfl, D, _, _, rfl, rfl, hD4, zz _ (by rw [List.length_map]; omega), ?_⟩
        rw [map_snoc]
        exact ⟨_, rfl, same_set s4 hD, by rw [upd_ne ne]; exact hr4, ne, _, by rw [List.length_append]; simp; omega, hb'.snoc hy, upd_same⟩
      · rintro σ H4 ⟨i6, rfl, s4, hr4, ne, ms', hm', hb', hD4⟩
        rw [List.length_map] at hm'
        exact ⟨_, _, rfl, s4, ms', by omega, hb', hD4⟩
    · rintro σ H2 ⟨i5, i6, rfl, s2, ms, hm, hb, hD2⟩
      rw [List.length_map] at hm
      have nl : cs.length * (m + 1) ≤ 63 * 401 := Nat.mul_le_mul (by omega) (by omega)
      refine ⟨fun mm σ H' => σ = [some (.ref a), some (.int (m : Int)), some (.ref pc), some (.int (1 + (m : Int) / mx)), some (.ref D), i5, i6] ∧ Same H1 H' ∧ ∃ ms : List Int, ms.length ≤ 25500 ∧ mm = m - ms.length ∧ Nb ms ∧ H' D = some (.lst (ms.map V.int)), ⟨_, rfl, s2, ms, by omega, rfl, hb, hD2⟩, ?_⟩
      rintro mm σ H3 ⟨rfl, s3, ms', hm', rfl, hb', hD3⟩
      refine ⟨_, rfl, _, _, rfl, .inl ⟨_, SqL.of hD3, rfl⟩, _, rfl, _, _, rfl, rfl, _, rfl, ite2 (fun e => ?_) (fun e => ?_)⟩
      · have e := of_decide_eq_true e
        rw [List.length_map] at e
        refine ⟨_, fun σ' H' z => z, ?_⟩
        refine ⟨_, rfl, .inl ⟨rfl, _, SqL.of hD3⟩, D, _, _, rfl, rfl, hD3, zz _ (by rw [List.length_map]; omega), ?_⟩
        rw [show ms'.map V.int ++ [V.int 0] = (ms' ++ [0]).map V.int from map_snoc _ _]
        exact ⟨m - (ms' ++ [0]).length, by rw [List.length_append]; simp; omega, rfl, same_set s3 hD, _, by rw [List.length_append]; simp; omega, rfl, hb'.snoc ⟨by decide, by decide⟩, upd_same⟩
      · have e : ¬ _ := fun z => e (decide_eq_true z)
        rw [List.length_map] at e
        refine ⟨_, rfl, _, rfl, (m : Int), rfl, D, _, rfl, SqL.of hD3, fun r hr4 => ?_⟩
        rw [cut_ints]
        exact q r (ms'.take m) _ (s1.trans (s3.trans (same_new hr4 _))) upd_same (by rw [List.length_take]; omega) (hb'.take _)
end
end Bm

set_option Elab.async false
set_option linter.all false
set_option maxRecDepth 100000
set_option maxHeartbeats 8000000
/-! the names -/
namespace Bm
open PySem L2
abbrev sNames : Stmt := top 114
theorem joinL_nil : ∀ ps : List (List Nat), TL.joinL [] ps = ps.flatten
  | [] => rfl
  | [p] => by simp [TL.joinL]
  | p :: q :: r => by rw [TL.joinL, joinL_nil (q :: r)]; simp
theorem join0_tl (ys : List Str) : (Txt.join "" ys).cps.toList = (ys.map fun z => z.cps.toList).flatten := by
  rw [← joinL_nil]
  show TL.tl (Txt.join "" ys) = _
  rw [TL.join_eq, TL.tl_join, show TL.tl ("" : Str) = [] from by decide +kernel]
/-- the k-th name: c the number, own the rest or the rest less its first sign -/
structure IsNm (c : Int) (own : List Nat) (p : Nat) (k : Nat) (z : Str) : Prop where
  e : ∃ a b, z.cps.toList = a :: (own.take p ++ b :: own.drop p) ∧ chs.cps.toList[((c + 3 * (k : Int)) % 26).toNat]? = some a ∧ chs.cps.toList[((c + 5 * (k : Int)) % 36).toNat]? = some b ∧ isLetter a = true ∧ isSign b = true
def ownOf (rest : List Nat) (c : Int) (k : Nat) : List Nat := if (c / 121 + (k : Int)) % 3 = 0 then rest.drop 1 else rest
theorem nm_ok {c : Int} {own : List Nat} {p k : Nat} {z : Str} (h : IsNm c own p k z) (hl : own.length ≤ 10) (hs : own.all isSign = true) : isName z = true := by
  obtain ⟨a, b, e, _, _, ha, hb⟩ := h.e
  unfold isName
  have sa : isSign a = true := by rw [isSign, ha]; rfl
  have tl := List.take_append_drop p own
  rw [← tl, List.all_append, Bool.and_eq_true] at hs
  rw [e, nameOk, decide_eq_true (by rw [List.length_append, List.length_cons, List.length_take, List.length_drop]; omega), ha, List.all_cons, sa, List.all_append, hs.1, List.all_cons, hb, hs.2]
  rfl
theorem ch_inj (x y : Int) (m : Int) (q : Nat) (h0 : 0 < m) (h36 : m ≤ 36) (h1 : chs.cps.toList[(x % m).toNat]? = some q) (h2 : chs.cps.toList[(y % m).toNat]? = some q) : x % m = y % m := by
  have z1 := Int.emod_nonneg x (show m ≠ 0 by omega)
  have z2 := Int.emod_lt_of_pos x h0
  have z3 := Int.emod_nonneg y (show m ≠ 0 by omega)
  have z4 := Int.emod_lt_of_pos y h0
  have hlt : (x % m).toNat < chs.cps.toList.length := by rw [chs_len]; omega
  have := (List.getElem?_inj hlt chs_nodup).mp (h1.trans h2.symm)
  omega
theorem nm_ne {c : Int} {rest : List Nat} {pl i j : Nat} {z y : Str} (hi : IsNm c (ownOf rest c i) (min pl (ownOf rest c i).length) i z) (hj : IsNm c (ownOf rest c j) (min pl (ownOf rest c j).length) j y) (hij : i < j) (hj28 : j < 28) : z ≠ y := by
  intro ez
  obtain ⟨a, b, e, ha, hb, _, _⟩ := hi.e
  obtain ⟨a', b', e', ha', hb', _, _⟩ := hj.e
  rw [ez, e'] at e
  injection e with e1 e2
  have l2 := congrArg List.length e2
  simp only [List.length_append, List.length_cons, List.length_take, List.length_drop] at l2
  have m26 := ch_inj _ _ 26 a (by decide) (by decide) ha (e1 ▸ ha')
  have ji : j = i + 26 := by omega
  have eo : ownOf rest c j = ownOf rest c i := by
    unfold ownOf at l2 ⊢
    split
    · split
      · rfl
      · rename_i h1 h2
        rw [if_pos h1, if_neg h2, List.length_drop] at l2
        have : rest.length = 0 := by omega
        rw [List.length_eq_zero_iff.mp this]; rfl
    · split
      · rename_i h1 h2
        rw [if_neg h1, if_pos h2, List.length_drop] at l2
        have : rest.length = 0 := by omega
        rw [List.length_eq_zero_iff.mp this]; rfl
      · rfl
  rw [eo] at e2
  have e3 := List.append_cancel_left e2
  injection e3 with e4 _
  have m36 := ch_inj _ _ 36 b (by decide) (by decide) hb (e4 ▸ hb')
  omega
def spNames : Sp := fun vs H Q _ => ∃ (c : Int) (m : Nat), vs = [.int c, .int (m : Int)] ∧ m ≤ 28 ∧ ∀ p (zs : List Str) H', Same H H' → H p = none → H' p = some (.lst (zs.map V.str)) → zs.length = m → zs.Nodup → (∀ z ∈ zs, isName z = true ∧ 2 ≤ z.length) → (∀ (i j : Nat) (z y : Str), zs[i]? = some z → zs[j]? = some y → i < j → j < i + 26 → z.cps.toList.head? ≠ y.cps.toList.head?) → Q (.ref p) H'
section
variable {P : Program} {w : World} {K : PySem.W.Frag} {mg : Str → Option Value} {base : Heap} {f : Addr} {fd : FuncData}
abbrev nNames : List Str := ["number", "many", "letters", "size", "k", "rest", "place", "names", "own", "spot"]
theorem scNames : FnScope nNames ["number", "many"] (defScope sNames) := ⟨rfl, rfl, rfl, by decide +kernel, rfl, by decide +kernel, by decide +kernel⟩
theorem ok_names (F : Fun K "_law_names" "_law_names" sNames f fd) (ml : mg "len" = none) (mr : mg "range" = none) (mint : mg "int" = none) (mmin : mg "min" = none) : FnOk P w K mg base CX0 1 f fd ["number", "many"] spNames := by
  refine F.ok scNames (fun vs H Q E h => ?_) (fun cdv A outer s H vs Q E hr h => ?_)
  · obtain ⟨c, m, rfl, _⟩ := h
    rfl
  · obtain ⟨c, m, rfl, hm, q⟩ := h
    refine ⟨_, (pss_cons (ps_set (i := 2) scNames.nd rfl (.inr rfl) pe_str)
      (pss_cons (ps_set (i := 3) scNames.nd rfl (.inl rfl) (pe_op op_mod (pe_callTy (r := rInt1) call_int1 (by rfl) mint (by decide +kernel) (pa_cons (pv 0) pa_nil)) pe_int))
      (pss_cons (ps_set (i := 5) scNames.nd rfl (.inl rfl) (pe_join pe_str (pe_lc (own := [("k", 4)]) (g := gName 4) (tt := tYes) rfl scNames.nd (pi_range1 (by rfl) mr (pa_cons (pv 3) pa_nil)) (blkOk_by (own := [("k", 4)]) (N := nNames) (sc := defScope sNames) (by decide +kernel)) (fun _ _ _ _ _ => pg_name (i := 4) scNames.nd rfl (Or.inl rfl)) (fun _ _ _ _ _ => pts_nil) (fun _ _ _ _ _ => (pe_ix ix_str (pv 2) (pe_op op_mod (pe_callTy (r := rInt1) call_int1 (by rfl) mint (by decide +kernel) (pa_cons (pe_op op_add (pv 0) (pe_op op_mul (pe_op op_mul pe_int (pv 4)) (pv 4))) pa_nil)) pe_int) (fun _ _ => rfl))))))
      (pss_cons (ps_set (i := 6) scNames.nd rfl (.inl rfl) (pe_op op_mod (pe_noint (pe_op op_fdiv (pv 0) pe_int)) (pe_op op_add (pv 3) pe_int)))
      (pss_cons (ps_set (i := 7) scNames.nd rfl (.inl rfl) (pe_lst pa_nil))
      (pss_cons (ps_for PassesOwn.never rfl (pi_range1 (by rfl) mr (pa_cons (pv 1) pa_nil)) (pg_name (i := 4) scNames.nd rfl (.inl rfl))
      (pss_cons (ps_set (i := 8) scNames.nd rfl (.inl rfl) (pv 5))
      (pss_cons (ps_if (pt_cmpR op_eq (pe_op op_mod (pe_callTy (r := rInt1) call_int1 (by rfl) mint (by decide +kernel) (pa_cons (pe_op op_add (pe_op op_fdiv (pv 0) pe_int) (pv 4)) pa_nil)) pe_int) pe_int (nomark _)) (pss_one (ps_set (i := 8) scNames.nd rfl (.inl rfl) (pe_slice sl_str (pv 5) (po_some pe_int) po_none))) pss_nil)
      (pss_cons (ps_set (i := 9) scNames.nd rfl (.inl rfl) (pe_callB (call_min2 rfl) (by rfl) mmin (by decide +kernel) (pa_cons (pv 6) (pa_cons (pe_callB call_len_str (by rfl) ml boot_len (pa_cons (pv 8) pa_nil)) pa_nil))))
      (pss_one (ps_expr (pe_bm PySem.F.plainAttrs_list PySem.F.slot_list_append PySem.F.type_list_append mt_append (pv 7) (pa_cons (pe_op op_add_str (pe_op op_add_str (pe_op op_add_str (pe_ix ix_str (pv 2) (pe_op op_mod (pe_callTy (r := rInt1) call_int1 (by rfl) mint (by decide +kernel) (pa_cons (pe_op op_add (pv 0) (pe_op op_mul pe_int (pv 4))) pa_nil)) pe_int) (fun _ _ => rfl)) (pe_slice sl_str (pv 8) po_none (po_some (pv 9)))) (pe_ix ix_str (pv 2) (pe_op op_mod (pe_callTy (r := rInt1) call_int1 (by rfl) mint (by decide +kernel) (pa_cons (pe_op op_add (pv 0) (pe_op op_mul pe_int (pv 4))) pa_nil)) pe_int) (fun _ _ => rfl))) (pe_slice sl_str (pv 8) (po_some (pv 9)) po_none)) pa_nil))))))))
      (pss_one (ps_ret (pv 7))))))))), ?_⟩
    have zz : ∀ n : Nat, n ≤ 2000 → n ≤ sizeLine := fun n h => Nat.le_trans h (by decide)
    obtain ⟨sz, hsz⟩ := Int.eq_ofNat_of_zero_le (Int.emod_nonneg c (show (11 : Int) ≠ 0 by decide))
    have hsz1 : sz ≤ 10 := by have := Int.emod_lt_of_pos c (show (0 : Int) < 11 by decide); omega
    refine ⟨_, rfl, .inl ⟨_, rfl, _, _, rfl, rfl, (by show (0 : Int) < 11; decide), ?_⟩⟩
    dsimp only
    rw [hsz]
    refine seq_asg ?_
    refine ⟨⟨_, rfl⟩, _, rfl, (sz : Int), rfl, by omega, by omega, fun L hL => lc_range (lo := 0) (n := sz) (fun i H1 => ∃ ys : List Str, H1 L = some (.lst (ys.map V.str)) ∧ Same H H1 ∧ ys.length = i ∧ ∀ y ∈ ys, ∃ ch, y.cps.toList = [ch] ∧ isSign ch = true)
      ⟨[], upd_same, same_new hL _, rfl, fun y hy => by cases hy⟩ ?_ ?_⟩
    · rintro i H1 hi ⟨ys, hys, s1, hyl, hya⟩
      obtain ⟨ch, hc, _, sc, _⟩ := ch_at ((c + 7 * (0 + (i : Int)) * (0 + (i : Int))) % 36) (Int.emod_nonneg _ (by decide)) (Int.emod_lt_of_pos _ (by decide))
      refine ⟨rfl, yes_go ?_⟩
      refine ⟨_, rfl, _, rfl, _, rfl, _, _, rfl, rfl, .inl ⟨by decide, by decide⟩, _, rfl, _, _, rfl, rfl, .inr ⟨by omega, by omega⟩, _, _, rfl, rfl, .inl ⟨_, rfl, _, _, rfl, rfl, (by show (0 : Int) < 36; decide), _, _, ch, rfl, rfl, by decide +kernel, hc, ?_⟩⟩
      refine ⟨_, hys, small1000 (by rw [List.length_map]; omega), ys ++ [⟨#[ch]⟩], by rw [upd_same, List.map_append]; rfl, same_set s1 hL, by rw [List.length_append, hyl]; rfl, fun y hy => ?_⟩
      rcases List.mem_append.mp hy with hy | hy
      · exact hya y hy
      · rw [List.mem_singleton.mp hy]; exact ⟨ch, rfl, sc⟩
    rintro H1 ⟨ys, hys, s1, hyl, hya⟩
    have one : ∀ (l : List Str), (∀ y ∈ l, ∃ ch, y.cps.toList = [ch] ∧ isSign ch = true) → ((l.map fun z => z.cps.toList).flatten).length = l.length ∧ ((l.map fun z => z.cps.toList).flatten).all isSign = true ∧ (l.map (·.length)).sum = l.length := fun l => by
      induction l with
      | nil => exact fun _ => ⟨rfl, rfl, rfl⟩
      | cons y r ih =>
        intro hl
        obtain ⟨h1, h2, h3⟩ := ih fun z hz => hl z (List.mem_cons_of_mem _ hz)
        obtain ⟨ch, e, sc⟩ := hl y (List.mem_cons_self ..)
        have ly : y.length = 1 := by rw [slen_tl, e]; rfl
        refine ⟨by simp only [List.map_cons, List.flatten_cons, List.length_append, e, h1, List.length_cons, List.length_nil]; omega, by simp only [List.map_cons, List.flatten_cons, List.all_append, e, h2, List.all_cons, sc, List.all_nil]; rfl, by simp only [List.map_cons, List.sum_cons, h3, List.length_cons, ly]; omega⟩
    obtain ⟨o1, o2, o3⟩ := one ys hya
    refine ⟨_, L, ys, rfl, rfl, .inl (SqL.of hys), ?_, ?_⟩
    · rw [o3, show ("" : Str).length = 0 from by decide +kernel]; omega
    rw [← join0_tl] at o1 o2
    generalize Txt.join "" ys = rest at o1 o2 ⊢
    have rl : rest.length = sz := by rw [slen_tl, o1, hyl]
    clear one hya hys o3 hL
    -- place
    refine ⟨_, rfl, _, _, rfl, rfl, ⟨by decide, by decide⟩, .inl ⟨_, rfl, _, rfl, _, _, rfl, rfl, _, _, rfl, rfl, (by show (0 : Int) < (sz : Int) + 1; omega), ?_⟩⟩
    obtain ⟨pl, hpl⟩ := Int.eq_ofNat_of_zero_le (Int.emod_nonneg (c / 11) (show (sz : Int) + 1 ≠ 0 by omega))
    dsimp only
    rw [hpl]
    refine seq_asg ?_
    refine ⟨(by show 0 ≤ sizeLine; decide), fun D hD => ?_⟩
    refine ⟨_, rfl, (m : Int), rfl, by omega, by omega, for_range (lo := 0) (n := m) (fun i σ H' => ∃ k4 own8 spot9, σ = [some (.int c), some (.int (m : Int)), some (.str chs), some (.int (sz : Int)), k4, some (.str rest), some (.int (pl : Int)), some (.ref D), own8, spot9] ∧ Same H1 H' ∧ ∃ zs : List Str, H' D = some (.lst (zs.map V.str)) ∧ zs.length = i ∧
      ∀ (j : Nat) (z : Str), zs[j]? = some z → IsNm c (ownOf rest.cps.toList c j) (min pl (ownOf rest.cps.toList c j).length) j z) ⟨none, none, none, rfl, same_new hD _, [], upd_same, rfl, fun j z hz => by simp at hz⟩ ?_ ?_⟩
    · rintro i σ H2 hi ⟨k4, own8, spot9, rfl, s2, zs, hzs, hzl, hza⟩
      refine ⟨_, rfl, g_nx ?_⟩
      dsimp only
      refine with_rest (fun σ Hx => ∃ own : Str, σ = [some (.int c), some (.int (m : Int)), some (.str chs), some (.int (sz : Int)), some (.int (0 + (i : Int))), some (.str rest), some (.int (pl : Int)), some (.ref D), some (.str own), spot9] ∧ Hx = H2 ∧ own.cps.toList = ownOf rest.cps.toList c i) ?_ fun go => ?_
      rotate_left
      · refine ⟨_, rfl, _, _, rfl, rfl, ⟨by decide, by decide⟩, _, rfl, _, _, rfl, rfl, .inl ⟨_, rfl, _, _, rfl, rfl, (by show (0 : Int) < 3; decide), rfl, _, rfl, ite2 (fun e => ?_) (fun e => ?_)⟩⟩
        · have e : (c / 121 + (0 + (i : Int))) % 3 = 0 := V.int.inj (of_decide_eq_true e)
          refine ⟨_, rfl, 1, rfl, rest, rfl, zz _ (by omega), ?_⟩
          refine go _ _ ⟨_, rfl, rfl, ?_⟩
          rw [show (1 : Int) = ((1 : Nat) : Int) from rfl, cutS_from, ownOf, if_pos (by omega)]
        · have e : ¬ (c / 121 + (0 + (i : Int))) % 3 = 0 := fun z => e (decide_eq_true (by show V.int ((c / 121 + (0 + (i : Int))) % 3) = _; rw [z]))
          exact go _ _ ⟨_, rfl, rfl, by rw [ownOf, if_neg (by omega)]⟩
      rintro σ Hx ⟨own, rfl, rfl, how⟩
      have ol : own.length ≤ 10 := by
        rw [slen_tl, how, ownOf]
        split
        · rw [List.length_drop, ← slen_tl]; omega
        · rw [← slen_tl]; omega
      refine ⟨_, rfl, _, rfl, own, rfl, zz _ (by omega), _, _, rfl, ?_⟩
      have esp : (if (own.length : Int) < (pl : Int) then (own.length : Int) else (pl : Int)) = ((min pl own.length : Nat) : Int) := by split <;> omega
      rw [esp]
      generalize hsp : min pl own.length = sp
      obtain ⟨a, ha, ha2, sa, la0⟩ := ch_at ((c + 3 * (0 + (i : Int))) % 26) (Int.emod_nonneg _ (by decide)) (by have := Int.emod_lt_of_pos (c + 3 * (0 + (i : Int))) (show (0 : Int) < 26 by decide); omega)
      have la := la0 (Int.emod_lt_of_pos _ (by decide))
      obtain ⟨b, hb, hb2, sb, _⟩ := ch_at ((c + 5 * (0 + (i : Int))) % 36) (Int.emod_nonneg _ (by decide)) (Int.emod_lt_of_pos _ (by decide))
      have lt := cutS_to own sp
      have lf := cutS_from own sp
      have l1 : (cutS own none (some (sp : Int))).length ≤ 10 := by rw [slen_tl, lt, List.length_take, ← slen_tl]; omega
      have l2 : (cutS own (some (sp : Int)) none).length ≤ 10 := by rw [slen_tl, lf, List.length_drop, ← slen_tl]; omega
      refine ⟨_, rfl, .inl ⟨rfl, _, SqL.of hzs⟩, _, rfl, _, rfl, _, rfl, _, _, rfl, rfl, .inl ⟨by decide, by decide⟩, _, _, rfl, rfl, .inl ⟨_, rfl, _, _, rfl, rfl, (by show (0 : Int) < 26; decide), _, _, a, rfl, rfl, by decide +kernel, ha, _, rfl, _, rfl, _, rfl, own, rfl, zz _ (by omega), _, _, rfl, rfl, zz _ (by show 1 + _ ≤ 2000; omega), ?_⟩⟩
      refine ⟨_, rfl, _, rfl, _, rfl, _, _, rfl, rfl, .inl ⟨by decide, by decide⟩, _, _, rfl, rfl, .inl ⟨_, rfl, _, _, rfl, rfl, (by show (0 : Int) < 36; decide), _, _, b, rfl, rfl, by decide +kernel, hb, _, _, rfl, rfl, zz _ (by rw [slen0]; show 1 + _ + 1 ≤ 2000; omega), ?_⟩⟩
      refine ⟨_, rfl, _, rfl, _, rfl, own, rfl, zz _ (by omega), _, _, rfl, rfl, zz _ (by rw [slen0, slen0]; show 1 + _ + 1 + _ ≤ 2000; omega), ?_⟩
      refine ⟨D, _, _, rfl, rfl, hzs, small1000 (by rw [List.length_map]; omega), ?_⟩
      refine ⟨_, _, _, rfl, same_set s2 hD, zs ++ [(⟨#[a]⟩ : Str) ++ cutS own none (some (sp : Int)) ++ (⟨#[b]⟩ : Str) ++ cutS own (some (sp : Int)) none], by rw [upd_same, List.map_append]; rfl, by rw [List.length_append, hzl]; rfl, fun j z hz => ?_⟩
      by_cases hj : j < zs.length
      · rw [List.getElem?_append_left hj] at hz
        exact hza j z hz
      · rw [List.getElem?_append_right (by omega)] at hz
        have hj0 : j - zs.length = 0 := by
          apply Decidable.byContradiction
          intro k
          rw [List.getElem?_eq_none (by rw [List.length_singleton]; omega)] at hz
          cases hz
        rw [hj0] at hz
        have hz := Option.some.inj hz
        have ej : j = i := by omega
        subst ej
        rw [Int.zero_add] at ha2 hb2
        refine ⟨a, b, ?_, ha2, hb2, la, sb⟩
        rw [← how, ← slen_tl, hsp, ← hz, str_app, str_app, str_app, lt, lf]
        simp
    rintro σ H2 ⟨k4, own8, spot9, rfl, s2, zs, hzs, hzl, hza⟩
    have rest10 : ∀ k, (ownOf rest.cps.toList c k).length ≤ 10 ∧ (ownOf rest.cps.toList c k).all isSign = true := fun k => by
      unfold ownOf
      split
      · refine ⟨by rw [List.length_drop, ← slen_tl]; omega, ?_⟩
        rw [List.all_eq_true] at o2 ⊢
        exact fun x hx => o2 x (List.mem_of_mem_drop hx)
      · exact ⟨by rw [← slen_tl]; omega, o2⟩
    refine ⟨_, rfl, q D zs H2 (s1.trans s2) (s1.free hD) hzs hzl ?_ ?_ ?_⟩
    · refine List.pairwise_iff_getElem.mpr fun i j hi hj hij => ?_
      exact nm_ne (hza i _ (List.getElem?_eq_getElem hi)) (hza j _ (List.getElem?_eq_getElem hj)) hij (by omega)
    · intro z hz
      obtain ⟨j, hj, e⟩ := List.mem_iff_getElem.mp hz
      have hz := hza j z (by rw [List.getElem?_eq_getElem hj, e])
      refine ⟨nm_ok hz (rest10 j).1 (rest10 j).2, ?_⟩
      obtain ⟨a, b, e, _⟩ := hz.e
      rw [slen_tl, e]
      simp only [List.length_cons, List.length_append]
      omega
    · intro i j z y hi hj hij h26 e
      obtain ⟨a, b, ea, ha, _⟩ := (hza i z hi).e
      obtain ⟨a', b', ea', ha', _⟩ := (hza j y hj).e
      rw [ea, ea'] at e
      simp only [List.head?_cons, Option.some.injEq] at e
      subst e
      have := ch_inj _ _ 26 a (by decide) (by decide) ha ha'
      omega
end
end Bm

set_option Elab.async false
set_option linter.all false
set_option maxRecDepth 100000
set_option maxHeartbeats 8000000
namespace Bs
open PySem L2
/-! ### the law's small shapes and new items -/
abbrev sSmall : Stmt := top 115
abbrev sNew : Stmt := top 116
abbrev lmk (z : Str) (k : Nat) : Str := z ++ toString (k : Int)
def itsOf : List It → Its
  | [] => .nil
  | y :: r => .cons y (itsOf r)
theorem toL_of : ∀ l : List It, (itsOf l).toL = l
  | [] => rfl
  | y :: r => by simp [itsOf, Its.toL, toL_of r]
theorem len_of (l : List It) : (itsOf l).len = l.length := by rw [← toL_len, toL_of]
theorem of_toL : ∀ x : Its, itsOf x.toL = x
  | .nil => rfl
  | .cons y r => by simp [itsOf, Its.toL, of_toL r]
theorem at_of {fz : Bool} {H : Hp} : ∀ {vs : List V} {l : List It}, Paired (fun v y => It.At fz H y v) vs l → (itsOf l).At fz H vs
  | _, _, .nil => by simp only [itsOf, Its.At]
  | _, _, .cons a t => by simp only [itsOf, Its.At]; exact ⟨_, _, rfl, a, at_of t⟩
theorem of_at {fz : Bool} {H : Hp} : ∀ {x : Its} {vs : List V}, x.At fz H vs → Paired (fun v y => It.At fz H y v) vs x.toL
  | .nil, vs, h => by simp only [Its.At] at h; subst h; exact .nil
  | .cons y r, vs, h => by
    simp only [Its.At] at h
    obtain ⟨v, l', rfl, h1, h2⟩ := h
    exact .cons h1 (of_at h2)
def smallIt (k : Nat) (r : Int) : It :=
  if r % 4 = 0 then .num (lmk "n" k) 1 "big" (r / 4 % 3) (r / 4 % 3 + r / 4 / 3 % 4)
  else if r % 4 = 1 then .byt (lmk "n" k) (.inl (r / 4 % 3))
  else if r % 4 = 2 then .txt (lmk "n" k) (r / 4 % 256) (r / 4 % 3)
  else .eit (lmk "n" k) (.cons 0 (.cons (.num (lmk "x" k) 1 "big" 0 (r / 4 % 4)) .nil) (.cons 0 (.cons (.byt (lmk "y" k) (.inl 1)) .nil) .nil))
theorem lmk_ok {z : Str} (h : z = "n" ∨ z = "x" ∨ z = "y") {k : Nat} (hk : k < 3) : isName (lmk z k) = true ∧ (lmk z k).length ≤ 1000 := by
  have e : k = 0 ∨ k = 1 ∨ k = 2 := by omega
  rcases h with rfl | rfl | rfl <;> rcases e with rfl | rfl | rfl <;> exact ⟨by decide +kernel, by decide +kernel⟩
theorem small_bc {k : Nat} {r : Int} (hk : k < 3) (h0 : 0 ≤ r) : (smallIt k r).bc ∧ (smallIt k r).tame := by
  have n := lmk_ok (z := "n") (.inl rfl) hk
  have x := lmk_ok (z := "x") (.inr (.inl rfl)) hk
  have y := lmk_ok (z := "y") (.inr (.inr rfl)) hk
  unfold smallIt
  split
  · refine ⟨⟨n.1, rfl, rfl, by omega, by omega, by omega⟩, ?_⟩
    simp only [It.tame]; exact n.2
  · split
    · refine ⟨⟨n.1, _, rfl, by omega⟩, ?_⟩
      simp only [It.tame]; exact ⟨n.2, fun z e => by cases e⟩
    · split
      · refine ⟨⟨n.1, by omega, by omega, by omega⟩, ?_⟩
        simp only [It.tame]; exact n.2
      · refine ⟨⟨n.1, by simp [Its.len], by simp [Its.len], fun z hz => ?_, fun z hz => ?_⟩, ?_⟩
        · simp [Its.toL] at hz; subst hz; exact ⟨x.1, rfl, rfl, by omega, by omega, by omega⟩
        · simp [Its.toL] at hz; subst hz; exact ⟨y.1, 1, rfl, by omega⟩
        · simp only [It.tame, Blks.tame, Its.tame]
          exact ⟨n.2, ⟨x.2, True.intro⟩, ⟨⟨y.2, fun z e => by cases e⟩, True.intro⟩, True.intro⟩
theorem small_lv {k : Nat} {r : Int} (hk : k < 3) (h0 : 0 ≤ r) : lvI (smallIt k r) = true := by
  unfold smallIt
  split
  · simp only [lvI, lvP]; exact decide_eq_true (by omega)
  · split
    · simp only [lvI, lvP]; exact decide_eq_true (by omega)
    · split
      · simp only [lvI, lvP]; exact decide_eq_true (by omega)
      · have e : k = 0 ∨ k = 1 ∨ k = 2 := by omega
        have q : decide ((0 : Int) ≤ r / 4 % 4) = true := decide_eq_true (by omega)
        have nn : ∀ k : Nat, k < 3 → (Its.app (.cons (.num (lmk "x" k) 1 "big" 0 (r / 4 % 4)) .nil) (.cons (.byt (lmk "y" k) (.inl 1)) .nil)).names.Nodup := fun k hk => by
          have e : (Its.app (.cons (.num (lmk "x" k) 1 "big" 0 (r / 4 % 4)) .nil) (.cons (.byt (lmk "y" k) (.inl 1)) .nil)).names = [lmk "x" k, lmk "y" k] := by
            simp [Its.app, Its.names, Its.walk, It.walk, It.name]
          rw [e]
          have e : k = 0 ∨ k = 1 ∨ k = 2 := by omega
          rcases e with rfl | rfl | rfl <;> decide +kernel
        have n2 := nn k hk
        simp only [lvI]
        rw [Bool.and_eq_true, Bool.and_eq_true]
        exact ⟨by simp [Its.len], decide_eq_true n2, by simp [Its.app, Its.toL, lvP, of_decide_eq_true q]⟩
def smallNm (k : Nat) (b : Bool) : List Str := if b = true then [lmk "n" k, lmk "x" k, lmk "y" k] else [lmk "n" k]
theorem small_nm {k : Nat} {r : Int} : ∃ b, ((smallIt k r).walk 0).map (·.2.name) = smallNm k b := by
  refine ⟨decide (¬ r % 4 = 0 ∧ ¬ r % 4 = 1 ∧ ¬ r % 4 = 2), ?_⟩
  unfold smallIt
  split
  · rename_i h; simp [It.walk, It.name, smallNm, h]
  · split
    · rename_i h; simp [It.walk, It.name, smallNm, h]
    · split
      · rename_i h; simp [It.walk, It.name, smallNm, h]
      · rename_i h1 h2 h3; simp [It.walk, Blks.walk, Its.walk, It.name, smallNm, h1, h2, h3]
def smallL (ns : List Int) (n : Nat) : List It := (List.range n).map fun k => smallIt k (ns[k + 1]?.getD 0)
theorem small_shape {ns : List Int} {n : Nat} (hn : 1 ≤ n ∧ n ≤ 3) (hb : ∀ x ∈ ns, 0 ≤ x) : (itsOf (smallL ns n)).shape = true ∧ (itsOf (smallL ns n)).len ≤ 3 ∧ (∀ y ∈ (itsOf (smallL ns n)).toL, y.bc) ∧ (itsOf (smallL ns n)).tame := by
  have g0 : ∀ k : Nat, 0 ≤ (ns[k + 1]?.getD 0 : Int) := fun k => by
    cases e : ns[k + 1]? with
    | none => simp
    | some x => exact hb x (List.mem_of_getElem? e)
  have hbc : ∀ y ∈ (itsOf (smallL ns n)).toL, y.bc := fun y hy => by
    rw [toL_of] at hy
    obtain ⟨k, hk, rfl⟩ := List.mem_map.mp hy
    exact (small_bc (by have := List.mem_range.mp hk; omega) (g0 k)).1
  have hl : (itsOf (smallL ns n)).len = n := by rw [len_of]; simp [smallL]
  have ht : ∀ l : List It, (∀ y ∈ l, y.tame) → (itsOf l).tame := fun l => by
    induction l with
    | nil => intro _; simp only [itsOf, Its.tame]
    | cons y r ih => intro h; simp only [itsOf, Its.tame]; exact ⟨h y (List.mem_cons_self ..), ih fun z hz => h z (List.mem_cons_of_mem _ hz)⟩
  refine ⟨?_, by omega, hbc, ht _ fun y hy => ?_⟩
  · rw [shape_lv hbc (by omega), hl, decide_eq_true hn.1, Bool.true_and, lv, toL_of]
    have a : (smallL ns n).all lvI = true := by
      rw [List.all_eq_true]
      intro y hy
      obtain ⟨k, hk, rfl⟩ := List.mem_map.mp hy
      exact small_lv (by have := List.mem_range.mp hk; omega) (g0 k)
    rw [a, Bool.and_true, decide_eq_true_iff]
    have e : n = 1 ∨ n = 2 ∨ n = 3 := by omega
    rcases e with rfl | rfl | rfl
    · obtain ⟨b0, e0⟩ := small_nm (k := 0) (r := ns[0 + 1]?.getD 0)
      simp only [smallL, List.range, List.range.loop, List.map_cons, List.map_nil, itsOf, names_cons, e0]
      clear e0
      revert b0; decide +kernel
    · obtain ⟨b0, e0⟩ := small_nm (k := 0) (r := ns[0 + 1]?.getD 0)
      obtain ⟨b1, e1⟩ := small_nm (k := 1) (r := ns[1 + 1]?.getD 0)
      simp only [smallL, List.range, List.range.loop, List.map_cons, List.map_nil, itsOf, names_cons, e0, e1]
      clear e0 e1
      revert b0 b1; decide +kernel
    · obtain ⟨b0, e0⟩ := small_nm (k := 0) (r := ns[0 + 1]?.getD 0)
      obtain ⟨b1, e1⟩ := small_nm (k := 1) (r := ns[1 + 1]?.getD 0)
      obtain ⟨b2, e2⟩ := small_nm (k := 2) (r := ns[2 + 1]?.getD 0)
      simp only [smallL, List.range, List.range.loop, List.map_cons, List.map_nil, itsOf, names_cons, e0, e1, e2]
      clear e0 e1 e2
      revert b0 b1 b2; decide +kernel
  · obtain ⟨k, hk, rfl⟩ := List.mem_map.mp hy
    exact (small_bc (by have := List.mem_range.mp hk; omega) (g0 k)).2
def spSmall : Sp := fun vs H Q _ => ∃ (r : Addr) (ns : List Int), vs = [.ref r] ∧ H r = some (.lst (ns.map V.int)) ∧ ns.length = 4 ∧ (∀ x ∈ ns, 0 ≤ x ∧ x < 1009) ∧
  ∀ (t : Addr) (x : Its) (xs : List V) H', Same H H' → H' t = some (.tup xs) → x.At true H' xs → (x.shape = true ∧ x.len ≤ 3 ∧ (∀ y ∈ x.toL, y.bc) ∧ x.tame) → Q (.ref t) H'
section
variable {P : Program} {w : World} {K : PySem.W.Frag} {mg : Str → Option Value} {base : Heap} {f : Addr} {fd : FuncData}
abbrev nSmall : List Str := ["row", "items", "k", "name", "kind", "size", "blocks"]
theorem scSmall : FnScope nSmall ["row"] (defScope sSmall) := ⟨rfl, rfl, rfl, by decide +kernel, rfl, by decide +kernel, by decide +kernel⟩
theorem ok_small (F : Fun K "_law_small" "_law_small" sSmall f fd) (mr : mg "range" = none) (ms : mg "str" = none) (mt : mg "tuple" = none) : FnOk P w K mg base CX0 1 f fd ["row"] spSmall := by
  refine F.ok scSmall (fun vs H Q E h => ?_) (fun cdv A outer s H vs Q E hr h => ?_)
  · obtain ⟨r, ns, rfl, _⟩ := h
    rfl
  · obtain ⟨r, ns, rfl, hr0, hl, hb, q⟩ := h
    refine ⟨_, (pss_cons (ps_set (i := 1) scSmall.nd rfl (.inl rfl) (pe_lst pa_nil))
      (pss_cons (ps_for PassesOwn.never rfl (pi_range1 (by rfl) mr (pa_cons (pe_op op_add pe_int (pe_op op_mod (pe_ix ix_list (pv 0) pe_int (fun _ _ => rfl)) pe_int)) pa_nil)) (pg_name (i := 2) scSmall.nd rfl (.inl rfl))
        (pss_cons (ps_set (i := 3) scSmall.nd rfl (.inl rfl) (pe_op op_add_str pe_str (pe_callTy call_str_int (by rfl) ms (by decide +kernel) (pa_cons (pv 2) pa_nil))))
      (pss_cons (ps_set (i := 4) scSmall.nd rfl (.inl rfl) (pe_op op_mod (pe_ix ix_list (pv 0) (pe_op op_add pe_int (pv 2)) (fun _ _ => rfl)) pe_int))
      (pss_cons (ps_set (i := 5) scSmall.nd rfl (.inl rfl) (pe_op op_fdiv (pe_ix ix_list (pv 0) (pe_op op_add pe_int (pv 2)) (fun _ _ => rfl)) pe_int))
      (pss_one (ps_if (pt_cmpR op_eq (pv 4) pe_int (nomark _)) (pss_one (ps_expr (pe_bm PySem.F.plainAttrs_list PySem.F.slot_list_append PySem.F.type_list_append mt_append (pv 1) (pa_cons (pe_tup (pa_cons pe_str (pa_cons (pv 3) (pa_cons pe_int (pa_cons pe_str (pa_cons (pe_op op_mod (pv 5) pe_int) (pa_cons (pe_op op_add (pe_op op_mod (pv 5) pe_int) (pe_op op_mod (pe_op op_fdiv (pv 5) pe_int) pe_int)) pa_nil))))))) pa_nil)))) (pss_one (ps_if (pt_cmpR op_eq (pv 4) pe_int (nomark _)) (pss_one (ps_expr (pe_bm PySem.F.plainAttrs_list PySem.F.slot_list_append PySem.F.type_list_append mt_append (pv 1) (pa_cons (pe_tup (pa_cons pe_str (pa_cons (pv 3) (pa_cons (pe_op op_mod (pv 5) pe_int) pa_nil)))) pa_nil)))) (pss_one (ps_if (pt_cmpR op_eq (pv 4) pe_int (nomark _)) (pss_one (ps_expr (pe_bm PySem.F.plainAttrs_list PySem.F.slot_list_append PySem.F.type_list_append mt_append (pv 1) (pa_cons (pe_tup (pa_cons pe_str (pa_cons (pv 3) (pa_cons (pe_op op_mod (pv 5) pe_int) (pa_cons (pe_op op_mod (pv 5) pe_int) pa_nil))))) pa_nil)))) (pss_cons (ps_set (i := 6) scSmall.nd rfl (.inl rfl) (pe_tup (pa_cons (pe_tup (pa_cons (pe_tup (pa_cons pe_str (pa_cons (pe_op op_add_str pe_str (pe_callTy call_str_int (by rfl) ms (by decide +kernel) (pa_cons (pv 2) pa_nil))) (pa_cons pe_int (pa_cons pe_str (pa_cons pe_int (pa_cons (pe_op op_mod (pv 5) pe_int) pa_nil))))))) pa_nil)) (pa_cons (pe_tup (pa_cons (pe_tup (pa_cons pe_str (pa_cons (pe_op op_add_str pe_str (pe_callTy call_str_int (by rfl) ms (by decide +kernel) (pa_cons (pv 2) pa_nil))) (pa_cons pe_int pa_nil)))) pa_nil)) pa_nil))))
      (pss_one (ps_expr (pe_bm PySem.F.plainAttrs_list PySem.F.slot_list_append PySem.F.type_list_append mt_append (pv 1) (pa_cons (pe_tup (pa_cons pe_str (pa_cons (pv 3) (pa_cons (pv 6) pa_nil)))) pa_nil)))))))))))))))
      (pss_one (ps_ret (pe_tupleOf (by rfl) mt (pv 1)))))), ?_⟩
    have gx : ∀ i : Nat, i < 4 → ∃ v, ns[i]? = some v ∧ (ns.map V.int)[i]? = some (.int v) ∧ 0 ≤ v ∧ v < 1009 := fun i hi => by
      have e : ns[i]? = some ns[i] := List.getElem?_eq_getElem (by omega)
      exact ⟨_, e, by rw [List.getElem?_map, e]; rfl, hb _ (List.mem_of_getElem? e)⟩
    refine ⟨by show 0 ≤ sizeLine; decide, fun D hD => ?_⟩
    obtain ⟨a, ea, ea2, a0, a1⟩ := gx 0 (by decide)
    have s0 := same_new hD (.lst [])
    have hm : 0 ≤ a % 3 ∧ a % 3 < 3 := ⟨by omega, by omega⟩
    refine ⟨_, rfl, r, _, _, _, rfl, rfl, SqL.of (s0 _ _ hr0), atI_nat (j := 0) ea2, _, _, rfl, rfl, (by show (0 : Int) < 3; decide), _, _, rfl, rfl, 1 + a % 3, rfl, by omega, by omega, for_range (lo := 0) (n := (1 + a % 3).toNat) (fun i σ H' => ∃ o2 o3 o4 o5 o6 : Option V, σ = [some (.ref r), some (.ref D), o2, o3, o4, o5, o6] ∧ Same H H' ∧ ∃ acc, H' D = some (.lst acc) ∧ acc.length = i ∧ Paired (fun v y => It.At true H' y v) acc (smallL ns i))
      ⟨_, _, _, _, _, rfl, s0, [], upd_same, rfl, .nil⟩ ?_ ?_⟩
    · rintro i σ H2 hi ⟨o2, o3, o4, o5, o6, rfl, s2, acc, hD2, hal, pac⟩
      have hi3 : i < 3 := by omega
      obtain ⟨v, ev, ev2, v0, v1⟩ := gx (i + 1) (by omega)
      have ei : (0 + (i : Int)) = (i : Int) := by omega
      have ei1 : (1 + (i : Int)) = ((i + 1 : Nat) : Int) := by omega
      have hr2 := SqL.of (K := K) (s2 _ _ hr0)
      have lg : (i : Int).natAbs.log2 < 1920 := by
        have e : i = 0 ∨ i = 1 ∨ i = 2 := by omega
        rcases e with rfl | rfl | rfl <;> decide
      have st : smallL ns (i + 1) = smallL ns i ++ [smallIt i v] := by
        rw [smallL, List.range_succ, List.map_append]
        show smallL ns i ++ [smallIt i (ns[i + 1]?.getD 0)] = _
        rw [ev]; rfl
      have l1 : ∀ z : Str, z = "n" ∨ z = "x" ∨ z = "y" → z.length + (Str.ofString (toString (i : Int))).length ≤ sizeLine := fun z hz => by
        have e : i = 0 ∨ i = 1 ∨ i = 2 := by omega
        rcases hz with rfl | rfl | rfl <;> rcases e with rfl | rfl | rfl <;> decide +kernel
      rw [ei]
      refine ⟨_, rfl, _, rfl, lg, _, _, rfl, rfl, l1 "n" (.inl rfl), ?_⟩
      refine ⟨_, rfl, _, rfl, _, _, rfl, rfl, r, _, _, _, rfl, rfl, hr2, ei1 ▸ atI_nat (j := i + 1) ev2, _, _, rfl, rfl, (by show (0 : Int) < 4; decide), ?_⟩
      refine ⟨_, rfl, _, rfl, _, _, rfl, rfl, r, _, _, _, rfl, rfl, hr2, ei1 ▸ atI_nat (j := i + 1) ev2, _, _, rfl, rfl, ⟨by decide, by decide⟩, ?_⟩
      -- an item is added
      have put : ∀ {H3 : Hp} {vy : V} (P : Prop), Same H2 H3 → (smallIt i v).At true H3 vy → ((Same H (upd H3 D (.lst (acc ++ [vy]))) ∧ ∃ acc', (upd H3 D (.lst (acc ++ [vy]))) D = some (.lst acc') ∧ acc'.length = i + 1 ∧ Paired (fun v y => It.At true (upd H3 D (.lst (acc ++ [vy]))) y v) acc' (smallL ns (i + 1))) → P) → P := fun {H3 vy} P s3 hy k => by
        have kp : Kp true H3 (upd H3 D (.lst (acc ++ [vy]))) := ⟨fun b xs e => by rw [upd_ne (fun z => by rw [z, s3 _ _ hD2] at e; cases e)]; exact e, fun z => by cases z⟩
        refine k ⟨same_set (s2.trans s3) hD, _, upd_same, by rw [List.length_append, hal]; rfl, ?_⟩
        rw [st]
        exact Paired.snoc (L2.Paired.mapP pac fun _ _ z => (It.At.same s3 z).kp kp) (hy.kp kp)
      have hsm : acc.length < sizeLine := small1000 (by omega)
      refine ⟨_, rfl, rfl, _, rfl, ?_⟩
      refine ite2 (fun c => ?_) (fun c => ?_)
      · rw [int_eq, decide_eq_true_iff] at c
        refine ⟨_, rfl, .inl ⟨rfl, _, SqL.of hD2⟩, _, rfl, _, rfl, _, _, rfl, rfl, (by show (0 : Int) < 3; decide), _, rfl, _, _, rfl, rfl, (by show (0 : Int) < 3; decide), _, rfl, _, _, rfl, rfl, ⟨by decide, by decide⟩, _, _, rfl, rfl, (by show (0 : Int) < 4; decide), _, _, rfl, rfl, by show 6 ≤ sizeLine; decide, fun p hp => ?_⟩
        have s3 := same_new hp (.tup [.str "number", .str (lmk "n" i), .int 1, .str "big", .int (v / 4 % 3), .int (v / 4 % 3 + v / 4 / 3 % 4)])
        refine ⟨D, _, _, rfl, rfl, s3 _ _ hD2, hsm, ?_⟩
        refine put _ s3 ?_ fun ⟨a, b⟩ => ⟨_, _, _, _, _, rfl, a, b⟩
        rw [smallIt, if_pos c]
        simp only [It.At]
        exact ⟨p, rfl, upd_same⟩
      · rw [int_eq, decide_eq_true_iff] at c
        refine ⟨_, rfl, rfl, _, rfl, ?_⟩
        refine ite2 (fun c2 => ?_) (fun c2 => ?_)
        · rw [int_eq, decide_eq_true_iff] at c2
          refine ⟨_, rfl, .inl ⟨rfl, _, SqL.of hD2⟩, _, rfl, _, rfl, _, _, rfl, rfl, (by show (0 : Int) < 3; decide), by show 3 ≤ sizeLine; decide, fun p hp => ?_⟩
          have s3 := same_new hp (.tup [.str "bytes", .str (lmk "n" i), .int (v / 4 % 3)])
          refine ⟨D, _, _, rfl, rfl, s3 _ _ hD2, hsm, ?_⟩
          refine put _ s3 ?_ fun ⟨a, b⟩ => ⟨_, _, _, _, _, rfl, a, b⟩
          rw [smallIt, if_neg c, if_pos c2]
          simp only [It.At]
          exact ⟨p, rfl, upd_same⟩
        · rw [int_eq, decide_eq_true_iff] at c2
          refine ⟨_, rfl, rfl, _, rfl, ?_⟩
          refine ite2 (fun c3 => ?_) (fun c3 => ?_)
          · rw [int_eq, decide_eq_true_iff] at c3
            refine ⟨_, rfl, .inl ⟨rfl, _, SqL.of hD2⟩, _, rfl, _, rfl, _, _, rfl, rfl, (by show (0 : Int) < 256; decide), _, rfl, _, _, rfl, rfl, (by show (0 : Int) < 3; decide), by show 4 ≤ sizeLine; decide, fun p hp => ?_⟩
            have s3 := same_new hp (.tup [.str "text", .str (lmk "n" i), .int (v / 4 % 256), .int (v / 4 % 3)])
            refine ⟨D, _, _, rfl, rfl, s3 _ _ hD2, hsm, ?_⟩
            refine put _ s3 ?_ fun ⟨a, b⟩ => ⟨_, _, _, _, _, rfl, a, b⟩
            rw [smallIt, if_neg c, if_neg c2, if_pos c3]
            simp only [It.At]
            exact ⟨p, rfl, upd_same⟩
          · rw [int_eq, decide_eq_true_iff] at c3
            refine ⟨_, rfl, _, rfl, lg, _, _, rfl, rfl, l1 "x" (.inr (.inl rfl)), _, rfl, _, _, rfl, rfl, (by show (0 : Int) < 4; decide), by show 6 ≤ sizeLine; decide, fun p1 hp1 => ?_⟩
            have t1 := same_new hp1 (.tup [.str "number", .str (lmk "x" i), .int 1, .str "big", .int 0, .int (v / 4 % 4)])
            have u1 : upd H2 p1 (.tup [.str "number", .str (lmk "x" i), .int 1, .str "big", .int 0, .int (v / 4 % 4)]) p1 = some (.tup [.str "number", .str (lmk "x" i), .int 1, .str "big", .int 0, .int (v / 4 % 4)]) := upd_same
            generalize upd H2 p1 (.tup [.str "number", .str (lmk "x" i), .int 1, .str "big", .int 0, .int (v / 4 % 4)]) = M1 at t1 u1 ⊢
            refine ⟨by show 1 ≤ sizeLine; decide, fun p2 hp2 => ?_⟩
            have t2 := same_new hp2 (.tup [.ref p1])
            have u2 : upd M1 p2 (.tup [.ref p1]) p2 = some (.tup [.ref p1]) := upd_same
            generalize upd M1 p2 (.tup [.ref p1]) = M2 at t2 u2 ⊢
            refine ⟨_, rfl, _, rfl, lg, _, _, rfl, rfl, l1 "y" (.inr (.inr rfl)), by show 3 ≤ sizeLine; decide, fun p3 hp3 => ?_⟩
            have t3 := same_new hp3 (.tup [.str "bytes", .str (lmk "y" i), .int 1])
            have u3 : upd M2 p3 (.tup [.str "bytes", .str (lmk "y" i), .int 1]) p3 = some (.tup [.str "bytes", .str (lmk "y" i), .int 1]) := upd_same
            generalize upd M2 p3 (.tup [.str "bytes", .str (lmk "y" i), .int 1]) = M3 at t3 u3 ⊢
            refine ⟨by show 1 ≤ sizeLine; decide, fun p4 hp4 => ?_⟩
            have t4 := same_new hp4 (.tup [.ref p3])
            have u4 : upd M3 p4 (.tup [.ref p3]) p4 = some (.tup [.ref p3]) := upd_same
            generalize upd M3 p4 (.tup [.ref p3]) = M4 at t4 u4 ⊢
            refine ⟨by show 2 ≤ sizeLine; decide, fun p5 hp5 => ?_⟩
            have t5 := same_new hp5 (.tup [.ref p2, .ref p4])
            have u5 : upd M4 p5 (.tup [.ref p2, .ref p4]) p5 = some (.tup [.ref p2, .ref p4]) := upd_same
            generalize upd M4 p5 (.tup [.ref p2, .ref p4]) = M5 at t5 u5 ⊢
            have T5 := t1.trans (t2.trans (t3.trans (t4.trans t5)))
            refine ⟨_, rfl, .inl ⟨rfl, _, SqL.of (T5 _ _ hD2)⟩, _, rfl, _, rfl, by show 3 ≤ sizeLine; decide, fun p6 hp6 => ?_⟩
            have t6 := same_new hp6 (.tup [.str "either", .str (lmk "n" i), .ref p5])
            have u6 : upd M5 p6 (.tup [.str "either", .str (lmk "n" i), .ref p5]) p6 = some (.tup [.str "either", .str (lmk "n" i), .ref p5]) := upd_same
            generalize upd M5 p6 (.tup [.str "either", .str (lmk "n" i), .ref p5]) = M6 at t6 u6 ⊢
            refine ⟨D, _, _, rfl, rfl, t6 _ _ (T5 _ _ hD2), hsm, ?_⟩
            refine put _ (T5.trans t6) ?_ fun ⟨a, b⟩ => ⟨_, _, _, _, _, rfl, a, b⟩
            rw [smallIt, if_neg c, if_neg c2, if_neg c3]
            simp only [It.At, Blks.AtE, Its.At]
            exact ⟨p6, p5, _, rfl, u6, .inl (t6 _ _ u5), p2, _, _, rfl, .inl (t6 _ _ (t5 _ _ (t4 _ _ (t3 _ _ u2)))), ⟨_, _, rfl, ⟨p1, rfl, t6 _ _ (t5 _ _ (t4 _ _ (t3 _ _ (t2 _ _ u1))))⟩, rfl⟩, p4, _, _, rfl, .inl (t6 _ _ (t5 _ _ u4)), ⟨_, _, rfl, ⟨p3, rfl, t6 _ _ (t5 _ _ (t4 _ _ u3))⟩, rfl⟩, rfl⟩
    · rintro σ H2 ⟨o2, o3, o4, o5, o6, rfl, s2, acc, hD2, hal, pac⟩
      refine ⟨_, rfl, .inl ⟨D, _, rfl, SqL.of hD2, fun t ht => ?_⟩⟩
      have s3 := same_new ht (.tup acc)
      exact q t _ acc _ (s2.trans s3) upd_same (at_of (L2.Paired.mapP pac fun _ _ z => It.At.same s3 z)) (small_shape ⟨by omega, by omega⟩ fun x hx => (hb x hx).1)
end
end Bs

set_option Elab.async false
set_option linter.all false
set_option maxRecDepth 100000
set_option maxHeartbeats 8000000
namespace Bs
open PySem L2
/-! ### the law's new items; names within; edited; valid -/
abbrev sNamesIn : Stmt := top 118
abbrev sLEdited : Stmt := top 119
abbrev sLValid : Stmt := top 120
def GoodNew (H : Hp) (v : V) : Prop := ∃ y : It, y.At true H v ∧ y.pl 1 ∧ y.tame
theorem GoodNew.same {H H' : Hp} (s : Same H H') {v : V} (h : GoodNew H v) : GoodNew H' v := let ⟨y, a, b, c⟩ := h; ⟨y, It.At.same s a, b, c⟩
def spNew : Sp := fun vs H Q _ => ∃ (c : Int) (z : Str), vs = [.int c, .str z] ∧ isName z = true ∧ ∀ v H', Same H H' → GoodNew H' v → Q v H'
/-- names of an item; of a list up to an item -/
theorem names_take {x : Its} {i : Nat} {y : It} (h : x.toL[i]? = some y) : (itsOf (x.toL.take (i + 1))).names = (itsOf (x.toL.take i)).names ++ (y.walk 0).map (·.2.name) := by
  have k : ∀ (l m : List It), (itsOf (l ++ m)).names = (itsOf l).names ++ (itsOf m).names := fun l m => by
    induction l with
    | nil => rfl
    | cons a r ih => rw [List.cons_append, itsOf, names_cons, ih, itsOf, names_cons, List.append_assoc]
  rw [List.take_add_one, h, k]
  simp [itsOf, names_cons, Its.names, Its.walk]
theorem take_allL (x : Its) : itsOf (x.toL.take x.len) = x := by rw [← toL_len, List.take_length, of_toL]
theorem pl_kind {y : It} {k0 : Int} (h : y.pl k0) : ¬ y.kind = "either" := by
  cases y with
  | num => simp only [It.kind]; decide +kernel
  | byt => simp only [It.kind]; decide +kernel
  | txt => simp only [It.kind]; decide +kernel
  | odd k n m => obtain rfl : k = "box" := h; simp only [It.kind]; decide +kernel
  | _ => exact h.elim
/-- items one may find in a bench's shapes, by levels -/
def lvl : Nat → It → Prop
  | 0, y => y.pl 0
  | _ + 1, y => y.bc
def spNamesIn (n : Nat) : Sp := fun vs H Q _ => ∃ (p : Addr) (x : Its) (xs : List V), vs = [.ref p] ∧ H p = some (.tup xs) ∧ x.At true H xs ∧ x.len ≤ 3 ∧ (∀ y ∈ x.toL, lvl n y) ∧ ∀ q H', Same H H' → H q = none → H' q = some (.lst (x.names.map V.str)) → Q (.ref q) H'
theorem lvl_names {n : Nat} {x : Its} (h3 : x.len ≤ 3) (h : ∀ y ∈ x.toL, lvl n y) : x.names.length ≤ 9 := by
  have k : ∀ y ∈ x.toL, y.bc := fun y hy => by
    cases n with
    | zero => exact pl_bc (h y hy)
    | succ n => exact h y hy
  have := (bc_walks (d := 0) k).1
  have e : x.names.length = (x.walk 0).length := by simp [Its.names]
  omega
theorem name_tame {z : Str} (h : isName z = true) : z.length ≤ 1000 := by
  unfold isName at h
  have e : z.length = z.cps.toList.length := by simp [Str.length]
  cases c : z.cps.toList with
  | nil => rw [e, c]; decide
  | cons a t =>
    rw [c, nameOk, Bool.and_eq_true, decide_eq_true_iff] at h
    rw [e, c, List.length_cons]; omega
theorem str_eq0 {a b : Str} : decide (V.str a = V.str b) = decide (a = b) := decide_eq_decide.mpr ⟨V.str.inj, fun h => congrArg _ h⟩
section
variable {P : Program} {w : World} {K : PySem.W.Frag} {mg : Str → Option Value} {base : Heap} {f : Addr} {fd : FuncData}
abbrev nNew : List Str := ["number", "name", "rows"]
theorem scNew : FnScope nNew ["number", "name"] (defScope sNew) := ⟨rfl, rfl, rfl, by decide +kernel, rfl, by decide +kernel, by decide +kernel⟩
theorem ok_new (F : Fun K "_law_new" "_law_new" sNew f fd) (mint : mg "int" = none) : FnOk P w K mg base CX0 1 f fd ["number", "name"] spNew := by
  refine F.ok scNew (fun vs H Q E h => ?_) (fun cdv A outer s H vs Q E hr h => ?_)
  · obtain ⟨c, z, rfl, _⟩ := h
    rfl
  · obtain ⟨c, z, rfl, hz, q⟩ := h
    have hzt := (name_tame hz)
    have n0 : isName "n0" = true := by decide +kernel
    refine ⟨_, (pss_cons (ps_set (i := 2) scNew.nd rfl (.inl rfl) (pe_tup (pa_cons (pe_tup (pa_cons pe_str (pa_cons (pv 1) (pa_cons pe_int (pa_cons pe_str (pa_cons pe_int (pa_cons pe_int pa_nil))))))) (pa_cons (pe_tup (pa_cons pe_str (pa_cons (pv 1) (pa_cons pe_int pa_nil)))) (pa_cons (pe_tup (pa_cons pe_str (pa_cons (pv 1) (pa_cons pe_int (pa_cons pe_int pa_nil))))) (pa_cons (pe_tup (pa_cons pe_str (pa_cons pe_str (pa_cons pe_int pa_nil)))) pa_nil))))))
      (pss_cons (ps_set (i := 2) scNew.nd rfl (.inl rfl) (pe_op op_catT (pv 2) (pe_tup (pa_cons (pe_tup (pa_cons pe_str (pa_cons (pv 1) (pa_cons pe_int (pa_cons pe_str (pa_cons pe_int (pa_cons pe_int pa_nil))))))) (pa_cons (pe_tup (pa_cons pe_str (pa_cons (pv 1) (pa_cons pe_int (pa_cons pe_int pa_nil))))) (pa_cons (pe_tup (pa_cons pe_str (pa_cons (pv 1) (pa_cons pe_int pa_nil)))) (pa_cons (pe_tup (pa_cons pe_str (pa_cons (pv 1) (pa_cons pe_int pa_nil)))) pa_nil)))))))
      (pss_one (ps_ret (pe_ix ix_tup (pv 2) (pe_op op_mod (pe_callTy (r := Bm.rInt1) call_int1 (by rfl) mint (by decide +kernel) (pa_cons (pv 0) pa_nil)) pe_int) (fun _ _ => rfl)))))), ?_⟩
    refine ⟨_, rfl, by show 6 ≤ sizeLine; decide, fun p1 hp1 => ?_⟩
    have t1 := same_new hp1 (.tup [.str "number", .str z, .int 1, .str "big", .int 0, .int 7])
    have u1 : GoodNew (upd H p1 (.tup [.str "number", .str z, .int 1, .str "big", .int 0, .int 7])) (.ref p1) := ⟨.num z 1 "big" 0 7, by simp only [It.At]; exact ⟨_, rfl, upd_same⟩, ⟨hz, rfl, rfl, by decide, by decide, by decide⟩, by simp only [It.tame, It.name]; exact hzt⟩
    generalize upd H p1 (.tup [.str "number", .str z, .int 1, .str "big", .int 0, .int 7]) = M1 at t1 u1 ⊢
    refine ⟨_, rfl, by show 3 ≤ sizeLine; decide, fun p2 hp2 => ?_⟩
    have t2 := same_new hp2 (.tup [.str "bytes", .str z, .int 2])
    have u2 : GoodNew (upd M1 p2 (.tup [.str "bytes", .str z, .int 2])) (.ref p2) := ⟨.byt z (.inl 2), by simp only [It.At]; exact ⟨_, rfl, upd_same⟩, ⟨hz, 2, rfl, by decide⟩, by simp only [It.tame, It.name]; exact ⟨hzt, fun _ e => by cases e⟩⟩
    generalize upd M1 p2 (.tup [.str "bytes", .str z, .int 2]) = M2 at t2 u2 ⊢
    refine ⟨_, rfl, by show 4 ≤ sizeLine; decide, fun p3 hp3 => ?_⟩
    have t3 := same_new hp3 (.tup [.str "text", .str z, .int 0, .int 1])
    have u3 : GoodNew (upd M2 p3 (.tup [.str "text", .str z, .int 0, .int 1])) (.ref p3) := ⟨.txt z 0 1, by simp only [It.At]; exact ⟨_, rfl, upd_same⟩, ⟨hz, by decide, by decide, by decide⟩, by simp only [It.tame, It.name]; exact hzt⟩
    generalize upd M2 p3 (.tup [.str "text", .str z, .int 0, .int 1]) = M3 at t3 u3 ⊢
    refine ⟨by show 3 ≤ sizeLine; decide, fun p4 hp4 => ?_⟩
    have t4 := same_new hp4 (.tup [.str "bytes", .str "n0", .int 1])
    have u4 : GoodNew (upd M3 p4 (.tup [.str "bytes", .str "n0", .int 1])) (.ref p4) := ⟨.byt "n0" (.inl 1), by simp only [It.At]; exact ⟨_, rfl, upd_same⟩, ⟨n0, 1, rfl, by decide⟩, by simp only [It.tame, It.name]; exact ⟨name_tame n0, fun _ e => by cases e⟩⟩
    generalize upd M3 p4 (.tup [.str "bytes", .str "n0", .int 1]) = M4 at t4 u4 ⊢
    refine ⟨by show 4 ≤ sizeLine; decide, fun r1 hr1 => ?_⟩
    have ta := same_new hr1 (.tup [.ref p1, .ref p2, .ref p3, .ref p4])
    have ha : upd M4 r1 (.tup [.ref p1, .ref p2, .ref p3, .ref p4]) r1 = some (.tup [.ref p1, .ref p2, .ref p3, .ref p4]) := upd_same
    generalize upd M4 r1 (.tup [.ref p1, .ref p2, .ref p3, .ref p4]) = Ma at ta ha ⊢
    refine ⟨_, rfl, ?_⟩
    refine ⟨_, rfl, by show 6 ≤ sizeLine; decide, fun p5 hp5 => ?_⟩
    have t5 := same_new hp5 (.tup [.str "number", .str z, .int 1, .str "big", .int 9, .int 3])
    have u5 : GoodNew (upd Ma p5 (.tup [.str "number", .str z, .int 1, .str "big", .int 9, .int 3])) (.ref p5) := ⟨.num z 1 "big" 9 3, by simp only [It.At]; exact ⟨_, rfl, upd_same⟩, ⟨hz, rfl, rfl, by decide, by decide, by decide⟩, by simp only [It.tame, It.name]; exact hzt⟩
    generalize upd Ma p5 (.tup [.str "number", .str z, .int 1, .str "big", .int 9, .int 3]) = M5 at t5 u5 ⊢
    refine ⟨_, rfl, by show 4 ≤ sizeLine; decide, fun p6 hp6 => ?_⟩
    have t6 := same_new hp6 (.tup [.str "text", .str z, .int 300, .int 1])
    have u6 : GoodNew (upd M5 p6 (.tup [.str "text", .str z, .int 300, .int 1])) (.ref p6) := ⟨.txt z 300 1, by simp only [It.At]; exact ⟨_, rfl, upd_same⟩, ⟨hz, by decide, by decide, by decide⟩, by simp only [It.tame, It.name]; exact hzt⟩
    generalize upd M5 p6 (.tup [.str "text", .str z, .int 300, .int 1]) = M6 at t6 u6 ⊢
    refine ⟨_, rfl, by show 3 ≤ sizeLine; decide, fun p7 hp7 => ?_⟩
    have t7 := same_new hp7 (.tup [.str "bytes", .str z, .int 65])
    have u7 : GoodNew (upd M6 p7 (.tup [.str "bytes", .str z, .int 65])) (.ref p7) := ⟨.byt z (.inl 65), by simp only [It.At]; exact ⟨_, rfl, upd_same⟩, ⟨hz, 65, rfl, by decide⟩, by simp only [It.tame, It.name]; exact ⟨hzt, fun _ e => by cases e⟩⟩
    generalize upd M6 p7 (.tup [.str "bytes", .str z, .int 65]) = M7 at t7 u7 ⊢
    refine ⟨_, rfl, by show 3 ≤ sizeLine; decide, fun p8 hp8 => ?_⟩
    have t8 := same_new hp8 (.tup [.str "box", .str z, .int 1])
    have u8 : GoodNew (upd M7 p8 (.tup [.str "box", .str z, .int 1])) (.ref p8) := ⟨.odd "box" z 3, by simp only [It.At]; exact ⟨_, [.int 1], rfl, upd_same, rfl, .inl (by decide +kernel)⟩, rfl, by simp only [It.tame, It.name]; exact hzt⟩
    generalize upd M7 p8 (.tup [.str "box", .str z, .int 1]) = M8 at t8 u8 ⊢
    refine ⟨by show 4 ≤ sizeLine; decide, fun r2 hr2 => ?_⟩
    have tb := same_new hr2 (.tup [.ref p5, .ref p6, .ref p7, .ref p8])
    have hb : upd M8 r2 (.tup [.ref p5, .ref p6, .ref p7, .ref p8]) r2 = some (.tup [.ref p5, .ref p6, .ref p7, .ref p8]) := upd_same
    generalize upd M8 r2 (.tup [.ref p5, .ref p6, .ref p7, .ref p8]) = Mb at tb hb ⊢
    have T8 := t8.trans tb
    have T7 := t7.trans T8
    have T6 := t6.trans T7
    have T5 := t5.trans T6
    have Ta := ta.trans T5
    have T4 := t4.trans Ta
    have T3 := t3.trans T4
    have T2 := t2.trans T3
    have T1 := t1.trans T2
    refine ⟨r1, r2, _, _, rfl, rfl, SqT.of (T5 _ _ ha), SqT.of hb, by simp, by show 4 + 4 ≤ sizeLine; decide, fun e => (by cases e), fun _ r3 hr3 => ?_⟩
    have tc := same_new hr3 (.tup ([.ref p1, .ref p2, .ref p3, .ref p4] ++ [.ref p5, .ref p6, .ref p7, .ref p8]))
    have hc : upd Mb r3 (.tup ([.ref p1, .ref p2, .ref p3, .ref p4] ++ [.ref p5, .ref p6, .ref p7, .ref p8])) r3 = some (.tup ([.ref p1, .ref p2, .ref p3, .ref p4] ++ [.ref p5, .ref p6, .ref p7, .ref p8])) := upd_same
    generalize upd Mb r3 (.tup ([.ref p1, .ref p2, .ref p3, .ref p4] ++ [.ref p5, .ref p6, .ref p7, .ref p8])) = Mc at tc hc ⊢
    have good : ∀ j : Nat, j < 8 → ∃ v, ([V.ref p1, .ref p2, .ref p3, .ref p4] ++ [.ref p5, .ref p6, .ref p7, .ref p8])[j]? = some v ∧ GoodNew Mc v := fun j hj => by
      match j, hj with
      | 0, _ => exact ⟨_, rfl, u1.same (T2.trans tc)⟩
      | 1, _ => exact ⟨_, rfl, u2.same (T3.trans tc)⟩
      | 2, _ => exact ⟨_, rfl, u3.same (T4.trans tc)⟩
      | 3, _ => exact ⟨_, rfl, u4.same (Ta.trans tc)⟩
      | 4, _ => exact ⟨_, rfl, u5.same (T6.trans tc)⟩
      | 5, _ => exact ⟨_, rfl, u6.same (T7.trans tc)⟩
      | 6, _ => exact ⟨_, rfl, u7.same (T8.trans tc)⟩
      | 7, _ => exact ⟨_, rfl, u8.same (tb.trans tc)⟩
    obtain ⟨v, hv, gv⟩ := good (c % 8).toNat (by omega)
    have ec : c % 8 = (((c % 8).toNat : Nat) : Int) := by omega
    refine ⟨_, rfl, _, rfl, .inl ⟨_, rfl, _, _, rfl, rfl, (by show (0 : Int) < 8; decide), r3, _, _, v, rfl, rfl, SqT.of hc, ?_, q v Mc (T1.trans tc) gv⟩⟩
    rw [ec]
    exact atI_nat hv
abbrev nNamesIn : List Str := ["parts", "names", "item", "block"]
theorem scNamesIn : FnScope nNamesIn ["parts"] (defScope sNamesIn) := ⟨rfl, rfl, rfl, by decide +kernel, rfl, by decide +kernel, by decide +kernel⟩
theorem ok_namesin {n : Nat} (F : Fun K "_law_names_in" "_law_names_in" sNamesIn f fd) (gS : Cal P w K mg base CX0 n "_law_names_in" ["parts"] (spSub spNamesIn n)) : FnOk P w K mg base CX0 (n + 1) f fd ["parts"] (spNamesIn n) := by
  refine F.ok scNamesIn (fun vs H Q E h => ?_) (fun cdv A outer s H vs Q E hr h => ?_)
  · obtain ⟨p, x, xs, rfl, _⟩ := h
    rfl
  · obtain ⟨p, x, xs, rfl, hp, hx, h3, hl, q⟩ := h
    refine ⟨_, (pss_cons (ps_set (i := 1) scNamesIn.nd rfl (.inl rfl) (pe_lst pa_nil))
      (pss_cons (ps_for PassesOwn.never rfl (pi_tup (pv 0)) (pg_name (i := 2) scNamesIn.nd rfl (.inl rfl))
        (pss_cons (ps_expr (pe_bm PySem.F.plainAttrs_list PySem.F.slot_list_append PySem.F.type_list_append mt_append (pv 1) (pa_cons (pe_ix ix_tup (pv 2) pe_int (fun _ _ => rfl)) pa_nil)))
      (pss_one (ps_if (pt_cmpR op_eq (pe_ix ix_tup (pv 2) pe_int (fun _ _ => rfl)) pe_str (nomark _)) (pss_one (ps_for PassesOwn.never rfl (pi_tup (pe_ix ix_tup (pv 2) pe_int (fun _ _ => rfl))) (pg_name (i := 3) scNamesIn.nd rfl (.inl rfl))
        (pss_one (ps_set (i := 1) scNamesIn.nd rfl (.inl rfl) (pe_op op_cat (pv 1) (pe_cal gS hr pass0 (pa_cons (pv 3) pa_nil))))))) pss_nil))))
      (pss_one (ps_ret (pv 1))))), ?_⟩
    have pr := of_at hx
    have ln := lvl_names h3 hl
    refine ⟨by show 0 ≤ sizeLine; decide, fun D0 hD0 => ?_⟩
    have s0 := same_new hD0 (.lst [])
    refine ⟨_, rfl, p, rfl, ⟨_, SqT.of (s0 _ _ hp)⟩, for_it (walk_tup (K := K) (a := p) (xs := xs)) (fun i σ H' => ∃ (l : Addr) (o2 o3 : Option V), σ = [some (.ref p), some (.ref l), o2, o3] ∧ Same H H' ∧ H l = none ∧ H' l = some (.lst ((itsOf (x.toL.take i)).names.map V.str))) ⟨D0, _, _, rfl, s0, hD0, upd_same⟩ (fun _ _ _ _ h => by obtain ⟨_, _, _, _, s, _⟩ := h; exact SqT.of (s _ _ hp)) ?_ ?_⟩
    · rintro i v σ H2' H2 hi ⟨l, o2, o3, rfl, s2, nl, hl2⟩ ⟨e3, hv⟩
      subst e3
      obtain ⟨y, hy, ay⟩ := pget pr hv
      have ay := It.At.same s2 ay
      have ym := List.mem_of_getElem? hy
      have nt := names_take hy
      obtain ⟨pv, rest, rfl, hpv, _⟩ := At_head ay
      have pl : pv ≠ l := fun z => by rw [z, hl2] at hpv; cases hpv
      have lnt : (itsOf (x.toL.take (i + 1))).names.length ≤ 9 := by
        have k : (itsOf x.toL).names.length ≤ 9 := by rw [of_toL]; exact ln
        have e : x.toL = x.toL.take (i + 1) ++ x.toL.drop (i + 1) := (List.take_append_drop _ _).symm
        have a : ∀ (l m : List It), (itsOf (l ++ m)).names = (itsOf l).names ++ (itsOf m).names := fun l m => by
          induction l with
          | nil => rfl
          | cons a r ih => rw [List.cons_append, itsOf, names_cons, ih, itsOf, names_cons, List.append_assoc]
        rw [e, a, List.length_append] at k
        omega
      generalize (itsOf (x.toL.take i)).names = N at hl2 nt
      rw [nt, List.length_append] at lnt
      refine ⟨_, rfl, .inl ⟨rfl, _, SqL.of hl2⟩, _, rfl, pv, _, 1, _, rfl, rfl, SqT.of hpv, atI_nat (j := 1) rfl, l, _, _, rfl, rfl, hl2, small1000 (by rw [List.length_map]; omega), ?_⟩
      rw [show N.map V.str ++ [V.str y.name] = (N ++ [y.name]).map V.str by simp]
      have s3 : Same H (upd H2 l (.lst ((N ++ [y.name]).map V.str))) := same_set s2 nl
      have hl3 : upd H2 l (.lst ((N ++ [y.name]).map V.str)) l = some (.lst ((N ++ [y.name]).map V.str)) := upd_same
      have kp : Kp true H2 (upd H2 l (.lst ((N ++ [y.name]).map V.str))) := ⟨fun b xs e => by rw [upd_ne (fun z => by rw [z, hl2] at e; cases e)]; exact e, fun z => by cases z⟩
      have ay := It.At.kp kp ay
      have hpv := kp.t _ _ hpv
      generalize upd H2 l (.lst ((N ++ [y.name]).map V.str)) = H3 at s3 hl3 ay hpv ⊢
      refine ⟨_, rfl, pv, _, 0, _, rfl, rfl, SqT.of hpv, atI_nat (j := 0) rfl, rfl, _, rfl, ?_⟩
      have plain : ((y.walk 0).map (·.2.name)) = [y.name] → ∃ l' a2 a3, [some (V.ref p), some (V.ref l), some (V.ref pv), o3] = [some (V.ref p), some (V.ref l'), a2, a3] ∧ Same H H3 ∧ H l' = none ∧ H3 l' = some (.lst ((itsOf (x.toL.take (i + 1))).names.map V.str)) := fun e => ⟨l, _, _, rfl, s3, nl, by rw [nt, e]; exact hl3⟩
      refine ite2 (fun c => ?_) (fun c => ?_)
      · rw [str_eq0, decide_eq_true_iff] at c
        cases n with
        | zero => exact absurd c (pl_kind (hl y ym))
        | succ n =>
          rcases bc_walk (hl y ym) with ⟨nm, v0, b0, u0, b1, rfl, hw, hnm, l0, l1, p0, p1⟩ | ⟨h, _⟩
          · simp only [It.At, Blks.AtE] at ay
            obtain ⟨pp, q0, xq, e1, hpp, hq, qa, xa, l1', rfl, hqa, aa, qb, xb, l2', rfl, hqb, ab, rfl⟩ := ay
            obtain rfl := V.ref.inj e1
            rw [hpp] at hpv
            have hpv := Option.some.inj hpv
            injection hpv with hpv
            injection hpv with _ hpv
            injection hpv with _ hpv
            subst hpv
            have hq := hq.resolve_right (fun z => by cases z.1)
            have hqa := hqa.resolve_right (fun z => by cases z.1)
            have hqb := hqb.resolve_right (fun z => by cases z.1)
            have wl : ((It.eit nm (.cons v0 b0 (.cons u0 b1 .nil))).walk 0).map (·.2.name) = nm :: (b0.names ++ b1.names) := by
              rw [hw 0, List.map_cons, names_plain p0, names_plain p1, List.map_map, List.map_append]
              rfl
            rw [wl, List.length_cons, List.length_append] at lnt
            refine ⟨_, rfl, pv, _, 2, _, rfl, rfl, SqT.of hpp, atI_nat (j := 2) rfl, q0, rfl, ⟨_, SqT.of hq⟩, for_it (walk_tup (K := K) (a := q0) (xs := [V.ref qa, V.ref qb])) (fun j σ H' => ∃ (l' : Addr) (o3 : Option V), σ = [some (.ref p), some (.ref l'), some (.ref pv), o3] ∧ Same H H' ∧ Same H3 H' ∧ H l' = none ∧ H' l' = some (.lst ((N ++ nm :: (([b0, b1].take j).map Its.names).flatten).map V.str))) ⟨l, _, rfl, s3, Same.refl _, nl, hl3⟩ (fun _ _ _ _ h => by obtain ⟨_, _, _, _, s, _⟩ := h; exact SqT.of (s _ _ hq)) ?_ ?_⟩
            · rintro j w σ H5' H5 hj ⟨l', o3, rfl, s5, s35, nl', hl5⟩ ⟨e5, hw5⟩
              subst e5
              obtain ⟨b, qq, xx, rfl, hb, hqq, hat, hb1, hbp, hbn⟩ : ∃ b qq xx, w = .ref qq ∧ [b0, b1][j]? = some b ∧ H5 qq = some (.tup xx) ∧ b.At true H5 xx ∧ b.len ≤ 1 ∧ (∀ z ∈ b.toL, z.pl 1) ∧ b.names.length ≤ 9 := by
                match j, hj, hw5 with
                | 0, _, hw5 => simp at hw5; exact ⟨b0, qa, xa, hw5.symm, rfl, s35 _ _ hqa, Its.At.same s35 aa, l0, p0, by omega⟩
                | 1, _, hw5 => simp at hw5; exact ⟨b1, qb, xb, hw5.symm, rfl, s35 _ _ hqb, Its.At.same s35 ab, l1, p1, by omega⟩
              refine ⟨_, rfl, _, rfl, qq, b, xx, rfl, hqq, hat, by omega, fun z hz => ?_, fun r H6 s6 nr hr6 => ?_⟩
              · cases n with
                | zero => exact pl_mono (hbp z hz)
                | succ n => exact pl_bc (pl_mono (hbp z hz))
              · have fl : (([b0, b1].take j).map Its.names).flatten.length ≤ 9 := by
                  match j, hj with
                  | 0, _ => simp
                  | 1, _ => simp; omega
                refine ⟨l', r, _, _, rfl, rfl, s6 _ _ hl5, hr6, le_line (by simp only [List.length_map, List.length_append, List.length_cons]; omega), fun p2 hp2 => ?_⟩
                have s7 := same_new hp2 (.lst ((N ++ nm :: (([b0, b1].take j).map Its.names).flatten).map V.str ++ b.names.map V.str))
                refine ⟨p2, _, rfl, s5.trans (s6.trans s7), s35.trans (s6.trans s7), (s5.trans s6).free hp2, ?_⟩
                rw [upd_same, List.take_add_one, hb]
                simp
            · rintro σ H5 ⟨l', o3, rfl, s5, s35, nl', hl5⟩
              refine ⟨l', _, _, rfl, s5, nl', ?_⟩
              rw [hl5, nt, wl]
              simp
          · exact absurd c (pl_kind h)
      · rw [str_eq0, decide_eq_true_iff] at c
        refine plain ?_
        have pk : ∀ {k0 : Int}, y.pl k0 → (y.walk 0).map (·.2.name) = [y.name] := fun h => by rw [pl_walk h]; rfl
        cases n with
        | zero => exact pk (hl y ym)
        | succ n =>
          rcases bc_walk (hl y ym) with ⟨nm, v0, b0, u0, b1, rfl, _⟩ | ⟨h, _⟩
          · exact absurd rfl c
          · exact pk h
    · rintro σ H2 ⟨l, o2, o3, rfl, s2, nl, hl2⟩
      rw [plen pr, toL_len, take_allL] at hl2
      exact ⟨_, rfl, q l H2 s2 nl hl2⟩
end
end Bs

set_option Elab.async false
set_option linter.all false
set_option maxRecDepth 100000
set_option maxHeartbeats 8000000
namespace Bs
open PySem L2
/-! ### the law's edited -/
def gR (z : Str) (ys : Its) (y : It) : List It := if y.name = z then ys.toL else [y.repl z ys]
theorem repl_fm (z : Str) (ys : Its) : ∀ x : Its, (x.repl z ys).toL = x.toL.flatMap (gR z ys)
  | .nil => by simp [Its.repl, Its.toL]
  | .cons y r => by
    simp only [Its.repl, Its.toL, List.flatMap_cons, gR]
    split
    · rw [app_toL, repl_fm z ys r]
    · simp only [Its.toL]; rw [repl_fm z ys r]; rfl
def spLEdited (n : Nat) : Sp := fun vs H Q _ => ∃ (p lo : Addr) (x ys : Its) (xs os : List V) (z : Str), vs = [.ref p, .str z, .ref lo] ∧ H p = some (.tup xs) ∧ x.At true H xs ∧ x.len ≤ 3 ∧ (∀ y ∈ x.toL, lvl n y) ∧ H lo = some (.lst os) ∧ ys.At true H os ∧ ys.len ≤ 1 ∧
  ∀ q zs H', Same H H' → H' q = some (.tup zs) → (x.repl z ys).At true H' zs → Q (.ref q) H'
section
variable {P : Program} {w : World} {K : PySem.W.Frag} {mg : Str → Option Value} {base : Heap} {f : Addr} {fd : FuncData}
abbrev nLEdited : List Str := ["parts", "name", "others", "found", "item", "blocks", "block"]
theorem scLEdited : FnScope nLEdited ["parts", "name", "others"] (defScope sLEdited) := ⟨rfl, rfl, rfl, by decide +kernel, rfl, by decide +kernel, by decide +kernel⟩
theorem ok_ledited {n : Nat} (F : Fun K "_law_edited" "_law_edited" sLEdited f fd) (gS : Cal P w K mg base CX0 n "_law_edited" ["parts", "name", "others"] (spSub spLEdited n)) (mt : mg "tuple" = none) : FnOk P w K mg base CX0 (n + 1) f fd ["parts", "name", "others"] (spLEdited n) := by
  refine F.ok scLEdited (fun vs H Q E h => ?_) (fun cdv A outer s H vs Q E hr h => ?_)
  · obtain ⟨p, lo, x, ys, xs, os, z, rfl, _⟩ := h
    rfl
  · obtain ⟨p, lo, x, ys, xs, os, z, rfl, hp, hx, h3, hl, hlo, hys, hy1, q⟩ := h
    refine ⟨_, (pss_cons (ps_set (i := 3) scLEdited.nd rfl (.inl rfl) (pe_lst pa_nil))
      (pss_cons (ps_for PassesOwn.never rfl (pi_tup (pv 0)) (pg_name (i := 4) scLEdited.nd rfl (.inl rfl))
        (pss_one (ps_if (pt_cmpR op_eq (pe_ix ix_tup (pv 4) pe_int (fun _ _ => rfl)) (pv 1) (nomark _)) (pss_one (ps_set (i := 3) scLEdited.nd rfl (.inl rfl) (pe_op op_cat (pv 3) (pv 2)))) (pss_one (ps_if (pt_cmpR op_eq (pe_ix ix_tup (pv 4) pe_int (fun _ _ => rfl)) pe_str (nomark _)) (pss_cons (ps_set (i := 5) scLEdited.nd rfl (.inl rfl) (pe_tupleOf (by rfl) mt (pe_lc (own := [("block", 6)]) (g := gName 6) (tt := tYes) rfl scLEdited.nd (pi_tup (pe_ix ix_tup (pv 4) pe_int (fun _ _ => rfl))) (blkOk_by (own := [("block", 6)]) (N := nLEdited) (sc := defScope sLEdited) (by decide +kernel)) (fun _ _ _ _ _ => pg_name (i := 6) scLEdited.nd rfl (Or.inl rfl)) (fun _ _ _ _ _ => pts_nil) (fun _ _ _ _ _ => (pe_cal gS hr pass0 (pa_cons (pv 6) (pa_cons (pv 1) (pa_cons (pv 2) pa_nil))))))))
      (pss_one (ps_expr (pe_bm PySem.F.plainAttrs_list PySem.F.slot_list_append PySem.F.type_list_append mt_append (pv 3) (pa_cons (pe_tup (pa_cons pe_str (pa_cons (pe_ix ix_tup (pv 4) pe_int (fun _ _ => rfl)) (pa_cons (pv 5) pa_nil)))) pa_nil))))) (pss_one (ps_expr (pe_bm PySem.F.plainAttrs_list PySem.F.slot_list_append PySem.F.type_list_append mt_append (pv 3) (pa_cons (pv 4) pa_nil)))))))))
      (pss_one (ps_ret (pe_tupleOf (by rfl) mt (pv 3)))))), ?_⟩
    have pr := of_at hx
    have pys := of_at hys
    refine ⟨by show 0 ≤ sizeLine; decide, fun D0 hD0 => ?_⟩
    have s0 := same_new hD0 (.lst [])
    have lg : ∀ l : List It, (l.flatMap (gR z ys)).length ≤ l.length := fun l => by
      induction l with
      | nil => simp
      | cons a r ih =>
        rw [List.flatMap_cons, List.length_append, List.length_cons]
        have : (gR z ys a).length ≤ 1 := by
          unfold gR
          split
          · rw [toL_len]; exact hy1
          · simp
        omega
    refine ⟨_, rfl, p, rfl, ⟨_, SqT.of (s0 _ _ hp)⟩, for_it (walk_tup (K := K) (a := p) (xs := xs)) (fun i σ H' => ∃ (l : Addr) (o2 o3 o4 : Option V) (acc : List V), σ = [some (.ref p), some (.str z), some (.ref lo), some (.ref l), o2, o3, o4] ∧ Same H H' ∧ H l = none ∧ H' l = some (.lst acc) ∧ Paired (fun v y => It.At true H' y v) acc ((x.toL.take i).flatMap (gR z ys))) ⟨D0, _, _, _, [], rfl, s0, hD0, upd_same, .nil⟩ (fun _ _ _ _ h => by obtain ⟨_, _, _, _, _, _, s, _⟩ := h; exact SqT.of (s _ _ hp)) ?_ ?_⟩
    · rintro i v σ H2' H2 hi ⟨l, o2, o3, o4, acc, rfl, s2, nl, hl2, pac⟩ ⟨e3, hv⟩
      subst e3
      obtain ⟨y, hy, ay⟩ := pget pr hv
      have ay := It.At.same s2 ay
      have ym := List.mem_of_getElem? hy
      obtain ⟨pv, rest, rfl, hpv, _⟩ := At_head ay
      have fm : (x.toL.take (i + 1)).flatMap (gR z ys) = (x.toL.take i).flatMap (gR z ys) ++ gR z ys y := by rw [List.take_add_one, hy]; simp
      have lac : acc.length ≤ 3 := by
        rw [plen pac]
        refine Nat.le_trans (lg _) ?_
        rw [List.length_take, toL_len]; omega
      refine ⟨_, rfl, pv, _, 1, _, rfl, rfl, SqT.of hpv, atI_nat (j := 1) rfl, _, rfl, rfl, _, rfl, ?_⟩
      refine ite2 (fun c => ?_) (fun c => ?_)
      · rw [str_eq0, decide_eq_true_iff] at c
        refine ⟨_, rfl, _, rfl, l, lo, _, _, rfl, rfl, hl2, s2 _ _ hlo, le_line (by rw [plen pys, toL_len]; omega), fun p2 hp2 => ?_⟩
        have s4 := same_new hp2 (.lst (acc ++ os))
        refine ⟨p2, _, _, _, _, rfl, s2.trans s4, s2.free hp2, upd_same, ?_⟩
        rw [fm, gR, if_pos c]
        exact papp (L2.Paired.mapP pac fun _ _ z => It.At.same s4 z) (L2.Paired.mapP pys fun _ _ z => It.At.same (s2.trans s4) z)
      · rw [str_eq0, decide_eq_true_iff] at c
        refine ⟨_, rfl, pv, _, 0, _, rfl, rfl, SqT.of hpv, atI_nat (j := 0) rfl, rfl, _, rfl, ?_⟩
        -- an item is put at the end
        have put : ∀ {H3 : Hp} {vy : V} {Z : Prop}, Same H2 H3 → (y.repl z ys).At true H3 vy → ((Same H (upd H3 l (.lst (acc ++ [vy]))) ∧ Paired (fun v y => It.At true (upd H3 l (.lst (acc ++ [vy]))) y v) (acc ++ [vy]) ((x.toL.take (i + 1)).flatMap (gR z ys))) → Z) → Z := fun {H3 vy Z} s3 hy' k => by
          have kp : Kp true H3 (upd H3 l (.lst (acc ++ [vy]))) := ⟨fun b xs e => by rw [upd_ne (fun z => by rw [z, s3 _ _ hl2] at e; cases e)]; exact e, fun z => by cases z⟩
          refine k ⟨same_set (s2.trans s3) nl, ?_⟩
          rw [fm, gR, if_neg c]
          exact papp (L2.Paired.mapP pac fun _ _ z => It.At.kp kp (It.At.same s3 z)) (.cons (It.At.kp kp hy') .nil)
        refine ite2 (fun c2 => ?_) (fun c2 => ?_)
        · rw [str_eq0, decide_eq_true_iff] at c2
          cases n with
          | zero => exact absurd c2 (pl_kind (hl y ym))
          | succ n =>
            rcases bc_walk (hl y ym) with ⟨nm, v0, b0, u0, b1, rfl, hw, hnm, l0, l1, p0, p1⟩ | ⟨h, _⟩
            · simp only [It.At, Blks.AtE] at ay
              obtain ⟨pp, q0, xq, e1, hpp, hq, qa, xa, l1', rfl, hqa, aa, qb, xb, l2', rfl, hqb, ab, rfl⟩ := ay
              obtain rfl := V.ref.inj e1
              have hq := hq.resolve_right (fun z => by cases z.1)
              have hqa := hqa.resolve_right (fun z => by cases z.1)
              have hqb := hqb.resolve_right (fun z => by cases z.1)
              refine ⟨_, rfl, pv, _, 2, _, rfl, rfl, SqT.of hpp, atI_nat (j := 2) rfl, q0, rfl, ⟨_, SqT.of hq⟩, fun D hD => lc_it (walk_tup (K := K) (a := q0) (xs := [V.ref qa, V.ref qb])) (fun j H' => Same H2 H' ∧ ∃ bs : List V, H' D = some (.lst bs) ∧ Paired (fun v b => ∃ r zs, v = V.ref r ∧ H' r = some (.tup zs) ∧ Its.At true H' b zs) bs (([b0, b1].take j).map fun b => b.repl z ys)) ⟨same_new hD _, [], upd_same, .nil⟩ (fun _ _ _ h => SqT.of (h.1 _ _ hq)) ?_ ?_⟩
              · rintro j w H5' H5 hj ⟨s5, bs, hbs, pbs⟩ ⟨e5, hw5⟩
                subst e5
                obtain ⟨b, qq, xx, rfl, hb, hqq, hat, hb1, hbp⟩ : ∃ b qq xx, w = .ref qq ∧ [b0, b1][j]? = some b ∧ H5 qq = some (.tup xx) ∧ b.At true H5 xx ∧ b.len ≤ 1 ∧ ∀ z ∈ b.toL, z.pl 1 := by
                  match j, hj, hw5 with
                  | 0, _, hw5 => simp at hw5; exact ⟨b0, qa, xa, hw5.symm, rfl, s5 _ _ hqa, Its.At.same s5 aa, l0, p0⟩
                  | 1, _, hw5 => simp at hw5; exact ⟨b1, qb, xb, hw5.symm, rfl, s5 _ _ hqb, Its.At.same s5 ab, l1, p1⟩
                have S5 := s2.trans s5
                refine ⟨rfl, yes_go ?_⟩
                refine ⟨_, rfl, _, rfl, _, rfl, qq, lo, b, ys, xx, os, z, rfl, hqq, hat, by omega, fun z' hz => ?_, S5 _ _ hlo, Its.At.same S5 hys, hy1, fun r zs H6 s6 hr6 har => ?_⟩
                · cases n with
                  | zero => exact pl_mono (hbp z' hz)
                  | succ n => exact pl_bc (pl_mono (hbp z' hz))
                · have lb : bs.length ≤ 1 := by
                    rw [plen pbs]
                    match j, hj with
                    | 0, _ => simp
                    | 1, _ => simp
                  have hbs6 := s6 _ _ hbs
                  refine ⟨bs, hbs6, small1000 (by omega), same_set (s5.trans s6) hD, bs ++ [.ref r], upd_same, ?_⟩
                  have kp : Kp true H6 (upd H6 D (.lst (bs ++ [.ref r]))) := ⟨fun b xs e => by rw [upd_ne (fun z => by rw [z, hbs6] at e; cases e)]; exact e, fun z => by cases z⟩
                  rw [List.take_add_one, hb, List.map_append]
                  exact papp (L2.Paired.mapP pbs fun _ _ ⟨r', zs', e1, e2, e3⟩ => ⟨r', zs', e1, kp.t _ _ (s6 _ _ e2), Its.At.kp kp (Its.At.same s6 e3)⟩) (.cons ⟨r, zs, rfl, kp.t _ _ hr6, Its.At.kp kp har⟩ .nil)
              · rintro H5 ⟨s5, bs, hbs, pbs⟩
                refine .inl ⟨D, _, rfl, SqL.of hbs, fun t ht => ?_⟩
                have s6 := same_new ht (.tup bs)
                have h6 : upd H5 t (.tup bs) t = some (.tup bs) := upd_same
                have pbs := L2.Paired.mapP pbs (G := fun v b => ∃ r zs, v = V.ref r ∧ upd H5 t (.tup bs) r = some (.tup zs) ∧ Its.At true (upd H5 t (.tup bs)) b zs) fun _ _ ⟨r', zs', e1, e2, e3⟩ => ⟨r', zs', e1, s6 _ _ e2, Its.At.same s6 e3⟩
                have S6 := s5.trans s6
                generalize upd H5 t (.tup bs) = H6 at S6 h6 pbs ⊢
                refine ⟨_, rfl, .inl ⟨rfl, _, SqL.of (S6 _ _ hl2)⟩, _, rfl, pv, _, 1, _, rfl, rfl, SqT.of (S6 _ _ hpp), atI_nat (j := 1) rfl, _, rfl, by show 3 ≤ sizeLine; decide, fun t2 ht2 => ?_⟩
                have s7 := same_new ht2 (.tup [.str "either", .str nm, .ref t])
                have h7 : upd H6 t2 (.tup [.str "either", .str nm, .ref t]) t2 = some (.tup [.str "either", .str nm, .ref t]) := upd_same
                generalize upd H6 t2 (.tup [.str "either", .str nm, .ref t]) = H7 at s7 h7 ⊢
                have S7 := S6.trans s7
                refine ⟨l, _, _, rfl, rfl, S7 _ _ hl2, small1000 (by omega), ?_⟩
                refine put S7 ?_ fun ⟨a, b⟩ => ⟨l, _, _, _, _, rfl, a, nl, upd_same, b⟩
                cases pbs with
                | cons a1 pbs =>
                  cases pbs with
                  | cons a2 pbs =>
                    cases pbs
                    obtain ⟨ra, za, rfl, ha1, ha2⟩ := a1
                    obtain ⟨rb, zb, rfl, hb1, hb2⟩ := a2
                    simp only [It.repl, Blks.repl, It.At, Blks.AtE]
                    exact ⟨t2, t, _, rfl, h7, .inl (s7 _ _ h6), ra, za, _, rfl, .inl (s7 _ _ ha1), Its.At.same s7 ha2, rb, zb, _, rfl, .inl (s7 _ _ hb1), Its.At.same s7 hb2, rfl⟩
            · exact absurd c2 (pl_kind h)
        · rw [str_eq0, decide_eq_true_iff] at c2
          have er : y.repl z ys = y := by
            cases n with
            | zero => exact pl_repl (hl y ym)
            | succ n =>
              rcases bc_walk (hl y ym) with ⟨nm, v0, b0, u0, b1, rfl, _⟩ | ⟨h, _⟩
              · exact absurd rfl c2
              · exact pl_repl h
          refine ⟨_, rfl, .inl ⟨rfl, _, SqL.of hl2⟩, _, rfl, l, _, _, rfl, rfl, hl2, small1000 (by omega), ?_⟩
          exact put (Same.refl _) (by rw [er]; exact ay) fun ⟨a, b⟩ => ⟨l, _, _, _, _, rfl, a, nl, upd_same, b⟩
    · rintro σ H2 ⟨l, o2, o3, o4, acc, rfl, s2, nl, hl2, pac⟩
      rw [plen pr, List.take_length, ← repl_fm] at pac
      refine ⟨_, rfl, .inl ⟨l, _, rfl, SqL.of hl2, fun t ht => ?_⟩⟩
      have s3 := same_new ht (.tup acc)
      have k := at_of (L2.Paired.mapP pac fun _ _ z => It.At.same s3 z)
      rw [of_toL] at k
      exact q t acc _ (s2.trans s3) upd_same k
end
end Bs

set_option Elab.async false
set_option linter.all false
set_option maxRecDepth 100000
set_option maxHeartbeats 8000000
namespace Bs
open PySem L2
/-! ### the law's valid -/
def spLValid (n : Nat) : Sp := fun vs H Q _ => ∃ (p : Addr) (x : Its) (xs : List V), vs = [.ref p] ∧ H p = some (.tup xs) ∧ x.At true H xs ∧ x.len ≤ 3 ∧ (∀ y ∈ x.toL, lvl n y) ∧ ∀ H', Same H H' → Q (.bl (lv x)) H'
theorem nodup_snoc {l : List Str} {z : Str} : (l ++ [z]).Nodup ↔ l.Nodup ∧ z ∉ l := by
  rw [List.nodup_append]
  constructor
  · rintro ⟨a, _, c⟩
    exact ⟨a, fun h => c z h z (by simp) rfl⟩
  · rintro ⟨a, b⟩
    exact ⟨a, by simp, fun x hx y hy e => b (by rw [List.mem_singleton.mp hy] at e; rw [← e]; exact hx)⟩
theorem lvI_pl {y : It} {k0 : Int} (h : y.pl k0) : lvI y = lvP y := by cases y <;> first | rfl | exact h.elim
theorem lv_pl {x : Its} (h : ∀ y ∈ x.toL, y.pl 1) : lv x = (decide x.names.Nodup && x.toL.all lvP) := by
  unfold lv
  congr 1
  rw [Bool.eq_iff_iff, List.all_eq_true, List.all_eq_true]
  exact ⟨fun a y hy => by rw [← lvI_pl (h y hy)]; exact a y hy, fun a y hy => by rw [lvI_pl (h y hy)]; exact a y hy⟩
theorem lv_false {x : Its} {y : It} (hy : y ∈ x.toL) (h : lvI y = false) : lv x = false := by
  unfold lv
  have : x.toL.all lvI = false := by rw [List.all_eq_false]; exact ⟨y, hy, by rw [h]; decide⟩
  rw [this, Bool.and_false]
def okKinds : List V := [.str "number", .str "bytes", .str "text", .str "either"]
theorem iX {X Y : Prop} {a b : Int} (h : ¬ a > b) (y : Y) : if decide (a > b) = true then X else Y := by
  rw [if_neg (by simpa using h)]; exact y
theorem iY {X Y : Prop} {a b : Int} (h : a > b) (x : X) : if decide (a > b) = true then X else Y := by
  rw [if_pos (decide_eq_true h)]; exact x
section
variable {P : Program} {w : World} {K : PySem.W.Frag} {mg : Str → Option Value} {base : Heap} {f : Addr} {fd : FuncData}
abbrev nLValid : List Str := ["parts", "names", "k", "item", "sizes", "block"]
theorem scLValid : FnScope nLValid ["parts"] (defScope sLValid) := ⟨rfl, rfl, rfl, by decide +kernel, rfl, by decide +kernel, by decide +kernel⟩
theorem ok_lvalid {n k : Nat} (hk : n + 1 ≤ k) (F : Fun K "_law_valid" "_law_valid" sLValid f fd) (gS : Cal P w K mg base CX0 k "_law_valid" ["parts"] (spSub spLValid n)) (gN : Cal P w K mg base CX0 (n + 1) "_law_names_in" ["parts"] (spNamesIn n)) (mr : mg "range" = none) (ml : mg "len" = none) : FnOk P w K mg base CX0 (k + 1) f fd ["parts"] (spLValid n) := by
  refine F.ok scLValid (fun vs H Q E h => ?_) (fun cdv A outer s H vs Q E hr h => ?_)
  · obtain ⟨p, x, xs, rfl, _⟩ := h
    rfl
  · obtain ⟨p, x, xs, rfl, hp, hx, h3, hl, q⟩ := h
    have hu : (cxOf CX0 P w K mg base nLValid "_law_valid" (defScope sLValid) f cdv A outer s H E).nox.A.units + 64 < cLine := Nat.lt_of_le_of_lt (Nat.le_refl _) hr.units
    refine ⟨_, (pss_cons (ps_set (i := 1) scLValid.nd rfl (.inl rfl) (pe_cal gN (hr.mono (by omega)) pass0 (pa_cons (pv 0) pa_nil)))
      (pss_cons (ps_for PassesOwn.never rfl (pi_range1 (by rfl) mr (pa_cons (pe_callB call_len (by rfl) ml boot_len (pa_cons (pv 1) pa_nil)) pa_nil)) (pg_name (i := 2) scLValid.nd rfl (.inl rfl))
        (pss_one (ps_if (pt_cmpR op_in_seq (pe_ix ix_list (pv 1) (pv 2) (fun _ _ => rfl)) (pe_slice sl_list (pv 1) po_none (po_some (pv 2))) (by rfl)) (pss_one (ps_ret pe_bl)) pss_nil)))
      (pss_cons (ps_for PassesOwn.never rfl (pi_tup (pv 0)) (pg_name (i := 3) scLValid.nd rfl (.inl rfl))
        (pss_cons (ps_if (pt_cmpR op_notIn_seq (pe_ix ix_tup (pv 3) pe_int (fun _ _ => rfl)) (pe_tup (pa_cons pe_str (pa_cons pe_str (pa_cons pe_str (pa_cons pe_str pa_nil))))) (by rfl)) (pss_one (ps_ret pe_bl)) pss_nil)
      (pss_cons (ps_if (PW.pt (pw_and (pt_cmpR op_eq (pe_ix ix_tup (pv 3) pe_int (fun _ _ => rfl)) pe_str (nomark _)) (pw_and1 (pt_cmpR op_gt (pe_ix ix_tup (pv 3) pe_int (fun _ _ => rfl)) (pe_ix ix_tup (pv 3) pe_int (fun _ _ => rfl)) (nomark _))))) (pss_one (ps_ret pe_bl)) pss_nil)
      (pss_cons (ps_if (PW.pt (pw_and (pt_cmpR op_eq (pe_ix ix_tup (pv 3) pe_int (fun _ _ => rfl)) pe_str (nomark _)) (pw_and1 (pt_cmpR op_gt (pe_ix ix_tup (pv 3) pe_int (fun _ _ => rfl)) pe_int (nomark _))))) (pss_one (ps_ret pe_bl)) pss_nil)
      (pss_cons (ps_if (PW.pt (pw_and (pt_cmpR op_eq (pe_ix ix_tup (pv 3) pe_int (fun _ _ => rfl)) pe_str (nomark _)) (pw_and1 (pt_cmpR op_gt (pe_ix ix_tup (pv 3) pe_int (fun _ _ => rfl)) pe_int (nomark _))))) (pss_one (ps_ret pe_bl)) pss_nil)
      (pss_one (ps_if (pt_cmpR op_eq (pe_ix ix_tup (pv 3) pe_int (fun _ _ => rfl)) pe_str (nomark _)) (pss_cons (ps_setLc (i := 4) (own := [("block", 5)]) (g := gName 5) (tt := tYes) rfl scLValid.nd rfl rfl (sw_true rfl rfl rfl (by decide +kernel)) (pi_tup (pe_ix ix_tup (pv 3) pe_int (fun _ _ => rfl))) (blkOk_by (own := [("block", 5)]) (N := nLValid) (sc := defScope sLValid) (by decide +kernel)) (fun _ _ _ _ _ => pg_name (i := 5) scLValid.nd rfl (Or.inl rfl)) (fun _ _ _ _ _ => pts_nil) (fun _ _ _ _ _ => (pe_callB (r := rLen K) call_len (by rfl) ml boot_len (pa_cons (pv 5) pa_nil))))
      (pss_one (ps_if (PW.pt (pw_or (pt_cmpR (op_eqD hu) (pv 4) (pe_lst (pa_cons pe_int (pa_cons pe_int pa_nil))) (nomark _)) (pw_or1 (pt_not (pt_val (pe_cal gS (hr.mono (by omega)) pass0 (pa_cons (pe_op op_catA (pe_ix ix_tup (pe_ix ix_tup (pv 3) pe_int (fun _ _ => rfl)) pe_int (fun _ _ => rfl)) (pe_ix ix_tup (pe_ix ix_tup (pv 3) pe_int (fun _ _ => rfl)) pe_int (fun _ _ => rfl))) pa_nil))))))) (pss_one (ps_ret pe_bl)) pss_nil))) pss_nil)))))))
      (pss_one (ps_ret pe_bl))))), ?_⟩
    have ln := lvl_names h3 hl
    refine ⟨_, rfl, p, x, xs, rfl, hp, hx, h3, hl, fun r H1 s1 nr hr1 => ?_⟩
    have ln2 : (x.names.map V.str).length ≤ 9 := by rw [List.length_map]; exact ln
    refine ⟨_, rfl, _, _, rfl, .inl ⟨_, SqL.of hr1, rfl⟩, _, rfl, by omega, by omega, for_range (lo := 0) (n := (((x.names.map V.str).length : Nat) : Int).toNat) (fun i σ H' => ∃ o2 o3 o4 o5 : Option V, σ = [some (.ref p), some (.ref r), o2, o3, o4, o5] ∧ Same H1 H' ∧ (x.names.take i).Nodup) ⟨_, _, _, _, rfl, Same.refl _, by simp⟩ ?_ ?_⟩
    · rintro i σ H2 hi ⟨o2, o3, o4, o5, rfl, s2, nd⟩
      have hi : i < x.names.length := by simpa using hi
      have e0 : (0 + (i : Int)) = (i : Int) := by omega
      rw [e0]
      have ez : x.names[i]? = some x.names[i] := List.getElem?_eq_getElem hi
      generalize x.names[i] = z at ez
      have ez2 : (x.names.map V.str)[i]? = some (.str z) := by rw [List.getElem?_map, ez]; rfl
      refine ⟨_, rfl, _, rfl, r, _, _, _, rfl, rfl, SqL.of (s2 _ _ hr1), atI_nat ez2, _, rfl, _, rfl, _, rfl, r, _, rfl, SqL.of (s2 _ _ hr1), fun p2 hp2 => ?_⟩
      rw [cut_to0, ← List.map_take]
      refine ⟨p2, _, rfl, .inl (SqL.of upd_same), rfl, flat_strs _, _, rfl, ?_⟩
      rw [show (if false = true then !inV (V.str z) ((x.names.take i).map V.str) else inV (V.str z) ((x.names.take i).map V.str)) = inV (V.str z) ((x.names.take i).map V.str) from rfl, inV_strs]
      have s3 := same_new hp2 (.lst ((x.names.take i).map V.str))
      refine ite2 (fun c => ?_) (fun c => ?_)
      · have nn : ¬ x.names.Nodup := fun h => by
          obtain ⟨y, hy, e⟩ := List.any_eq_true.mp c
          have e := of_decide_eq_true e
          subst e
          have t : (x.names.take (i + 1)).Nodup := h.sublist (List.take_sublist _ _)
          rw [List.take_add_one, ez] at t
          exact (nodup_snoc.mp t).2 hy
        have lf : lv x = false := by unfold lv; rw [decide_eq_false nn, Bool.false_and]
        rw [lf] at q
        exact q _ (s1.trans (s2.trans s3))
      · refine ⟨_, _, _, _, rfl, s2.trans s3, ?_⟩
        rw [List.take_add_one, ez]
        refine nodup_snoc.mpr ⟨nd, fun h => c (List.any_eq_true.mpr ⟨z, h, decide_eq_true rfl⟩)⟩
    · rintro σ H2 ⟨o2, o3, o4, o5, rfl, s2, nd⟩
      have nd : x.names.Nodup := by
        rw [Int.toNat_natCast, List.length_map, List.take_length] at nd; exact nd
      have pr := of_at hx
      have S2 := s1.trans s2
      refine ⟨_, rfl, p, rfl, ⟨_, SqT.of (S2 _ _ hp)⟩, for_it (walk_tup (K := K) (a := p) (xs := xs)) (fun i σ H' => ∃ o2 o3 o4 o5 : Option V, σ = [some (.ref p), some (.ref r), o2, o3, o4, o5] ∧ Same H H' ∧ ∀ y ∈ x.toL.take i, lvI y = true) ⟨_, _, _, _, rfl, S2, by simp⟩ (fun _ _ _ _ h => by obtain ⟨_, _, _, _, _, s, _⟩ := h; exact SqT.of (s _ _ hp)) ?_ ?_⟩
      · rintro i v σ H3' H3 hi ⟨o2, o3, o4, o5, rfl, s3, al⟩ ⟨e3, hv⟩
        subst e3
        obtain ⟨y, hy, ay⟩ := pget pr hv
        have ay := It.At.same s3 ay
        have ym := List.mem_of_getElem? hy
        obtain ⟨pv, rest, rfl, hpv, _⟩ := At_head ay
        -- this item holds; this item does not
        have good : ∀ {H4 : Hp} {a b c : Option V}, Same H3 H4 → lvI y = true → ∃ o2 o3 o4 o5 : Option V, [some (.ref p), some (.ref r), a, some (.ref pv), b, c] = [some (.ref p), some (.ref r), o2, o3, o4, o5] ∧ Same H H4 ∧ ∀ y ∈ x.toL.take (i + 1), lvI y = true := fun {H4 a b c} s4 hy' => by
          refine ⟨_, _, _, _, rfl, s3.trans s4, fun u hu' => ?_⟩
          rw [List.take_add_one, hy] at hu'
          rcases List.mem_append.mp hu' with h | h
          · exact al u h
          · have e : u = y := by simpa using h
            rw [e]; exact hy'
        have bad : ∀ {H4 : Hp}, Same H3 H4 → lvI y = false → Q (.bl false) H4 := fun {H4} s4 hy' => by
          have k := q H4 (s3.trans s4)
          rw [lv_false ym hy'] at k
          exact k
        refine ⟨_, rfl, pv, _, 0, _, rfl, rfl, SqT.of hpv, atI_nat (j := 0) rfl, by show 4 ≤ sizeLine; decide, fun pk hpk => ⟨pk, [V.str "number", .str "bytes", .str "text", .str "either"], rfl, .inr (SqT.of upd_same), rfl, by decide +kernel, _, rfl, ?_⟩⟩
        have s4 := same_new hpk (.tup [V.str "number", .str "bytes", .str "text", .str "either"])
        have ay := It.At.same s4 ay
        have hpv := s4 _ _ hpv
        generalize upd H3 pk (.tup [V.str "number", .str "bytes", .str "text", .str "either"]) = H4 at s4 ay hpv ⊢
        have numk : y.pl 0 → lvI y = lvP y := lvI_pl
        have ly : y.pl 0 ∨ ∃ nm v0 b0 u0 b1, y = .eit nm (.cons v0 b0 (.cons u0 b1 .nil)) ∧ b0.len ≤ 1 ∧ b1.len ≤ 1 ∧ (∀ z ∈ b0.toL, z.pl 1) ∧ (∀ z ∈ b1.toL, z.pl 1) ∧ ∃ n', n = n' + 1 := by
          cases n with
          | zero => exact .inl (hl y ym)
          | succ n =>
            rcases bc_walk (hl y ym) with ⟨nm, v0, b0, u0, b1, e, hw, hnm, l0, l1, p0, p1⟩ | ⟨h, _⟩
            · exact .inr ⟨nm, v0, b0, u0, b1, e, l0, l1, p0, p1, n, rfl⟩
            · exact .inl h
        rcases ly with ly | ⟨nm, v0, b0, u0, b1, rfl, l0, l1, p0, p1, n', rfl⟩
        · cases y with
          | num nn sz od lo hi =>
            simp only [It.At] at ay
            obtain ⟨pp, e1, hpp⟩ := ay
            obtain rfl := V.ref.inj e1
            refine ite2 (fun c => absurd c (by show ¬ (!inV (.str "number") okKinds) = true; decide +kernel)) (fun _ => ?_)
            refine ⟨_, rfl, pv, _, 0, _, rfl, rfl, SqT.of hpp, atI_nat (j := 0) rfl, rfl, _, rfl, wyes rfl ?_⟩
            refine ⟨_, rfl, pv, _, 4, _, rfl, rfl, SqT.of hpp, atI_nat (j := 4) rfl, _, rfl, pv, _, 5, _, rfl, rfl, SqT.of hpp, atI_nat (j := 5) rfl, _, _, rfl, rfl, _, rfl, ?_⟩
            by_cases c : hi < lo
            · rw [decide_eq_true c]
              refine iteT ?_
              exact bad s4 (by rw [lvI_pl ly]; simp only [lvP]; exact decide_eq_false (by omega))
            · rw [decide_eq_false c]
              refine iteF ?_
              refine ⟨_, rfl, pv, _, 0, _, rfl, rfl, SqT.of hpp, atI_nat (j := 0) rfl, rfl, _, rfl, wno (by decide +kernel) ?_⟩
              refine iteF ?_
              refine ⟨_, rfl, pv, _, 0, _, rfl, rfl, SqT.of hpp, atI_nat (j := 0) rfl, rfl, _, rfl, wno (by decide +kernel) ?_⟩
              refine iteF ?_
              refine ⟨_, rfl, pv, _, 0, _, rfl, rfl, SqT.of hpp, atI_nat (j := 0) rfl, rfl, _, rfl, wno (by decide +kernel) ?_⟩
              exact good s4 (by rw [lvI_pl ly]; simp only [lvP]; exact decide_eq_true (by omega))
          | byt nn am =>
            obtain ⟨_, kk, rfl, hk⟩ := id ly
            simp only [It.At] at ay
            obtain ⟨pp, e1, hpp⟩ := ay
            obtain rfl := V.ref.inj e1
            refine ite2 (fun c => absurd c (by show ¬ (!inV (.str "bytes") okKinds) = true; decide +kernel)) (fun _ => ?_)
            refine ⟨_, rfl, pv, _, 0, _, rfl, rfl, SqT.of hpp, atI_nat (j := 0) rfl, rfl, _, rfl, wno (by decide +kernel) ?_⟩
            refine iteF ?_
            refine ⟨_, rfl, pv, _, 0, _, rfl, rfl, SqT.of hpp, atI_nat (j := 0) rfl, rfl, _, rfl, wyes rfl ?_⟩
            refine ⟨_, rfl, pv, _, 2, _, rfl, rfl, SqT.of hpp, atI_nat (j := 2) rfl, _, _, rfl, rfl, _, rfl, ?_⟩
            by_cases c : 64 < kk
            · rw [decide_eq_true c]
              refine iteT ?_
              exact bad s4 (by rw [lvI_pl ly]; simp only [lvP]; exact decide_eq_false (by omega))
            · rw [decide_eq_false c]
              refine iteF ?_
              refine ⟨_, rfl, pv, _, 0, _, rfl, rfl, SqT.of hpp, atI_nat (j := 0) rfl, rfl, _, rfl, wno (by decide +kernel) ?_⟩
              refine iteF ?_
              refine ⟨_, rfl, pv, _, 0, _, rfl, rfl, SqT.of hpp, atI_nat (j := 0) rfl, rfl, _, rfl, wno (by decide +kernel) ?_⟩
              exact good s4 (by rw [lvI_pl ly]; simp only [lvP]; exact decide_eq_true (by omega))
          | txt nn st mo =>
            simp only [It.At] at ay
            obtain ⟨pp, e1, hpp⟩ := ay
            obtain rfl := V.ref.inj e1
            refine ite2 (fun c => absurd c (by show ¬ (!inV (.str "text") okKinds) = true; decide +kernel)) (fun _ => ?_)
            refine ⟨_, rfl, pv, _, 0, _, rfl, rfl, SqT.of hpp, atI_nat (j := 0) rfl, rfl, _, rfl, wno (by decide +kernel) ?_⟩
            refine iteF ?_
            refine ⟨_, rfl, pv, _, 0, _, rfl, rfl, SqT.of hpp, atI_nat (j := 0) rfl, rfl, _, rfl, wno (by decide +kernel) ?_⟩
            refine iteF ?_
            refine ⟨_, rfl, pv, _, 0, _, rfl, rfl, SqT.of hpp, atI_nat (j := 0) rfl, rfl, _, rfl, wyes rfl ?_⟩
            refine ⟨_, rfl, pv, _, 2, _, rfl, rfl, SqT.of hpp, atI_nat (j := 2) rfl, _, _, rfl, rfl, _, rfl, ?_⟩
            by_cases c : 255 < st
            · rw [decide_eq_true c]
              refine iteT ?_
              exact bad s4 (by rw [lvI_pl ly]; simp only [lvP]; exact decide_eq_false (by omega))
            · rw [decide_eq_false c]
              refine iteF ?_
              refine ⟨_, rfl, pv, _, 0, _, rfl, rfl, SqT.of hpp, atI_nat (j := 0) rfl, rfl, _, rfl, wno (by decide +kernel) ?_⟩
              exact good s4 (by rw [lvI_pl ly]; simp only [lvP]; exact decide_eq_true (by omega))
          | odd k nn m =>
            obtain rfl : k = "box" := ly
            refine ite2 (fun _ => ?_) (fun c => absurd (by show (!inV (.str "box") okKinds) = true; decide +kernel) c)
            exact bad s4 rfl
          | _ => exact ly.elim
        · have hbc : (It.eit nm (.cons v0 b0 (.cons u0 b1 .nil))).bc := hl _ ym
          simp only [It.At, Blks.AtE] at ay
          obtain ⟨pp, q0, xq, e1, hpp, hq, qa, xa, l1', rfl, hqa, aa, qb, xb, l2', rfl, hqb, ab, rfl⟩ := ay
          obtain rfl := V.ref.inj e1
          have hq := hq.resolve_right (fun z => by cases z.1)
          have hqa := hqa.resolve_right (fun z => by cases z.1)
          have hqb := hqb.resolve_right (fun z => by cases z.1)
          refine ite2 (fun c => absurd c (by show ¬ (!inV (.str "either") okKinds) = true; decide +kernel)) (fun _ => ?_)
          refine ⟨_, rfl, pv, _, 0, _, rfl, rfl, SqT.of hpp, atI_nat (j := 0) rfl, rfl, _, rfl, wno (by decide +kernel) ?_⟩
          refine iteF ?_
          refine ⟨_, rfl, pv, _, 0, _, rfl, rfl, SqT.of hpp, atI_nat (j := 0) rfl, rfl, _, rfl, wno (by decide +kernel) ?_⟩
          refine iteF ?_
          refine ⟨_, rfl, pv, _, 0, _, rfl, rfl, SqT.of hpp, atI_nat (j := 0) rfl, rfl, _, rfl, wno (by decide +kernel) ?_⟩
          refine iteF ?_
          refine ⟨_, rfl, pv, _, 0, _, rfl, rfl, SqT.of hpp, atI_nat (j := 0) rfl, rfl, _, rfl, wyes rfl ?_⟩
          refine ⟨_, rfl, pv, _, 2, _, rfl, rfl, SqT.of hpp, atI_nat (j := 2) rfl, q0, rfl, ⟨_, SqT.of hq⟩, fun D hD => lc_it (walk_tup (K := K) (a := q0) (xs := [V.ref qa, V.ref qb])) (fun j H' => Same H4 H' ∧ H' D = some (.lst ((([b0, b1].take j).map fun b => (b.len : Int)).map V.int))) ⟨same_new hD _, upd_same⟩ (fun _ _ _ h => SqT.of (h.1 _ _ hq)) ?_ ?_⟩
          · rintro j w H5' H5 hj ⟨s5, hD5⟩ ⟨e5, hw5⟩
            subst e5
            obtain ⟨b, qq, xx, rfl, hb, hqq, hxl, bl1⟩ : ∃ b qq xx, w = .ref qq ∧ [b0, b1][j]? = some b ∧ H5 qq = some (.tup xx) ∧ xx.length = b.len ∧ b.len ≤ 1 := by
              match j, hj, hw5 with
              | 0, _, hw5 => simp at hw5; exact ⟨b0, qa, xa, hw5.symm, rfl, s5 _ _ hqa, by rw [plen (of_at aa), toL_len], l0⟩
              | 1, _, hw5 => simp at hw5; exact ⟨b1, qb, xb, hw5.symm, rfl, s5 _ _ hqb, by rw [plen (of_at ab), toL_len], l1⟩
            refine ⟨rfl, yes_go ?_⟩
            refine ⟨_, rfl, _, _, rfl, .inr ⟨_, SqT.of hqq, rfl⟩, _, hD5, small1000 ?_, same_set s5 hD, ?_⟩
            · rw [List.length_map, List.length_map, List.length_take]; simp; omega
            · rw [upd_same, List.take_add_one, hb, hxl]
              simp
          · rintro H5 ⟨s5, hD5⟩
            dsimp only
            have hD5 : H5 D = some (.lst [.int b0.len, .int b1.len]) := hD5
            refine ⟨_, rfl, by show 2 ≤ sizeLine; decide, fun D2 hD2 => ?_⟩
            have s6 := same_new hD2 (.lst [.int 0, .int 0])
            refine ⟨.list [.int b0.len, .int b1.len], .list [.int 0, .int 0], .lst (SqL.of (s6 _ _ hD5)) (.cons (.int _) (.cons (.int _) .nil)), .lst (SqL.of upd_same) (.cons (.int _) (.cons (.int _) .nil)), by rfl, by rfl, ?_⟩
            have S6 := s5.trans s6
            generalize upd H5 D2 (.lst [.int 0, .int 0]) = H6 at S6 ⊢
            have lI : lvI (.eit nm (.cons v0 b0 (.cons u0 b1 .nil))) = (!(decide (b0.len = 0) && decide (b1.len = 0)) && lv (b0.app b1)) := by
              rw [lv_pl (fun y hy => by
                rw [app_toL] at hy
                rcases List.mem_append.mp hy with h | h
                · exact p0 y h
                · exact p1 y h)]
              rfl
            have ev : PyData.eqv (.list [.int b0.len, .int b1.len]) (.list [.int 0, .int 0]) = (decide (b0.len = 0) && decide (b1.len = 0)) := by
              have e0 : b0.len = 0 ∨ b0.len = 1 := by omega
              have e1 : b1.len = 0 ∨ b1.len = 1 := by omega
              rcases e0 with e0 | e0 <;> rcases e1 with e1 | e1 <;> rw [e0, e1] <;> decide +kernel
            rw [ev]
            refine ⟨_, rfl, ?_⟩
            cases c : (decide (b0.len = 0) && decide (b1.len = 0)) with
            | true =>
              refine iteT (iteT ?_)
              exact bad (s4.trans S6) (by rw [lI, c]; rfl)
            | false =>
              refine iteF ?_
              rw [c, Bool.not_false, Bool.true_and] at lI
              have la : xa.length = b0.len := by rw [plen (of_at aa), toL_len]
              have lb : xb.length = b1.len := by rw [plen (of_at ab), toL_len]
              have fa : ∀ {H7 : Hp}, Same H6 H7 → (b0.app b1).At true H7 (xa ++ xb) := fun {H7} s7 => by
                have pa := papp (of_at aa) (of_at ab)
                rw [← app_toL] at pa
                have pa := at_of pa
                rw [of_toL] at pa
                exact Its.At.same (S6.trans s7) pa
              have fl : (b0.app b1).len ≤ 3 := by rw [app_len]; omega
              have fv : ∀ y ∈ (b0.app b1).toL, lvl n' y := fun y hy => by
                rw [app_toL] at hy
                have h1 : y.pl 1 := by
                  rcases List.mem_append.mp hy with h | h
                  · exact p0 y h
                  · exact p1 y h
                cases n' with
                | zero => exact pl_mono h1
                | succ n'' => exact pl_bc (pl_mono h1)
              refine ⟨_, rfl, pv, _, 2, _, rfl, rfl, SqT.of (S6 _ _ hpp), atI_nat (j := 2) rfl, q0, _, 0, _, rfl, rfl, SqT.of (S6 _ _ hq), atI_nat (j := 0) rfl, _, rfl, pv, _, 2, _, rfl, rfl, SqT.of (S6 _ _ hpp), atI_nat (j := 2) rfl, q0, _, 1, _, rfl, rfl, SqT.of (S6 _ _ hq), atI_nat (j := 1) rfl, ?_⟩
              refine ⟨qa, qb, _, _, rfl, rfl, SqT.of (S6 _ _ hqa), SqT.of (S6 _ _ hqb), le_line (by omega), fun e => ?_, fun _ e => ?_, fun _ _ t ht => ?_⟩
              · refine ⟨qb, b0.app b1, xa ++ xb, rfl, (by rw [e, List.nil_append]; exact S6 _ _ hqb), fa (Same.refl _), fl, fv, fun H8 s8 => ⟨_, rfl, ?_⟩⟩
                rw [← lI]
                cases lf : lvI (.eit nm (.cons v0 b0 (.cons u0 b1 .nil))) with
                | false => exact iteT (bad (s4.trans (S6.trans s8)) lf)
                | true => exact iteF (good (s4.trans (S6.trans s8)) lf)
              · refine ⟨qa, b0.app b1, xa ++ xb, rfl, (by rw [e, List.append_nil]; exact S6 _ _ hqa), fa (Same.refl _), fl, fv, fun H8 s8 => ⟨_, rfl, ?_⟩⟩
                rw [← lI]
                cases lf : lvI (.eit nm (.cons v0 b0 (.cons u0 b1 .nil))) with
                | false => exact iteT (bad (s4.trans (S6.trans s8)) lf)
                | true => exact iteF (good (s4.trans (S6.trans s8)) lf)
              · have s7 := same_new ht (.tup (xa ++ xb))
                refine ⟨t, b0.app b1, xa ++ xb, rfl, upd_same, fa s7, fl, fv, fun H8 s8 => ⟨_, rfl, ?_⟩⟩
                rw [← lI]
                cases lf : lvI (.eit nm (.cons v0 b0 (.cons u0 b1 .nil))) with
                | false => exact iteT (bad (s4.trans (S6.trans (s7.trans s8))) lf)
                | true => exact iteF (good (s4.trans (S6.trans (s7.trans s8))) lf)
      · rintro σ H3 ⟨o2, o3, o4, o5, rfl, s3, al⟩
        rw [plen pr, List.take_length] at al
        have k := q H3 s3
        have e : lv x = true := by unfold lv; rw [decide_eq_true nd, Bool.true_and, List.all_eq_true]; exact al
        rw [e] at k
        exact k
end
end Bs

set_option Elab.async false
set_option linter.all false
set_option maxRecDepth 100000
set_option maxHeartbeats 8000000
namespace Bs
open PySem L2
/-! ### the law's own state, deeds, faults -/
structure Kd (H H' : Hp) : Prop where
  t : ∀ a xs, H a = some (.tup xs) → H' a = some (.tup xs)
  l : ∀ a xs, H a = some (.lst xs) → H' a = some (.lst xs)
  d : ∀ a xs, H a = some (.dK xs) → H' a = some (.dK xs)
theorem Kd.of {H H' : Hp} (s : Same H H') : Kd H H' := ⟨fun _ _ e => s _ _ e, fun _ _ e => s _ _ e, fun _ _ e => s _ _ e⟩
theorem Kd.off {o C dx : Addr} {fs : List (Str × V)} {H H' : Hp} (ho : H o = some (.ins C dx fs)) (f : Off o H H') : Kd H H' :=
  ⟨fun a _ e => f _ _ (fun z => by rw [z, ho] at e; cases e) e, fun a _ e => f _ _ (fun z => by rw [z, ho] at e; cases e) e, fun a _ e => f _ _ (fun z => by rw [z, ho] at e; cases e) e⟩
theorem Kd.kp {fz : Bool} {H H' : Hp} (k : Kd H H') : Kp fz H H' := ⟨k.t, fun _ => k.l⟩
theorem Kd.trans {A B D : Hp} (a : Kd A B) (b : Kd B D) : Kd A D := ⟨fun _ _ e => b.t _ _ (a.t _ _ e), fun _ _ e => b.l _ _ (a.l _ _ e), fun _ _ e => b.d _ _ (a.d _ _ e)⟩
def DeedAt (H : Hp) (t : Addr) : Ch → Prop
  | .set z x => ∃ (p : Addr) (xs : List V), H t = some (.tup [.str "set_shape", .str z, .ref p]) ∧ H p = some (.tup xs) ∧ x.At true H xs
  | .rem z => H t = some (.tup [.str "remove_shape", .str z])
  | .rep z u y => ∃ v, H t = some (.tup [.str "replace_item", .str z, .str u, v]) ∧ y.At true H v
  | .del z u => H t = some (.tup [.str "remove_item", .str z, .str u])
  | .ask z wd ns => ∃ l, H t = some (.tup [.str "ask", .str z, .str wd, .ref l]) ∧ H l = some (.lst (ns.map V.str))
  | .drop z => H t = some (.tup [.str "drop", .str z])
theorem DeedAt.kd {H H' : Hp} (k : Kd H H') {t : Addr} : ∀ {c : Ch}, DeedAt H t c → DeedAt H' t c
  | .set .., ⟨p, xs, a, b, c⟩ => ⟨p, xs, k.t _ _ a, k.t _ _ b, Its.At.kp k.kp c⟩
  | .rem .., h => k.t _ _ h
  | .rep .., ⟨u, a, b⟩ => ⟨u, k.t _ _ a, It.At.kp k.kp b⟩
  | .del .., h => k.t _ _ h
  | .ask .., ⟨l, a, b⟩ => ⟨l, k.t _ _ a, k.l _ _ b⟩
  | .drop .., h => k.t _ _ h
def SeV (H : Hp) (v : V) (x : Its) : Prop := ∃ (t : Addr) (n : Int) (p : Addr) (xs : List V), v = .ref t ∧ H t = some (.tup [.int n, .ref p]) ∧ H p = some (.tup xs) ∧ x.At true H xs
def SqV (H : Hp) (v : V) (q : Str × List Str) : Prop := ∃ (t l : Addr), v = .ref t ∧ H t = some (.tup [.str q.1, .ref l]) ∧ H l = some (.lst (q.2.map V.str))
theorem SeV.kd {H H' : Hp} (k : Kd H H') {v : V} {x : Its} (h : SeV H v x) : SeV H' v x := let ⟨t, n, p, xs, e, a, b, c⟩ := h; ⟨t, n, p, xs, e, k.t _ _ a, k.t _ _ b, Its.At.kp k.kp c⟩
theorem SqV.kd {H H' : Hp} (k : Kd H H') {v : V} {q : Str × List Str} (h : SqV H v q) : SqV H' v q := let ⟨t, l, e, a, b⟩ := h; ⟨t, l, e, k.t _ _ a, k.l _ _ b⟩
structure StAt (H : Hp) (l : Addr) (b : Bd) : Prop where
  h : ∃ (d1 d2 : Addr) (k1 k2 : List (Key × V)), H l = some (.lst [.ref d1, .ref d2]) ∧ H d1 = some (.dK k1) ∧ TabR (SeV H) k1 b.sh ∧ H d2 = some (.dK k2) ∧ TabR (SqV H) k2 b.qs
theorem StAt.kd {H H' : Hp} (k : Kd H H') {l : Addr} {b : Bd} (h : StAt H l b) : StAt H' l b := by
  obtain ⟨d1, d2, k1, k2, a, b, c, d, e⟩ := h.h
  exact ⟨d1, d2, k1, k2, k.l _ _ a, k.d _ _ b, c.imp fun _ _ => SeV.kd k, k.d _ _ d, e.imp fun _ _ => SqV.kd k⟩
def errOf : Except Er Bd → Option Er
  | .ok _ => none
  | .error e => some e
def FltAt (H : Hp) (v : V) : Option Er → Prop
  | none => v = .non
  | some (.unk z) => ∃ t, v = .ref t ∧ H t = some (.tup [.str "unknown", .str z])
  | some (.used z) => ∃ t, v = .ref t ∧ H t = some (.tup [.str "used", .str z])
  | some .shape => ∃ t, v = .ref t ∧ H t = some (.tup [.str "shape", .str ""])
  | some .quest => ∃ t, v = .ref t ∧ H t = some (.tup [.str "question", .str ""])
abbrev sFault : Stmt := top 121
def spFault : Sp := fun vs H Q _ => ∃ (sl t : Addr) (b : Bd) (c : Ch) (m : Nat), vs = [.ref sl, .ref t] ∧ StAt H sl b ∧ DeedAt H t c ∧ b.ok m ∧ c.ok ∧ ∀ v H', Same H H' → FltAt H' v (errOf (step b c)) → Q v H'
/-- a table's entry -/
theorem tab_some {α : Type} {r : V → α → Prop} {k : List (Key × V)} {l : List (Str × α)} {z : Str} (t : TabR r k l) : (∃ a v, tget l z = some a ∧ valV k (.inr z) = some v ∧ r v a) ∨ (tget l z = none ∧ valV k (.inr z) = none) := by
  cases e : tget l z with
  | none => exact .inr ⟨rfl, t.get.2 e⟩
  | some a =>
    obtain ⟨v, h1, h2⟩ := t.get.1 a e
    exact .inl ⟨a, v, rfl, h1, h2⟩
section
variable {P : Program} {w : World} {K : PySem.W.Frag} {mg : Str → Option Value} {base : Heap} {f : Addr} {fd : FuncData}
abbrev nFault : List Str := ["state", "deed", "name", "word", "after", "shape"]
theorem scFault : FnScope nFault ["state", "deed"] (defScope sFault) := ⟨rfl, rfl, rfl, by decide +kernel, rfl, by decide +kernel, by decide +kernel⟩
theorem ok_fault (F : Fun K "_law_fault" "_law_fault" sFault f fd) (gN : Cal P w K mg base CX0 2 "_law_names_in" ["parts"] (spNamesIn 1)) (gE : Cal P w K mg base CX0 2 "_law_edited" ["parts", "name", "others"] (spLEdited 1)) (gV : Cal P w K mg base CX0 3 "_law_valid" ["parts"] (spLValid 1)) (ml : mg "len" = none) (mint : mg "int" = none) (mlist : mg "list" = none) : FnOk P w K mg base CX0 4 f fd ["state", "deed"] spFault := by
  refine F.ok scFault (fun vs H Q E h => ?_) (fun cdv A outer s H vs Q E hr h => ?_)
  · obtain ⟨sl, t, b, c, m, rfl, _⟩ := h
    rfl
  · obtain ⟨sl, t, b, c, m, rfl, hs, hd, ok, hco, q⟩ := h
    have hu := hu_of hr
    refine ⟨_, (pss_cons (ps_set (i := 2) scFault.nd rfl (.inl rfl) (pe_ix ix_tup (pv 1) pe_int (fun _ _ => rfl)))
      (pss_cons (ps_if (pt_cmpR op_eq (pe_ix ix_tup (pv 1) pe_int (fun _ _ => rfl)) pe_str (nomark _)) (pss_cons (ps_if (pt_cmp (pc_dnotin hu (pv 2) (pe_ix ix_list (pv 0) pe_int (fun _ _ => rfl))) (by rfl)) (pss_one (ps_ret (pe_tup (pa_cons pe_str (pa_cons (pv 2) pa_nil))))) pss_nil)
      (pss_one (ps_lock (ps_for PassesOwn.never rfl (pi_keys (pe_ix ix_list (pv 0) pe_int (fun _ _ => rfl))) (pg_name (i := 3) scFault.nd rfl (.inl rfl))
        (pss_one (ps_if (pt_cmpR op_in_seq (pv 2) (pe_ix ix_tup (pe_dget hu (pe_ix ix_list (pv 0) pe_int (fun _ _ => rfl)) (pv 3) (fun _ _ => rfl)) pe_int (fun _ _ => rfl)) (by rfl)) (pss_one (ps_ret (pe_tup (pa_cons pe_str (pa_cons (pv 2) pa_nil))))) pss_nil)))))) pss_nil)
      (pss_cons (ps_if (PW.pt (pw_and (pt_cmpR op_eq (pe_ix ix_tup (pv 1) pe_int (fun _ _ => rfl)) pe_str (nomark _)) (pw_and1 (pt_cmp (pc_dnotin hu (pv 2) (pe_ix ix_list (pv 0) pe_int (fun _ _ => rfl))) (by rfl))))) (pss_one (ps_ret (pe_tup (pa_cons pe_str (pa_cons (pv 2) pa_nil))))) pss_nil)
      (pss_cons (ps_if (PW.pt (pw_or (pt_cmpR op_eq (pe_ix ix_tup (pv 1) pe_int (fun _ _ => rfl)) pe_str (nomark _)) (pw_or1 (pt_cmpR op_eq (pe_ix ix_tup (pv 1) pe_int (fun _ _ => rfl)) pe_str (nomark _))))) (pss_cons (ps_if (pt_cmp (pc_dnotin hu (pv 2) (pe_ix ix_list (pv 0) pe_int (fun _ _ => rfl))) (by rfl)) (pss_one (ps_ret (pe_tup (pa_cons pe_str (pa_cons (pv 2) pa_nil))))) pss_nil)
      (pss_cons (ps_if (pt_cmpR op_notIn_seq (pe_ix ix_tup (pv 1) pe_int (fun _ _ => rfl)) (pe_cal gN (hr.mono (by decide)) pass0 (pa_cons (pe_ix ix_tup (pe_dget hu (pe_ix ix_list (pv 0) pe_int (fun _ _ => rfl)) (pv 2) (fun _ _ => rfl)) pe_int (fun _ _ => rfl)) pa_nil)) (by rfl)) (pss_one (ps_ret (pe_tup (pa_cons pe_str (pa_cons (pe_ix ix_tup (pv 1) pe_int (fun _ _ => rfl)) pa_nil))))) pss_nil)
      (pss_cons (ps_set (i := 4) scFault.nd rfl (.inl rfl) (pe_cal gE (hr.mono (by decide)) pass0 (pa_cons (pe_ix ix_tup (pe_dget hu (pe_ix ix_list (pv 0) pe_int (fun _ _ => rfl)) (pv 2) (fun _ _ => rfl)) pe_int (fun _ _ => rfl)) (pa_cons (pe_ix ix_tup (pv 1) pe_int (fun _ _ => rfl)) (pa_cons (pe_callTy call_list_of (by rfl) mlist (by decide +kernel) (pa_cons (pe_slice sl_tupA (pv 1) (po_some pe_int) po_none) pa_nil)) pa_nil)))))
      (pss_one (ps_if (PW.pt (pw_or (pt_cmpR op_eq (pe_callB call_len (by rfl) ml boot_len (pa_cons (pv 4) pa_nil)) pe_int (nomark _)) (pw_or1 (pt_not (pt_val (pe_cal gV hr pass0 (pa_cons (pv 4) pa_nil))))))) (pss_one (ps_ret (pe_tup (pa_cons pe_str (pa_cons pe_str pa_nil))))) pss_nil))))) pss_nil)
      (pss_cons (ps_if (pt_cmpR op_eq (pe_ix ix_tup (pv 1) pe_int (fun _ _ => rfl)) pe_str (nomark _)) (pss_cons (ps_if (pt_cmpR op_notIn_seq (pe_ix ix_tup (pv 1) pe_int (fun _ _ => rfl)) (pe_tup (pa_cons pe_str (pa_cons pe_str (pa_cons pe_str (pa_cons pe_str (pa_cons pe_str pa_nil)))))) (by rfl)) (pss_one (ps_ret (pe_tup (pa_cons pe_str (pa_cons (pe_ix ix_tup (pv 1) pe_int (fun _ _ => rfl)) pa_nil))))) pss_nil)
      (pss_cons (ps_if (pt_cmpR op_ne (pe_callB call_len (by rfl) ml boot_len (pa_cons (pe_ix ix_tup (pv 1) pe_int (fun _ _ => rfl)) pa_nil)) (pe_op op_add pe_int (pe_callTy call_int1 (by rfl) mint (by decide +kernel) (pa_cons (pe_cmpR op_in_seq (pe_ix ix_tup (pv 1) pe_int (fun _ _ => rfl)) (pe_tup (pa_cons pe_str (pa_cons pe_str pa_nil))) (by rfl)) pa_nil))) (nomark _)) (pss_one (ps_ret (pe_tup (pa_cons pe_str (pa_cons pe_str pa_nil))))) pss_nil)
      (pss_one (ps_for PassesOwn.never rfl (pi_list (pe_ix ix_tup (pv 1) pe_int (fun _ _ => rfl))) (pg_name (i := 5) scFault.nd rfl (.inl rfl))
        (pss_one (ps_if (pt_cmp (pc_dnotin hu (pv 5) (pe_ix ix_list (pv 0) pe_int (fun _ _ => rfl))) (by rfl)) (pss_one (ps_ret (pe_tup (pa_cons pe_str (pa_cons (pv 5) pa_nil))))) pss_nil)))))) pss_nil)
      (pss_one (ps_ret pe_non))))))), ?_⟩
    obtain ⟨d1, d2, k1, k2, hsl, hd1, t1, hd2, t2⟩ := hs.h
    cases c with
    | set z x =>
      obtain ⟨pp, xs, ht, hp, hx⟩ := hd
      refine ⟨_, rfl, t, _, 1, _, rfl, rfl, SqT.of ht, atI_nat (j := 1) rfl, ?_⟩
      refine ⟨_, rfl, t, _, 0, _, rfl, rfl, SqT.of ht, atI_nat (j := 0) rfl, rfl, _, rfl, wno (by decide +kernel) ?_⟩
      refine ⟨_, rfl, t, _, 0, _, rfl, rfl, SqT.of ht, atI_nat (j := 0) rfl, rfl, _, rfl, wno (by decide +kernel) ?_⟩
      refine iteF ?_
      refine ⟨_, rfl, t, _, 0, _, rfl, rfl, SqT.of ht, atI_nat (j := 0) rfl, rfl, _, rfl, wno (by decide +kernel) ?_⟩
      refine ⟨_, rfl, t, _, 0, _, rfl, rfl, SqT.of ht, atI_nat (j := 0) rfl, rfl, _, rfl, wno (by decide +kernel) ?_⟩
      refine ⟨_, rfl, t, _, 0, _, rfl, rfl, SqT.of ht, atI_nat (j := 0) rfl, rfl, _, rfl, wno (by decide +kernel) ?_⟩
      exact q _ _ (Same.refl H) rfl
    | rem z =>
      have ht : H t = some (.tup [.str "remove_shape", .str z]) := hd
      refine ⟨_, rfl, t, _, 1, _, rfl, rfl, SqT.of ht, atI_nat (j := 1) rfl, ?_⟩
      refine ⟨_, rfl, t, _, 0, _, rfl, rfl, SqT.of ht, atI_nat (j := 0) rfl, rfl, _, rfl, wyes rfl ?_⟩
      refine ⟨_, rfl, _, rfl, sl, _, 0, _, rfl, rfl, SqL.of hsl, atI_nat (j := 0) rfl, d1, _, rfl, DGet.k (k := .inr z) hd1, _, rfl, ?_⟩
      simp only [step, wShape] at q
      rcases tab_some (z := z) t1 with ⟨a, v, e1, e2, _⟩ | ⟨e1, e2⟩
      · rw [e2]
        rw [e1] at q
        dsimp only at q
        refine iteF ?_
        refine ⟨d2, _, hd2, True.intro, fun od => ?_⟩
        have sd : sl ≠ d2 := fun e => by rw [e, hd2] at hsl; cases hsl
        have hslL : (upd H d2 (.frz od (.dK k2))) sl = some (.lst [.ref d1, .ref d2]) := by rw [upd_ne sd]; exact hsl
        have nd2 := (tab_keys t2 ok.n2).1
        have l2 := plen t2
        refine ⟨_, rfl, sl, _, 1, _, rfl, rfl, SqL.of hslL, atI_nat (j := 1) rfl, d2, od, rfl, .inl ⟨k2, upd_same, for_it walk_keys (fun i σ H' => ∃ o3 o4 o5 : Option V, σ = [some (.ref sl), some (.ref t), some (.str z), o3, o4, o5] ∧ H' = upd H d2 (.frz od (.dK k2)) ∧ ((b.qs.take i).any fun p => p.2.2.any fun y => decide (y = z)) = false) ⟨_, _, _, rfl, rfl, rfl⟩ (fun _ _ _ _ h => by obtain ⟨_, _, _, _, e, _⟩ := h; rw [e, upd_same]) ?_ ?_⟩⟩
        · rintro i w σ H2' H2 hi ⟨o3, o4, o5, rfl, rfl, al⟩ ⟨e3, kk, v2, hk2, rfl⟩
          subst e3
          obtain ⟨qq, hq, eq, t', l', ev, ht', hl'⟩ := pget t2 hk2
          have eq : kk = .inr qq.1 := eq
          subst eq
          have ev : v2 = .ref t' := ev
          subst ev
          have td : t' ≠ d2 := fun e => by rw [e, hd2] at ht'; cases ht'
          have ld : l' ≠ d2 := fun e => by rw [e, hd2] at hl'; cases hl'
          have ht2 : (upd H d2 (.frz od (.dK k2))) t' = some (.tup [.str qq.2.1, .ref l']) := by rw [upd_ne td]; exact ht'
          have hl2 : (upd H d2 (.frz od (.dK k2))) l' = some (.lst (qq.2.2.map V.str)) := by rw [upd_ne ld]; exact hl'
          refine ⟨_, rfl, _, rfl, sl, _, 1, _, rfl, rfl, SqL.of hslL, atI_nat (j := 1) rfl, _, rfl, d2, .ref t', rfl, .inl ⟨k2, .inr qq.1, .inr ⟨od, upd_same⟩, rfl, (val_of_nodup nd2 hk2).symm⟩, t', _, 1, _, rfl, rfl, SqT.of ht2, atI_nat (j := 1) rfl, l', _, rfl, .inl (SqL.of hl2), rfl, flat_strs _, _, rfl, ?_⟩
          rw [show (if false = true then !inV (V.str z) (qq.2.2.map V.str) else inV (V.str z) (qq.2.2.map V.str)) = inV (V.str z) (qq.2.2.map V.str) from rfl, inV_strs]
          refine ite2 (fun c => ?_) (fun c => ?_)
          · have an : (b.qs.any fun p => p.2.2.any fun y => decide (y = z)) = true := List.any_eq_true.mpr ⟨qq, List.mem_of_getElem? hq, c⟩
            rw [if_pos an] at q
            refine ⟨_, rfl, by show 2 ≤ sizeLine; decide, fun p hp => ?_⟩
            have pd : p ≠ d2 := fun e => by rw [e, upd_same] at hp; cases hp
            rw [upd_ne pd] at hp
            refine ⟨by rw [upd_ne (Ne.symm pd), upd_same], q _ _ (fun b u e => ?_) ⟨p, rfl, by rw [upd_ne pd, upd_same]⟩⟩
            by_cases cb : b = d2
            · rw [cb, upd_same, ← hd2, ← cb, e]
            · rw [upd_ne cb, upd_ne (ne_of_none e hp), upd_ne cb]; exact e
          · refine ⟨_, _, _, rfl, rfl, ?_⟩
            rw [List.take_add_one, hq, List.any_append, al]
            simp only [Option.toList, List.any_cons, List.any_nil, Bool.or_false, Bool.false_or]
            exact (Bool.not_eq_true _).mp c
        · rintro σ H2 ⟨o3, o4, o5, rfl, rfl, al⟩
          rw [l2, List.take_length] at al
          rw [if_neg (by rw [al]; decide)] at q
          have eH : upd (upd H d2 (.frz od (.dK k2))) d2 (.dK k2) = H := by
            rw [upd_upd]
            funext b
            by_cases cb : b = d2
            · rw [cb, upd_same, hd2]
            · rw [upd_ne cb]
          refine ⟨upd_same, ?_⟩
          rw [eH]
          refine ⟨_, rfl, t, _, 0, _, rfl, rfl, SqT.of ht, atI_nat (j := 0) rfl, rfl, _, rfl, wno (by decide +kernel) ?_⟩
          refine iteF ?_
          refine ⟨_, rfl, t, _, 0, _, rfl, rfl, SqT.of ht, atI_nat (j := 0) rfl, rfl, _, rfl, wno (by decide +kernel) ?_⟩
          refine ⟨_, rfl, t, _, 0, _, rfl, rfl, SqT.of ht, atI_nat (j := 0) rfl, rfl, _, rfl, wno (by decide +kernel) ?_⟩
          refine ⟨_, rfl, t, _, 0, _, rfl, rfl, SqT.of ht, atI_nat (j := 0) rfl, rfl, _, rfl, wno (by decide +kernel) ?_⟩
          exact q _ _ (Same.refl H) rfl
      · rw [e2]
        rw [e1] at q
        refine iteT ?_
        exact ⟨_, rfl, by show 2 ≤ sizeLine; decide, fun p hp => q _ _ (same_new hp _) ⟨p, rfl, upd_same⟩⟩
    | rep z u y =>
      obtain ⟨vy, ht, hy⟩ := hd
      refine ⟨_, rfl, t, _, 1, _, rfl, rfl, SqT.of ht, atI_nat (j := 1) rfl, ?_⟩
      refine ⟨_, rfl, t, _, 0, _, rfl, rfl, SqT.of ht, atI_nat (j := 0) rfl, rfl, _, rfl, wno (by decide +kernel) ?_⟩
      refine ⟨_, rfl, t, _, 0, _, rfl, rfl, SqT.of ht, atI_nat (j := 0) rfl, rfl, _, rfl, wno (by decide +kernel) ?_⟩
      refine iteF ?_
      refine ⟨_, rfl, t, _, 0, _, rfl, rfl, SqT.of ht, atI_nat (j := 0) rfl, rfl, _, rfl, wyes rfl ?_⟩
      refine ⟨_, rfl, _, rfl, sl, _, 0, _, rfl, rfl, SqL.of hsl, atI_nat (j := 0) rfl, d1, _, rfl, DGet.k (k := .inr z) hd1, _, rfl, ?_⟩
      have es : step b (.rep z u y) = wItem b z u (.cons y .nil) := rfl
      rw [es, wItem] at q
      rcases tab_some (z := z) t1 with ⟨x, v, e1, e2, tx, nx, px, xs, rfl, htx, hpx, hx⟩ | ⟨e1, e2⟩
      · rw [e2]
        rw [e1] at q
        dsimp only at q
        refine iteF ?_
        have hok := ok.s _ (tget_mem e1)
        have dg : DGet H d1 (.str z) (some (.ref tx)) := by
          have k := DGet.k (k := .inr z) hd1
          rw [e2] at k
          exact k
        refine ⟨_, rfl, t, _, 2, _, rfl, rfl, SqT.of ht, atI_nat (j := 2) rfl, _, rfl, sl, _, 0, _, rfl, rfl, SqL.of hsl, atI_nat (j := 0) rfl, _, rfl, d1, _, rfl, dg, tx, _, 1, _, rfl, rfl, SqT.of htx, atI_nat (j := 1) rfl, px, x, xs, rfl, hpx, hx, hok.2.1, hok.2.2.1, fun r H1 s1 nr hr1 => ?_⟩
        refine ⟨r, _, rfl, .inl (SqL.of hr1), rfl, flat_strs _, _, rfl, ?_⟩
        rw [show (if true = true then !inV (V.str u) (x.names.map V.str) else inV (V.str u) (x.names.map V.str)) = !inV (V.str u) (x.names.map V.str) from rfl, inV_strs]
        by_cases hin : u ∈ x.names
        · rw [if_pos hin] at q
          rw [show (x.names.any fun y => decide (y = u)) = true from List.any_eq_true.mpr ⟨u, hin, decide_eq_true rfl⟩]
          refine iteF ?_
          have ki := item_ok (u := u) (ys := (.cons y .nil)) hok.2.1 hok.2.2.1 hok.2.2.2 (by simp [Its.len]) (fun w hw => by simp [Its.toL] at hw; rw [hw]; exact hco.2.2.1) (by simp only [Its.tame]; exact ⟨hco.2.2.2, True.intro⟩)
          rw [shape_lv ki.2.1 ki.1] at q
          have ht1 := s1 _ _ ht
          have hsl1 := s1 _ _ hsl
          have hd11 := s1 _ _ hd1
          have dg1 : DGet H1 d1 (.str z) (some (.ref tx)) := by
            have k := DGet.k (k := .inr z) hd11
            rw [e2] at k
            exact k
          refine ⟨_, rfl, sl, _, 0, _, rfl, rfl, SqL.of hsl1, atI_nat (j := 0) rfl, _, rfl, d1, _, rfl, dg1, tx, _, 1, _, rfl, rfl, SqT.of (s1 _ _ htx), atI_nat (j := 1) rfl, _, rfl, t, _, 2, _, rfl, rfl, SqT.of ht1, atI_nat (j := 2) rfl, _, rfl, 3, rfl, t, _, rfl, SqT.of ht1, fun zz => absurd zz.1 (by show ¬ (HT.sIx 4 0 (some 3) = 0); decide +kernel), fun _ c1 hc1 => ?_⟩
          rw [show cutV [V.str "replace_item", .str z, .str u, vy] (some 3) none = [vy] from rfl] at *
          have s2 := same_new hc1 (.tup [vy])
          have hc1' : upd H1 c1 (.tup [vy]) c1 = some (.tup [vy]) := upd_same
          generalize upd H1 c1 (.tup [vy]) = H2 at s2 hc1' ⊢
          refine ⟨c1, _, rfl, .inr (SqT.of hc1'), fun lo hlo => ?_⟩
          have s3 := same_new hlo (.lst [vy])
          have hlo' : upd H2 lo (.lst [vy]) lo = some (.lst [vy]) := upd_same
          generalize upd H2 lo (.lst [vy]) = H3 at s3 hlo' ⊢
          have S3 := s1.trans (s2.trans s3)
          refine ⟨px, lo, x, (.cons y .nil), xs, [vy], u, rfl, S3 _ _ hpx, Its.At.same S3 hx, hok.2.1, hok.2.2.1, hlo', by simp only [Its.At]; exact ⟨vy, [], rfl, It.At.same S3 hy, rfl⟩, by simp [Its.len], fun af zs H4 s4 haf hat => ?_⟩
          have S4 := S3.trans s4
          have lz : zs.length = (x.repl u (.cons y .nil)).len := by rw [plen (of_at hat), toL_len]
          refine ⟨_, rfl, _, _, rfl, .inr ⟨_, SqT.of haf, rfl⟩, rfl, _, rfl, ?_⟩
          rw [lz, int_eq]
          have k1 := ki.1
          have k2 := ki.2.1
          generalize x.repl u (.cons y .nil) = X at lz hat q k1 k2 ⊢
          have flt : ∀ {H5 : Hp}, Same H4 H5 → (decide (1 ≤ X.len) && lv X) = false → ∀ p, H5 p = none → Q (.ref p) (upd H5 p (.tup [.str "shape", .str ""])) := fun {H5} s5 e p hp => by
            rw [e] at q
            exact q _ _ (S4.trans (s5.trans (same_new hp _))) ⟨p, rfl, upd_same⟩
          by_cases l0 : X.len = 0
          · rw [show decide ((X.len : Int) = 0) = true from decide_eq_true (by omega)]
            refine iteT (iteT ?_)
            exact ⟨by show 2 ≤ sizeLine; decide, fun p hp => flt (Same.refl _) (by rw [l0]; rfl) p hp⟩
          · rw [show decide ((X.len : Int) = 0) = false from decide_eq_false (by omega)]
            refine iteF ?_
            refine ⟨_, rfl, af, X, zs, rfl, haf, hat, k1, k2, fun H5 s5 => ⟨_, rfl, ?_⟩⟩
            cases elv : lv X with
            | false =>
              refine iteT ?_
              exact ⟨by show 2 ≤ sizeLine; decide, fun p hp => flt s5 (by rw [elv, Bool.and_false]) p hp⟩
            | true =>
              refine iteF ?_
              rw [elv, Bool.and_true, decide_eq_true (show 1 ≤ X.len by omega), if_pos rfl] at q
              refine ⟨_, rfl, t, _, 0, _, rfl, rfl, SqT.of ((S4.trans s5) _ _ ht), atI_nat (j := 0) rfl, rfl, _, rfl, wno (by decide +kernel) ?_⟩
              exact q _ _ (S4.trans s5) rfl
        · rw [if_neg hin] at q
          rw [show (x.names.any fun y => decide (y = u)) = false from by rw [List.any_eq_false]; intro y hy e; exact hin (of_decide_eq_true e ▸ hy)]
          refine iteT ?_
          exact ⟨_, rfl, t, _, 2, _, rfl, rfl, SqT.of (s1 _ _ ht), atI_nat (j := 2) rfl, by show 2 ≤ sizeLine; decide, fun p hp => q _ _ (s1.trans (same_new hp _)) ⟨p, rfl, upd_same⟩⟩
      · rw [e2]
        rw [e1] at q
        refine iteT ?_
        exact ⟨_, rfl, by show 2 ≤ sizeLine; decide, fun p hp => q _ _ (same_new hp _) ⟨p, rfl, upd_same⟩⟩
    | del z u =>
      have ht : H t = some (.tup [.str "remove_item", .str z, .str u]) := hd
      refine ⟨_, rfl, t, _, 1, _, rfl, rfl, SqT.of ht, atI_nat (j := 1) rfl, ?_⟩
      refine ⟨_, rfl, t, _, 0, _, rfl, rfl, SqT.of ht, atI_nat (j := 0) rfl, rfl, _, rfl, wno (by decide +kernel) ?_⟩
      refine ⟨_, rfl, t, _, 0, _, rfl, rfl, SqT.of ht, atI_nat (j := 0) rfl, rfl, _, rfl, wno (by decide +kernel) ?_⟩
      refine iteF ?_
      refine ⟨_, rfl, t, _, 0, _, rfl, rfl, SqT.of ht, atI_nat (j := 0) rfl, rfl, _, rfl, wno (by decide +kernel) ?_⟩
      refine ⟨_, rfl, t, _, 0, _, rfl, rfl, SqT.of ht, atI_nat (j := 0) rfl, rfl, _, rfl, wyes rfl ?_⟩
      refine ⟨_, rfl, _, rfl, sl, _, 0, _, rfl, rfl, SqL.of hsl, atI_nat (j := 0) rfl, d1, _, rfl, DGet.k (k := .inr z) hd1, _, rfl, ?_⟩
      have es : step b (.del z u) = wItem b z u .nil := rfl
      rw [es, wItem] at q
      rcases tab_some (z := z) t1 with ⟨x, v, e1, e2, tx, nx, px, xs, rfl, htx, hpx, hx⟩ | ⟨e1, e2⟩
      · rw [e2]
        rw [e1] at q
        dsimp only at q
        refine iteF ?_
        have hok := ok.s _ (tget_mem e1)
        have dg : DGet H d1 (.str z) (some (.ref tx)) := by
          have k := DGet.k (k := .inr z) hd1
          rw [e2] at k
          exact k
        refine ⟨_, rfl, t, _, 2, _, rfl, rfl, SqT.of ht, atI_nat (j := 2) rfl, _, rfl, sl, _, 0, _, rfl, rfl, SqL.of hsl, atI_nat (j := 0) rfl, _, rfl, d1, _, rfl, dg, tx, _, 1, _, rfl, rfl, SqT.of htx, atI_nat (j := 1) rfl, px, x, xs, rfl, hpx, hx, hok.2.1, hok.2.2.1, fun r H1 s1 nr hr1 => ?_⟩
        refine ⟨r, _, rfl, .inl (SqL.of hr1), rfl, flat_strs _, _, rfl, ?_⟩
        rw [show (if true = true then !inV (V.str u) (x.names.map V.str) else inV (V.str u) (x.names.map V.str)) = !inV (V.str u) (x.names.map V.str) from rfl, inV_strs]
        by_cases hin : u ∈ x.names
        · rw [if_pos hin] at q
          rw [show (x.names.any fun y => decide (y = u)) = true from List.any_eq_true.mpr ⟨u, hin, decide_eq_true rfl⟩]
          refine iteF ?_
          have ki := item_ok (u := u) (ys := .nil) hok.2.1 hok.2.2.1 hok.2.2.2 (by simp [Its.len]) (fun w hw => by simp [Its.toL] at hw) (by simp only [Its.tame])
          rw [shape_lv ki.2.1 ki.1] at q
          have ht1 := s1 _ _ ht
          have hsl1 := s1 _ _ hsl
          have hd11 := s1 _ _ hd1
          have dg1 : DGet H1 d1 (.str z) (some (.ref tx)) := by
            have k := DGet.k (k := .inr z) hd11
            rw [e2] at k
            exact k
          refine ⟨_, rfl, sl, _, 0, _, rfl, rfl, SqL.of hsl1, atI_nat (j := 0) rfl, _, rfl, d1, _, rfl, dg1, tx, _, 1, _, rfl, rfl, SqT.of (s1 _ _ htx), atI_nat (j := 1) rfl, _, rfl, t, _, 2, _, rfl, rfl, SqT.of ht1, atI_nat (j := 2) rfl, _, rfl, 3, rfl, t, _, rfl, SqT.of ht1, fun zz => absurd zz.1 (by show ¬ (HT.sIx 3 0 (some 3) = 0); decide +kernel), fun _ c1 hc1 => ?_⟩
          rw [show cutV [V.str "remove_item", .str z, .str u] (some 3) none = [] from rfl] at *
          have s2 := same_new hc1 (.tup ([] : List V))
          have hc1' : upd H1 c1 (.tup ([] : List V)) c1 = some (.tup []) := upd_same
          generalize upd H1 c1 (.tup ([] : List V)) = H2 at s2 hc1' ⊢
          refine ⟨c1, _, rfl, .inr (SqT.of hc1'), fun lo hlo => ?_⟩
          have s3 := same_new hlo (.lst ([] : List V))
          have hlo' : upd H2 lo (.lst ([] : List V)) lo = some (.lst []) := upd_same
          generalize upd H2 lo (.lst ([] : List V)) = H3 at s3 hlo' ⊢
          have S3 := s1.trans (s2.trans s3)
          refine ⟨px, lo, x, .nil, xs, [], u, rfl, S3 _ _ hpx, Its.At.same S3 hx, hok.2.1, hok.2.2.1, hlo', by simp only [Its.At], by simp [Its.len], fun af zs H4 s4 haf hat => ?_⟩
          have S4 := S3.trans s4
          have lz : zs.length = (x.repl u .nil).len := by rw [plen (of_at hat), toL_len]
          refine ⟨_, rfl, _, _, rfl, .inr ⟨_, SqT.of haf, rfl⟩, rfl, _, rfl, ?_⟩
          rw [lz, int_eq]
          have k1 := ki.1
          have k2 := ki.2.1
          generalize x.repl u .nil = X at lz hat q k1 k2 ⊢
          have flt : ∀ {H5 : Hp}, Same H4 H5 → (decide (1 ≤ X.len) && lv X) = false → ∀ p, H5 p = none → Q (.ref p) (upd H5 p (.tup [.str "shape", .str ""])) := fun {H5} s5 e p hp => by
            rw [e] at q
            exact q _ _ (S4.trans (s5.trans (same_new hp _))) ⟨p, rfl, upd_same⟩
          by_cases l0 : X.len = 0
          · rw [show decide ((X.len : Int) = 0) = true from decide_eq_true (by omega)]
            refine iteT (iteT ?_)
            exact ⟨by show 2 ≤ sizeLine; decide, fun p hp => flt (Same.refl _) (by rw [l0]; rfl) p hp⟩
          · rw [show decide ((X.len : Int) = 0) = false from decide_eq_false (by omega)]
            refine iteF ?_
            refine ⟨_, rfl, af, X, zs, rfl, haf, hat, k1, k2, fun H5 s5 => ⟨_, rfl, ?_⟩⟩
            cases elv : lv X with
            | false =>
              refine iteT ?_
              exact ⟨by show 2 ≤ sizeLine; decide, fun p hp => flt s5 (by rw [elv, Bool.and_false]) p hp⟩
            | true =>
              refine iteF ?_
              rw [elv, Bool.and_true, decide_eq_true (show 1 ≤ X.len by omega), if_pos rfl] at q
              refine ⟨_, rfl, t, _, 0, _, rfl, rfl, SqT.of ((S4.trans s5) _ _ ht), atI_nat (j := 0) rfl, rfl, _, rfl, wno (by decide +kernel) ?_⟩
              exact q _ _ (S4.trans s5) rfl
        · rw [if_neg hin] at q
          rw [show (x.names.any fun y => decide (y = u)) = false from by rw [List.any_eq_false]; intro y hy e; exact hin (of_decide_eq_true e ▸ hy)]
          refine iteT ?_
          exact ⟨_, rfl, t, _, 2, _, rfl, rfl, SqT.of (s1 _ _ ht), atI_nat (j := 2) rfl, by show 2 ≤ sizeLine; decide, fun p hp => q _ _ (s1.trans (same_new hp _)) ⟨p, rfl, upd_same⟩⟩
      · rw [e2]
        rw [e1] at q
        refine iteT ?_
        exact ⟨_, rfl, by show 2 ≤ sizeLine; decide, fun p hp => q _ _ (same_new hp _) ⟨p, rfl, upd_same⟩⟩
    | ask z wd ns =>
      obtain ⟨ll, ht, hl⟩ := hd
      obtain ⟨hz, hwd, hn, hns⟩ := hco
      refine ⟨_, rfl, t, _, 1, _, rfl, rfl, SqT.of ht, atI_nat (j := 1) rfl, ?_⟩
      refine ⟨_, rfl, t, _, 0, _, rfl, rfl, SqT.of ht, atI_nat (j := 0) rfl, rfl, _, rfl, wno (by decide +kernel) ?_⟩
      refine ⟨_, rfl, t, _, 0, _, rfl, rfl, SqT.of ht, atI_nat (j := 0) rfl, rfl, _, rfl, wno (by decide +kernel) ?_⟩
      refine iteF ?_
      refine ⟨_, rfl, t, _, 0, _, rfl, rfl, SqT.of ht, atI_nat (j := 0) rfl, rfl, _, rfl, wno (by decide +kernel) ?_⟩
      refine ⟨_, rfl, t, _, 0, _, rfl, rfl, SqT.of ht, atI_nat (j := 0) rfl, rfl, _, rfl, wno (by decide +kernel) ?_⟩
      refine ⟨_, rfl, t, _, 0, _, rfl, rfl, SqT.of ht, atI_nat (j := 0) rfl, rfl, _, rfl, wyes rfl ?_⟩
      have es : step b (.ask z wd ns) = wQuest b z wd ns := rfl
      rw [es, wQuest] at q
      refine ⟨_, rfl, t, _, 2, _, rfl, rfl, SqT.of ht, atI_nat (j := 2) rfl, by show 5 ≤ sizeLine; decide, fun pk hpk => ⟨pk, _, rfl, .inr (SqT.of upd_same), rfl, by decide +kernel, _, rfl, ?_⟩⟩
      have s1 := same_new hpk (.tup [V.str "ways", .str "shortest", .str "longest", .str "covers", .str "same"])
      have e5 : (if true = true then !inV (V.str wd) [V.str "ways", .str "shortest", .str "longest", .str "covers", .str "same"] else inV (V.str wd) [V.str "ways", .str "shortest", .str "longest", .str "covers", .str "same"]) = !(wordOf wd).isSome := by
        simp only [qWords, List.mem_cons, List.not_mem_nil, or_false] at hwd
        rcases hwd with rfl | rfl | rfl | rfl | rfl | rfl <;> decide +kernel
      rw [e5]
      have e2 : ∀ n, wordOf wd = some n → n = 1 + (if inV (V.str wd) [V.str "covers", .str "same"] = true then 1 else 0) := by
        simp only [qWords, List.mem_cons, List.not_mem_nil, or_false] at hwd
        rcases hwd with rfl | rfl | rfl | rfl | rfl | rfl <;> intro n e
        · obtain rfl := Option.some.inj ((show wordOf "ways" = some 1 by decide +kernel).symm.trans e); decide +kernel
        · obtain rfl := Option.some.inj ((show wordOf "shortest" = some 1 by decide +kernel).symm.trans e); decide +kernel
        · obtain rfl := Option.some.inj ((show wordOf "longest" = some 1 by decide +kernel).symm.trans e); decide +kernel
        · obtain rfl := Option.some.inj ((show wordOf "covers" = some 2 by decide +kernel).symm.trans e); decide +kernel
        · obtain rfl := Option.some.inj ((show wordOf "same" = some 2 by decide +kernel).symm.trans e); decide +kernel
        · exact absurd ((show wordOf "way" = none by decide +kernel).symm.trans e) (by simp)
      have ht1 := s1 _ _ ht
      have hl1 := s1 _ _ hl
      generalize upd H pk (.tup [V.str "ways", .str "shortest", .str "longest", .str "covers", .str "same"]) = H1 at s1 ht1 hl1 ⊢
      cases ew : wordOf wd with
      | none =>
        rw [ew] at q
        refine iteT ?_
        exact ⟨_, rfl, t, _, 2, _, rfl, rfl, SqT.of ht1, atI_nat (j := 2) rfl, by show 2 ≤ sizeLine; decide, fun p hp => q _ _ (s1.trans (same_new hp _)) ⟨p, rfl, upd_same⟩⟩
      | some n =>
        rw [ew] at q
        dsimp only at q
        have e2 := e2 n ew
        refine iteF ?_
        refine ⟨_, rfl, t, _, 3, _, rfl, rfl, SqT.of ht1, atI_nat (j := 3) rfl, _, _, rfl, .inl ⟨_, SqL.of hl1, rfl⟩, _, rfl, t, _, 2, _, rfl, rfl, SqT.of ht1, atI_nat (j := 2) rfl, by show 2 ≤ sizeLine; decide, fun pk2 hpk2 => ⟨pk2, _, rfl, .inr (SqT.of upd_same), rfl, by decide +kernel, .inr ⟨_, rfl, _, _, rfl, rfl, rfl, _, rfl, ?_⟩⟩⟩
        have s2 := s1.trans (same_new hpk2 (.tup [V.str "covers", .str "same"]))
        rw [show (if false = true then !inV (V.str wd) [V.str "covers", .str "same"] else inV (V.str wd) [V.str "covers", .str "same"]) = inV (V.str wd) [V.str "covers", .str "same"] from rfl]
        have ht2 := s2 _ _ ht
        have hl2 := s2 _ _ hl
        have hsl2 := s2 _ _ hsl
        have hd12 := s2 _ _ hd1
        generalize upd H1 pk2 (.tup [V.str "covers", .str "same"]) = H2 at s2 ht2 hl2 hsl2 hd12 ⊢
        have ell : ((ns.map V.str).length : Int) = (ns.length : Nat) := by rw [List.length_map]
        have e2i : (1 : Int) + (if inV (V.str wd) [V.str "covers", .str "same"] = true then 1 else 0) = (n : Nat) := by
          rw [e2]; split <;> rfl
        refine ite2 (fun c => ?_) (fun c => ?_)
        · have c : ¬ n = ns.length := fun e => by
            rw [Bool.not_eq_true'] at c
            exact of_decide_eq_false c (by show V.int _ = V.int (1 + _); rw [e2i, ell, e])
          rw [if_neg c] at q
          exact ⟨by show 2 ≤ sizeLine; decide, fun p hp => q _ _ (s2.trans (same_new hp _)) ⟨p, rfl, upd_same⟩⟩
        · have c : n = ns.length := by
            rw [Bool.not_eq_true', Bool.not_eq_false] at c
            have c3 : V.int ((ns.map V.str).length : Nat) = V.int (1 + (if inV (V.str wd) [V.str "covers", .str "same"] = true then 1 else 0)) := of_decide_eq_true c
            rw [e2i, ell] at c3
            have c4 := V.int.inj c3
            omega
          rw [if_pos c] at q
          refine ⟨_, rfl, t, _, 3, _, rfl, rfl, SqT.of ht2, atI_nat (j := 3) rfl, ll, rfl, ⟨_, SqL.of hl2⟩, for_it (walk_list (K := K) (a := ll) (xs := ns.map V.str)) (fun i σ H' => ∃ o3 o4 o5 : Option V, σ = [some (.ref sl), some (.ref t), some (.str z), o3, o4, o5] ∧ H' = H2 ∧ ∀ u ∈ ns.take i, tget b.sh u ≠ none) ⟨_, _, _, rfl, rfl, by simp⟩ (fun _ _ _ _ h => by obtain ⟨_, _, _, _, e, _⟩ := h; rw [e]; exact SqL.of hl2) ?_ ?_⟩
          · rintro i x σ H3' H3 hi ⟨o3, o4, o5, rfl, rfl, al⟩ ⟨e3, hv2⟩
            subst e3
            obtain ⟨y, hy, rfl⟩ := str_at0 hv2
            refine ⟨_, rfl, _, rfl, sl, _, 0, _, rfl, rfl, SqL.of hsl2, atI_nat (j := 0) rfl, d1, _, rfl, DGet.k (k := .inr y) hd12, _, rfl, ?_⟩
            rcases tab_some (z := y) t1 with ⟨a, v, e1, e2', _⟩ | ⟨e1, e2'⟩
            · rw [e2']
              refine iteF ?_
              refine ⟨_, _, _, rfl, rfl, fun u hu' => ?_⟩
              rw [List.take_add_one, hy] at hu'
              rcases List.mem_append.mp hu' with h | h
              · exact al u h
              · have e : u = y := by simpa using h
                subst e
                rw [e1]; intro h; cases h
            · rw [e2']
              rw [first_some al hy e1] at q
              refine iteT ?_
              exact ⟨_, rfl, by show 2 ≤ sizeLine; decide, fun p hp => q _ _ (s2.trans (same_new hp _)) ⟨p, rfl, upd_same⟩⟩
          · rintro σ H3 ⟨o3, o4, o5, rfl, e, al⟩
            have e := e.symm
            subst e
            rw [List.length_map, List.take_length] at al
            rw [first_none al] at q
            exact q _ _ s2 rfl
    | drop z =>
      have ht : H t = some (.tup [.str "drop", .str z]) := hd
      refine ⟨_, rfl, t, _, 1, _, rfl, rfl, SqT.of ht, atI_nat (j := 1) rfl, ?_⟩
      refine ⟨_, rfl, t, _, 0, _, rfl, rfl, SqT.of ht, atI_nat (j := 0) rfl, rfl, _, rfl, wno (by decide +kernel) ?_⟩
      refine ⟨_, rfl, t, _, 0, _, rfl, rfl, SqT.of ht, atI_nat (j := 0) rfl, rfl, _, rfl, wyes rfl ?_⟩
      refine ⟨_, rfl, _, rfl, sl, _, 1, _, rfl, rfl, SqL.of hsl, atI_nat (j := 1) rfl, d2, _, rfl, DGet.k (k := .inr z) hd2, _, rfl, ?_⟩
      simp only [step, woQuest] at q
      rcases tab_some (z := z) t2 with ⟨a, v, e1, e2, _⟩ | ⟨e1, e2⟩
      · rw [e2]
        rw [e1] at q
        refine iteF ?_
        refine ⟨_, rfl, t, _, 0, _, rfl, rfl, SqT.of ht, atI_nat (j := 0) rfl, rfl, _, rfl, wno (by decide +kernel) ?_⟩
        refine ⟨_, rfl, t, _, 0, _, rfl, rfl, SqT.of ht, atI_nat (j := 0) rfl, rfl, _, rfl, wno (by decide +kernel) ?_⟩
        refine ⟨_, rfl, t, _, 0, _, rfl, rfl, SqT.of ht, atI_nat (j := 0) rfl, rfl, _, rfl, wno (by decide +kernel) ?_⟩
        exact q _ _ (Same.refl H) rfl
      · rw [e2]
        rw [e1] at q
        refine iteT ?_
        exact ⟨_, rfl, by show 2 ≤ sizeLine; decide, fun p hp => q _ _ (same_new hp _) ⟨p, rfl, upd_same⟩⟩
end
end Bs

set_option Elab.async false
set_option linter.all false
set_option maxRecDepth 100000
set_option maxHeartbeats 8000000
namespace Bs
open PySem L2
/-! ### the law's next state -/
structure Kl (H H' : Hp) : Prop where
  t : ∀ a xs, H a = some (.tup xs) → H' a = some (.tup xs)
  l : ∀ a xs, H a = some (.lst xs) → H' a = some (.lst xs)
theorem Kl.kp {H H' : Hp} (k : Kl H H') : Kp true H H' := ⟨k.t, fun z => by cases z⟩
theorem SeV.kl {H H' : Hp} (k : Kl H H') {v : V} {x : Its} (h : SeV H v x) : SeV H' v x := let ⟨t, n, p, xs, e, a, b, c⟩ := h; ⟨t, n, p, xs, e, k.t _ _ a, k.t _ _ b, Its.At.kp k.kp c⟩
theorem SqV.kl {H H' : Hp} (k : Kl H H') {v : V} {q : Str × List Str} (h : SqV H v q) : SqV H' v q := let ⟨t, l, e, a, b⟩ := h; ⟨t, l, e, k.t _ _ a, k.l _ _ b⟩
theorem kl_dict {H : Hp} {d : Addr} {k0 : List (Key × V)} {u : HO} (hd : H d = some (.dK k0)) : Kl H (upd H d u) :=
  ⟨fun a xs e => by rw [upd_ne (fun z => by rw [z, hd] at e; cases e)]; exact e, fun a xs e => by rw [upd_ne (fun z => by rw [z, hd] at e; cases e)]; exact e⟩
abbrev sNext : Stmt := top 122
def spNext : Sp := fun vs H Q _ => ∃ (sl t : Addr) (en : Int) (b b' : Bd) (c : Ch) (m : Nat), vs = [.ref sl, .ref t, .int en] ∧ StAt H sl b ∧ DeedAt H t c ∧ b.ok m ∧ m ≤ 1000 ∧ c.ok ∧ step b c = .ok b' ∧ ∀ l H', Same H H' → StAt H' l b' → Q (.ref l) H'
section
variable {P : Program} {w : World} {K : PySem.W.Frag} {mg : Str → Option Value} {base : Heap} {f : Addr} {fd : FuncData}
abbrev nNext : List Str := ["state", "deed", "entry", "after", "name"]
theorem scNext : FnScope nNext ["state", "deed", "entry"] (defScope sNext) := ⟨rfl, rfl, rfl, by decide +kernel, rfl, by decide +kernel, by decide +kernel⟩
theorem ok_next (F : Fun K "_law_next" "_law_next" sNext f fd) (gE : Cal P w K mg base CX0 2 "_law_edited" ["parts", "name", "others"] (spLEdited 1)) (md : mg "dict" = none) (mlist : mg "list" = none) : FnOk P w K mg base CX0 3 f fd ["state", "deed", "entry"] spNext := by
  refine F.ok scNext (fun vs H Q E h => ?_) (fun cdv A outer s H vs Q E hr h => ?_)
  · obtain ⟨sl, t, en, b, b', c, m, rfl, _⟩ := h
    rfl
  · obtain ⟨sl, t, en, b, b', c, m, rfl, hs, hd, ok, hm, hco, es, q⟩ := h
    have hu := hu_of hr
    refine ⟨_, (pss_cons (ps_set (i := 3) scNext.nd rfl (.inl rfl) (pe_lst (pa_cons (pe_callTy call_dictD (by rfl) md (by decide +kernel) (pa_cons (pe_ix ix_list (pv 0) pe_int (fun _ _ => rfl)) pa_nil)) (pa_cons (pe_callTy call_dictD (by rfl) md (by decide +kernel) (pa_cons (pe_ix ix_list (pv 0) pe_int (fun _ _ => rfl)) pa_nil)) pa_nil))))
      (pss_cons (ps_set (i := 4) scNext.nd rfl (.inl rfl) (pe_ix ix_tup (pv 1) pe_int (fun _ _ => rfl)))
      (pss_cons (ps_if (pt_cmpR op_eq (pe_ix ix_tup (pv 1) pe_int (fun _ _ => rfl)) pe_str (nomark _)) (pss_one (ps_dput hu (pe_ix ix_list (pv 3) pe_int (fun _ _ => rfl)) (pv 4) (pe_tup (pa_cons (pv 2) (pa_cons (pe_ix ix_tup (pv 1) pe_int (fun _ _ => rfl)) pa_nil))) rfl)) pss_nil)
      (pss_cons (ps_if (pt_cmpR op_eq (pe_ix ix_tup (pv 1) pe_int (fun _ _ => rfl)) pe_str (nomark _)) (pss_one (ps_expr (pe_dpop1 (pe_ix ix_list (pv 3) pe_int (fun _ _ => rfl)) (pv 4) ⟨rfl, rfl, rfl, rfl⟩))) pss_nil)
      (pss_cons (ps_if (PW.pt (pw_or (pt_cmpR op_eq (pe_ix ix_tup (pv 1) pe_int (fun _ _ => rfl)) pe_str (nomark _)) (pw_or1 (pt_cmpR op_eq (pe_ix ix_tup (pv 1) pe_int (fun _ _ => rfl)) pe_str (nomark _))))) (pss_one (ps_dput hu (pe_ix ix_list (pv 3) pe_int (fun _ _ => rfl)) (pv 4) (pe_tup (pa_cons (pv 2) (pa_cons (pe_cal gE hr pass0 (pa_cons (pe_ix ix_tup (pe_dget hu (pe_ix ix_list (pv 0) pe_int (fun _ _ => rfl)) (pv 4) (fun _ _ => rfl)) pe_int (fun _ _ => rfl)) (pa_cons (pe_ix ix_tup (pv 1) pe_int (fun _ _ => rfl)) (pa_cons (pe_callTy call_list_of (by rfl) mlist (by decide +kernel) (pa_cons (pe_slice sl_tupA (pv 1) (po_some pe_int) po_none) pa_nil)) pa_nil)))) pa_nil))) rfl)) pss_nil)
      (pss_cons (ps_if (pt_cmpR op_eq (pe_ix ix_tup (pv 1) pe_int (fun _ _ => rfl)) pe_str (nomark _)) (pss_one (ps_dput hu (pe_ix ix_list (pv 3) pe_int (fun _ _ => rfl)) (pv 4) (pe_tup (pa_cons (pe_ix ix_tup (pv 1) pe_int (fun _ _ => rfl)) (pa_cons (pe_callTy call_list_of (by rfl) mlist (by decide +kernel) (pa_cons (pe_ix ix_tup (pv 1) pe_int (fun _ _ => rfl)) pa_nil)) pa_nil))) rfl)) pss_nil)
      (pss_cons (ps_if (pt_cmpR op_eq (pe_ix ix_tup (pv 1) pe_int (fun _ _ => rfl)) pe_str (nomark _)) (pss_one (ps_expr (pe_dpop1 (pe_ix ix_list (pv 3) pe_int (fun _ _ => rfl)) (pv 4) ⟨rfl, rfl, rfl, rfl⟩))) pss_nil)
      (pss_one (ps_ret (pv 3)))))))))), ?_⟩
    obtain ⟨d1, d2, k1, k2, hsl, hd1, t1, hd2, t2⟩ := hs.h
    have kl1 := t1.len
    have kl2 := t2.len
    have ol1 := ok.l1
    have ol2 := ok.l2
    refine ⟨_, rfl, sl, _, 0, _, rfl, rfl, SqL.of hsl, atI_nat (j := 0) rfl, d1, k1, rfl, .inl hd1, fun e1 he1 => ?_⟩
    have s1 := same_new he1 (.dK k1)
    have u1 : upd H e1 (.dK k1) e1 = some (.dK k1) := upd_same
    generalize upd H e1 (.dK k1) = H1 at s1 u1 ⊢
    refine ⟨_, rfl, sl, _, 1, _, rfl, rfl, SqL.of (s1 _ _ hsl), atI_nat (j := 1) rfl, d2, k2, rfl, .inl (s1 _ _ hd2), fun e2 he2 => ?_⟩
    have s2 := same_new he2 (.dK k2)
    have u2 : upd H1 e2 (.dK k2) e2 = some (.dK k2) := upd_same
    have u12 := s2 _ _ u1
    have ne12 : e1 ≠ e2 := ne_of_none u1 he2
    generalize upd H1 e2 (.dK k2) = H2 at s2 u2 u12 ⊢
    refine ⟨by show 2 ≤ sizeLine; decide, fun l hl => ?_⟩
    have s3 := same_new hl (.lst [.ref e1, .ref e2])
    have ul : upd H2 l (.lst [.ref e1, .ref e2]) l = some (.lst [.ref e1, .ref e2]) := upd_same
    have v1 := s3 _ _ u12
    have v2 := s3 _ _ u2
    have S3 := s1.trans (s2.trans s3)
    have ne2 : H e2 = none := s1.free he2
    generalize upd H2 l (.lst [.ref e1, .ref e2]) = H3 at S3 ul v1 v2 ⊢
    -- a write to a table, and its end
    have wr1 : ∀ {H4 : Hp} {k' : List (Key × V)} {sh' : List (Str × Its)}, Same H3 H4 → TabR (SeV H4) k' sh' → Same H (upd H4 e1 (.dK k')) ∧ StAt (upd H4 e1 (.dK k')) l ⟨sh', b.qs⟩ := fun {H4 k' sh'} s4 tb => by
      have w1 := s4 _ _ v1
      have kl := kl_dict (u := .dK k') w1
      refine ⟨fun a u e => by rw [upd_ne (ne_of_none e he1)]; exact s4 _ _ (S3 _ _ e), ⟨e1, e2, k', k2, kl.l _ _ (s4 _ _ ul), upd_same, tb.imp fun _ _ => SeV.kl kl, by rw [upd_ne (Ne.symm ne12)]; exact s4 _ _ v2, (t2.imp fun _ _ => SqV.kd (.of (S3.trans s4))).imp fun _ _ => SqV.kl kl⟩⟩
    have wr2 : ∀ {H4 : Hp} {k' : List (Key × V)} {qs' : List (Str × (Str × List Str))}, Same H3 H4 → TabR (SqV H4) k' qs' → Same H (upd H4 e2 (.dK k')) ∧ StAt (upd H4 e2 (.dK k')) l ⟨b.sh, qs'⟩ := fun {H4 k' qs'} s4 tb => by
      have w1 := s4 _ _ v2
      have kl := kl_dict (u := .dK k') w1
      refine ⟨fun a u e => by rw [upd_ne (ne_of_none e ne2)]; exact s4 _ _ (S3 _ _ e), ⟨e1, e2, k1, k', kl.l _ _ (s4 _ _ ul), by rw [upd_ne ne12]; exact s4 _ _ v1, (t1.imp fun _ _ => SeV.kd (.of (S3.trans s4))).imp fun _ _ => SeV.kl kl, upd_same, tb.imp fun _ _ => SqV.kl kl⟩⟩
    cases c with
    | set z x =>
      obtain ⟨pp, xs, ht, hp, hx⟩ := hd
      simp only [step, Except.ok.injEq] at es
      subst es
      have ht3 := S3 _ _ ht
      refine ⟨_, rfl, t, _, 1, _, rfl, rfl, SqT.of ht3, atI_nat (j := 1) rfl, ?_⟩
      refine ⟨_, rfl, t, _, 0, _, rfl, rfl, SqT.of ht3, atI_nat (j := 0) rfl, rfl, _, rfl, wyes rfl ?_⟩
      refine ⟨_, rfl, _, rfl, t, _, 2, _, rfl, rfl, SqT.of ht3, atI_nat (j := 2) rfl, by show 2 ≤ sizeLine; decide, fun r hr1 => ?_⟩
      have s4 := same_new hr1 (.tup [.int en, .ref pp])
      have hr4 : upd H3 r (.tup [.int en, .ref pp]) r = some (.tup [.int en, .ref pp]) := upd_same
      generalize upd H3 r (.tup [.int en, .ref pp]) = H4 at s4 hr4 ⊢
      refine ⟨_, rfl, l, _, 0, _, rfl, rfl, SqL.of (s4 _ _ ul), atI_nat (j := 0) rfl, _, rfl, e1, _, rfl, DPut.k (k := .inr z) (s4 _ _ v1) (small1000 (by omega)), ?_⟩
      have S4 := S3.trans s4
      obtain ⟨sF, stF⟩ := wr1 s4 ((t1.imp fun _ _ => SeV.kd (.of S4)).put (z := z) (v := .ref r) (a := x) ⟨r, en, pp, xs, rfl, hr4, S4 _ _ hp, Its.At.same S4 hx⟩)
      have htF := sF _ _ ht
      refine ⟨_, rfl, t, _, 0, _, rfl, rfl, SqT.of htF, atI_nat (j := 0) rfl, rfl, _, rfl, wno (by decide +kernel) ?_⟩
      refine ⟨_, rfl, t, _, 0, _, rfl, rfl, SqT.of htF, atI_nat (j := 0) rfl, rfl, _, rfl, wno (by decide +kernel) ?_⟩
      refine ⟨_, rfl, t, _, 0, _, rfl, rfl, SqT.of htF, atI_nat (j := 0) rfl, rfl, _, rfl, wno (by decide +kernel) ?_⟩
      refine ⟨_, rfl, t, _, 0, _, rfl, rfl, SqT.of htF, atI_nat (j := 0) rfl, rfl, _, rfl, wno (by decide +kernel) ?_⟩
      refine ⟨_, rfl, t, _, 0, _, rfl, rfl, SqT.of htF, atI_nat (j := 0) rfl, rfl, _, rfl, wno (by decide +kernel) ?_⟩
      exact ⟨_, rfl, q l _ sF stF⟩
    | rem z =>
      have ht : H t = some (.tup [.str "remove_shape", .str z]) := hd
      simp only [step, wShape] at es
      rcases tab_some (z := z) t1 with ⟨a, v, x1, x2, _⟩ | ⟨x1, x2⟩
      · rw [x1] at es
        dsimp only at es
        split at es
        · cases es
        · cases es
          have ht3 := S3 _ _ ht
          refine ⟨_, rfl, t, _, 1, _, rfl, rfl, SqT.of ht3, atI_nat (j := 1) rfl, ?_⟩
          refine ⟨_, rfl, t, _, 0, _, rfl, rfl, SqT.of ht3, atI_nat (j := 0) rfl, rfl, _, rfl, wno (by decide +kernel) ?_⟩
          refine ⟨_, rfl, t, _, 0, _, rfl, rfl, SqT.of ht3, atI_nat (j := 0) rfl, rfl, _, rfl, wyes rfl ?_⟩
          refine ⟨_, rfl, l, _, 0, _, rfl, rfl, SqL.of ul, atI_nat (j := 0) rfl, e1, rfl, .inl ⟨_, .inl v1⟩, _, rfl, k1, .inr z, v, v1, rfl, x2, ?_⟩
          obtain ⟨sF, stF⟩ := wr1 (Same.refl H3) ((t1.imp fun _ _ => SeV.kd (.of S3)).drop (z := z))
          have htF := sF _ _ ht
          refine ⟨_, rfl, t, _, 0, _, rfl, rfl, SqT.of htF, atI_nat (j := 0) rfl, rfl, _, rfl, wno (by decide +kernel) ?_⟩
          refine ⟨_, rfl, t, _, 0, _, rfl, rfl, SqT.of htF, atI_nat (j := 0) rfl, rfl, _, rfl, wno (by decide +kernel) ?_⟩
          refine ⟨_, rfl, t, _, 0, _, rfl, rfl, SqT.of htF, atI_nat (j := 0) rfl, rfl, _, rfl, wno (by decide +kernel) ?_⟩
          refine ⟨_, rfl, t, _, 0, _, rfl, rfl, SqT.of htF, atI_nat (j := 0) rfl, rfl, _, rfl, wno (by decide +kernel) ?_⟩
          exact ⟨_, rfl, q l _ sF stF⟩
      · rw [x1] at es; cases es
    | rep z u y =>
      obtain ⟨vy, ht, hy⟩ := hd
      simp only [step, wItem] at es
      rcases tab_some (z := z) t1 with ⟨x, v, x1, x2, tx, nx, px, xs, rfl, htx, hpx, hx⟩ | ⟨x1, x2⟩
      · rw [x1] at es
        dsimp only at es
        split at es
        · split at es
          · cases es
            have hok := ok.s _ (tget_mem x1)
            have ht3 := S3 _ _ ht
            have dg : DGet H3 d1 (.str z) (some (.ref tx)) := by
              have k := DGet.k (k := .inr z) (S3 _ _ hd1)
              rw [x2] at k
              exact k
            refine ⟨_, rfl, t, _, 1, _, rfl, rfl, SqT.of ht3, atI_nat (j := 1) rfl, ?_⟩
            refine ⟨_, rfl, t, _, 0, _, rfl, rfl, SqT.of ht3, atI_nat (j := 0) rfl, rfl, _, rfl, wno (by decide +kernel) ?_⟩
            refine ⟨_, rfl, t, _, 0, _, rfl, rfl, SqT.of ht3, atI_nat (j := 0) rfl, rfl, _, rfl, wno (by decide +kernel) ?_⟩
            refine ⟨_, rfl, t, _, 0, _, rfl, rfl, SqT.of ht3, atI_nat (j := 0) rfl, rfl, _, rfl, wyes rfl ?_⟩
            refine ⟨_, rfl, _, rfl, sl, _, 0, _, rfl, rfl, SqL.of (S3 _ _ hsl), atI_nat (j := 0) rfl, _, rfl, d1, _, rfl, dg, tx, _, 1, _, rfl, rfl, SqT.of (S3 _ _ htx), atI_nat (j := 1) rfl, _, rfl, t, _, 2, _, rfl, rfl, SqT.of ht3, atI_nat (j := 2) rfl, _, rfl, 3, rfl, t, _, rfl, SqT.of ht3, fun zz => absurd zz.1 (by show ¬ (HT.sIx 4 0 (some 3) = 0); decide +kernel), fun _ c1 hc1 => ?_⟩
            rw [show cutV [V.str "replace_item", .str z, .str u, vy] (some 3) none = [vy] from rfl] at *
            have r2 := same_new hc1 (.tup [vy])
            have hc1' : upd H3 c1 (.tup [vy]) c1 = some (.tup [vy]) := upd_same
            generalize upd H3 c1 (.tup [vy]) = H4 at r2 hc1' ⊢
            refine ⟨c1, _, rfl, .inr (SqT.of hc1'), fun lo hlo => ?_⟩
            have r3 := same_new hlo (.lst [vy])
            have hlo' : upd H4 lo (.lst [vy]) lo = some (.lst [vy]) := upd_same
            generalize upd H4 lo (.lst [vy]) = H5 at r3 hlo' ⊢
            have S5 := S3.trans (r2.trans r3)
            refine ⟨px, lo, x, (.cons y .nil), xs, [vy], u, rfl, S5 _ _ hpx, Its.At.same S5 hx, hok.2.1, hok.2.2.1, hlo', by simp only [Its.At]; exact ⟨vy, [], rfl, It.At.same S5 hy, rfl⟩, by simp [Its.len], fun af zs H6 r6 haf hat => ?_⟩
            refine ⟨by show 2 ≤ sizeLine; decide, fun r hr1 => ?_⟩
            have r7 := same_new hr1 (.tup [.int en, .ref af])
            have hr7 : upd H6 r (.tup [.int en, .ref af]) r = some (.tup [.int en, .ref af]) := upd_same
            generalize upd H6 r (.tup [.int en, .ref af]) = H7 at r7 hr7 ⊢
            have s7 := r2.trans (r3.trans (r6.trans r7))
            have S7 := S3.trans s7
            refine ⟨_, rfl, l, _, 0, _, rfl, rfl, SqL.of (s7 _ _ ul), atI_nat (j := 0) rfl, _, rfl, e1, _, rfl, DPut.k (k := .inr z) (s7 _ _ v1) (small1000 (by omega)), ?_⟩
            obtain ⟨sF, stF⟩ := wr1 s7 ((t1.imp fun _ _ => SeV.kd (.of S7)).put (z := z) (v := .ref r) (a := x.repl u (.cons y .nil)) ⟨r, en, af, zs, rfl, hr7, r7 _ _ haf, Its.At.same r7 hat⟩)
            have htF := sF _ _ ht
            refine ⟨_, rfl, t, _, 0, _, rfl, rfl, SqT.of htF, atI_nat (j := 0) rfl, rfl, _, rfl, wno (by decide +kernel) ?_⟩
            refine ⟨_, rfl, t, _, 0, _, rfl, rfl, SqT.of htF, atI_nat (j := 0) rfl, rfl, _, rfl, wno (by decide +kernel) ?_⟩
            exact ⟨_, rfl, q l _ sF stF⟩
          · cases es
        · cases es
      · rw [x1] at es; cases es
    | del z u =>
      have ht : H t = some (.tup [.str "remove_item", .str z, .str u]) := hd
      simp only [step, wItem] at es
      rcases tab_some (z := z) t1 with ⟨x, v, x1, x2, tx, nx, px, xs, rfl, htx, hpx, hx⟩ | ⟨x1, x2⟩
      · rw [x1] at es
        dsimp only at es
        split at es
        · split at es
          · cases es
            have hok := ok.s _ (tget_mem x1)
            have ht3 := S3 _ _ ht
            have dg : DGet H3 d1 (.str z) (some (.ref tx)) := by
              have k := DGet.k (k := .inr z) (S3 _ _ hd1)
              rw [x2] at k
              exact k
            refine ⟨_, rfl, t, _, 1, _, rfl, rfl, SqT.of ht3, atI_nat (j := 1) rfl, ?_⟩
            refine ⟨_, rfl, t, _, 0, _, rfl, rfl, SqT.of ht3, atI_nat (j := 0) rfl, rfl, _, rfl, wno (by decide +kernel) ?_⟩
            refine ⟨_, rfl, t, _, 0, _, rfl, rfl, SqT.of ht3, atI_nat (j := 0) rfl, rfl, _, rfl, wno (by decide +kernel) ?_⟩
            refine ⟨_, rfl, t, _, 0, _, rfl, rfl, SqT.of ht3, atI_nat (j := 0) rfl, rfl, _, rfl, wno (by decide +kernel) ?_⟩
            refine ⟨_, rfl, t, _, 0, _, rfl, rfl, SqT.of ht3, atI_nat (j := 0) rfl, rfl, _, rfl, wyes rfl ?_⟩
            refine ⟨_, rfl, _, rfl, sl, _, 0, _, rfl, rfl, SqL.of (S3 _ _ hsl), atI_nat (j := 0) rfl, _, rfl, d1, _, rfl, dg, tx, _, 1, _, rfl, rfl, SqT.of (S3 _ _ htx), atI_nat (j := 1) rfl, _, rfl, t, _, 2, _, rfl, rfl, SqT.of ht3, atI_nat (j := 2) rfl, _, rfl, 3, rfl, t, _, rfl, SqT.of ht3, fun zz => absurd zz.1 (by show ¬ (HT.sIx 3 0 (some 3) = 0); decide +kernel), fun _ c1 hc1 => ?_⟩
            rw [show cutV [V.str "remove_item", .str z, .str u] (some 3) none = [] from rfl] at *
            have r2 := same_new hc1 (.tup ([] : List V))
            have hc1' : upd H3 c1 (.tup ([] : List V)) c1 = some (.tup []) := upd_same
            generalize upd H3 c1 (.tup ([] : List V)) = H4 at r2 hc1' ⊢
            refine ⟨c1, _, rfl, .inr (SqT.of hc1'), fun lo hlo => ?_⟩
            have r3 := same_new hlo (.lst ([] : List V))
            have hlo' : upd H4 lo (.lst ([] : List V)) lo = some (.lst []) := upd_same
            generalize upd H4 lo (.lst ([] : List V)) = H5 at r3 hlo' ⊢
            have S5 := S3.trans (r2.trans r3)
            refine ⟨px, lo, x, .nil, xs, [], u, rfl, S5 _ _ hpx, Its.At.same S5 hx, hok.2.1, hok.2.2.1, hlo', by simp only [Its.At], by simp [Its.len], fun af zs H6 r6 haf hat => ?_⟩
            refine ⟨by show 2 ≤ sizeLine; decide, fun r hr1 => ?_⟩
            have r7 := same_new hr1 (.tup [.int en, .ref af])
            have hr7 : upd H6 r (.tup [.int en, .ref af]) r = some (.tup [.int en, .ref af]) := upd_same
            generalize upd H6 r (.tup [.int en, .ref af]) = H7 at r7 hr7 ⊢
            have s7 := r2.trans (r3.trans (r6.trans r7))
            have S7 := S3.trans s7
            refine ⟨_, rfl, l, _, 0, _, rfl, rfl, SqL.of (s7 _ _ ul), atI_nat (j := 0) rfl, _, rfl, e1, _, rfl, DPut.k (k := .inr z) (s7 _ _ v1) (small1000 (by omega)), ?_⟩
            obtain ⟨sF, stF⟩ := wr1 s7 ((t1.imp fun _ _ => SeV.kd (.of S7)).put (z := z) (v := .ref r) (a := x.repl u .nil) ⟨r, en, af, zs, rfl, hr7, r7 _ _ haf, Its.At.same r7 hat⟩)
            have htF := sF _ _ ht
            refine ⟨_, rfl, t, _, 0, _, rfl, rfl, SqT.of htF, atI_nat (j := 0) rfl, rfl, _, rfl, wno (by decide +kernel) ?_⟩
            refine ⟨_, rfl, t, _, 0, _, rfl, rfl, SqT.of htF, atI_nat (j := 0) rfl, rfl, _, rfl, wno (by decide +kernel) ?_⟩
            exact ⟨_, rfl, q l _ sF stF⟩
          · cases es
        · cases es
      · rw [x1] at es; cases es
    | ask z wd ns =>
      obtain ⟨ll, ht, hl0⟩ := hd
      simp only [step, wQuest] at es
      split at es
      · cases es
      · split at es
        · split at es
          · cases es
          · cases es
            have ht3 := S3 _ _ ht
            refine ⟨_, rfl, t, _, 1, _, rfl, rfl, SqT.of ht3, atI_nat (j := 1) rfl, ?_⟩
            refine ⟨_, rfl, t, _, 0, _, rfl, rfl, SqT.of ht3, atI_nat (j := 0) rfl, rfl, _, rfl, wno (by decide +kernel) ?_⟩
            refine ⟨_, rfl, t, _, 0, _, rfl, rfl, SqT.of ht3, atI_nat (j := 0) rfl, rfl, _, rfl, wno (by decide +kernel) ?_⟩
            refine ⟨_, rfl, t, _, 0, _, rfl, rfl, SqT.of ht3, atI_nat (j := 0) rfl, rfl, _, rfl, wno (by decide +kernel) ?_⟩
            refine ⟨_, rfl, t, _, 0, _, rfl, rfl, SqT.of ht3, atI_nat (j := 0) rfl, rfl, _, rfl, wno (by decide +kernel) ?_⟩
            refine ⟨_, rfl, t, _, 0, _, rfl, rfl, SqT.of ht3, atI_nat (j := 0) rfl, rfl, _, rfl, wyes rfl ?_⟩
            refine ⟨_, rfl, t, _, 2, _, rfl, rfl, SqT.of ht3, atI_nat (j := 2) rfl, _, rfl, t, _, 3, _, rfl, rfl, SqT.of ht3, atI_nat (j := 3) rfl, ll, _, rfl, .inl (SqL.of (S3 _ _ hl0)), fun lo hlo => ?_⟩
            have r4 := same_new hlo (.lst (ns.map V.str))
            have hlo' : upd H3 lo (.lst (ns.map V.str)) lo = some (.lst (ns.map V.str)) := upd_same
            generalize upd H3 lo (.lst (ns.map V.str)) = H4 at r4 hlo' ⊢
            refine ⟨by show 2 ≤ sizeLine; decide, fun r hr1 => ?_⟩
            have r5 := same_new hr1 (.tup [.str wd, .ref lo])
            have hr5 : upd H4 r (.tup [.str wd, .ref lo]) r = some (.tup [.str wd, .ref lo]) := upd_same
            generalize upd H4 r (.tup [.str wd, .ref lo]) = H5 at r5 hr5 ⊢
            have s5 := r4.trans r5
            have S5 := S3.trans s5
            refine ⟨_, rfl, l, _, 1, _, rfl, rfl, SqL.of (s5 _ _ ul), atI_nat (j := 1) rfl, _, rfl, e2, _, rfl, DPut.k (k := .inr z) (s5 _ _ v2) (small1000 (by omega)), ?_⟩
            obtain ⟨sF, stF⟩ := wr2 s5 ((t2.imp fun _ _ => SqV.kd (.of S5)).put (z := z) (v := .ref r) (a := (wd, ns)) ⟨r, lo, rfl, hr5, r5 _ _ hlo'⟩)
            have htF := sF _ _ ht
            refine ⟨_, rfl, t, _, 0, _, rfl, rfl, SqT.of htF, atI_nat (j := 0) rfl, rfl, _, rfl, wno (by decide +kernel) ?_⟩
            exact ⟨_, rfl, q l _ sF stF⟩
        · cases es
    | drop z =>
      have ht : H t = some (.tup [.str "drop", .str z]) := hd
      simp only [step, woQuest] at es
      rcases tab_some (z := z) t2 with ⟨a, v, x1, x2, _⟩ | ⟨x1, x2⟩
      · rw [x1] at es
        cases es
        have ht3 := S3 _ _ ht
        refine ⟨_, rfl, t, _, 1, _, rfl, rfl, SqT.of ht3, atI_nat (j := 1) rfl, ?_⟩
        refine ⟨_, rfl, t, _, 0, _, rfl, rfl, SqT.of ht3, atI_nat (j := 0) rfl, rfl, _, rfl, wno (by decide +kernel) ?_⟩
        refine ⟨_, rfl, t, _, 0, _, rfl, rfl, SqT.of ht3, atI_nat (j := 0) rfl, rfl, _, rfl, wno (by decide +kernel) ?_⟩
        refine ⟨_, rfl, t, _, 0, _, rfl, rfl, SqT.of ht3, atI_nat (j := 0) rfl, rfl, _, rfl, wno (by decide +kernel) ?_⟩
        refine ⟨_, rfl, t, _, 0, _, rfl, rfl, SqT.of ht3, atI_nat (j := 0) rfl, rfl, _, rfl, wno (by decide +kernel) ?_⟩
        refine ⟨_, rfl, t, _, 0, _, rfl, rfl, SqT.of ht3, atI_nat (j := 0) rfl, rfl, _, rfl, wno (by decide +kernel) ?_⟩
        refine ⟨_, rfl, t, _, 0, _, rfl, rfl, SqT.of ht3, atI_nat (j := 0) rfl, rfl, _, rfl, wyes rfl ?_⟩
        refine ⟨_, rfl, l, _, 1, _, rfl, rfl, SqL.of ul, atI_nat (j := 1) rfl, e2, rfl, .inl ⟨_, .inl v2⟩, _, rfl, k2, .inr z, v, v2, rfl, x2, ?_⟩
        obtain ⟨sF, stF⟩ := wr2 (Same.refl H3) ((t2.imp fun _ _ => SqV.kd (.of S3)).drop (z := z))
        exact ⟨_, rfl, q l _ sF stF⟩
      · rw [x1] at es; cases es
end
end Bs

set_option Elab.async false
set_option linter.all false
set_option maxRecDepth 100000
set_option maxHeartbeats 8000000
namespace Bs
open PySem L2
open PyProof.Rows (sortedS risingS)
/-! ### sorted names; lists of names as data -/
def leS (a b : Str) : Prop := a.cps.toList ≤ b.cps.toList
theorem rise_pw : ∀ (l : List Str) (x : Str), risingS x l = true → (x :: l).Pairwise leS
  | [], x, _ => by simp
  | y :: r, x, h => by
    have h : (!PySem.Spec.ltCps y.cps.toList x.cps.toList && risingS y r) = true := h
    rw [Bool.and_eq_true, PyProof.Rows.ltCps_eq, Bool.not_eq_true', decide_eq_false_iff_not] at h
    have ih := rise_pw r y h.2
    have xy : leS x y := List.not_lt.mp h.1
    refine List.pairwise_cons.mpr ⟨fun z hz => ?_, ih⟩
    rcases List.mem_cons.mp hz with rfl | hz
    · exact xy
    · exact List.le_trans xy (List.rel_of_pairwise_cons ih hz)
theorem sorted_pw {l : List Str} (h : sortedS l = true) : l.Pairwise leS := by
  cases l with
  | nil => exact .nil
  | cons x r => exact rise_pw r x h
theorem sorted_eq {ks ys zs : List Str} (p1 : ys.Perm ks) (s1 : sortedS ys = true) (p2 : zs.Perm ks) (s2 : sortedS zs = true) : ys = zs :=
  List.Perm.eq_of_pairwise (le := leS) (fun a b _ _ h1 h2 => TL.ext_tl (List.le_antisymm h1 h2)) (sorted_pw s1) (sorted_pw s2) (p1.trans p2.symm)
theorem dp_strs {K : PySem.W.Frag} {H : Hp} : ∀ l : List Str, DpAll K H (l.map V.str) (l.map PyData.str)
  | [] => .nil
  | a :: r => .cons (.str a) (dp_strs r)
theorem lay_strs {l : List Str} (h : ∀ z ∈ l, PyData.strOk z = true) : PyData.canLayAll0 (l.map PyData.str) = true ∧ PyData.depthAll (l.map PyData.str) = 0 := by
  induction l with
  | nil => exact ⟨rfl, rfl⟩
  | cons z r ih =>
    obtain ⟨i1, i2⟩ := ih fun y hy => h y (List.mem_cons_of_mem _ hy)
    have hz := h z (List.mem_cons_self ..)
    refine ⟨?_, ?_⟩
    · simp only [List.map_cons, PyData.canLayAll0, PyData.canLay0, hz, i1, Bool.and_self]
    · simp only [List.map_cons, PyData.depthAll, PyData.depth, i2, Nat.max_self]
theorem shaped_strs {l : List Str} (h : ∀ z ∈ l, PyData.strOk z = true) : SeqAt.shaped (.list (l.map PyData.str)) = true := by
  have a := lay_strs h
  unfold SeqAt.shaped
  simp only [PyData.canLay0, PyData.depth, a.1, a.2]
  decide
theorem refl_of {d : PyData} (h : SeqAt.shaped d = true) : PyData.eqv d d = true := by
  unfold SeqAt.shaped at h
  rw [Bool.and_eq_true] at h
  exact SeqAt.eqv_refl _ h.1
theorem shaped_q {wd : Str} {l : List Str} (hw : PyData.strOk wd = true) (h : ∀ z ∈ l, PyData.strOk z = true) : SeqAt.shaped (.tuple [.str wd, .tuple (l.map PyData.str)]) = true := by
  have a := lay_strs h
  unfold SeqAt.shaped
  simp only [PyData.canLay0, PyData.canLayAll0, PyData.depth, PyData.depthAll, a.1, a.2, hw]
  decide
/-- names that can be laid -/
structure Bd.nm (b : Bd) : Prop where
  s : ∀ p ∈ b.sh, isName p.1 = true
  q : ∀ p ∈ b.qs, isName p.1 = true ∧ PyData.strOk p.2.1 = true ∧ ∀ z ∈ p.2.2, isName z = true
def Ch.nm : Ch → Prop
  | .set z _ => isName z = true
  | .rem z => isName z = true
  | .rep z u _ => isName z = true ∧ isName u = true
  | .del z u => isName z = true ∧ isName u = true
  | .ask z wd ns => isName z = true ∧ PyData.strOk wd = true ∧ ∀ y ∈ ns, isName y = true
  | .drop z => isName z = true
def Ch.z : Ch → Str
  | .set z _ => z | .rem z => z | .rep z _ _ => z | .del z _ => z | .ask z _ _ => z | .drop z => z
theorem step_keys {b b' : Bd} : ∀ {c : Ch}, step b c = .ok b' → ∀ p ∈ b'.sh, p ∈ b.sh ∨ p.1 = c.z
  | .set z x, e => by
    simp only [step, Except.ok.injEq] at e
    subst e
    exact fun p hp => (tput_mem hp).elim .inl fun e => .inr (by rw [e]; rfl)
  | .rem z, e => by
    simp only [step, wShape] at e
    split at e
    · cases e
    · split at e
      · cases e
      · cases e; exact fun p hp => .inl (tdrop_mem hp)
  | .rep z u y, e => by
    simp only [step, wItem] at e
    split at e
    · cases e
    · split at e
      · split at e
        · cases e; exact fun p hp => (tput_mem hp).elim .inl fun e => .inr (by rw [e]; rfl)
        · cases e
      · cases e
  | .del z u, e => by
    simp only [step, wItem] at e
    split at e
    · cases e
    · split at e
      · split at e
        · cases e; exact fun p hp => (tput_mem hp).elim .inl fun e => .inr (by rw [e]; rfl)
        · cases e
      · cases e
  | .ask z wd ns, e => by
    simp only [step, wQuest] at e
    split at e
    · cases e
    · split at e
      · split at e
        · cases e
        · cases e; exact fun p hp => .inl hp
      · cases e
  | .drop z, e => by
    simp only [step, woQuest] at e
    split at e
    · cases e
    · cases e; exact fun p hp => .inl hp
def Er.lay : Er → Prop
  | .unk z => PyData.strOk z = true
  | .used z => PyData.strOk z = true
  | _ => True
theorem first_mem {l : List (Str × Its)} {y : Str} : ∀ {ns : List Str}, firstOut l ns = some y → y ∈ ns
  | [], h => by simp [firstOut] at h
  | z :: r, h => by
    simp only [firstOut] at h
    split at h
    · rw [← Option.some.inj h]; exact List.mem_cons_self ..
    · exact List.mem_cons_of_mem _ (first_mem h)
theorem step_lay {b : Bd} {r : Er} : ∀ {c : Ch}, c.nm → step b c = .error r → r.lay
  | .set z x, hc, e => by cases e
  | .rem z, hc, e => by
    simp only [step, wShape] at e
    split at e
    · cases e; exact name_lay hc
    · split at e
      · cases e; exact name_lay hc
      · cases e
  | .rep z u y, hc, e => by
    simp only [step, wItem] at e
    split at e
    · cases e; exact name_lay hc.1
    · split at e
      · split at e
        · cases e
        · cases e; exact True.intro
      · cases e; exact name_lay hc.2
  | .del z u, hc, e => by
    simp only [step, wItem] at e
    split at e
    · cases e; exact name_lay hc.1
    · split at e
      · split at e
        · cases e
        · cases e; exact True.intro
      · cases e; exact name_lay hc.2
  | .ask z wd ns, hc, e => by
    simp only [step, wQuest] at e
    split at e
    · cases e; exact hc.2.1
    · split at e
      · split at e
        · rename_i y hy; cases e; exact name_lay (hc.2.2 _ (first_mem hy))
        · cases e
      · cases e; exact True.intro
  | .drop z, hc, e => by
    simp only [step, woQuest] at e
    split at e
    · cases e; exact name_lay hc
    · cases e
theorem step_nm {b b' : Bd} (h : b.nm) : ∀ {c : Ch}, c.nm → step b c = .ok b' → b'.nm
  | .set z x, hc, e => by
    simp only [step, Except.ok.injEq] at e
    subst e
    exact ⟨fun p hp => (tput_mem hp).elim (h.s p) fun e => by rw [e]; exact hc, h.q⟩
  | .rem z, hc, e => by
    simp only [step, wShape] at e
    split at e
    · cases e
    · split at e
      · cases e
      · cases e; exact ⟨fun p hp => h.s p (tdrop_mem hp), h.q⟩
  | .rep z u y, hc, e => by
    simp only [step, wItem] at e
    split at e
    · cases e
    · split at e
      · split at e
        · cases e; exact ⟨fun p hp => (tput_mem hp).elim (h.s p) fun e => by rw [e]; exact hc.1, h.q⟩
        · cases e
      · cases e
  | .del z u, hc, e => by
    simp only [step, wItem] at e
    split at e
    · cases e
    · split at e
      · split at e
        · cases e; exact ⟨fun p hp => (tput_mem hp).elim (h.s p) fun e => by rw [e]; exact hc.1, h.q⟩
        · cases e
      · cases e
  | .ask z wd ns, hc, e => by
    simp only [step, wQuest] at e
    split at e
    · cases e
    · split at e
      · split at e
        · cases e
        · cases e; exact ⟨h.s, fun p hp => (tput_mem hp).elim (h.q p) fun e => by rw [e]; exact hc⟩
      · cases e
  | .drop z, hc, e => by
    simp only [step, woQuest] at e
    split at e
    · cases e
    · cases e; exact ⟨h.s, fun p hp => h.q p (tdrop_mem hp)⟩
end Bs

set_option Elab.async false
set_option linter.all false
set_option maxRecDepth 100000
set_option maxHeartbeats 8000000
namespace Bs
open PySem L2
open PyProof.Rows (sortedS)
/-! ### the law looks at the bench -/
abbrev sTold : Stmt := top 123
theorem BdR.same {CB CS : Addr} {H H' : Hp} (s : Same H H') {v : V} {b : Bd} (h : BdR CB CS H v b) : BdR CB CS H' v b := by
  have rd : ∀ a kv, Rd H a (.dK kv) → Rd H' a (.dK kv) := fun a kv r => r.elim (fun e => .inl (s _ _ e)) fun ⟨o, e⟩ => .inr ⟨o, s _ _ e⟩
  obtain ⟨o, dx, d1, d2, fs, k1, k2, e, h1, h2, h3, h5, h6, h7, h8⟩ := h.h
  exact ⟨o, dx, d1, d2, fs, k1, k2, e, s _ _ h1, h2, h3, rd _ _ h5, h6.imp fun _ _ ⟨t, n, u, e, ht, o, dx, fs, p, ys, a, b, c, d, f⟩ => ⟨t, n, u, e, s _ _ ht, o, dx, fs, p, ys, a, s _ _ b, c, s _ _ d, Its.At.same s f⟩, rd _ _ h7, h8.imp fun _ _ => QuV.same s⟩
theorem WbR.same {CW CB CS o : Addr} {wb : Wb} {H H' : Hp} (s : Same H H') (h : WbR CW CB CS o wb H) : WbR CW CB CS o wb H' := by
  obtain ⟨dx, l, kn, e, bs, h1, h2, h3⟩ := h.h
  exact ⟨dx, l, kn, e, bs, s _ _ h1, s _ _ h2, L2.Paired.mapP h3 fun _ _ z => z.same s⟩
theorem tget_nd {α : Type} {l : List (Str × α)} {i : Nat} {p : Str × α} (nd : (l.map (·.1)).Nodup) (h : l[i]? = some p) : tget l p.1 = some p.2 := by
  induction l generalizing i with
  | nil => simp at h
  | cons q r ih =>
    rw [List.map_cons, List.nodup_cons] at nd
    cases i with
    | zero => simp at h; subst h; simp [tget, List.find?_cons]
    | succ i =>
      have h : r[i]? = some p := by simpa using h
      have ne : ¬ q.1 = p.1 := fun e => nd.1 (by rw [e]; exact List.mem_map.mpr ⟨p, List.mem_of_getElem? h, rfl⟩)
      have e : tget (q :: r) p.1 = tget r p.1 := by simp [tget, List.find?_cons, ne]
      rw [e]; exact ih nd.2 h
theorem shape_lens0 {x : Its} (h : x.shape = true) : x.ok 0 = true ∧ ∃ l, x.lens (fun _ => none) = some l := by
  unfold Its.shape at h
  simp only [Bool.and_eq_true] at h
  exact ⟨h.1.2, Option.isSome_iff_exists.mp h.2.2.2.2.2⟩
theorem name_repr0 {z : Str} (h : isName z = true) : (reprText z).length ≤ 1000 := by
  have l := name_tame h
  have r := StrLaws.reprText_len z fun c hc => by
    unfold isName at h
    cases e : z.cps.toList with
    | nil => rw [e] at hc; cases hc
    | cons a t =>
      rw [e] at h hc
      rw [nameOk, Bool.and_eq_true, Bool.and_eq_true, List.all_eq_true] at h
      have k := sign_uni (h.2.2 c hc)
      show c < 16 ^ 8
      omega
  have l12 : z.length ≤ 12 := by
    unfold isName at h
    have e : z.length = z.cps.toList.length := by simp [Str.length]
    cases c : z.cps.toList with
    | nil => rw [e, c]; decide
    | cons a t =>
      rw [c, nameOk, Bool.and_eq_true, decide_eq_true_iff] at h
      rw [e, c, List.length_cons]; omega
  omega
def spTold (CW CB CS : Addr) : Sp := fun vs H Q _ => ∃ (o sl : Addr) (wb : Wb) (b : Bd) (m : Nat), vs = [.ref o, .ref sl] ∧ WbAt CW CB CS o wb H ∧ wb.bds[wb.at_]? = some b ∧ StAt H sl b ∧ b.ok m ∧ m < 64 ∧ b.nm ∧ ∀ H', Same H H' → Q (.bl true) H'
theorem unlock_same {H H' : Hp} {d : Addr} {k : List (Key × V)} {od : Obj} (hd : H d = some (.dK k)) (s : Same (upd H d (.frz od (.dK k))) H') : Same H (upd H' d (.dK k)) := fun a u e => by
  by_cases c : a = d
  · rw [c, upd_same, ← hd, ← c, e]
  · rw [upd_ne c]; exact s _ _ (by rw [upd_ne c]; exact e)
section
variable {P : Program} {w : World} {K : PySem.W.Frag} {mg : Str → Option Value} {base : Heap} {f C CU CN CQ CB CS CW : Addr} {fd : FuncData}
abbrev nTold : List Str := ["bench", "state", "name", "word", "shapes"]
theorem scTold : FnScope nTold ["bench", "state"] (defScope sTold) := ⟨rfl, rfl, rfl, by decide +kernel, rfl, by decide +kernel, by decide +kernel⟩
theorem ok_told (F : Fun K "_law_told" "_law_told" sTold f fd) (TS : ShapeC K CS) (W : WbC K CW CB CS) (gS : Mt P w K mg base CX0 2 CW "shape_names" ["self"] (spNamesS CW CB CS fun b => b.sh.map (·.1))) (gQ : Mt P w K mg base CX0 2 CW "question_names" ["self"] (spNamesS CW CB CS fun b => b.qs.map (·.1)))
    (gH : Mt P w K mg base (L2.CX P w) 4 CW "shape" ["self", "name"] (spShapeOf CW CB CS CU)) (gU : Mt P w K mg base (L2.CX P w) 4 CW "question" ["self", "name"] (spQuestionOf CW CB CS CU)) (ms : mg "sorted" = none) (mt : mg "tuple" = none) : FnOk P w K mg base (L2.CX P w) 5 f fd ["bench", "state"] (spTold CW CB CS) := by
  refine F.okX scTold (fun vs H Q E h => ?_) (fun cdv A outer s H vs Q E hr h => ?_)
  · obtain ⟨o, sl, wb, b, m, rfl, _⟩ := h
    rfl
  · obtain ⟨o, sl, wb, b, m, rfl, hw, hb, hs, ok, hm, nm, q⟩ := h
    have hu := hu_of hr
    have hu64 : (cxOf (L2.CX P w) P w K mg base nTold "_law_told" (defScope sTold) f cdv A outer s H E).A.units + 64 < cLine := Nat.lt_of_le_of_lt (Nat.le_refl _) hr.units
    obtain ⟨f1, fd1, m1, g1, b1⟩ := gS.ex
    obtain ⟨f2, fd2, m2, g2, b2⟩ := gQ.ex
    obtain ⟨f3, fd3, m3, g3, b3⟩ := gH.ex
    obtain ⟨f4, fd4, m4, g4, b4⟩ := gU.ex
    have tk : Takes (cxOf (L2.CX P w) P w K mg base nTold "_law_told" (defScope sTold) f cdv A outer s H E) (fun cls d _ H => E cls d H) := takes_of rfl rfl rfl rfl
    have hx := passes_call tk (E := E) fun _ _ _ _ h => h
    have hr2 := hr.mono (show 2 ≤ 4 by decide)
    refine ⟨_, (pss_cons (ps_if (PW.pt (pw_or (pt_cmpR (op_neD hu64) (pe_meth0 (pv 0) W.cl m1 g1 hr2 b1 .nil pass0) (pe_callB (call_sortedD rfl) (by rfl) ms (by decide +kernel) (pa_cons (pe_ix ix_list (pv 1) pe_int (fun _ _ => rfl)) pa_nil)) (nomark _)) (pw_or1 (pt_cmpR (op_neD hu64) (pe_meth0 (pv 0) W.cl m2 g2 hr2 b2 .nil pass0) (pe_callB (call_sortedD rfl) (by rfl) ms (by decide +kernel) (pa_cons (pe_ix ix_list (pv 1) pe_int (fun _ _ => rfl)) pa_nil)) (nomark _))))) (pss_one (ps_ret pe_bl)) pss_nil)
      (pss_cons (ps_lock (ps_for (passes_of rfl) rfl (pi_keys (pe_ix ix_list (pv 1) pe_int (fun _ _ => rfl))) (pg_name (i := 2) scTold.nd rfl (.inl rfl))
        (pss_one (ps_if (pt_cmpR (op_neD hu64) (pe_fld (pe_meth (pv 0) W.cl m3 g3 hr b3 .nil hx (pa_cons (pv 2) pa_nil)) rfl) (pe_ix ix_tup (pe_dget hu (pe_ix ix_list (pv 1) pe_int (fun _ _ => rfl)) (pv 2) (fun _ _ => rfl)) pe_int (fun _ _ => rfl)) (nomark _)) (pss_one (ps_ret pe_bl)) pss_nil))))
      (pss_cons (ps_lock (ps_for (passes_of rfl) rfl (pi_keys (pe_ix ix_list (pv 1) pe_int (fun _ _ => rfl))) (pg_name (i := 2) scTold.nd rfl (.inl rfl))
        (pss_cons (ps_asg (pe_dget hu (pe_ix ix_list (pv 1) pe_int (fun _ _ => rfl)) (pv 2) (fun _ _ => rfl)) (pg_tup rfl (pgs_cons (pg_name (i := 3) scTold.nd rfl (.inl rfl)) (pgs_cons (pg_name (i := 4) scTold.nd rfl (.inl rfl)) pgs_nil))))
      (pss_one (ps_if (pt_cmpR (op_neD hu64) (pe_meth (pv 0) W.cl m4 g4 hr b4 .nil hx (pa_cons (pv 2) pa_nil)) (pe_tup (pa_cons (pv 3) (pa_cons (pe_tupleOf (by rfl) mt (pv 4)) pa_nil))) (nomark _)) (pss_one (ps_ret pe_bl)) pss_nil)))))
      (pss_one (ps_ret pe_bl))))), ?_⟩
    obtain ⟨dx, l, kn, e, bs, h1, h2, h3⟩ := id hw.h
    obtain ⟨d1, d2, k1, k2, hsl, hd1, t1, hd2, t2⟩ := hs.h
    have ol1 := ok.l1
    have ol2 := ok.l2
    have okS : ∀ z ∈ b.sh.map (·.1), PyData.strOk z = true := fun z hz => by
      obtain ⟨p, hp, rfl⟩ := List.mem_map.mp hz
      exact name_lay (nm.s p hp)
    have okQ : ∀ z ∈ b.qs.map (·.1), PyData.strOk z = true := fun z hz => by
      obtain ⟨p, hp, rfl⟩ := List.mem_map.mp hz
      exact name_lay (nm.q p hp).1
    refine ⟨_, rfl, o, dx, _, rfl, h1, wfs_no (by decide +kernel), o, wb, b, m, rfl, hw, hb, ok, hm, fun ys pa Ha sa na hpa pm1 so1 => ?_⟩
    refine ⟨_, rfl, sl, _, 0, _, rfl, rfl, SqL.of (sa _ _ hsl), atI_nat (j := 0) rfl, d1, k1, b.sh.map (·.1), rfl, .inl (sa _ _ hd1), t1.keys, by rw [List.length_map]; omega, fun ys2 pb pm2 so2 hpb => ?_⟩
    have ey : ys2 = ys := sorted_eq pm2 so2 pm1 so1
    subst ey
    have sb := same_new hpb (.lst (ys2.map V.str))
    have hpb' : upd Ha pb (.lst (ys2.map V.str)) pb = some (.lst (ys2.map V.str)) := upd_same
    have hpa' := sb _ _ hpa
    have Sb := sa.trans sb
    generalize upd Ha pb (.lst (ys2.map V.str)) = Hb at sb hpb' hpa' Sb ⊢
    have shp := shaped_strs (l := ys2) fun z hz => okS z (pm2.subset hz)
    refine ⟨.list (ys2.map PyData.str), .list (ys2.map PyData.str), .lst (SqL.of hpa') (dp_strs _), .lst (SqL.of hpb') (dp_strs _), shp, shp, ?_⟩
    rw [refl_of shp]
    refine ⟨_, rfl, iteF ?_⟩
    have hwb := hw.same Sb
    refine ⟨_, rfl, o, dx, _, rfl, Sb _ _ h1, wfs_no (by decide +kernel), o, wb, b, m, rfl, hwb, hb, ok, hm, fun yq pc Hc sc nc hpc pm3 so3 => ?_⟩
    have Sc := Sb.trans sc
    refine ⟨_, rfl, sl, _, 1, _, rfl, rfl, SqL.of (Sc _ _ hsl), atI_nat (j := 1) rfl, d2, k2, b.qs.map (·.1), rfl, .inl (Sc _ _ hd2), t2.keys, by rw [List.length_map]; omega, fun yq2 pd pm4 so4 hpd => ?_⟩
    have ey : yq2 = yq := sorted_eq pm4 so4 pm3 so3
    subst ey
    have sd := same_new hpd (.lst (yq2.map V.str))
    have hpd' : upd Hc pd (.lst (yq2.map V.str)) pd = some (.lst (yq2.map V.str)) := upd_same
    have hpc' := sd _ _ hpc
    have Sd := Sc.trans sd
    generalize upd Hc pd (.lst (yq2.map V.str)) = Hd at sd hpd' hpc' Sd ⊢
    have shp2 := shaped_strs (l := yq2) fun z hz => okQ z (pm4.subset hz)
    refine ⟨.list (yq2.map PyData.str), .list (yq2.map PyData.str), .lst (SqL.of hpc') (dp_strs _), .lst (SqL.of hpd') (dp_strs _), shp2, shp2, ?_⟩
    rw [refl_of shp2]
    refine ⟨_, rfl, iteF ?_⟩
    -- the shapes
    have hd1d := Sd _ _ hd1
    have hwd := hw.same Sd
    refine ⟨d1, _, hd1d, True.intro, fun od => ?_⟩
    have lk1 := lock_keep (od := od) hd1d
    have hwL : WbR CW CB CS o wb (upd Hd d1 (.frz od (.dK k1))) := hwd.rd lk1 (lock_rd hd1d)
    have hslL := lk1 _ _ (Sd _ _ hsl) (by intro _ z; cases z)
    have hoL := lk1 _ _ (Sd _ _ h1) (by intro _ z; cases z)
    have t1L := (t1.imp fun _ _ => SeV.kd (.of Sd)).imp fun v x (z : SeV Hd v x) => SeV.kl (H' := upd Hd d1 (.frz od (.dK k1))) ⟨fun a xs e => lk1 _ _ e (by intro _ z; cases z), fun a xs e => lk1 _ _ e (by intro _ z; cases z)⟩ z
    have nd1 := (tab_keys t1 ok.n1).1
    have hdL : upd Hd d1 (.frz od (.dK k1)) d1 = some (.frz od (.dK k1)) := upd_same
    refine ⟨_, rfl, sl, _, 0, _, rfl, rfl, SqL.of hslL, atI_nat (j := 0) rfl, d1, od, rfl, .inl ⟨k1, hdL, for_it walk_keys (fun i σ H' => ∃ o2 o3 o4 : Option V, σ = [some (.ref o), some (.ref sl), o2, o3, o4] ∧ H' = upd Hd d1 (.frz od (.dK k1))) ⟨_, _, _, rfl, rfl⟩ (fun _ _ _ _ h => by obtain ⟨_, _, _, _, e⟩ := h; rw [e]; exact hdL) ?_ ?_⟩⟩
    · rintro i x σ H2' H2 hi ⟨o2, o3, o4, rfl, rfl⟩ ⟨e3, kk, v2, hk2, rfl⟩
      subst e3
      obtain ⟨qq, hq, eq, t, n, p, xs, ev, ht, hp, hx'⟩ := pget t1L hk2
      have eq : kk = .inr qq.1 := eq
      subst eq
      have ev : v2 = .ref t := ev
      subst ev
      have nmz := nm.s qq (List.mem_of_getElem? hq)
      have sh := (ok.s qq (List.mem_of_getElem? hq)).1
      refine ⟨_, rfl, o, dx, _, rfl, hoL, wfs_no (by decide +kernel), _, rfl, o, wb, b, qq.1, rfl, hwL, hb, Nat.le_trans (name_repr0 nmz) (by decide), fun x v ex hv => ?_, fun en => ?_⟩
      · rw [tget_nd ok.n1 hq] at ex
        obtain rfl := Option.some.inj ex
        obtain ⟨o', dx', fs', p', ys', rfl, ho', lk', hp', hx''⟩ := hv
        have sl1 := shape_lens0 sh
        obtain ⟨oky, lns, el⟩ := sl1
        refine ⟨o', CS, dx', fs', _, rfl, ho', TS.cl, TS.n1, lk', _, rfl, sl, _, 0, _, rfl, rfl, SqL.of hslL, atI_nat (j := 0) rfl, _, rfl, d1, .ref t, rfl, .inl ⟨k1, .inr qq.1, .inr ⟨od, hdL⟩, rfl, (val_of_nodup nd1 hk2).symm⟩, t, _, 1, _, rfl, rfl, SqT.of ht, atI_nat (j := 1) rfl, .tuple qq.2.data, .tuple qq.2.data, .tup (SqT.of hp') (Its.dp oky hx''), .tup (SqT.of hp) (Its.dp oky hx'), shaped_data oky el, shaped_data oky el, ?_⟩
        rw [eqv_data oky el]
        refine ⟨_, rfl, iteF ?_⟩
        exact ⟨_, _, _, rfl, rfl⟩
      · rw [tget_nd ok.n1 hq] at en; cases en
    · rintro σ H2 ⟨o2, o3, o4, rfl, e⟩
      subst e
      refine ⟨hdL, ?_⟩
      have Se := Sd.trans (unlock_same (od := od) hd1d (Same.refl _))
      generalize upd (upd Hd d1 (.frz od (.dK k1))) d1 (.dK k1) = He at Se ⊢
      -- the questions
      have hd2e := Se _ _ hd2
      have hwe := hw.same Se
      refine ⟨d2, _, hd2e, True.intro, fun od2 => ?_⟩
      have lk2 := lock_keep (od := od2) hd2e
      have hwL2 : WbR CW CB CS o wb (upd He d2 (.frz od2 (.dK k2))) := hwe.rd lk2 (lock_rd hd2e)
      have hslL2 := lk2 _ _ (Se _ _ hsl) (by intro _ z; cases z)
      have hoL2 := lk2 _ _ (Se _ _ h1) (by intro _ z; cases z)
      have t2L := (t2.imp fun _ _ => SqV.kd (.of Se)).imp fun v x (z : SqV He v x) => SqV.kl (H' := upd He d2 (.frz od2 (.dK k2))) ⟨fun a xs e => lk2 _ _ e (by intro _ z; cases z), fun a xs e => lk2 _ _ e (by intro _ z; cases z)⟩ z
      have nd2 := (tab_keys t2 ok.n2).1
      have hdL2 : upd He d2 (.frz od2 (.dK k2)) d2 = some (.frz od2 (.dK k2)) := upd_same
      have unl := fun {H' : Hp} (s : Same (upd He d2 (.frz od2 (.dK k2))) H') => unlock_same hd2e s
      generalize upd He d2 (.frz od2 (.dK k2)) = L2h at hwL2 hslL2 hoL2 t2L hdL2 unl ⊢
      refine ⟨_, rfl, sl, _, 1, _, rfl, rfl, SqL.of hslL2, atI_nat (j := 1) rfl, d2, od2, rfl, .inl ⟨k2, hdL2, for_it walk_keys (fun i σ H' => ∃ o2 o3 o4 : Option V, σ = [some (.ref o), some (.ref sl), o2, o3, o4] ∧ Same L2h H') ⟨_, _, _, rfl, Same.refl _⟩ (fun _ _ _ _ h => by obtain ⟨_, _, _, _, e⟩ := h; exact e _ _ hdL2) ?_ ?_⟩⟩
      · rintro i x σ H2' H2 hi ⟨o2, o3, o4, rfl, s2⟩ ⟨e3, kk, v2, hk2, rfl⟩
        subst e3
        obtain ⟨qq, hq, eq, t, ll, ev, ht, hl⟩ := pget t2L hk2
        have eq : kk = .inr qq.1 := eq
        subst eq
        have ev : v2 = .ref t := ev
        subst ev
        have nmz := nm.q qq (List.mem_of_getElem? hq)
        refine ⟨_, rfl, sl, _, 1, _, rfl, rfl, SqL.of (s2 _ _ hslL2), atI_nat (j := 1) rfl, _, rfl, d2, .ref t, rfl, .inl ⟨k2, .inr qq.1, .inr ⟨od2, s2 _ _ hdL2⟩, rfl, (val_of_nodup nd2 hk2).symm⟩, t, _, rfl, SqT.of (s2 _ _ ht), rfl, _, _, rfl, _, _, rfl, rfl, ?_⟩
        refine ⟨_, rfl, o, dx, _, rfl, s2 _ _ hoL2, wfs_no (by decide +kernel), _, rfl, o, wb, b, qq.1, rfl, hwL2.same s2, hb, Nat.le_trans (name_repr0 nmz.1) (by decide), fun x v ex hv => ?_, fun en => ?_⟩
        · rw [tget_nd ok.n2 hq] at ex
          obtain rfl := Option.some.inj ex
          obtain ⟨t', u', rfl, ht', hu'⟩ := hv
          refine ⟨_, rfl, _, rfl, .inl ⟨ll, _, rfl, SqL.of (s2 _ _ hl), fun tt htt => ?_⟩⟩
          have s3 := same_new htt (.tup (qq.2.2.map V.str))
          have htt' : upd H2 tt (.tup (qq.2.2.map V.str)) tt = some (.tup (qq.2.2.map V.str)) := upd_same
          generalize upd H2 tt (.tup (qq.2.2.map V.str)) = H3 at s3 htt' ⊢
          refine ⟨by show 2 ≤ sizeLine; decide, fun t4 ht4 => ?_⟩
          have s4 := same_new ht4 (.tup [.str qq.2.1, .ref tt])
          have ht4' : upd H3 t4 (.tup [.str qq.2.1, .ref tt]) t4 = some (.tup [.str qq.2.1, .ref tt]) := upd_same
          generalize upd H3 t4 (.tup [.str qq.2.1, .ref tt]) = H4 at s4 ht4' ⊢
          have s34 := s3.trans s4
          have shp3 := shaped_q nmz.2.1 (l := qq.2.2) fun z hz => name_lay (nmz.2.2 z hz)
          refine ⟨.tuple [.str qq.2.1, .tuple (qq.2.2.map PyData.str)], .tuple [.str qq.2.1, .tuple (qq.2.2.map PyData.str)], .tup (SqT.of (s34 _ _ ht')) (.cons (.str _) (.cons (.tup (SqT.of (s34 _ _ hu')) (dp_strs _)) .nil)), .tup (SqT.of ht4') (.cons (.str _) (.cons (.tup (SqT.of (s4 _ _ htt')) (dp_strs _)) .nil)), shp3, shp3, ?_⟩
          rw [refl_of shp3]
          refine ⟨_, rfl, iteF ?_⟩
          exact ⟨_, _, _, rfl, s2.trans s34⟩
        · rw [tget_nd ok.n2 hq] at en; cases en
      · rintro σ H2 ⟨o2, o3, o4, rfl, s2⟩
        exact ⟨s2 _ _ hdL2, q _ (Se.trans (unl s2))⟩
end
end Bs

set_option Elab.async false
set_option linter.all false
set_option maxRecDepth 100000
set_option maxHeartbeats 8000000
namespace Bs
open PySem L2
/-! ### the law's deeds -/
abbrev sWords : Stmt := top 117
def K7 : List V := [.str "set_shape", .str "set_shape", .str "set_shape", .str "remove_shape", .str "replace_item", .str "replace_item", .str "remove_item"]
def K4 : List V := [.str "ask", .str "ask", .str "ask", .str "drop"]
def I9 : List V := [.str "n0", .str "n1", .str "n2", .str "n0", .str "n1", .str "x0", .str "y0", .str "x1", .str "n3"]
def W7 : List V := [.str "ways", .str "shortest", .str "longest", .str "covers", .str "same", .str "covers", .str "way"]
theorem pmem {α β : Type} {F : α → β → Prop} : ∀ {xs : List α} {ys : List β}, Paired F xs ys → ∀ x ∈ xs, ∃ y ∈ ys, F x y
  | _, _, .nil, _, h => by cases h
  | _, _, .cons r t, x, h => by
    rcases List.mem_cons.mp h with rfl | h
    · exact ⟨_, List.mem_cons_self .., r⟩
    · obtain ⟨y, hy, k⟩ := pmem t x h
      exact ⟨y, List.mem_cons_of_mem _ hy, k⟩
theorem mod_cases {x : Int} {n : Nat} (h : 0 < n) : ∃ j : Nat, j < n ∧ x % (n : Int) = (j : Int) := ⟨(x % (n : Int)).toNat, by have := Int.emod_lt_of_pos x (show (0 : Int) < n by omega); have := Int.emod_nonneg x (show (n : Int) ≠ 0 by omega); omega, by have := Int.emod_nonneg x (show (n : Int) ≠ 0 by omega); omega⟩
theorem at_mod {xs : List V} {x : Int} {n : Nat} (h : 0 < n) (hl : xs.length = n) : ∃ v, v ∈ xs ∧ atI xs (x % (n : Int)) = some v := by
  obtain ⟨j, hj, e⟩ := mod_cases (x := x) h
  have g : xs[j]? = some (xs[j]'(by omega)) := List.getElem?_eq_getElem (by omega)
  exact ⟨_, List.mem_of_getElem? g, by rw [e]; exact atI_nat g⟩
theorem kind_one (x : Int) : ∃ wd, atI (K7 ++ K4) (x % 11) = some (.str wd) ∧ (wd = "set_shape" ∨ wd = "remove_shape" ∨ wd = "replace_item" ∨ wd = "remove_item" ∨ wd = "ask" ∨ wd = "drop") := by
  obtain ⟨v, hv, e⟩ := at_mod (xs := K7 ++ K4) (x := x) (n := 11) (by decide) rfl
  simp only [K7, K4, List.cons_append, List.nil_append, List.mem_cons, List.not_mem_nil, or_false] at hv
  rcases hv with rfl | rfl | rfl | rfl | rfl | rfl | rfl | rfl | rfl | rfl | rfl <;> exact ⟨_, e, by simp⟩
theorem item_one (x : Int) : ∃ u, atI I9 (x % 9) = some (.str u) ∧ isName u = true := by
  obtain ⟨v, hv, e⟩ := at_mod (xs := I9) (x := x) (n := 9) (by decide) rfl
  simp only [I9, List.mem_cons, List.not_mem_nil, or_false] at hv
  rcases hv with rfl | rfl | rfl | rfl | rfl | rfl | rfl | rfl | rfl <;> exact ⟨_, e, by decide +kernel⟩
theorem word_one (x : Int) : ∃ u, atI W7 (x % 7) = some (.str u) ∧ u ∈ qWords ∧ PyData.strOk u = true := by
  obtain ⟨v, hv, e⟩ := at_mod (xs := W7) (x := x) (n := 7) (by decide) rfl
  simp only [W7, List.mem_cons, List.not_mem_nil, or_false] at hv
  rcases hv with rfl | rfl | rfl | rfl | rfl | rfl | rfl <;> exact ⟨_, e, by decide +kernel, by decide +kernel⟩
theorem DeedAt.kx {H H' : Hp} (kt : ∀ a xs, H a = some (.tup xs) → H' a = some (.tup xs)) (kl : ∀ a (xs : List Str), H a = some (.lst (xs.map V.str)) → H' a = some (.lst (xs.map V.str))) {t : Addr} : ∀ {c : Ch}, DeedAt H t c → DeedAt H' t c
  | .set .., ⟨p, xs, a, b, c⟩ => ⟨p, xs, kt _ _ a, kt _ _ b, Its.At.kp (⟨kt, fun z => by cases z⟩ : Kp true H H') c⟩
  | .rem .., h => kt _ _ h
  | .rep .., ⟨u, a, b⟩ => ⟨u, kt _ _ a, It.At.kp (⟨kt, fun z => by cases z⟩ : Kp true H H') b⟩
  | .del .., h => kt _ _ h
  | .ask .., ⟨l, a, b⟩ => ⟨l, kt _ _ a, kl _ _ b⟩
  | .drop .., h => kt _ _ h
/-- the lists of names of asking deeds are new -/
def AskNew (H H' : Hp) (ts : List Addr) : Prop := ∀ t ∈ ts, ∀ z wd l, H' t = some (.tup [.str "ask", z, wd, .ref l]) → H l = none
theorem deed_tup {H : Hp} {t : Addr} : ∀ {c : Ch}, DeedAt H t c → ∃ xs, H t = some (.tup xs)
  | .set .., ⟨p, xs, a, b, c⟩ => ⟨_, a⟩
  | .rem .., h => ⟨_, h⟩
  | .rep .., ⟨u, a, b⟩ => ⟨_, a⟩
  | .del .., h => ⟨_, h⟩
  | .ask .., ⟨l, a, b⟩ => ⟨_, a⟩
  | .drop .., h => ⟨_, h⟩
def spWords : Sp := fun vs H Q _ => ∃ (nl zl : Addr) (ns : List Int) (many : Nat) (zs : List Str), vs = [.ref nl, .int 0, .int many, .ref zl] ∧ H nl = some (.lst (ns.map V.int)) ∧ (∀ x ∈ ns, 0 ≤ x ∧ x < 1009) ∧ 10 * many ≤ ns.length ∧ many ≤ 24 ∧ H zl = some (.lst (zs.map V.str)) ∧ zs.length = 3 ∧ (∀ z ∈ zs, isName z = true) ∧
  ∀ p ts cs H', Same H H' → H p = none → H' p = some (.lst (ts.map V.ref)) → Paired (DeedAt H') ts cs → AskNew H H' ts → cs.length = many → (∀ c ∈ cs, c.ok ∧ c.nm ∧ c.z ∈ zs) → Q (.ref p) H'
section
variable {P : Program} {w : World} {K : PySem.W.Frag} {mg : Str → Option Value} {base : Heap} {f : Addr} {fd : FuncData}
abbrev nWords : List Str := ["numbers", "at", "many", "names", "kinds", "deeds", "k", "spot", "name", "deed", "item", "j", "word", "many_names"]
theorem scWords : FnScope nWords ["numbers", "at", "many", "names"] (defScope sWords) := ⟨rfl, rfl, rfl, by decide +kernel, rfl, by decide +kernel, by decide +kernel⟩
theorem ok_words (F : Fun K "_law_words" "_law_words" sWords f fd) (gS : Cal P w K mg base CX0 1 "_law_small" ["row"] spSmall) (gN : Cal P w K mg base CX0 1 "_law_new" ["number", "name"] spNew) (mr : mg "range" = none) (mint : mg "int" = none) : FnOk P w K mg base CX0 2 f fd ["numbers", "at", "many", "names"] spWords := by
  refine F.ok scWords (fun vs H Q E h => ?_) (fun cdv A outer s H vs Q E hr h => ?_)
  · obtain ⟨nl, zl, ns, many, zs, rfl, _⟩ := h
    rfl
  · obtain ⟨nl, zl, ns, many, zs, rfl, hnl, hns, h10, hm, hzl, hz3, hzn, q⟩ := h
    refine ⟨_, (pss_cons (ps_set (i := 4) scWords.nd rfl (.inl rfl) (pe_tup (pa_cons pe_str (pa_cons pe_str (pa_cons pe_str (pa_cons pe_str (pa_cons pe_str (pa_cons pe_str (pa_cons pe_str pa_nil)))))))))
      (pss_cons (ps_set (i := 4) scWords.nd rfl (.inl rfl) (pe_op op_catT (pv 4) (pe_tup (pa_cons pe_str (pa_cons pe_str (pa_cons pe_str (pa_cons pe_str pa_nil)))))))
      (pss_cons (ps_set (i := 5) scWords.nd rfl (.inl rfl) (pe_lst pa_nil))
      (pss_cons (ps_for PassesOwn.never rfl (pi_range1 (by rfl) mr (pa_cons (pv 2) pa_nil)) (pg_name (i := 6) scWords.nd rfl (.inl rfl))
        (pss_cons (ps_set (i := 7) scWords.nd rfl (.inr rfl) (pe_op op_add (pv 1) (pe_op op_mul pe_int (pv 6))))
      (pss_cons (ps_set (i := 8) scWords.nd rfl (.inl rfl) (pe_ix ix_list (pv 3) (pe_op op_mod (pe_callTy (r := Bm.rInt1) call_int1 (by rfl) mint (by decide +kernel) (pa_cons (pe_ix (r := rIxL K) ix_list (pv 0) (pe_op op_add (pv 7) pe_int) (fun _ _ => rfl)) pa_nil)) pe_int) (fun _ _ => rfl)))
      (pss_cons (ps_set (i := 9) scWords.nd rfl (.inl rfl) (pe_ix ix_tup (pv 4) (pe_op op_mod (pe_callTy (r := Bm.rInt1) call_int1 (by rfl) mint (by decide +kernel) (pa_cons (pe_ix (r := rIxL K) ix_list (pv 0) (pv 7) (fun _ _ => rfl)) pa_nil)) pe_int) (fun _ _ => rfl)))
      (pss_cons (ps_set (i := 10) scWords.nd rfl (.inl rfl) (pe_ix ix_tup (pe_tup (pa_cons pe_str (pa_cons pe_str (pa_cons pe_str (pa_cons pe_str (pa_cons pe_str (pa_cons pe_str (pa_cons pe_str (pa_cons pe_str (pa_cons pe_str pa_nil)))))))))) (pe_op op_mod (pe_callTy (r := Bm.rInt1) call_int1 (by rfl) mint (by decide +kernel) (pa_cons (pe_ix (r := rIxL K) ix_list (pv 0) (pe_op op_add (pv 7) pe_int) (fun _ _ => rfl)) pa_nil)) pe_int) (fun _ _ => rfl)))
      (pss_one (ps_if (pt_cmpR op_eq (pv 9) pe_str (nomark _)) (pss_one (ps_expr (pe_bm PySem.F.plainAttrs_list PySem.F.slot_list_append PySem.F.type_list_append mt_append (pv 5) (pa_cons (pe_tup (pa_cons (pv 9) (pa_cons (pv 8) (pa_cons (pe_cal gS hr pass0 (pa_cons (pe_lc (own := [("j", 11)]) (g := gName 11) (tt := tYes) rfl scWords.nd (pi_range1 (by rfl) mr (pa_cons pe_int pa_nil)) (blkOk_by (own := [("j", 11)]) (N := nWords) (sc := defScope sWords) (by decide +kernel)) (fun _ _ _ _ _ => pg_name (i := 11) scWords.nd rfl (Or.inl rfl)) (fun _ _ _ _ _ => pts_nil) (fun _ _ _ _ _ => (pe_ix (r := rIxL K) ix_list (pv 0) (pe_op op_add (pe_op op_add (pv 7) pe_int) (pv 11)) (fun _ _ => rfl)))) pa_nil)) pa_nil)))) pa_nil)))) (pss_one (ps_if (pt_cmpR op_eq (pv 9) pe_str (nomark _)) (pss_cons (ps_set (i := 12) scWords.nd rfl (.inl rfl) (pe_ix ix_tup (pe_tup (pa_cons pe_str (pa_cons pe_str (pa_cons pe_str (pa_cons pe_str (pa_cons pe_str (pa_cons pe_str (pa_cons pe_str pa_nil)))))))) (pe_op op_mod (pe_callTy (r := Bm.rInt1) call_int1 (by rfl) mint (by decide +kernel) (pa_cons (pe_ix (r := rIxL K) ix_list (pv 0) (pe_op op_add (pv 7) pe_int) (fun _ _ => rfl)) pa_nil)) pe_int) (fun _ _ => rfl)))
      (pss_cons (ps_set (i := 13) scWords.nd rfl (.inl rfl) (pe_op op_add pe_int (pe_callTy (r := Bm.rInt1) call_int1 (by rfl) mint (by decide +kernel) (pa_cons (pe_cmpR (r := rIn K false) op_in_seq (pv 12) (pe_tup (pa_cons pe_str (pa_cons pe_str pa_nil))) (by rfl)) pa_nil))))
      (pss_cons (ps_if (pt_cmpR op_eq (pe_op op_mod (pe_callTy (r := Bm.rInt1) call_int1 (by rfl) mint (by decide +kernel) (pa_cons (pe_ix (r := rIxL K) ix_list (pv 0) (pe_op op_add (pv 7) pe_int) (fun _ _ => rfl)) pa_nil)) pe_int) pe_int (nomark _)) (pss_one (ps_set (i := 13) scWords.nd rfl (.inl rfl) (pe_op op_mod (pe_op op_fdiv (pe_ix (r := rIxL K) ix_list (pv 0) (pe_op op_add (pv 7) pe_int) (fun _ _ => rfl)) pe_int) pe_int))) pss_nil)
      (pss_one (ps_expr (pe_bm PySem.F.plainAttrs_list PySem.F.slot_list_append PySem.F.type_list_append mt_append (pv 5) (pa_cons (pe_tup (pa_cons (pv 9) (pa_cons (pv 8) (pa_cons (pv 12) (pa_cons (pe_lc (own := [("j", 11)]) (g := gName 11) (tt := tYes) rfl scWords.nd (pi_range1 (by rfl) mr (pa_cons (pv 13) pa_nil)) (blkOk_by (own := [("j", 11)]) (N := nWords) (sc := defScope sWords) (by decide +kernel)) (fun _ _ _ _ _ => pg_name (i := 11) scWords.nd rfl (Or.inl rfl)) (fun _ _ _ _ _ => pts_nil) (fun _ _ _ _ _ => (pe_ix (r := rIxL K) ix_list (pv 3) (pe_op op_mod (pe_callTy (r := Bm.rInt1) call_int1 (by rfl) mint (by decide +kernel) (pa_cons (pe_ix (r := rIxL K) ix_list (pv 0) (pe_op op_add (pe_op op_add (pv 7) pe_int) (pv 11)) (fun _ _ => rfl)) pa_nil)) pe_int) (fun _ _ => rfl)))) pa_nil))))) pa_nil))))))) (pss_one (ps_if (pt_cmpR op_eq (pv 9) pe_str (nomark _)) (pss_one (ps_expr (pe_bm PySem.F.plainAttrs_list PySem.F.slot_list_append PySem.F.type_list_append mt_append (pv 5) (pa_cons (pe_tup (pa_cons (pv 9) (pa_cons (pv 8) (pa_cons (pv 10) (pa_cons (pe_cal gN hr pass0 (pa_cons (pe_ix (r := rIxL K) ix_list (pv 0) (pe_op op_add (pv 7) pe_int) (fun _ _ => rfl)) (pa_cons (pe_ix ix_tup (pe_tup (pa_cons (pv 10) (pa_cons pe_str pa_nil))) (pe_op op_mod (pe_callTy (r := Bm.rInt1) call_int1 (by rfl) mint (by decide +kernel) (pa_cons (pe_ix (r := rIxL K) ix_list (pv 0) (pe_op op_add (pv 7) pe_int) (fun _ _ => rfl)) pa_nil)) pe_int) (fun _ _ => rfl)) pa_nil))) pa_nil))))) pa_nil)))) (pss_one (ps_if (pt_cmpR op_eq (pv 9) pe_str (nomark _)) (pss_one (ps_expr (pe_bm PySem.F.plainAttrs_list PySem.F.slot_list_append PySem.F.type_list_append mt_append (pv 5) (pa_cons (pe_tup (pa_cons (pv 9) (pa_cons (pv 8) (pa_cons (pv 10) pa_nil)))) pa_nil)))) (pss_one (ps_expr (pe_bm PySem.F.plainAttrs_list PySem.F.slot_list_append PySem.F.type_list_append mt_append (pv 5) (pa_cons (pe_tup (pa_cons (pv 9) (pa_cons (pv 8) pa_nil))) pa_nil)))))))))))))))))
      (pss_one (ps_ret (pv 5))))))), ?_⟩
    refine ⟨by show 7 ≤ sizeLine; decide, fun pa hpa => ?_⟩
    have sa := same_new hpa (.tup K7)
    have ha : upd H pa (.tup K7) pa = some (.tup K7) := upd_same
    show tSeq _ _ _ _ (upd H pa (.tup K7))
    generalize upd H pa (.tup K7) = Ha at sa ha ⊢
    refine ⟨_, rfl, by show 4 ≤ sizeLine; decide, fun pb hpb => ?_⟩
    have sb := same_new hpb (.tup K4)
    have hb : upd Ha pb (.tup K4) pb = some (.tup K4) := upd_same
    refine ⟨pa, pb, K7, K4, rfl, rfl, SqT.of (sb _ _ ha), SqT.of hb, by simp [K7], by show 7 + 4 ≤ sizeLine; decide, fun e => (by cases e), fun _ pc hpc => ?_⟩
    have hpc : (upd Ha pb (.tup K4)) pc = none := hpc
    have sc := same_new hpc (.tup (K7 ++ K4))
    have hc : upd (upd Ha pb (.tup K4)) pc (.tup (K7 ++ K4)) pc = some (.tup (K7 ++ K4)) := upd_same
    have Sc := sa.trans (sb.trans sc)
    show tSeq _ _ _ _ (upd (upd Ha pb (.tup K4)) pc (.tup (K7 ++ K4)))
    generalize upd (upd Ha pb (.tup K4)) pc (.tup (K7 ++ K4)) = Hc at sc hc Sc ⊢
    refine ⟨by show 0 ≤ sizeLine; decide, fun D hD => ?_⟩
    have s0 := same_new hD (.lst [])
    have hDH : H D = none := Sc.free hD
    have ga : ∀ (j : Nat) (x : Int), x = (j : Int) → j < ns.length → ∃ v, atI (ns.map V.int) x = some (.int v) ∧ 0 ≤ v ∧ v < 1009 := fun j x e hj => by
      have g : ns[j]? = some ns[j] := List.getElem?_eq_getElem hj
      exact ⟨_, by rw [e]; exact atI_nat (by rw [List.getElem?_map, g]; rfl), hns _ (List.mem_of_getElem? g)⟩
    have gz : ∀ x : Int, ∃ z, atI (zs.map V.str) (x % 3) = some (.str z) ∧ isName z = true ∧ z ∈ zs := fun x => by
      obtain ⟨v, hv, e⟩ := at_mod (xs := zs.map V.str) (x := x) (n := 3) (by decide) (by rw [List.length_map]; exact hz3)
      obtain ⟨z, hz, rfl⟩ := List.mem_map.mp hv
      exact ⟨z, e, hzn z hz, hz⟩
    refine ⟨_, rfl, many, rfl, by omega, by omega, for_range (lo := 0) (n := ((many : Nat) : Int).toNat) (fun i σ H' => ∃ o6 o7 o8 o9 oa ob oc od : Option V, σ = [some (.ref nl), some (.int 0), some (.int many), some (.ref zl), some (.ref pc), some (.ref D), o6, o7, o8, o9, oa, ob, oc, od] ∧ Same Hc H' ∧ ∃ (ts : List Addr) (cs : List Ch), H' D = some (.lst (ts.map V.ref)) ∧ Paired (DeedAt H') ts cs ∧ AskNew H H' ts ∧ cs.length = i ∧ ∀ c ∈ cs, c.ok ∧ c.nm ∧ c.z ∈ zs)
      ⟨_, _, _, _, _, _, _, _, rfl, s0, [], [], upd_same, .nil, (fun _ h => by cases h), rfl, fun c h => by cases h⟩ ?_ ?_⟩
    · rintro i σ H2 hi ⟨o6, o7, o8, o9, oa, ob, oc, od, rfl, s2, ts, cs, hD2, pcs, han, hcl, hok⟩
      have hi : i < many := by simpa using hi
      have S2 := Sc.trans s2
      have hn2 := SqL.of (K := K) (S2 _ _ hnl)
      have hz2 := SqL.of (K := K) (S2 _ _ hzl)
      have hk2 := SqT.of (K := K) (s2 _ _ hc)
      obtain ⟨v0, e0, _⟩ := ga (10 * i) (0 + 10 * (0 + (i : Int))) (by omega) (by omega)
      obtain ⟨v1, e1, _⟩ := ga (10 * i + 1) (0 + 10 * (0 + (i : Int)) + 1) (by omega) (by omega)
      obtain ⟨v2, e2, v20, v21⟩ := ga (10 * i + 2) (0 + 10 * (0 + (i : Int)) + 2) (by omega) (by omega)
      obtain ⟨v3, e3, v30, v31⟩ := ga (10 * i + 3) (0 + 10 * (0 + (i : Int)) + 3) (by omega) (by omega)
      obtain ⟨v4, e4, _⟩ := ga (10 * i + 4) (0 + 10 * (0 + (i : Int)) + 4) (by omega) (by omega)
      obtain ⟨z, ez, hzz, hzm⟩ := gz v1
      obtain ⟨wd, ew, hwd⟩ := kind_one v0
      obtain ⟨u, eu, huu⟩ := item_one v2
      have shz : shortN z := Nat.le_trans (name_repr0 hzz) (by decide)
      have shu : shortN u := Nat.le_trans (name_repr0 huu) (by decide)
      have tl : (ts.map V.ref).length < sizeLine := small1000 (by rw [List.length_map, plen pcs]; omega)
      refine ⟨_, rfl, _, rfl, _, _, rfl, rfl, .inl ⟨by decide, by decide⟩, _, _, rfl, rfl, ?_⟩
      refine ⟨_, rfl, _, rfl, _, rfl, _, _, rfl, rfl, nl, _, _, _, rfl, rfl, hn2, e1, .inl ⟨_, rfl, _, _, rfl, rfl, (by show (0 : Int) < 3; decide), zl, _, _, _, rfl, rfl, hz2, ez, ?_⟩⟩
      refine ⟨_, rfl, _, rfl, _, rfl, nl, _, _, _, rfl, rfl, hn2, e0, .inl ⟨_, rfl, _, _, rfl, rfl, (by show (0 : Int) < 11; decide), pc, _, _, _, rfl, rfl, hk2, ew, ?_⟩⟩
      refine ⟨by show 9 ≤ sizeLine; decide, fun pi hpi => ⟨_, rfl, _, rfl, _, _, rfl, rfl, nl, _, _, _, rfl, rfl, SqL.of (same_new hpi _ _ _ (S2 _ _ hnl)), e2, .inl ⟨_, rfl, _, _, rfl, rfl, (by show (0 : Int) < 9; decide), pi, _, _, _, rfl, rfl, SqT.of upd_same, eu, ?_⟩⟩⟩
      have s3 := same_new hpi (.tup [V.str "n0", .str "n1", .str "n2", .str "n0", .str "n1", .str "x0", .str "y0", .str "x1", .str "n3"])
      generalize upd H2 pi (.tup [V.str "n0", .str "n1", .str "n2", .str "n0", .str "n1", .str "x0", .str "y0", .str "x1", .str "n3"]) = H3 at s3 ⊢
      have S3 := S2.trans s3
      have hn3 := SqL.of (K := K) (S3 _ _ hnl)
      have hz3' := SqL.of (K := K) (S3 _ _ hzl)
      have hD3 := s3 _ _ hD2
      -- a deed is added
      have put : ∀ {H4 : Hp} {t : Addr} {c : Ch} {Z : Prop}, Same H3 H4 → (∀ u, DeedAt (upd H4 D u) t c) → (∀ (u : HO) z wd l, upd H4 D u t = some (.tup [.str "ask", z, wd, .ref l]) → H l = none) → c.ok → c.nm ∧ c.z ∈ zs → ((Same Hc (upd H4 D (.lst (ts.map V.ref ++ [.ref t]))) ∧ ∃ (ts' : List Addr) (cs' : List Ch), (upd H4 D (.lst (ts.map V.ref ++ [.ref t]))) D = some (.lst (ts'.map V.ref)) ∧ Paired (DeedAt (upd H4 D (.lst (ts.map V.ref ++ [.ref t])))) ts' cs' ∧ AskNew H (upd H4 D (.lst (ts.map V.ref ++ [.ref t]))) ts' ∧ cs'.length = i + 1 ∧ ∀ c ∈ cs', c.ok ∧ c.nm ∧ c.z ∈ zs) → Z) → Z := fun {H4 t c Z} s4 hc4 hnew hco hcn k => by
        have hD4 := s4 _ _ hD3
        refine k ⟨same_set (s2.trans (s3.trans s4)) hD, ts ++ [t], cs ++ [c], by rw [upd_same, List.map_append]; rfl, ?_, fun t' ht' z wd l e => ?_, by rw [List.length_append, hcl]; rfl, fun c' h => ?_⟩
        · refine papp ?_ (.cons (hc4 _) .nil)
          cases ts with
          | nil => cases pcs; exact .nil
          | cons t0 tr =>
            refine L2.Paired.mapP pcs fun a c' hd => ?_
            refine DeedAt.kx (H := H4) (fun a xs e => ?_) (fun a xs e => ?_) (hd.kd (.of (s3.trans s4)))
            · rw [upd_ne (fun z => by rw [z, hD4] at e; cases e)]; exact e
            · rw [upd_ne (fun z => by
                rw [z, hD4] at e
                have e := HO.lst.inj (Option.some.inj e)
                cases xs with
                | nil => cases e
                | cons x0 xr => injection e with e _; cases e)]; exact e
        · rcases List.mem_append.mp ht' with h | h
          · obtain ⟨c', _, hd'⟩ := pmem pcs t' h
            obtain ⟨xs, hx⟩ := deed_tup hd'
            have h4 := (s3.trans s4) _ _ hx
            rw [upd_ne (fun z => by rw [z, hD4] at h4; cases h4), h4] at e
            exact han t' h z wd l (by rw [hx, ← e])
          · rw [List.mem_singleton.mp h] at e
            exact hnew _ z wd l e
        · rcases List.mem_append.mp h with h | h
          · exact hok c' h
          · rw [List.mem_singleton.mp h]; exact ⟨hco, hcn⟩
      have ud : ∀ {H4 : Hp} {a : Addr} {v u : HO}, H4 D = some (.lst (ts.map V.ref)) → H4 a = some v → (∀ xs, v ≠ .lst xs) → upd H4 D u a = some v := fun {H4 a v u} hd e n => by
        rw [upd_ne (fun z => by rw [z, hd] at e; exact n _ (Option.some.inj e).symm)]; exact e
      have nask : ∀ {H4 : Hp} {t : Addr} {wd0 : Str} {r : List V}, H4 D = some (.lst (ts.map V.ref)) → H4 t = some (.tup (.str wd0 :: r)) → wd0 ≠ "ask" → ∀ (u : HO) z wd l, upd H4 D u t = some (.tup [.str "ask", z, wd, .ref l]) → H l = none := fun {H4 t wd0 r} hd e n u z wd l e2 => by
        rw [ud hd e (by intro _ z; cases z)] at e2
        have e3 := HO.tup.inj (Option.some.inj e2)
        injection e3 with e4 _
        exact absurd (V.str.inj e4) n
      rcases hwd with rfl | rfl | rfl | rfl | rfl | rfl
      · -- set_shape
        refine ⟨_, rfl, rfl, _, rfl, wyes rfl ?_⟩
        refine ⟨_, rfl, .inl ⟨rfl, _, SqL.of hD3⟩, _, rfl, _, rfl, 4, rfl, by decide, by decide, fun L hL => lc_range (lo := 0) (n := 4) (fun j H' => ∃ vs : List Int, H' L = some (.lst (vs.map V.int)) ∧ Same H3 H' ∧ vs.length = j ∧ ∀ x ∈ vs, 0 ≤ x ∧ x < 1009) ⟨[], upd_same, same_new hL _, rfl, fun x h => by cases h⟩ ?_ ?_⟩
        · rintro j H4 hj ⟨vs, hL4, s4, hvl, hvb⟩
          obtain ⟨vj, ej, hvj⟩ := ga (10 * i + 2 + j) (0 + 10 * (0 + (i : Int)) + 2 + (0 + (j : Int))) (by omega) (by omega)
          refine ⟨rfl, Bm.yes_go ?_⟩
          refine ⟨_, rfl, _, rfl, _, _, rfl, rfl, _, rfl, _, _, rfl, rfl, nl, _, _, _, rfl, rfl, SqL.of (s4 _ _ (S3 _ _ hnl)), ej, _, hL4, small1000 (by rw [List.length_map]; omega), vs ++ [vj], by rw [upd_same, List.map_append]; rfl, same_set s4 hL, by rw [List.length_append, hvl]; rfl, fun x h => ?_⟩
          rcases List.mem_append.mp h with h | h
          · exact hvb x h
          · rw [List.mem_singleton.mp h]; exact hvj
        · rintro H4 ⟨vs, hL4, s4, hvl, hvb⟩
          refine ⟨L, vs, rfl, hL4, hvl, hvb, fun tt x xs H5 s5 htt hat hsh => ?_⟩
          refine ⟨by show 3 ≤ sizeLine; decide, fun t ht => ?_⟩
          have s6 := same_new ht (.tup [.str "set_shape", .str z, .ref tt])
          have ht' : upd H5 t (.tup [.str "set_shape", .str z, .ref tt]) t = some (.tup [.str "set_shape", .str z, .ref tt]) := upd_same
          generalize upd H5 t (.tup [.str "set_shape", .str z, .ref tt]) = H6 at s6 ht' ⊢
          have S6 := s4.trans (s5.trans s6)
          have hD6 := S6 _ _ hD3
          refine ⟨D, _, _, rfl, rfl, hD6, tl, ?_⟩
          refine put (c := .set z x) S6 (fun u => ?_) (nask hD6 ht' (by decide +kernel)) ⟨shz, hsh⟩ ⟨hzz, hzm⟩ fun ⟨a, b⟩ => ⟨_, _, _, _, _, _, _, _, rfl, a, b⟩
          have kp : Kp true H6 (upd H6 D u) := ⟨fun a xs e => ud hD6 e (by intro _ z; cases z), fun z => by cases z⟩
          exact ⟨tt, xs, ud hD6 ht' (by intro _ z; cases z), ud hD6 (s6 _ _ htt) (by intro _ z; cases z), Its.At.kp kp (Its.At.same s6 hat)⟩
      · -- remove_shape
        refine ⟨_, rfl, rfl, _, rfl, wno (by decide +kernel) ?_⟩
        refine ⟨_, rfl, rfl, _, rfl, wno (by decide +kernel) ?_⟩
        refine ⟨_, rfl, rfl, _, rfl, wno (by decide +kernel) ?_⟩
        refine ⟨_, rfl, rfl, _, rfl, wno (by decide +kernel) ?_⟩
        refine ⟨_, rfl, .inl ⟨rfl, _, SqL.of hD3⟩, _, rfl, _, rfl, by show 2 ≤ sizeLine; decide, fun t ht => ?_⟩
        have s6 := same_new ht (.tup [.str "remove_shape", .str z])
        have hD6 := s6 _ _ hD3
        refine ⟨D, _, _, rfl, rfl, hD6, tl, ?_⟩
        exact put (c := .rem z) s6 (fun u => ud hD6 upd_same (by intro _ z; cases z)) (nask hD6 upd_same (by decide +kernel)) shz ⟨hzz, hzm⟩ fun ⟨a, b⟩ => ⟨_, _, _, _, _, _, _, _, rfl, a, b⟩
      · -- replace_item
        refine ⟨_, rfl, rfl, _, rfl, wno (by decide +kernel) ?_⟩
        refine ⟨_, rfl, rfl, _, rfl, wno (by decide +kernel) ?_⟩
        refine ⟨_, rfl, rfl, _, rfl, wyes rfl ?_⟩
        have huz : ∃ y, y ∈ [V.str u, V.str "z"] ∧ atI [V.str u, V.str "z"] (v4 % 2) = some y := at_mod (n := 2) (by decide) rfl
        obtain ⟨y, hy, ey⟩ := huz
        obtain ⟨u2, rfl, hu2⟩ : ∃ u2, y = V.str u2 ∧ isName u2 = true := by
          simp only [List.mem_cons, List.not_mem_nil, or_false] at hy
          rcases hy with rfl | rfl
          · exact ⟨u, rfl, huu⟩
          · exact ⟨"z", rfl, by decide +kernel⟩
        refine ⟨_, rfl, .inl ⟨rfl, _, SqL.of hD3⟩, _, rfl, _, rfl, _, rfl, _, rfl, _, rfl, _, _, rfl, rfl, nl, _, _, _, rfl, rfl, hn3, e3, _, rfl, by show 2 ≤ sizeLine; decide, fun pz hpz => ⟨_, rfl, _, rfl, _, _, rfl, rfl, nl, _, _, _, rfl, rfl, SqL.of (same_new hpz _ _ _ (S3 _ _ hnl)), e4, .inl ⟨_, rfl, _, _, rfl, rfl, (by show (0 : Int) < 2; decide), pz, _, _, _, rfl, rfl, SqT.of upd_same, ey, v3, u2, rfl, hu2, fun vv H5 s5 gv => ?_⟩⟩⟩
        have s4 := (same_new hpz (.tup [V.str u, V.str "z"])).trans s5
        obtain ⟨yy, hyy, hpl, htm⟩ := gv
        refine ⟨by show 4 ≤ sizeLine; decide, fun t ht => ?_⟩
        have s6 := same_new ht (.tup [.str "replace_item", .str z, .str u, vv])
        have ht' : upd H5 t (.tup [.str "replace_item", .str z, .str u, vv]) t = some (.tup [.str "replace_item", .str z, .str u, vv]) := upd_same
        generalize upd H5 t (.tup [.str "replace_item", .str z, .str u, vv]) = H6 at s6 ht' ⊢
        have S6 := s4.trans s6
        have hD6 := S6 _ _ hD3
        refine ⟨D, _, _, rfl, rfl, hD6, tl, ?_⟩
        refine put (c := .rep z u yy) S6 (fun w => ?_) (nask hD6 ht' (by decide +kernel)) ⟨shz, shu, hpl, htm⟩ ⟨⟨hzz, huu⟩, hzm⟩ fun ⟨a, b⟩ => ⟨_, _, _, _, _, _, _, _, rfl, a, b⟩
        have kp : Kp true H6 (upd H6 D w) := ⟨fun a xs e => ud hD6 e (by intro _ z; cases z), fun z => by cases z⟩
        exact ⟨vv, ud hD6 ht' (by intro _ z; cases z), It.At.kp kp (It.At.same s6 hyy)⟩
      · -- remove_item
        refine ⟨_, rfl, rfl, _, rfl, wno (by decide +kernel) ?_⟩
        refine ⟨_, rfl, rfl, _, rfl, wno (by decide +kernel) ?_⟩
        refine ⟨_, rfl, rfl, _, rfl, wno (by decide +kernel) ?_⟩
        refine ⟨_, rfl, rfl, _, rfl, wyes rfl ?_⟩
        refine ⟨_, rfl, .inl ⟨rfl, _, SqL.of hD3⟩, _, rfl, _, rfl, _, rfl, by show 3 ≤ sizeLine; decide, fun t ht => ?_⟩
        have s6 := same_new ht (.tup [.str "remove_item", .str z, .str u])
        have hD6 := s6 _ _ hD3
        refine ⟨D, _, _, rfl, rfl, hD6, tl, ?_⟩
        exact put (c := .del z u) s6 (fun w => ud hD6 upd_same (by intro _ z; cases z)) (nask hD6 upd_same (by decide +kernel)) ⟨shz, shu⟩ ⟨⟨hzz, huu⟩, hzm⟩ fun ⟨a, b⟩ => ⟨_, _, _, _, _, _, _, _, rfl, a, b⟩
      · -- ask
        refine ⟨_, rfl, rfl, _, rfl, wno (by decide +kernel) ?_⟩
        refine ⟨_, rfl, rfl, _, rfl, wyes rfl ?_⟩
        obtain ⟨wq, ewq, hwq, hwk⟩ := word_one v2
        refine ⟨by show 7 ≤ sizeLine; decide, fun pw hpw => ⟨_, rfl, _, rfl, _, _, rfl, rfl, nl, _, _, _, rfl, rfl, SqL.of (same_new hpw _ _ _ (S3 _ _ hnl)), e2, .inl ⟨_, rfl, _, _, rfl, rfl, (by show (0 : Int) < 7; decide), pw, _, _, _, rfl, rfl, SqT.of upd_same, ewq, ?_⟩⟩⟩
        have s4 := same_new hpw (.tup [V.str "ways", .str "shortest", .str "longest", .str "covers", .str "same", .str "covers", .str "way"])
        generalize upd H3 pw (.tup [V.str "ways", .str "shortest", .str "longest", .str "covers", .str "same", .str "covers", .str "way"]) = H4 at s4 ⊢
        refine ⟨_, rfl, by show 2 ≤ sizeLine; decide, fun pq hpq => ⟨pq, _, rfl, .inr (SqT.of upd_same), rfl, by decide +kernel, .inr ⟨_, rfl, _, _, rfl, rfl, ?_⟩⟩⟩
        have s5 := same_new hpq (.tup [V.str "covers", .str "same"])
        have s35 := s4.trans s5
        generalize upd H4 pq (.tup [V.str "covers", .str "same"]) = H5 at s5 s35 ⊢
        have S5 := S3.trans s35
        have hD5 := s35 _ _ hD3
        refine ⟨_, rfl, _, rfl, _, _, rfl, rfl, nl, _, _, _, rfl, rfl, SqL.of (S5 _ _ hnl), e3, .inl ⟨_, rfl, _, _, rfl, rfl, (by show (0 : Int) < 7; decide), rfl, _, rfl, ?_⟩⟩
        refine ite2 (fun c7 => ?_) (fun c7 => ?_)
        · refine ⟨_, rfl, _, rfl, _, _, rfl, rfl, nl, _, _, _, rfl, rfl, SqL.of (S5 _ _ hnl), e3, _, _, rfl, rfl, ⟨by decide, by decide⟩, _, _, rfl, rfl, (by show (0 : Int) < 4; decide), ?_⟩
          obtain ⟨mn, emn, hmn⟩ : ∃ mn : Nat, v3 / 7 % 4 = (mn : Int) ∧ mn ≤ 3 := ⟨(v3 / 7 % 4).toNat, by omega, by omega⟩
          refine ⟨_, rfl, .inl ⟨rfl, _, SqL.of hD5⟩, _, rfl, _, rfl, _, rfl, _, rfl, v3 / 7 % 4, rfl, by omega, by omega, fun L hL => lc_range (lo := 0) (n := (v3 / 7 % 4).toNat) (fun j H' => ∃ ys : List Str, H' L = some (.lst (ys.map V.str)) ∧ Same H5 H' ∧ ys.length = j ∧ ∀ y ∈ ys, isName y = true) ⟨[], upd_same, same_new hL _, rfl, fun x h => by cases h⟩ ?_ ?_⟩
          · rintro j H6 hj ⟨ys, hL6, s6, hyl, hyb⟩
            obtain ⟨vj, ej, hvj⟩ := ga (10 * i + 4 + j) (0 + 10 * (0 + (i : Int)) + 4 + (0 + (j : Int))) (by omega) (by omega)
            obtain ⟨zj, ezj, hzj, _⟩ := gz vj
            refine ⟨rfl, Bm.yes_go ?_⟩
            refine ⟨_, rfl, _, rfl, _, rfl, _, _, rfl, rfl, _, rfl, _, _, rfl, rfl, nl, _, _, _, rfl, rfl, SqL.of (s6 _ _ (S5 _ _ hnl)), ej, .inl ⟨_, rfl, _, _, rfl, rfl, (by show (0 : Int) < 3; decide), zl, _, _, _, rfl, rfl, SqL.of (s6 _ _ (S5 _ _ hzl)), ezj, _, hL6, small1000 (by rw [List.length_map]; omega), ys ++ [zj], by rw [upd_same, List.map_append]; rfl, same_set s6 hL, by rw [List.length_append, hyl]; rfl, fun x h => ?_⟩⟩
            rcases List.mem_append.mp h with h | h
            · exact hyb x h
            · rw [List.mem_singleton.mp h]; exact hzj
          · rintro H6 ⟨ys, hL6, s6, hyl, hyb⟩
            refine ⟨by show 4 ≤ sizeLine; decide, fun t ht => ?_⟩
            have s7 := same_new ht (.tup [.str "ask", .str z, .str wq, .ref L])
            have ht' : upd H6 t (.tup [.str "ask", .str z, .str wq, .ref L]) t = some (.tup [.str "ask", .str z, .str wq, .ref L]) := upd_same
            generalize upd H6 t (.tup [.str "ask", .str z, .str wq, .ref L]) = H7 at s7 ht' ⊢
            have S7 := s35.trans (s6.trans s7)
            have hD7 := S7 _ _ hD3
            have LD : L ≠ D := (ne_of_none hD5 hL).symm
            refine ⟨D, _, _, rfl, rfl, hD7, tl, ?_⟩
            refine put (c := .ask z wq ys) S7 (fun u => ⟨L, ud hD7 ht' (by intro _ z; cases z), by rw [upd_ne LD]; exact s7 _ _ hL6⟩) (fun u z' wd' l' e => by
    rw [ud hD7 ht' (by intro _ z; cases z)] at e
    have e3 := HO.tup.inj (Option.some.inj e)
    injection e3 with _ e3
    injection e3 with _ e3
    injection e3 with _ e3
    injection e3 with e3 _
    rw [← V.ref.inj e3]
    exact S5.free hL) ⟨shz, hwq, by omega, fun y hy => Nat.le_trans (name_repr0 (hyb y hy)) (by decide)⟩ ⟨⟨hzz, hwk, hyb⟩, hzm⟩ fun ⟨a, b⟩ => ⟨_, _, _, _, _, _, _, _, rfl, a, b⟩
        · have em : ∃ mn : Nat, (1 : Int) + (if (if false = true then !inV (V.str wq) [V.str "covers", .str "same"] else inV (V.str wq) [V.str "covers", .str "same"]) = true then 1 else 0) = (mn : Int) ∧ mn ≤ 3 := by
            by_cases h : (if false = true then !inV (V.str wq) [V.str "covers", .str "same"] else inV (V.str wq) [V.str "covers", .str "same"]) = true
            · exact ⟨2, by rw [if_pos h]; rfl, by decide⟩
            · exact ⟨1, by rw [if_neg h]; rfl, by decide⟩
          obtain ⟨mn, emn, hmn⟩ : ∃ mn : Nat, (1 : Int) + (if (if false = true then !inV (V.str wq) [V.str "covers", .str "same"] else inV (V.str wq) [V.str "covers", .str "same"]) = true then 1 else 0) = (mn : Int) ∧ mn ≤ 3 := em
          refine ⟨_, rfl, .inl ⟨rfl, _, SqL.of hD5⟩, _, rfl, _, rfl, _, rfl, _, rfl, (1 : Int) + (if (if false = true then !inV (V.str wq) [V.str "covers", .str "same"] else inV (V.str wq) [V.str "covers", .str "same"]) = true then 1 else 0), rfl, by omega, by omega, fun L hL => lc_range (lo := 0) (n := ((1 : Int) + (if (if false = true then !inV (V.str wq) [V.str "covers", .str "same"] else inV (V.str wq) [V.str "covers", .str "same"]) = true then 1 else 0)).toNat) (fun j H' => ∃ ys : List Str, H' L = some (.lst (ys.map V.str)) ∧ Same H5 H' ∧ ys.length = j ∧ ∀ y ∈ ys, isName y = true) ⟨[], upd_same, same_new hL _, rfl, fun x h => by cases h⟩ ?_ ?_⟩
          · rintro j H6 hj ⟨ys, hL6, s6, hyl, hyb⟩
            obtain ⟨vj, ej, hvj⟩ := ga (10 * i + 4 + j) (0 + 10 * (0 + (i : Int)) + 4 + (0 + (j : Int))) (by omega) (by omega)
            obtain ⟨zj, ezj, hzj, _⟩ := gz vj
            refine ⟨rfl, Bm.yes_go ?_⟩
            refine ⟨_, rfl, _, rfl, _, rfl, _, _, rfl, rfl, _, rfl, _, _, rfl, rfl, nl, _, _, _, rfl, rfl, SqL.of (s6 _ _ (S5 _ _ hnl)), ej, .inl ⟨_, rfl, _, _, rfl, rfl, (by show (0 : Int) < 3; decide), zl, _, _, _, rfl, rfl, SqL.of (s6 _ _ (S5 _ _ hzl)), ezj, _, hL6, small1000 (by rw [List.length_map]; omega), ys ++ [zj], by rw [upd_same, List.map_append]; rfl, same_set s6 hL, by rw [List.length_append, hyl]; rfl, fun x h => ?_⟩⟩
            rcases List.mem_append.mp h with h | h
            · exact hyb x h
            · rw [List.mem_singleton.mp h]; exact hzj
          · rintro H6 ⟨ys, hL6, s6, hyl, hyb⟩
            refine ⟨by show 4 ≤ sizeLine; decide, fun t ht => ?_⟩
            have s7 := same_new ht (.tup [.str "ask", .str z, .str wq, .ref L])
            have ht' : upd H6 t (.tup [.str "ask", .str z, .str wq, .ref L]) t = some (.tup [.str "ask", .str z, .str wq, .ref L]) := upd_same
            generalize upd H6 t (.tup [.str "ask", .str z, .str wq, .ref L]) = H7 at s7 ht' ⊢
            have S7 := s35.trans (s6.trans s7)
            have hD7 := S7 _ _ hD3
            have LD : L ≠ D := (ne_of_none hD5 hL).symm
            refine ⟨D, _, _, rfl, rfl, hD7, tl, ?_⟩
            refine put (c := .ask z wq ys) S7 (fun u => ⟨L, ud hD7 ht' (by intro _ z; cases z), by rw [upd_ne LD]; exact s7 _ _ hL6⟩) (fun u z' wd' l' e => by
    rw [ud hD7 ht' (by intro _ z; cases z)] at e
    have e3 := HO.tup.inj (Option.some.inj e)
    injection e3 with _ e3
    injection e3 with _ e3
    injection e3 with _ e3
    injection e3 with e3 _
    rw [← V.ref.inj e3]
    exact S5.free hL) ⟨shz, hwq, by omega, fun y hy => Nat.le_trans (name_repr0 (hyb y hy)) (by decide)⟩ ⟨⟨hzz, hwk, hyb⟩, hzm⟩ fun ⟨a, b⟩ => ⟨_, _, _, _, _, _, _, _, rfl, a, b⟩
      · -- drop
        refine ⟨_, rfl, rfl, _, rfl, wno (by decide +kernel) ?_⟩
        refine ⟨_, rfl, rfl, _, rfl, wno (by decide +kernel) ?_⟩
        refine ⟨_, rfl, rfl, _, rfl, wno (by decide +kernel) ?_⟩
        refine ⟨_, rfl, rfl, _, rfl, wno (by decide +kernel) ?_⟩
        refine ⟨_, rfl, .inl ⟨rfl, _, SqL.of hD3⟩, _, rfl, _, rfl, by show 2 ≤ sizeLine; decide, fun t ht => ?_⟩
        have s6 := same_new ht (.tup [.str "drop", .str z])
        have hD6 := s6 _ _ hD3
        refine ⟨D, _, _, rfl, rfl, hD6, tl, ?_⟩
        exact put (c := .drop z) s6 (fun u => ud hD6 upd_same (by intro _ z; cases z)) (nask hD6 upd_same (by decide +kernel)) shz ⟨hzz, hzm⟩ fun ⟨a, b⟩ => ⟨_, _, _, _, _, _, _, _, rfl, a, b⟩
    · rintro σ H2 ⟨o6, o7, o8, o9, oa, ob, oc, od, rfl, s2, ts, cs, hD2, pcs, han, hcl, hok⟩
      exact ⟨_, rfl, q D ts cs H2 (Sc.trans s2) hDH hD2 pcs han (by rw [hcl]; simp) hok⟩
end
end Bs

set_option Elab.async false
set_option linter.all false
set_option maxRecDepth 100000
set_option maxHeartbeats 4000000
/-! TM: try with several except clauses, some of them 'as n'; modelled on the rules for one clause 'as n' and for several plain ones. -/
namespace Rj
open PySem L2 PySem.Spec PyProof.Rows
abbrev Hand := Value × Option Nat × (Addr → Value → Option Addr → TS)
/-- where a suite with the name in slot i ends -/
def Ends.less (D : Ends) (i : Nat) : Ends := ⟨fun σ H => D.nx (σ.set i none) H, D.rt, fun σ H => D.bk (σ.set i none) H, fun σ H => D.ct (σ.set i none) H⟩
def suiteW (D : Ends) (ts : Addr → Value → Option Addr → TS) : Option Nat → Value → Option Addr → L2.St → Hp → Prop
  | none, cls, d, σ, H => ∀ a, H a = none → ts a cls d D σ H
  | some i, cls, d, σ, H => ∀ a, H a = none → ts a cls d (Ends.less D i) (σ.set i (some (.ref a))) H
def wMix (K : PySem.W.Frag) (Wout : WX) (D : Ends) : List Hand → WX
  | [] => Wout
  | (c, o, ts) :: r => fun cls d σ H => ∃ b, PySem.W.exmOne K cls c = some b ∧ (b = true → suiteW D ts o cls d σ H) ∧ (b = false → wMix K Wout D r cls d σ H)
abbrev SuiteOk (X : Cx) (suite : List Stmt) (ts : Addr → Value → Option Addr → TS) : Prop := ∀ (a : Addr) (oe : Obj) (cls : Value) (d : Option Addr) (pn : List (Addr × Obj)), Zc cls d oe → (∃ vs, oe.data = .fields vs) → PSs (X.suite a ((a, oe) :: pn)) suite (ts a cls d)
inductive HdM (X : Cx) : List ExceptHandler → List Hand → Prop
  | nil : HdM X [] []
  | plain {x : Str} {c : Value} {ts : Addr → Value → Option Addr → TS} {s0 : Stmt} {suite : List Stmt} {np p : Pos} {hds : List ExceptHandler} {l : List Hand} : Names X x c → SuiteOk X (s0 :: suite) ts → HdM X hds l → HdM X (.ExceptHandler (some (.Name x np)) none (s0 :: suite) p :: hds) ((c, none, ts) :: l)
  | named {x n : Str} {i : Nat} {c : Value} {ts : Addr → Value → Option Addr → TS} {s0 : Stmt} {suite : List Stmt} {np p : Pos} {hds : List ExceptHandler} {l : List Hand} : X.N[i]? = some n → X.env.kindOf n = some .local → Names X x c → SuiteOk X (s0 :: suite) ts → HdM X hds l →
      HdM X (.ExceptHandler (some (.Name x np)) (some n) (s0 :: suite) p :: hds) ((c, some i, ts) :: l)
section
variable {X : Cx} {body : List Stmt} {h0 : ExceptHandler} {hds : List ExceptHandler} {l : List Hand} {pos : Pos} {tb : WX → TS} {Wout : WX}
theorem ps_try_mix (hs : X.stack = X.env :: X.outer) (hf : X.env.frame = some X.env.locals) (hN : X.N.Nodup) (tk : Takes X Wout)
    (hb : ∀ (W : WX) (pn : List (Addr × Obj)) (xe : Value → Shared → Prop), Takes (X.tr pn xe) W → PassesOwn (model X.prog X.w) X.A X.env xe → PSs (X.tr pn xe) body (tb W))
    (hh : HdM X (h0 :: hds) l) : PS X (.Try body (h0 :: hds) [] [] pos) (fun D σ H => tb (wMix X.K Wout D l) D σ H) := by
  refine ⟨fun pins s σ H D I h => ?_⟩
  have ok := I.ok
  refine wpAny_Try_except (wpAny_mono ((hb (wMix X.K Wout D l) (X.pn ++ pins) _ (fun e s1 xx => ?_) PassesOwn.looking).run [] s σ H D (I.toTry _) h) (fun f s1 r => ?_) fun e s1 he => he)
  · obtain ⟨a, B, sI, pins', τ, G, cls, d, rfl, J', nb, up, sky, na, os, ag, w⟩ := xx
    have J : Inv X pins τ G sI := J'.ofTry ok
    show wpAny (model X.prog X.w) X.A (noteFrame (.ref a) X.env) _ _ _
    refine Sky.land Zc.steady (by rw [ok.frames, hs]) hf (by rw [← hs]; exact sky) fun h3 fl up3 => ?_
    have J3 : Inv X pins τ G { s1 with heap := h3 } := J.landed nb fl.1 (up.trans up3) os ag
    obtain ⟨oe, vs, he, hz, hd⟩ := fl.there
    have out : a ∉ frs (X.env :: X.outer) := fun hm => by
      obtain ⟨_, o', e', hnf⟩ := fl.2.2.1.mem hm
      rw [he] at e'; cases e'
      exact hnf _ hd
    have nL : a ≠ X.env.locals := fun z => out (List.mem_filterMap.mpr ⟨X.env, List.mem_cons_self, by rw [hf, z]⟩)
    have nF : a ∉ X.fs := fun hm => by
      obtain ⟨e, m, q⟩ := List.mem_filterMap.mp hm
      exact out (List.mem_filterMap.mpr ⟨e, List.mem_cons_of_mem _ m, q⟩)
    have S3 := J3.suite he hd na nL nF
    have test : ∀ {x : Str} {np : Pos} {c : Value} {Q E : Value → Shared → Prop}, Names X x c → Q c { s1 with heap := h3 } → wpAny (model X.prog X.w) (X.A.mark (some (.ref a))) (eval (.Name x np) X.env) Q E { s1 with heap := h3 } := fun hc q => by
      obtain ⟨hg, hdbg, hm | ⟨hm, hv, hnn⟩⟩ := hc
      · exact ld_glob (X := X.suite a ((a, oe) :: (X.pn ++ pins))) S3 hg hm q hdbg
      · exact ld_blt (X := X.suite a ((a, oe) :: (X.pn ++ pins))) S3 hg hm hv q hnn hdbg
    have LT : PySem.W.Looks (model X.prog X.w) h3 (typeOf (.ref a)) cls := fun A Q E s k q => wpAny_typeOf_ref (k _ _ he) (by rw [hz.1]; exact q)
    have go : ∀ {hs' : List ExceptHandler} {l' : List Hand}, HdM X hs' l' → wMix X.K Wout D l' cls d τ G → wpAny (model X.prog X.w) X.A (handleBy (.ref a) X.env hs') (SP X pins D) X.xe { s1 with heap := h3 } := by
      intro hs' l' hk
      induction hk with
      | nil =>
        intro w
        refine wpAny_handleBy_nil ?_
        obtain ⟨_, _, _, o1, v1, T, oT, ts', g1, _, g3, g4, _⟩ := id fl
        unfold PySem.passOn
        refine wpAny_bind (wpAny_field g1 g3 g4 ?_)
        rw [if_neg (show ¬ ((Value.ref T == Value.none) = true) from by simp)]
        have fin : wpAny (model X.prog X.w) X.A (setFlight (.ref a) X.env.frame) (fun _ s4 => wpAny (model X.prog X.w) X.A (throw (.ref a) : Sem Flow) (SP X pins D) X.xe s4) X.xe { s1 with heap := h3 } := by
          rw [hf]
          exact HandSPX.setFlight_upZ fl fun h4 hh4 up4 => wpAny_throw (tk _ _ ⟨a, B, sI, pins, τ, G, cls, d, rfl, J, nb, (up.trans up3).trans up4, .inr (.inr (by rw [hs]; exact hh4)), na, os, ag, w⟩)
        first
          | exact wpAny_bind (wpAny_pure (wpAny_bind fin))
          | exact wpAny_bind fin
      | @plain x c ts s0 suite np p hds2 l2 hc hsu r ih =>
        rintro ⟨b, hb1, hyes, hno⟩
        refine wpAny_handleBy_cons (codeAny_handlers_test (test hc ((PySem.W.exm_one (M := model X.prog X.w) J3.kIn LT hb1).here ?_))) (by intro q; cases q)
        cases b with
        | false => exact ih (hno rfl)
        | true =>
          refine codeAny_handlers_suite (HandSPX.lands_againZ fl fun h4 fl4 up4 => ?_)
          have J4 : Inv X pins τ G { s1 with heap := h4 } := J.landed nb fl4.1 ((up.trans up3).trans up4) os ag
          obtain ⟨oe4, vs4, he4, hz4, hd4⟩ := fl4.there
          refine wpAny_mono ((hsu a oe4 cls d (X.pn ++ pins) hz4 ⟨_, hd4⟩).run [] _ _ G _ (J4.suite he4 hd4 na nL nF) (hyes rfl a na)) (fun f s6 q => ?_) (fun _ _ z => False.elim z)
          cases f with
          | ret u => obtain ⟨v6, σ6, H6, S6, r6, q6⟩ := q; exact ⟨_, _, _, S6.unsuite ok, r6, q6⟩
          | next => obtain ⟨σ6, H6, S6, q6⟩ := q; exact ⟨_, _, S6.unsuite ok, q6⟩
          | brk => obtain ⟨σ6, H6, S6, q6⟩ := q; exact ⟨_, _, S6.unsuite ok, q6⟩
          | cont => obtain ⟨σ6, H6, S6, q6⟩ := q; exact ⟨_, _, S6.unsuite ok, q6⟩
      | @named x n i c ts s0 suite np p hds2 l2 hi hln hc hsu r ih =>
        rintro ⟨b, hb1, hyes, hno⟩
        refine wpAny_handleBy_cons (codeAny_handlers_test (test hc ((PySem.W.exm_one (M := model X.prog X.w) J3.kIn LT hb1).here ?_))) (by intro q; cases q)
        cases b with
        | false => exact ih (hno rfl)
        | true =>
          refine codeAny_handlers_suite_as (HandSPX.lands_againZ fl fun h4 fl4 up4 => ?_)
          have J4 : Inv X pins τ G { s1 with heap := h4 } := J.landed nb fl4.1 ((up.trans up3).trans up4) os ag
          obtain ⟨oe4, vs4, he4, hz4, hd4⟩ := fl4.there
          refine store_ok (X := X.suite a ((a, oe4) :: (X.pn ++ pins))) (v := .ref a) (J4.suite he4 hd4 na nL nF) hN hi (.inl hln) rfl (fun s5 S5 => ?_) (.inr hln)
          refine wpAny_mono ((hsu a oe4 cls d (X.pn ++ pins) hz4 ⟨_, hd4⟩).run [] s5 _ G _ S5 (hyes rfl a na)) (fun f s6 q => ?_) (fun _ _ z => False.elim z)
          have gone : ∀ {σ6 : L2.St} {H6 : Hp} {Q : Shared → Prop}, Inv (X.suite a ((a, oe4) :: (X.pn ++ pins))) [] σ6 H6 s6 → (∀ s7, Inv X pins (σ6.set i none) H6 s7 → Q s7) →
              wpAny (model X.prog X.w) X.A (do bindName X.env n .none; unbindBehindTheSuite X.env n p) (fun _ s7 => Q s7) X.xe s6 := fun S6 hq => gone_ok (S6.unsuite ok) hN hi hln hq
          cases f with
          | ret u => obtain ⟨v6, σ6, H6, S6, r6, q6⟩ := q; exact gone S6 fun s7 J7 => ⟨_, _, _, J7, r6, q6⟩
          | next => obtain ⟨σ6, H6, S6, q6⟩ := q; exact gone S6 fun s7 J7 => ⟨_, _, J7, q6⟩
          | brk => obtain ⟨σ6, H6, S6, q6⟩ := q; exact gone S6 fun s7 J7 => ⟨_, _, J7, q6⟩
          | cont => obtain ⟨σ6, H6, S6, q6⟩ := q; exact gone S6 fun s7 J7 => ⟨_, _, J7, q6⟩
    exact go hh w
  · cases f with
    | ret u => obtain ⟨v, σ', H', J', r1, q⟩ := r; exact ⟨v, σ', H', J'.ofTry ok, r1, q⟩
    | next => obtain ⟨σ', H', J', q⟩ := r; exact wpAny_execs_nil ⟨σ', H', J'.ofTry ok, q⟩
    | brk => obtain ⟨σ', H', J', q⟩ := r; exact ⟨σ', H', J'.ofTry ok, q⟩
    | cont => obtain ⟨σ', H', J', q⟩ := r; exact ⟨σ', H', J'.ofTry ok, q⟩
end
end Rj

set_option Elab.async false
set_option linter.all false
set_option maxRecDepth 100000
set_option maxHeartbeats 8000000
namespace Bs
open PySem L2
/-! ### what is needed to do a deed -/
structure MtK (P : Program) (w : World) (K : PySem.W.Frag) (mg : Str → Option Value) (base : Heap) (CX : CXT) (k : Nat) (C : Addr) (m : Str) (ps ks : List Str) (sp : Sp) : Prop where
  ex : ∃ (f : Addr) (fd : FuncData), Meth K C m f ∧ FnOk P w K mg base CX k f fd ps sp ∧ KBinds K fd ps ks Rj.g22 Rj.g22
mutual
theorem It.At.loose {H : Hp} : ∀ {x : It} {v : V}, x.At true H v → x.At false H v
  | .num .., _, h => by simp only [It.At] at h ⊢; exact h
  | .byt .., _, h => by simp only [It.At] at h ⊢; exact h
  | .txt .., _, h => by simp only [It.At] at h ⊢; exact h
  | .chk .., _, h => by simp only [It.At] at h ⊢; exact h
  | .pad .., _, h => by simp only [It.At] at h ⊢; exact h
  | .odd .., _, h => by simp only [It.At] at h ⊢; exact h
  | .rep .., _, h => by simp only [It.At] at h ⊢; obtain ⟨p, q, xs, e, h, r, b⟩ := h; exact ⟨p, q, xs, e, h, .inl (rowT r), Its.At.loose b⟩
  | .eit .., _, h => by simp only [It.At] at h ⊢; obtain ⟨p, q, xs, e, h, r, b⟩ := h; exact ⟨p, q, xs, e, h, .inl (rowT r), Blks.AtE.loose b⟩
  | .swi .., _, h => by simp only [It.At] at h ⊢; obtain ⟨p, q, xs, e, h, r, b⟩ := h; exact ⟨p, q, xs, e, h, .inl (rowT r), Blks.AtS.loose b⟩
theorem Its.At.loose {H : Hp} : ∀ {x : Its} {v : List V}, x.At true H v → x.At false H v
  | .nil, _, h => by simp only [Its.At] at h ⊢; exact h
  | .cons .., _, h => by simp only [Its.At] at h ⊢; obtain ⟨v, l', e, h, r⟩ := h; exact ⟨v, l', e, It.At.loose h, Its.At.loose r⟩
theorem Blks.AtE.loose {H : Hp} : ∀ {x : Blks} {v : List V}, x.AtE true H v → x.AtE false H v
  | .nil, _, h => by simp only [Blks.AtE] at h ⊢; exact h
  | .cons .., _, h => by simp only [Blks.AtE] at h ⊢; obtain ⟨q, xs, l', e, r, b, t⟩ := h; exact ⟨q, xs, l', e, .inl (rowT r), Its.At.loose b, Blks.AtE.loose t⟩
theorem Blks.AtS.loose {H : Hp} : ∀ {x : Blks} {v : List V}, x.AtS true H v → x.AtS false H v
  | .nil, _, h => by simp only [Blks.AtS] at h ⊢; exact h
  | .cons .., _, h => by simp only [Blks.AtS] at h ⊢; obtain ⟨p, q, xs, l', e, a, r, b, t⟩ := h; exact ⟨p, q, xs, l', e, a, .inl (rowT r), Its.At.loose b, Blks.AtS.loose t⟩
end
theorem resd_shift {CW CB CS CU CN C CQ o : Addr} {wb : Wb} {H H1 : Hp} {Q : VK} {E : XK} {r : Except Er Bd} (s : Same H H1) (q : ResD CW CB CS CU CN C CQ o wb H Q E r) : ResD CW CB CS CU CN C CQ o wb H1 Q E r := by
  cases r with
  | ok b => exact fun H' f w => q H' (off_trans (off_same s) f) w
  | error e => exact errw_shift (off_same s) (fun u h => by rw [s _ _ h]; intro z; cases z) q
end Bs

set_option Elab.async false
set_option linter.all false
set_option maxRecDepth 100000
set_option maxHeartbeats 8000000
namespace Bs
open PySem L2
/-! ### how a tried deed ends -/
theorem pss_of1 {X : Cx} {b : List Stmt} {t : TS} {p : Prop} (h : p → PSs X b t) : PSs X b (fun D σ H => p ∧ t D σ H) :=
  ⟨fun pins s σ H D I q => (h q.1).run pins s σ H D I q.2⟩
theorem passE0 {X : Cx} {P : Program} {w : World} : Passes (L2.CX P w) X E0 := fun _ _ _ _ _ _ _ h => by
  obtain ⟨_, _, _, _, _, _, _, _, _, _, _, _, h⟩ := h
  exact h.elim
/-- how the errors' classes match in an except clause -/
structure ErrC (K : PySem.W.Frag) (mg : Str → Option Value) (CU CN C CQ : Addr) : Prop where
  gU : mg "UnknownName" = some (.ref CU)
  gN : mg "NameInUse" = some (.ref CN)
  gC : mg "InvalidShape" = some (.ref C)
  gQ : mg "InvalidQuestion" = some (.ref CQ)
  XU : XfC K CU
  XN : XfC K CN
  nU : PySem.W.findIn K (.ref CU) "name" = some none
  nN : PySem.W.findIn K (.ref CN) "name" = some none
  uu : PySem.W.exmOne K (.ref CU) (.ref CU) = some true
  nu : PySem.W.exmOne K (.ref CN) (.ref CU) = some false
  nn : PySem.W.exmOne K (.ref CN) (.ref CN) = some true
  cu : PySem.W.exmOne K (.ref C) (.ref CU) = some false
  cn : PySem.W.exmOne K (.ref C) (.ref CN) = some false
  cc : PySem.W.exmOne K (.ref C) (.ref C) = some true
  qu : PySem.W.exmOne K (.ref CQ) (.ref CU) = some false
  qn : PySem.W.exmOne K (.ref CQ) (.ref CN) = some false
  qc : PySem.W.exmOne K (.ref CQ) (.ref C) = some false
  qq : PySem.W.exmOne K (.ref CQ) (.ref CQ) = some true
def tName (K : PySem.W.Frag) (CE : Addr) (wd : Str) (a : Addr) (cls : Value) (d : Option Addr) : TS := fun D σ H => cls = .ref CE ∧ tRet (tTup (tCons (tC (.str wd)) (tCons (tXf a cls d CE "name" (tVar 2)) tNil))) D σ H
def tPlain (wd : Str) (a : Addr) (cls : Value) (d : Option Addr) : TS := tRet (tTup (tCons (tC (.str wd)) (tCons (tC (.str "")) tNil)))
def handsT (K : PySem.W.Frag) (CU CN C CQ : Addr) : List Rj.Hand := [(.ref CU, some 2, tName K CU "unknown"), (.ref CN, some 2, tName K CN "used"), (.ref C, none, tPlain "shape"), (.ref CQ, none, tPlain "question")]
end Bs

set_option Elab.async false
set_option linter.all false
set_option maxRecDepth 100000
set_option maxHeartbeats 4000000
/-! o.m() in a try -/
namespace Rj
open PySem PySem.Spec PyProof.Rows L2
section
variable {X : Cx} {CX : CXT} {k : Nat} {C f : Addr} {fd : FuncData} {ps : List Str} {m : Str} {sp : Sp} {E : L2.St → XK} {o : Expr} {ta : TE} {apos pos : Pos}
theorem pe_methAt0 {pl : Sem Bool} (he : PE X o ta) (c : Cls X.K C) (hm : Meth X.K C m f) (F : FnOk X.prog X.w X.K X.mg X.base CX k f fd ps sp) (hr : Room k X.A) (hb : Binds X.K fd ps []) (hx : ∀ σ, PassesAt CX X σ (E σ))
    (ht : eval (.Call (.Attribute o m apos) [] [] pos) X.env = (do
      let ov ← eval o X.env
      standAt apos.atName
      let (f, first) ← holding [ov] (getMethod ov m pl)
      callWith pos f first (backTo pos (starEach [] X.env)) (backToKw pos (keywordEach [] X.env))) := by rfl) :
    PE X (.Call (.Attribute o m apos) [] [] pos) (tMethAt C m sp E ta tNil) := by
  refine ⟨fun pins s σ H Q I h => ?_⟩
  refine PySem.W.methodCall_KW (pl := pl) (thn (he.run pins s σ H _ I h) fun u s1 ⟨x, H1, I1, rx, a, dx, fs, ex, ea, l, q⟩ => ?_) ht
  subst ex
  obtain rfl : u = Value.ref a := rx
  refine getmeth_ok I1 ea c hm l ?_
  exact PySem.W.callWith_K0 (first := [.ref a]) I1.kIn hm.kp (run_fnS (us := [.ref a]) (vs := [.ref a]) F hr hb (hx σ) I1 (.cons rfl .nil) q)
end
end Rj

set_option Elab.async false
set_option linter.all false
set_option maxRecDepth 100000
set_option maxHeartbeats 8000000
namespace Bs
open PySem L2
/-! ### undo, redo -/
structure PlainC (K : PySem.W.Frag) (mg : Str → Option Value) (nm : Str) (C : Addr) : Prop where
  gC : mg nm = some (.ref C)
  kC : PySem.W.keepIn K (.ref C) = true
  xC : PySem.W.excIn K C veB "ValueError.__new__" = true
  bC : PySem.W.subIn K (.ref C) (.type "BaseException") = some true
  tC : PySem.W.typeIn K (.ref C) = some (.type "type")
abbrev sUndo : Stmt := inClass (top 74) 7
abbrev sRedo : Stmt := inClass (top 74) 8
def spUndo (CW CB CS CX : Addr) : Sp := fun vs H Q E => ∃ (o : Addr) (wb : Wb), vs = [.ref o] ∧ WbAt CW CB CS o wb H ∧
  (wb.at_ = 0 → E (.ref CX) none H) ∧ (0 < wb.at_ → ∀ H', Off o H H' → WbAt CW CB CS o ⟨wb.bds, wb.at_ - 1⟩ H' → Q .non H')
def spRedo (CW CB CS CX : Addr) : Sp := fun vs H Q E => ∃ (o : Addr) (wb : Wb), vs = [.ref o] ∧ WbAt CW CB CS o wb H ∧
  (wb.at_ + 1 = wb.bds.length → E (.ref CX) none H) ∧ (wb.at_ + 1 < wb.bds.length → ∀ H', Off o H H' → WbAt CW CB CS o ⟨wb.bds, wb.at_ + 1⟩ H' → Q .non H') ∧ wb.at_ < wb.bds.length
section
variable {P : Program} {w : World} {K : PySem.W.Frag} {mg : Str → Option Value} {base : Heap} {f C CX CB CS CW : Addr} {fd : FuncData}
theorem scUndo : FnScope ["self"] ["self"] (defScope sUndo) := ⟨rfl, rfl, rfl, by decide +kernel, rfl, by decide +kernel, by decide +kernel⟩
theorem scRedo : FnScope ["self"] ["self"] (defScope sRedo) := ⟨rfl, rfl, rfl, by decide +kernel, rfl, by decide +kernel, by decide +kernel⟩
/-- the bench stands at another board -/
theorem wb_move {o dx l kn : Addr} {wb : Wb} {H : Hp} {e : Int} {bs : List V} (a : Nat) (h1 : H o = some (.ins CW dx (wfs l wb.at_ e kn))) (h2 : wo o H l = some (.lst bs)) (h3 : Paired (BdAt CB CS (wo o H)) bs wb.bds) : WbAt CW CB CS o ⟨wb.bds, a⟩ (upd H o (.ins CW dx (wfs l a e kn))) := by
  refine ⟨dx, l, kn, e, bs, upd_same, ?_, ?_⟩
  · rw [wo_upd]; exact h2
  · rw [wo_upd]; exact h3
theorem ok_undo (F : Fun K "undo" "Workbench.undo" sUndo f fd) (W : WbC K CW CB CS) (PC : PlainC K mg "NothingToUndo" CX) : FnOk P w K mg base (L2.CX P w) 1 f fd ["self"] (spUndo CW CB CS CX) := by
  refine F.okX scUndo (fun vs H Q E h => ?_) (fun cdv A outer s H vs Q E hr h => ?_)
  · obtain ⟨o, wb, rfl, _⟩ := h
    rfl
  · obtain ⟨o, wb, rfl, hw, q1, q2⟩ := h
    obtain ⟨dx, l, kn, e, bs, h1, h2, h3⟩ := id hw.h
    have tk : Takes (cxOf (L2.CX P w) P w K mg base ["self"] "Workbench.undo" (defScope sUndo) f cdv A outer s H E) (fun cls d _ H => E cls d H) := takes_of rfl rfl rfl rfl
    refine ⟨_, pss_cons (ps_if (pt_cmpR op_eq (pe_fld (pv 0) rfl) pe_int (nomark _)) (pss_one (ps_raise rfl tk (SkE.pmk_own1 PySem.F.excBase_ValueError PC.xC PC.gC PC.kC (raises_own PC.bC PC.tC) rfl pe_str))) pss_nil) (pss_one (ps_fldaug (pv 0) pe_int iop_sub)), ?_⟩
    refine ⟨_, rfl, o, CW, dx, _, _, rfl, h1, W.cl, W.n _ (by decide +kernel), rfl, rfl, _, rfl, ?_⟩
    refine ite2 (fun c => ?_) (fun c => ?_)
    · rw [int_eq, decide_eq_true_iff] at c
      exact q1 (by omega)
    · rw [int_eq, decide_eq_true_iff] at c
      have c0 : 0 < wb.at_ := by omega
      refine ⟨_, rfl, o, CW, dx, _, _, rfl, h1, W.cl, W.n _ (by decide +kernel), rfl, _, _, rfl, rfl, dx, _, h1, (by show 6 < 1000; decide), ?_⟩
      rw [wfs_a, show ((wb.at_ : Int) - 1) = ((wb.at_ - 1 : Nat) : Int) by omega]
      exact q2 c0 _ off_upd (wb_move (wb.at_ - 1) h1 h2 h3)
theorem ok_redo (F : Fun K "redo" "Workbench.redo" sRedo f fd) (W : WbC K CW CB CS) (PC : PlainC K mg "NothingToRedo" CX) (ml : mg "len" = none) : FnOk P w K mg base (L2.CX P w) 1 f fd ["self"] (spRedo CW CB CS CX) := by
  refine F.okX scRedo (fun vs H Q E h => ?_) (fun cdv A outer s H vs Q E hr h => ?_)
  · obtain ⟨o, wb, rfl, _⟩ := h
    rfl
  · obtain ⟨o, wb, rfl, hw, q1, q2, hat⟩ := h
    obtain ⟨dx, l, kn, e, bs, h1, h2, h3⟩ := id hw.h
    have tk : Takes (cxOf (L2.CX P w) P w K mg base ["self"] "Workbench.redo" (defScope sRedo) f cdv A outer s H E) (fun cls d _ H => E cls d H) := takes_of rfl rfl rfl rfl
    refine ⟨_, pss_cons (ps_if (pt_cmpR op_eq (pe_fld (pv 0) rfl) (pe_op op_sub (pe_callB call_len (by rfl) ml boot_len (pa_cons (pe_fld (pv 0) rfl) pa_nil)) pe_int) (nomark _)) (pss_one (ps_raise rfl tk (SkE.pmk_own1 PySem.F.excBase_ValueError PC.xC PC.gC PC.kC (raises_own PC.bC PC.tC) rfl pe_str))) pss_nil) (pss_one (ps_fldaug (pv 0) pe_int iop_add)), ?_⟩
    have bl : bs.length = wb.bds.length := plen h3
    refine ⟨_, rfl, o, CW, dx, _, _, rfl, h1, W.cl, W.n _ (by decide +kernel), rfl, _, rfl, o, CW, dx, _, _, rfl, h1, W.cl, W.n _ (by decide +kernel), rfl, _, _, rfl, .inl ⟨_, SqL.of (wo_same o H _ _ h2), rfl⟩, _, _, rfl, rfl, rfl, _, rfl, ?_⟩
    have ed : ((wb.at_ : Int) = (bs.length : Nat) - 1) ↔ wb.at_ + 1 = wb.bds.length := by rw [bl]; omega
    refine ite2 (fun c => ?_) (fun c => ?_)
    · have c := V.int.inj (of_decide_eq_true c)
      exact q1 (ed.mp c)
    · have c0 : wb.at_ + 1 < wb.bds.length := by
        have : ¬ (wb.at_ + 1 = wb.bds.length) := fun e => c (decide_eq_true (congrArg V.int (ed.mpr e)))
        omega
      refine ⟨_, rfl, o, CW, dx, _, _, rfl, h1, W.cl, W.n _ (by decide +kernel), rfl, _, _, rfl, rfl, dx, _, h1, (by show 6 < 1000; decide), ?_⟩
      rw [wfs_a, show ((wb.at_ : Int) + 1) = ((wb.at_ + 1 : Nat) : Int) by omega]
      exact q2 c0 _ off_upd (wb_move (wb.at_ + 1) h1 h2 h3)
end
end Bs

set_option Elab.async false
set_option linter.all false
set_option maxRecDepth 100000
set_option maxHeartbeats 8000000
namespace Bs
open PySem L2
/-! ### two own lists are hidden: what stands in the heap without them does not rest upon them -/
def hid (p f : Addr) (H : Hp) : Hp := fun a => if a = p ∨ a = f then none else H a
section
variable {p f : Addr} {H H' : Hp}
theorem hid_same : Same (hid p f H) H := fun a u e => by
  unfold hid at e
  by_cases c : a = p ∨ a = f
  · rw [if_pos c] at e; cases e
  · rw [if_neg c] at e; exact e
theorem hid_at {a : Addr} {u : HO} (e : H a = some u) (n1 : a ≠ p) (n2 : a ≠ f) : hid p f H a = some u := by
  rw [hid, if_neg (fun z => z.elim n1 n2)]; exact e
theorem hid_no {a : Addr} {u : HO} (e : hid p f H a = some u) : a ≠ p ∧ a ≠ f := by
  unfold hid at e
  by_cases c : a = p ∨ a = f
  · rw [if_pos c] at e; cases e
  · exact ⟨fun z => c (.inl z), fun z => c (.inr z)⟩
theorem hid_keep (k : ∀ a u, a ≠ p → a ≠ f → H a = some u → H' a = some u) : Same (hid p f H) (hid p f H') := fun a u e => by
  obtain ⟨n1, n2⟩ := hid_no e
  exact hid_at (k a u n1 n2 (hid_same _ _ e)) n1 n2
theorem hid_of (s : Same H H') : Same (hid p f H) (hid p f H') := hid_keep fun a u _ _ e => s a u e
theorem hid_p {u : HO} : hid p f (upd H p u) = hid p f H := by
  funext a
  unfold hid
  by_cases c : a = p ∨ a = f
  · rw [if_pos c, if_pos c]
  · rw [if_neg c, if_neg c, upd_ne (fun z => c (.inl z))]
theorem hid_f {u : HO} : hid p f (upd H f u) = hid p f H := by
  funext a
  unfold hid
  by_cases c : a = p ∨ a = f
  · rw [if_pos c, if_pos c]
  · rw [if_neg c, if_neg c, upd_ne (fun z => c (.inr z))]
end
/-- a list of states -/
def SL (H : Hp) (p : Addr) (ps : List Addr) : Prop := H p = some (.lst (ps.map V.ref)) ∧ ∀ a ∈ ps, ∃ d1 d2 : Addr, H a = some (.lst [.ref d1, .ref d2]) ∧ ∃ k, H d1 = some (.dK k)
/-- such a list is no state -/
theorem SL.ne {H : Hp} {p a d1 d2 : Addr} {ps : List Addr} (h : SL H p ps) (ha : H a = some (.lst [.ref d1, .ref d2])) {k : List (Key × V)} (hd : H d1 = some (.dK k)) : a ≠ p := fun z => by
  subst z
  have e := h.1
  rw [ha] at e
  have e := HO.lst.inj (Option.some.inj e)
  cases ps with
  | nil => cases e
  | cons b r =>
    rw [List.map_cons] at e
    injection e with e1 _
    have e1 := V.ref.inj e1
    subst e1
    obtain ⟨x1, x2, hx, _⟩ := h.2 d1 (List.mem_cons_self ..)
    rw [hd] at hx; cases hx
/-- such a list is no list of names, but for the empty one -/
theorem SL.ne2 {H : Hp} {p a : Addr} {ps : List Addr} (h : SL H p ps) {z : Str} {zs : List Str} (ha : H a = some (.lst ((z :: zs).map V.str))) : a ≠ p := fun e => by
  subst e
  have e := h.1
  rw [ha] at e
  have e := HO.lst.inj (Option.some.inj e)
  cases ps with
  | nil => cases e
  | cons b r => rw [List.map_cons, List.map_cons] at e; injection e with e1 _; cases e1
/-- every question has a name -/
def Bd.q1 (b : Bd) : Prop := ∀ p ∈ b.qs, p.2.2 ≠ []
theorem step_q1 {b b' : Bd} (h : b.q1) : ∀ {c : Ch}, step b c = .ok b' → b'.q1
  | .set z x, e => by
    simp only [step, Except.ok.injEq] at e
    subst e
    exact h
  | .rem z, e => by
    simp only [step, wShape] at e
    split at e
    · cases e
    · split at e
      · cases e
      · cases e; exact h
  | .rep z u y, e => by
    simp only [step, wItem] at e
    split at e
    · cases e
    · split at e
      · split at e
        · cases e; exact h
        · cases e
      · cases e
  | .del z u, e => by
    simp only [step, wItem] at e
    split at e
    · cases e
    · split at e
      · split at e
        · cases e; exact h
        · cases e
      · cases e
  | .ask z wd ns, e => by
    simp only [step, wQuest] at e
    split at e
    · cases e
    · rename_i n hn
      split at e
      · rename_i hl
        split at e
        · cases e
        · cases e
          intro p hp
          rcases tput_mem hp with hp | rfl
          · exact h p hp
          · intro e
            have e : ns = [] := e
            rw [e] at hl
            rw [hl] at hn
            unfold wordOf at hn
            repeat' split at hn
            all_goals first | (cases hn; done) | (simp at hn; done)
      · cases e
  | .drop z, e => by
    simp only [step, woQuest] at e
    split at e
    · cases e
    · cases e; exact fun p hp => h p (tdrop_mem hp)
theorem tab_in {α : Type} {r r' : V → α → Prop} : ∀ {k : List (Key × V)} {l : List (Str × α)}, TabR r k l → (∀ p ∈ l, ∀ v, r v p.2 → r' v p.2) → TabR r' k l
  | _, _, .nil, _ => .nil
  | _, _, .cons a t, h => .cons ⟨a.1, h _ (List.mem_cons_self ..) _ a.2⟩ (tab_in t fun p hp => h p (List.mem_cons_of_mem _ hp))
/-- a state does not rest upon such lists -/
theorem StAt.hid {H : Hp} {p f : Addr} {ps fs : List Addr} (hp : SL H p ps) (hf : SL H f fs) {l : Addr} {b : Bd} (q1 : b.q1) (h : StAt H l b) : StAt (hid p f H) l b := by
  obtain ⟨d1, d2, k1, k2, hl, h1, t1, h2, t2⟩ := h.h
  have nd : ∀ {d : Addr} {k : List (Key × V)}, H d = some (.dK k) → d ≠ p ∧ d ≠ f := fun hd => ⟨fun z => (by rw [z, hp.1] at hd; cases hd), fun z => (by rw [z, hf.1] at hd; cases hd)⟩
  have nt : ∀ {d : Addr} {k : List V}, H d = some (.tup k) → d ≠ p ∧ d ≠ f := fun hd => ⟨fun z => (by rw [z, hp.1] at hd; cases hd), fun z => (by rw [z, hf.1] at hd; cases hd)⟩
  have kp : Kp true H (Bs.hid p f H) := ⟨fun a xs e => hid_at e (nt e).1 (nt e).2, fun z => by cases z⟩
  refine ⟨d1, d2, k1, k2, hid_at hl (hp.ne hl h1) (hf.ne hl h1), hid_at h1 (nd h1).1 (nd h1).2, t1.imp fun v x z => ?_, hid_at h2 (nd h2).1 (nd h2).2, tab_in t2 fun q hq v z => ?_⟩
  · obtain ⟨t, n, r, xs, e, ht, hr, hx⟩ := z
    exact ⟨t, n, r, xs, e, kp.t _ _ ht, kp.t _ _ hr, Its.At.kp kp hx⟩
  · obtain ⟨t, ll, e, ht, hll⟩ := z
    have nn := q1 q hq
    refine ⟨t, ll, e, kp.t _ _ ht, ?_⟩
    cases hz : q.2.2 with
    | nil => exact absurd hz nn
    | cons z0 zr =>
      rw [hz] at hll
      exact hid_at hll (hp.ne2 hll) (hf.ne2 hll)
/-- a workbench does not rest upon such lists -/
theorem WbAt.hid {CW CB CS o : Addr} {wb : Wb} {H : Hp} {p f : Addr} {ps fs : List Addr} (hp : SL H p ps) (hf : SL H f fs) (n0 : wb.bds ≠ []) (h : WbAt CW CB CS o wb H) : WbAt CW CB CS o wb (hid p f H) := by
  obtain ⟨dx, l, kn, e, bs, h1, h2, h3⟩ := h.h
  have ni : ∀ {d C dx : Addr} {g : List (Str × V)}, H d = some (.ins C dx g) → d ≠ p ∧ d ≠ f := fun hd => ⟨fun z => (by rw [z, hp.1] at hd; cases hd), fun z => (by rw [z, hf.1] at hd; cases hd)⟩
  have hl := wo_same o H _ _ h2
  have ss := wo_same o H
  have lo : l ≠ o := fun z => by rw [z, wo, if_pos rfl] at h2; cases h2
  obtain ⟨v0, br, rfl⟩ : ∃ v0 br, bs = v0 :: br := by
    cases bs with
    | nil => exact absurd (List.length_eq_zero_iff.mp (plen h3).symm) n0
    | cons v r => exact ⟨v, r, rfl⟩
  have nl : ∀ {g : Addr} {gs : List Addr}, SL H g gs → l ≠ g := fun {g gs} hg z => by
    subst z
    have e := hg.1
    rw [hl] at e
    have e := HO.lst.inj (Option.some.inj e)
    cases gs with
    | nil => cases e
    | cons a r =>
      rw [List.map_cons] at e
      injection e with e1 _
      obtain ⟨x1, x2, hx, _⟩ := hg.2 a (List.mem_cons_self ..)
      cases hb : wb.bds with
      | nil => exact absurd hb n0
      | cons b0 r0 =>
        rw [hb] at h3
        cases h3 with
        | cons hb0 _ =>
          obtain ⟨ob, dxb, _, _, _, _, _, ev, hob, _⟩ := hb0.h
          rw [e1] at ev
          have ev := V.ref.inj ev
          subst ev
          rw [ss _ _ hob] at hx; cases hx
  have kb : Kb CB CS (wo o H) (wo o (Bs.hid p f H)) := by
    have k : ∀ a y, wo o H a = some y → (∀ xs, y ≠ .lst xs) → wo o (Bs.hid p f H) a = some y := fun a y e n => by
      have c : a ≠ o := fun z => by rw [z, wo, if_pos rfl] at e; cases e
      have e2 : H a = some y := ss _ _ e
      exact wo_at (hid_at e2 (fun z => by rw [z, hp.1] at e2; exact n _ (Option.some.inj e2).symm) (fun z => by rw [z, hf.1] at e2; exact n _ (Option.some.inj e2).symm)) c
    exact ⟨fun a xs e => k _ _ e (by intro _ z; cases z), fun a xs e => k _ _ e (by intro _ z; cases z), fun a _ _ e => k _ _ e (by intro _ z; cases z), fun a _ _ e => k _ _ e (by intro _ z; cases z)⟩
  exact ⟨dx, l, kn, e, v0 :: br, hid_at h1 (ni h1).1 (ni h1).2, wo_at (hid_at hl (nl hp) (nl hf)) lo, L2.Paired.mapP h3 fun _ _ z => z.kb kb⟩
end Bs

set_option Elab.async false
set_option linter.all false
set_option maxRecDepth 100000
set_option maxHeartbeats 8000000
namespace Bs
open PySem L2
/-! ### the law's past and future -/
/-- the law's past and future beside the bench -/
structure Tl (CW CB CS o pl fl : Addr) (H : Hp) (wb : Wb) (ps fs : List Addr) : Prop where
  p : H pl = some (.lst (ps.map V.ref))
  f : H fl = some (.lst (fs.map V.ref))
  ne : pl ≠ fl
  s : Paired (StAt (hid pl fl H)) (ps ++ fs.reverse) wb.bds
  l : ps.length = wb.at_ + 1
  w : WbAt CW CB CS o wb (hid pl fl H)
  q : ∀ b ∈ wb.bds, b.q1
theorem Tl.sl {CW CB CS o pl fl : Addr} {H : Hp} {wb : Wb} {ps fs : List Addr} (t : Tl CW CB CS o pl fl H wb ps fs) : SL H pl ps ∧ SL H fl fs := by
  have k : ∀ a ∈ ps ++ fs.reverse, ∃ d1 d2 : Addr, H a = some (.lst [.ref d1, .ref d2]) ∧ ∃ k, H d1 = some (.dK k) := fun a ha => by
    obtain ⟨b, _, h⟩ := pmem t.s a ha
    obtain ⟨d1, d2, k1, k2, e1, e2, _⟩ := h.h
    exact ⟨d1, d2, hid_same _ _ e1, k1, hid_same _ _ e2⟩
  exact ⟨⟨t.p, fun a ha => k a (List.mem_append_left _ ha)⟩, ⟨t.f, fun a ha => k a (List.mem_append_right _ (List.mem_reverse.mpr ha))⟩⟩
theorem Tl.o {CW CB CS o pl fl : Addr} {H : Hp} {wb : Wb} {ps fs : List Addr} (t : Tl CW CB CS o pl fl H wb ps fs) : pl ≠ o ∧ fl ≠ o := by
  obtain ⟨dx, l, kn, e, bs, h1, _⟩ := t.w.h
  obtain ⟨n1, n2⟩ := hid_no h1
  exact ⟨n1.symm, n2.symm⟩
theorem Tl.len {CW CB CS o pl fl : Addr} {H : Hp} {wb : Wb} {ps fs : List Addr} (t : Tl CW CB CS o pl fl H wb ps fs) : ps.length + fs.length = wb.bds.length := by
  have := plen t.s
  rw [List.length_append, List.length_reverse] at this
  exact this
/-- what the law holds besides is kept when the bench moves -/
theorem hid_kd {o pl fl : Addr} {H H' : Hp} {C dx : Addr} {g : List (Str × V)} (ho : hid pl fl H o = some (.ins C dx g)) (f : Off o H H') : Kd (hid pl fl H) (hid pl fl H') := by
  have k : ∀ a u, hid pl fl H a = some u → (∀ C dx g, u ≠ .ins C dx g) → hid pl fl H' a = some u := fun a u e n => by
    obtain ⟨n1, n2⟩ := hid_no e
    exact hid_at (f a u (fun z => by rw [z, ho] at e; exact n _ _ _ (Option.some.inj e).symm) (hid_same _ _ e)) n1 n2
  exact ⟨fun a xs e => k _ _ e (by intro _ _ _ z; cases z), fun a xs e => k _ _ e (by intro _ _ _ z; cases z), fun a xs e => k _ _ e (by intro _ _ _ z; cases z)⟩
/-- behind a turn of the bench, the lists not yet moved -/
theorem Tl.off {CW CB CS o pl fl : Addr} {H H' : Hp} {wb wb' : Wb} {ps fs : List Addr} (t : Tl CW CB CS o pl fl H wb ps fs) (f : Off o H H') (w' : WbAt CW CB CS o wb' H') (eb : wb'.bds = wb.bds) : H' pl = some (.lst (ps.map V.ref)) ∧ H' fl = some (.lst (fs.map V.ref)) ∧ Paired (StAt (hid pl fl H')) (ps ++ fs.reverse) wb.bds ∧ WbAt CW CB CS o wb' (hid pl fl H') := by
  have p' := f _ _ t.o.1 t.p
  have f' := f _ _ t.o.2 t.f
  obtain ⟨dx, l, kn, e, bs, h1, _⟩ := id t.w.h
  have kd := hid_kd h1 f
  have s' := L2.Paired.mapP t.s fun _ _ z => StAt.kd kd z
  have k : ∀ a ∈ ps ++ fs.reverse, ∃ d1 d2 : Addr, H' a = some (.lst [.ref d1, .ref d2]) ∧ ∃ k, H' d1 = some (.dK k) := fun a ha => by
    obtain ⟨b, _, h⟩ := pmem s' a ha
    obtain ⟨d1, d2, k1, k2, e1, e2, _⟩ := h.h
    exact ⟨d1, d2, hid_same _ _ e1, k1, hid_same _ _ e2⟩
  have n0 : wb'.bds ≠ [] := by
    rw [eb]
    intro z
    have l := t.len
    rw [z, List.length_nil] at l
    have l2 := t.l
    omega
  exact ⟨p', f', s', WbAt.hid ⟨p', fun a ha => k a (List.mem_append_left _ ha)⟩ ⟨f', fun a ha => k a (List.mem_append_right _ (List.mem_reverse.mpr ha))⟩ n0 w'⟩
theorem atI_last {ps : List Addr} {i : Nat} {x : Addr} (h : ps[i]? = some x) (hl : ps.length = i + 1) : atI (ps.map V.ref) (-1) = some (.ref x) := by
  have e : ixN (ps.map V.ref).length (-1) = some i := by
    unfold ixN
    rw [List.length_map, hl]
    simp
    omega
  unfold atI
  rw [e]
  show (ps.map V.ref)[i]? = _
  rw [List.getElem?_map, h]; rfl
end Bs

set_option Elab.async false
set_option linter.all false
set_option maxRecDepth 100000
set_option maxHeartbeats 8000000
namespace Bm
open PySem L2
abbrev sLaw : Stmt := top 128
def spLaw (K : PySem.W.Frag) : Sp := fun vs H Q _ => ∃ (a : Addr) (ns : List Int), vs = [.ref a] ∧ SqL K H a (ns.map V.int) ∧ ns.length ≤ 63 ∧ ∀ H', Q (.bl true) H'
end Bm
namespace Bs
open PySem L2
def fltD : Option Er → PyData
  | none => .none
  | some (.unk z) => .tuple [.str "unknown", .str z]
  | some (.used z) => .tuple [.str "used", .str z]
  | some .shape => .tuple [.str "shape", .str ""]
  | some .quest => .tuple [.str "question", .str ""]
theorem flt_dp {K : PySem.W.Frag} {H : Hp} {v : V} : ∀ {r : Option Er}, FltAt H v r → Dp K H v (fltD r)
  | none, h => by rw [show v = .non from h]; exact .non
  | some (.unk z), ⟨t, e, h⟩ => by rw [e]; exact .tup (SqT.of h) (.cons (.str _) (.cons (.str _) .nil))
  | some (.used z), ⟨t, e, h⟩ => by rw [e]; exact .tup (SqT.of h) (.cons (.str _) (.cons (.str _) .nil))
  | some .shape, ⟨t, e, h⟩ => by rw [e]; exact .tup (SqT.of h) (.cons (.str _) (.cons (.str _) .nil))
  | some .quest, ⟨t, e, h⟩ => by rw [e]; exact .tup (SqT.of h) (.cons (.str _) (.cons (.str _) .nil))
theorem flt_shaped : ∀ {r : Option Er}, (∀ e, r = some e → e.lay) → SeqAt.shaped (fltD r) = true
  | none, _ => by decide +kernel
  | some (.unk z), h => by
    have k : PyData.strOk z = true := h _ rfl
    have k2 : PyData.strOk "unknown" = true := by decide +kernel
    unfold SeqAt.shaped
    simp only [fltD, PyData.canLay0, PyData.canLayAll0, PyData.depth, PyData.depthAll, k, k2]
    decide
  | some (.used z), h => by
    have k : PyData.strOk z = true := h _ rfl
    have k2 : PyData.strOk "used" = true := by decide +kernel
    unfold SeqAt.shaped
    simp only [fltD, PyData.canLay0, PyData.canLayAll0, PyData.depth, PyData.depthAll, k, k2]
    decide
  | some .shape, _ => by decide +kernel
  | some .quest, _ => by decide +kernel
theorem FltAt.kd {H H' : Hp} (k : Kd H H') {v : V} : ∀ {r : Option Er}, FltAt H v r → FltAt H' v r
  | none, h => h
  | some (.unk z), ⟨t, e, h⟩ => ⟨t, e, k.t _ _ h⟩
  | some (.used z), ⟨t, e, h⟩ => ⟨t, e, k.t _ _ h⟩
  | some .shape, ⟨t, e, h⟩ => ⟨t, e, k.t _ _ h⟩
  | some .quest, ⟨t, e, h⟩ => ⟨t, e, k.t _ _ h⟩
/-- a workbench whose last board is the one at hand -/
structure Wb.at (wb : Wb) (b : Bd) (i : Nat) : Prop where
  c : wb.bds[wb.at_]? = some b
  e : wb.at_ + 1 = wb.bds.length
  l : wb.bds.length ≤ i + 1
theorem Wb.at.push {wb : Wb} {b b' : Bd} {i : Nat} (h : wb.at b i) : (wb.push [b']).at b' (i + 1) := by
  have e := h.e
  have hp : wb.push [b'] = ⟨wb.bds.take (wb.at_ + 1) ++ [b'], wb.at_ + 1⟩ := by rw [Wb.push, if_neg (by simp)]; rfl
  have tl : (wb.bds.take (wb.at_ + 1)).length = wb.at_ + 1 := by rw [List.length_take]; omega
  refine ⟨?_, ?_, ?_⟩
  · rw [hp]
    show (wb.bds.take (wb.at_ + 1) ++ [b'])[wb.at_ + 1]? = some b'
    rw [List.getElem?_append_right (by omega), tl]
    simp
  · rw [hp]
    show wb.at_ + 1 + 1 = (wb.bds.take (wb.at_ + 1) ++ [b']).length
    rw [List.length_append, tl]; rfl
  · rw [hp]
    show (wb.bds.take (wb.at_ + 1) ++ [b']).length ≤ i + 1 + 1
    rw [List.length_append, tl, List.length_singleton]
    have := h.l; omega
theorem Wb.at.more {wb : Wb} {b : Bd} {i : Nat} (h : wb.at b i) : wb.at b (i + 1) := ⟨h.c, h.e, by have := h.l; omega⟩
theorem Bd.ok.more {b : Bd} {i : Nat} (h : b.ok i) : b.ok (i + 1) := ⟨h.n1, h.n2, by have := h.l1; omega, by have := h.l2; omega, h.s, h.q⟩
end Bs

set_option Elab.async false
set_option linter.all false
set_option maxRecDepth 100000
set_option maxHeartbeats 8000000
namespace Bs
open PySem L2
/-! ### the bench and the law's past move on -/
theorem Tl.mid {CW CB CS o pl fl : Addr} {H H' : Hp} {wb wb' : Wb} {ps fs : List Addr} (t : Tl CW CB CS o pl fl H wb ps fs) (f : Off o H H') (w' : WbAt CW CB CS o wb' H') (n0 : wb'.bds ≠ []) : H' pl = some (.lst (ps.map V.ref)) ∧ H' fl = some (.lst (fs.map V.ref)) ∧ Paired (StAt (hid pl fl H')) (ps ++ fs.reverse) wb.bds ∧ WbAt CW CB CS o wb' (hid pl fl H') ∧ SL H' pl ps ∧ SL H' fl fs := by
  have p' := f _ _ t.o.1 t.p
  have f' := f _ _ t.o.2 t.f
  obtain ⟨dx, l, kn, e, bs, h1, _⟩ := id t.w.h
  have kd := hid_kd h1 f
  have s' := L2.Paired.mapP t.s fun _ _ z => StAt.kd kd z
  have k : ∀ a ∈ ps ++ fs.reverse, ∃ d1 d2 : Addr, H' a = some (.lst [.ref d1, .ref d2]) ∧ ∃ k, H' d1 = some (.dK k) := fun a ha => by
    obtain ⟨b, _, h⟩ := pmem s' a ha
    obtain ⟨d1, d2, k1, k2, e1, e2, _⟩ := h.h
    exact ⟨d1, d2, hid_same _ _ e1, k1, hid_same _ _ e2⟩
  have sp : SL H' pl ps := ⟨p', fun a ha => k a (List.mem_append_left _ ha)⟩
  have sf : SL H' fl fs := ⟨f', fun a ha => k a (List.mem_append_right _ (List.mem_reverse.mpr ha))⟩
  exact ⟨p', f', s', WbAt.hid sp sf n0 w', sp, sf⟩
theorem Tl.last {CW CB CS o pl fl : Addr} {H : Hp} {wb : Wb} {ps fs : List Addr} (t : Tl CW CB CS o pl fl H wb ps fs) : ∃ sl b, atI (ps.map V.ref) (-1) = some (.ref sl) ∧ wb.bds[wb.at_]? = some b ∧ StAt (hid pl fl H) sl b := by
  have lp : wb.at_ < ps.length := by have := t.l; omega
  have gp : ps[wb.at_]? = some (ps[wb.at_]'lp) := List.getElem?_eq_getElem lp
  generalize ps[wb.at_]'lp = sl at gp
  have gs : (ps ++ fs.reverse)[wb.at_]? = some sl := by rw [List.getElem?_append_left lp]; exact gp
  obtain ⟨b, hb, hst⟩ := pget t.s gs
  exact ⟨sl, b, atI_last gp t.l, hb, hst⟩
theorem Tl.same {CW CB CS o pl fl : Addr} {H H' : Hp} {wb : Wb} {ps fs : List Addr} (s : Same H H') (t : Tl CW CB CS o pl fl H wb ps fs) : Tl CW CB CS o pl fl H' wb ps fs :=
  ⟨s _ _ t.p, s _ _ t.f, t.ne, L2.Paired.mapP t.s fun _ _ z => z.kd (.of (hid_of s)), t.l, t.w.same (hid_of s), t.q⟩
/-- a new list for the future: what does not rest upon the lists stays -/
theorem hid_next {pl fl f2 : Addr} {H : Hp} {u x : HO} (h2 : upd H pl u f2 = none) : Same (hid pl fl H) (hid pl f2 (upd (upd H pl u) f2 x)) := fun a y e => by
  obtain ⟨n1, n2⟩ := hid_no e
  have e := hid_same _ _ e
  have n3 : a ≠ f2 := fun z => by rw [← z, upd_ne n1, e] at h2; cases h2
  exact hid_at (by rw [upd_ne n3, upd_ne n1]; exact e) n1 n3
theorem deed_hid {H H' : Hp} {pl fl : Addr} {ts : List Addr} (hn : AskNew H H' ts) (e1 : H pl ≠ none) (e2 : H fl ≠ none) {p f : List V} (p1 : H' pl = some (.lst p)) (p2 : H' fl = some (.lst f)) {t : Addr} (ht : t ∈ ts) {c : Ch} (h : DeedAt H' t c) : DeedAt (hid pl fl H') t c := by
  have nt : ∀ {d : Addr} {k : List V}, H' d = some (.tup k) → hid pl fl H' d = some (.tup k) := fun hd => hid_at hd (fun z => by rw [z, p1] at hd; cases hd) (fun z => by rw [z, p2] at hd; cases hd)
  have kp : Kp true H' (hid pl fl H') := ⟨fun a xs e => nt e, fun z => by cases z⟩
  cases c with
  | set z x => obtain ⟨p, xs, a, b, c⟩ := h; exact ⟨p, xs, nt a, nt b, Its.At.kp kp c⟩
  | rem z => exact nt h
  | rep z u y => obtain ⟨u, a, b⟩ := h; exact ⟨u, nt a, It.At.kp kp b⟩
  | del z u => exact nt h
  | ask z wd ns =>
    obtain ⟨l, a, b⟩ := h
    have hl := hn t ht _ _ l a
    exact ⟨l, nt a, hid_at b (fun z => e1 (by rw [← z]; exact hl)) (fun z => e2 (by rw [← z]; exact hl))⟩
  | drop z => exact nt h
theorem pmapM {α β : Type} {F G : α → β → Prop} : ∀ {xs : List α} {ys : List β}, Paired F xs ys → (∀ x ∈ xs, ∀ y, F x y → G x y) → Paired G xs ys
  | _, _, .nil, _ => .nil
  | _, _, .cons a t, h => .cons (h _ (List.mem_cons_self ..) _ a) (pmapM t fun x hx => h x (List.mem_cons_of_mem _ hx))
theorem ptakeL {α β : Type} {F : α → β → Prop} : ∀ {xs ys : List α} {zs : List β}, Paired F (xs ++ ys) zs → Paired F xs (zs.take xs.length)
  | [], _, _, _ => by rw [List.length_nil, List.take_zero]; exact .nil
  | x :: r, ys, _, .cons a t => by rw [List.length_cons, List.take_succ_cons]; exact .cons a (ptakeL t)
theorem psnoc' {α β : Type} {F : α → β → Prop} {x : α} {z : β} (h : F x z) : ∀ {xs : List α} {zs : List β}, Paired F xs zs → Paired F (xs ++ [x]) (zs ++ [z])
  | _, _, .nil => .cons h .nil
  | _, _, .cons a t => .cons a (psnoc' h t)
/-- the bench has a new board, the law a new state -/
theorem Tl.push {CW CB CS o pl fl f2 l' : Addr} {H H9 : Hp} {wb : Wb} {ps fs : List Addr} {b' : Bd} (t : Tl CW CB CS o pl fl H wb ps fs) (f : Off o H H9) (w9 : WbAt CW CB CS o (wb.push [b']) H9) {H10 : Hp} (s10 : Same H9 H10) (st : StAt H10 l' b') (q' : b'.q1) (h2 : upd H10 pl (.lst (ps.map V.ref ++ [.ref l'])) f2 = none) :
    Same (hid pl fl H9) (hid pl f2 (upd (upd H10 pl (.lst (ps.map V.ref ++ [.ref l']))) f2 (.lst []))) ∧ Tl CW CB CS o pl f2 (upd (upd H10 pl (.lst (ps.map V.ref ++ [.ref l']))) f2 (.lst [])) (wb.push [b']) (ps ++ [l']) [] := by
  have hp : wb.push [b'] = ⟨wb.bds.take (wb.at_ + 1) ++ [b'], wb.at_ + 1⟩ := by rw [Wb.push, if_neg (by simp)]; rfl
  have n0 : (wb.push [b']).bds ≠ [] := by rw [hp]; simp
  obtain ⟨p9, f9, s9, w9', sp, sf⟩ := t.mid f w9 n0
  have hs := (hid_of (p := pl) (f := fl) s10).trans (hid_next (x := .lst []) (fl := fl) h2)
  have kk : ∀ a ∈ ps ++ fs.reverse, ∃ d1 d2 : Addr, H10 a = some (.lst [.ref d1, .ref d2]) ∧ ∃ k, H10 d1 = some (.dK k) := fun a ha => by
    obtain ⟨b, _, h⟩ := pmem s9 a ha
    obtain ⟨d1, d2, k1, k2, e1, e2, _⟩ := h.h
    exact ⟨d1, d2, s10 _ _ (hid_same _ _ e1), k1, s10 _ _ (hid_same _ _ e2)⟩
  have sp' : SL H10 pl ps := ⟨s10 _ _ p9, fun a ha => kk a (List.mem_append_left _ ha)⟩
  have sf' : SL H10 fl fs := ⟨s10 _ _ f9, fun a ha => kk a (List.mem_append_right _ (List.mem_reverse.mpr ha))⟩
  have st' := ((st.hid sp' sf' q').kd (.of (hid_next (x := .lst []) (fl := fl) h2)))
  have ne : pl ≠ f2 := fun z => by rw [← z, upd_same] at h2; cases h2
  refine ⟨hs, ⟨by rw [upd_ne ne, upd_same, List.map_append]; rfl, upd_same, ne, ?_, ?_, w9'.same hs, ?_⟩⟩
  · rw [List.reverse_nil, List.append_nil, hp]
    have := psnoc' st' (ptakeL (L2.Paired.mapP s9 fun _ _ z => z.kd (.of hs)))
    rw [t.l] at this
    exact this
  · rw [List.length_append, List.length_singleton, t.l, hp]
  · intro x hx
    rw [hp] at hx
    rcases List.mem_append.mp hx with hx | hx
    · exact t.q x (List.mem_of_mem_take hx)
    · rw [List.mem_singleton.mp hx]; exact q'
end Bs

set_option Elab.async false
set_option linter.all false
set_option maxRecDepth 100000
set_option maxHeartbeats 8000000
namespace Bs
open PySem L2
/-! ### k86: many changes at once -/
abbrev sChange : Stmt := top 124
abbrev sTriedAll : Stmt := top 125
/-- a change as it is handed over, its lists apart -/
def ChF (CS : Addr) (H : Hp) (t : Addr) : Ch → Prop
  | .set z x => ∃ u, H t = some (.tup [.str "set_shape", .str z, u]) ∧ ShV CS H u x
  | c => DeedAt H t c
theorem shv_kb {CB CS : Addr} {H H' : Hp} (k : Kb CB CS H H') {v : V} {x : Its} (h : ShV CS H v x) : ShV CS H' v x := by
  obtain ⟨o, dx, fs, e, s⟩ := h
  exact ⟨o, dx, fs, e, s.kb k⟩
theorem ChF.same {CS : Addr} {H H' : Hp} (s : Same H H') {t : Addr} : ∀ {c : Ch}, ChF CS H t c → ChF CS H' t c
  | .set .., ⟨u, a, b⟩ => ⟨u, s _ _ a, shv_kb (CB := 0) ⟨fun _ _ e => s _ _ e, fun _ _ e => s _ _ e, fun _ _ _ e => s _ _ e, fun _ _ _ e => s _ _ e⟩ b⟩
  | .rem .., h => DeedAt.kd (.of s) (c := .rem _) h
  | .rep .., h => DeedAt.kd (.of s) (c := .rep ..) h
  | .del .., h => DeedAt.kd (.of s) (c := .del ..) h
  | .ask .., h => DeedAt.kd (.of s) (c := .ask ..) h
  | .drop .., h => DeedAt.kd (.of s) (c := .drop _) h
/-- the list of an ask is new -/
def NewL (H H' : Hp) (t : Addr) : Ch → Prop
  | .ask z wd ns => ∀ l, H' t = some (.tup [.str "ask", .str z, .str wd, .ref l]) → H l = none
  | _ => True
/-- without a list that is written on -/
theorem ChF.cut {CS D t : Addr} {H H' : Hp} {xs : List V} (hD : H' D = some (.lst xs)) (h0 : H D ≠ none) : ∀ {c : Ch}, ChF CS H' t c → NewL H H' t c → ChF CS (Bs.wo D H') t c := by
  have kt : ∀ a xs, H' a = some (.tup xs) → Bs.wo D H' a = some (.tup xs) := fun a xs e => wo_at e (fun z => by rw [z, hD] at e; cases e)
  have kp : Kp true H' (Bs.wo D H') := ⟨kt, fun z => by cases z⟩
  have kb : Kb 0 CS H' (Bs.wo D H') := ⟨kt, fun a xs e => wo_at e (fun z => by rw [z, hD] at e; cases e), fun a _ _ e => wo_at e (fun z => by rw [z, hD] at e; cases e), fun a _ _ e => wo_at e (fun z => by rw [z, hD] at e; cases e)⟩
  intro c h n
  cases c with
  | set z x => obtain ⟨u, a, b⟩ := h; exact ⟨u, kt _ _ a, shv_kb kb b⟩
  | rem z => exact kt _ _ h
  | rep z u y => obtain ⟨v, a, b⟩ := h; exact ⟨v, kt _ _ a, It.At.kp kp b⟩
  | del z u => exact kt _ _ h
  | ask z wd ns =>
    obtain ⟨l, a, b⟩ := h
    exact ⟨l, kt _ _ a, wo_at b (fun z => h0 (by rw [← z]; exact n l a))⟩
  | drop z => exact kt _ _ h
/-- as change_all takes it -/
theorem ChF.at {CS CW o t dx : Addr} {H : Hp} {fs : List (Str × V)} (ho : H o = some (.ins CW dx fs)) (nS : CW ≠ CS) : ∀ {c : Ch}, ChF CS H t c → ChAt CS (Bs.wo o H) t c := by
  have kt : ∀ a xs, H a = some (.tup xs) → Bs.wo o H a = some (.tup xs) := fun a xs e => wo_at e (fun z => by rw [z, ho] at e; cases e)
  intro c h
  cases c with
  | set z x =>
    obtain ⟨u, a, o2, dx2, fs2, e, s⟩ := h
    exact ⟨u, kt _ _ a, o2, dx2, fs2, e, s.wo ho nS⟩
  | rem z => exact kt _ _ h
  | rep z u y => obtain ⟨v, a, b⟩ := h; exact ⟨v, kt _ _ a, It.At.loose (It.At.kp (wo_kp ho) b)⟩
  | del z u => exact kt _ _ h
  | ask z wd ns => obtain ⟨l, a, b⟩ := h; exact ⟨l, kt _ _ a, wo_at b (fun z => by rw [z, ho] at b; cases b)⟩
  | drop z => exact kt _ _ h
def spChange (CS : Addr) : Sp := fun vs H Q _ => ∃ (t : Addr) (c : Ch), vs = [.ref t] ∧ DeedAt H t c ∧ c.ok ∧ ∀ t' H', Same H H' → ChF CS H' t' c → NewL H H' t' c → Q (.ref t') H'
/-- what tried changes return -/
def ResTA (CW CB CS o : Addr) (wb : Wb) (H : Hp) (Q : VK) : Except Er (List Bd) → Prop
  | .ok bs => ∀ H', Off o H H' → WbAt CW CB CS o (wb.push bs) H' → Q .non H'
  | .error r => ∀ v H', Off o H H' → WbAt CW CB CS o wb H' → FltAt H' v (some r) → Q v H'
def spTriedAll (CW CB CS : Addr) : Sp := fun vs H Q _ => ∃ (o gl : Addr) (wb : Wb) (b : Bd) (ts : List Addr) (cs : List Ch) (m : Nat), vs = [.ref o, .ref gl] ∧ H gl = some (.lst (ts.map V.ref)) ∧ Paired (DeedAt H) ts cs ∧ WbAt CW CB CS o wb H ∧ wb.bds[wb.at_]? = some b ∧ b.ok m ∧ m + cs.length ≤ 1000 ∧ wb.bds.length ≤ 1000 ∧ (∀ c ∈ cs, c.ok) ∧ ResTA CW CB CS o wb H Q (steps b cs)
section
variable {P : Program} {w : World} {K : PySem.W.Frag} {mg : Str → Option Value} {base : Heap} {f fI C CU CN CQ CB CS CW : Addr} {fd fdI : FuncData}
abbrev nChange : List Str := ["deed"]
theorem scChange : FnScope nChange ["deed"] (defScope sChange) := ⟨rfl, rfl, rfl, by decide +kernel, rfl, by decide +kernel, by decide +kernel⟩
theorem ok_change {k kI : Nat} (hk : kI + 1 ≤ k) (F : Fun K "_law_change" "_law_change" sChange f fd) (M : Mk K CS fI) (GI : FnOk P w K mg base (L2.CX P w) kI fI fdI ["self", "items"] (spInit C CS)) (bI : Binds K fdI ["self", "items"] []) (gS : mg "Shape" = some (.ref CS)) (mlist : mg "list" = none) :
    FnOk P w K mg base CX0 (k + 1) f fd ["deed"] (spChange CS) := by
  refine F.ok scChange (fun vs H Q E h => ?_) (fun cdv A outer s H vs Q E hr h => ?_)
  · obtain ⟨t, c, rfl, _⟩ := h
    rfl
  · obtain ⟨t, c, rfl, hd, hco, q⟩ := h
    refine ⟨_, (pss_cons (ps_if (pt_cmpR op_eq (pe_ix ix_tup (pv 0) pe_int (fun _ _ => rfl)) pe_str (nomark _)) (pss_one (ps_ret (pe_tup (pa_cons (pe_ix ix_tup (pv 0) pe_int (fun _ _ => rfl)) (pa_cons (pe_ix ix_tup (pv 0) pe_int (fun _ _ => rfl)) (pa_cons (pe_make M GI (hr.mono hk) (by rfl) gS bI .nil passE0 (pa_cons (pe_ix ix_tup (pv 0) pe_int (fun _ _ => rfl)) pa_nil)) pa_nil)))))) pss_nil)
      (pss_cons (ps_if (pt_cmpR op_eq (pe_ix ix_tup (pv 0) pe_int (fun _ _ => rfl)) pe_str (nomark _)) (pss_one (ps_ret (pe_tup (pa_cons (pe_ix ix_tup (pv 0) pe_int (fun _ _ => rfl)) (pa_cons (pe_ix ix_tup (pv 0) pe_int (fun _ _ => rfl)) (pa_cons (pe_ix ix_tup (pv 0) pe_int (fun _ _ => rfl)) (pa_cons (pe_callTy call_list_of (by rfl) mlist (by decide +kernel) (pa_cons (pe_ix ix_tup (pv 0) pe_int (fun _ _ => rfl)) pa_nil)) pa_nil))))))) pss_nil)
      (pss_one (ps_ret (pv 0))))), ?_⟩
    cases c with
    | set z x =>
      obtain ⟨p, xs, ht, hp, hx'⟩ := hd
      refine ⟨_, rfl, t, _, 0, _, rfl, rfl, SqT.of ht, atI_nat (j := 0) rfl, rfl, _, rfl, wyes rfl ?_⟩
      refine ⟨_, rfl, t, _, 0, _, rfl, rfl, SqT.of ht, atI_nat (j := 0) rfl, _, rfl, t, _, 1, _, rfl, rfl, SqT.of ht, atI_nat (j := 1) rfl, _, rfl, t, _, 2, _, rfl, rfl, SqT.of ht, atI_nat (j := 2) rfl, fun o2 dx2 no2 ndx2 nex2 => ?_⟩
      have sA : Same H (upd (upd H dx2 (.own o2)) o2 (.ins CS dx2 [])) := fun b u e => by
        rw [upd_ne (ne_of_none e no2), upd_ne (ne_of_none e ndx2)]; exact e
      have wl : (x.walk 0).length ≤ 1000 := by
        have := (bc_walks (d := 0) hco.2.2.2.1).1
        have := hco.2.2.1
        omega
      refine ⟨o2, p, dx2, x, xs, rfl, upd_same, .inl (sA _ _ hp), Its.At.same sA (Its.At.loose hx'), hco.2.2.2.2, wl, fun sh H' fs' off ho' sf row' => ⟨rfl, ?_⟩, fun sh H' off => ?_⟩
      · have sB : Same H H' := fun b u e => off b u (ne_of_none e no2) (sA b u e)
        have sat : ShapeAt CS o2 dx2 fs' x H' := ⟨ho', sf, row', (shape_12 sh).1, (shape_12 sh).2⟩
        refine ⟨by show 3 ≤ sizeLine; decide, fun t' ht' => q t' _ (sB.trans (same_new ht' _)) ⟨.ref o2, upd_same, ?_⟩ trivial⟩
        exact shv_kb (CB := 0) ⟨fun _ _ e => same_new ht' _ _ _ e, fun _ _ e => same_new ht' _ _ _ e, fun _ _ _ e => same_new ht' _ _ _ e, fun _ _ _ e => same_new ht' _ _ _ e⟩ ⟨o2, dx2, fs', rfl, sat⟩
      · rw [hco.2.1] at sh; cases sh
    | rem z =>
      have ht : H t = some (.tup [.str "remove_shape", .str z]) := hd
      refine ⟨_, rfl, t, _, 0, _, rfl, rfl, SqT.of ht, atI_nat (j := 0) rfl, rfl, _, rfl, wno (by decide +kernel) ?_⟩
      refine ⟨_, rfl, t, _, 0, _, rfl, rfl, SqT.of ht, atI_nat (j := 0) rfl, rfl, _, rfl, wno (by decide +kernel) ?_⟩
      exact ⟨_, rfl, q t H (Same.refl _) ht trivial⟩
    | rep z u y =>
      obtain ⟨vy, ht, hy⟩ := hd
      refine ⟨_, rfl, t, _, 0, _, rfl, rfl, SqT.of ht, atI_nat (j := 0) rfl, rfl, _, rfl, wno (by decide +kernel) ?_⟩
      refine ⟨_, rfl, t, _, 0, _, rfl, rfl, SqT.of ht, atI_nat (j := 0) rfl, rfl, _, rfl, wno (by decide +kernel) ?_⟩
      exact ⟨_, rfl, q t H (Same.refl _) ⟨vy, ht, hy⟩ trivial⟩
    | del z u =>
      have ht : H t = some (.tup [.str "remove_item", .str z, .str u]) := hd
      refine ⟨_, rfl, t, _, 0, _, rfl, rfl, SqT.of ht, atI_nat (j := 0) rfl, rfl, _, rfl, wno (by decide +kernel) ?_⟩
      refine ⟨_, rfl, t, _, 0, _, rfl, rfl, SqT.of ht, atI_nat (j := 0) rfl, rfl, _, rfl, wno (by decide +kernel) ?_⟩
      exact ⟨_, rfl, q t H (Same.refl _) ht trivial⟩
    | ask z wd ns =>
      obtain ⟨ll, ht, hl⟩ := hd
      refine ⟨_, rfl, t, _, 0, _, rfl, rfl, SqT.of ht, atI_nat (j := 0) rfl, rfl, _, rfl, wno (by decide +kernel) ?_⟩
      refine ⟨_, rfl, t, _, 0, _, rfl, rfl, SqT.of ht, atI_nat (j := 0) rfl, rfl, _, rfl, wyes rfl ?_⟩
      refine ⟨_, rfl, t, _, 0, _, rfl, rfl, SqT.of ht, atI_nat (j := 0) rfl, _, rfl, t, _, 1, _, rfl, rfl, SqT.of ht, atI_nat (j := 1) rfl, _, rfl, t, _, 2, _, rfl, rfl, SqT.of ht, atI_nat (j := 2) rfl, _, rfl, t, _, 3, _, rfl, rfl, SqT.of ht, atI_nat (j := 3) rfl, ll, _, rfl, .inl (SqL.of hl), fun lo hlo => ?_⟩
      have s1 := same_new hlo (.lst (ns.map V.str))
      refine ⟨by show 4 ≤ sizeLine; decide, fun t' ht' => q t' _ (s1.trans (same_new ht' _)) ⟨lo, upd_same, same_new ht' _ _ _ upd_same⟩ fun l e => ?_⟩
      rw [upd_same] at e
      injection e with e; injection e with e; injection e with _ e; injection e with _ e; injection e with _ e; injection e with e _; injection e with e
      rw [← e]; exact hlo
    | drop z =>
      have ht : H t = some (.tup [.str "drop", .str z]) := hd
      refine ⟨_, rfl, t, _, 0, _, rfl, rfl, SqT.of ht, atI_nat (j := 0) rfl, rfl, _, rfl, wno (by decide +kernel) ?_⟩
      refine ⟨_, rfl, t, _, 0, _, rfl, rfl, SqT.of ht, atI_nat (j := 0) rfl, rfl, _, rfl, wno (by decide +kernel) ?_⟩
      exact ⟨_, rfl, q t H (Same.refl _) ht trivial⟩
abbrev nTriedAll : List Str := ["bench", "deeds", "e", "deed"]
theorem scTriedAll : FnScope nTriedAll ["bench", "deeds"] (defScope sTriedAll) := ⟨rfl, rfl, rfl, by decide +kernel, rfl, by decide +kernel, by decide +kernel⟩
theorem ok_triedall {k : Nat} (F : Fun K "_law_tried_all" "_law_tried_all" sTriedAll f fd) (EC : ErrC K mg CU CN C CQ) (W : WbC K CW CB CS) (gC : Cal P w K mg base CX0 k "_law_change" ["deed"] (spChange CS)) (gA : Mt P w K mg base (L2.CX P w) k CW "change_all" ["self", "changes"] (spChangeAll CW CB CS CU CN C CQ)) : FnOk P w K mg base CX0 (k + 1) f fd ["bench", "deeds"] (spTriedAll CW CB CS) := by
  refine F.ok scTriedAll (fun vs H Q E h => ?_) (fun cdv A outer s H vs Q E hr h => ?_)
  · obtain ⟨o, gl, wb, b, ts, cs, m, rfl, _⟩ := h
    rfl
  · obtain ⟨o, gl, wb, b, ts, cs, m, rfl, hgl, hd, hw, hb, ok, hm, hn, hco, q⟩ := h
    obtain ⟨f1, fd1, m1, G1, b1⟩ := gA.ex
    refine ⟨_, pss_cons (Rj.ps_try_mix (tb := fun W => tDrop (Rj.tMethAt CW "change_all" (spChangeAll CW CB CS CU CN C CQ) (WE W) (tVar 0) (tCons (tLc (iList K (tVar 1)) (gName 3) tYes (tCl (spChange CS) E0 (tCons (tVar 3) tNil)) [3]) tNil))) (Wout := fun _ _ _ _ => False) (l := handsT K CU CN C CQ) rfl rfl scTriedAll.nd takes0
        (fun Wx pn xe tk _ => pss_one (ps_expr (by exact Rj.pe_methAt (pv 0) W.cl m1 G1 hr b1 (fun σ => passAt tk σ) (pa_cons (pe_lc (own := [("deed", 3)]) (g := gName 3) (tt := tYes) rfl scTriedAll.nd (pi_list (pv 1)) (blkOk_by (own := [("deed", 3)]) (N := nTriedAll) (sc := defScope sTriedAll) (by decide +kernel)) (fun _ _ _ _ _ => pg_name (i := 3) scTriedAll.nd rfl (Or.inl rfl)) (fun _ _ _ _ _ => pts_nil) (fun _ _ _ _ _ => (pe_cal gC hr pass0 (pa_cons (pv 3) pa_nil)))) pa_nil))))
        (.named (n := "e") rfl rfl ⟨rfl, by decide, Or.inl EC.gU⟩ (fun a oe cls d pn hz hf => pss_of1 fun e1 => by
            subst e1
            exact pss_one (ps_ret (pe_tup (pa_cons pe_str (pa_cons (pe_xf EC.XU EC.nU hz hf (pv 2)) pa_nil)))))
          (.named (n := "e") rfl rfl ⟨rfl, by decide, Or.inl EC.gN⟩ (fun a oe cls d pn hz hf => pss_of1 fun e1 => by
            subst e1
            exact pss_one (ps_ret (pe_tup (pa_cons pe_str (pa_cons (pe_xf EC.XN EC.nN hz hf (pv 2)) pa_nil)))))
          (.plain ⟨rfl, by decide, Or.inl EC.gC⟩ (fun a oe cls d pn hz hf => pss_one (ps_ret (pe_tup (pa_cons pe_str (pa_cons pe_str pa_nil)))))
          (.plain ⟨rfl, by decide, Or.inl EC.gQ⟩ (fun a oe cls d pn hz hf => pss_one (ps_ret (pe_tup (pa_cons pe_str (pa_cons pe_str pa_nil))))) .nil)))))
      (pss_one (ps_ret pe_non)), ?_⟩
    obtain ⟨dx, l, kn, e, bs, h1, h2, h3⟩ := id hw.h
    refine ⟨_, rfl, o, dx, _, rfl, h1, wfs_no (by decide +kernel), _, rfl, gl, rfl, ⟨_, SqL.of hgl⟩, fun D hD => ?_⟩
    have nD : ∀ {a : Addr} {u : HO}, H a = some u → a ≠ D := fun e => ne_of_none e hD
    refine lc_it (walk_list (K := K) (a := gl) (xs := ts.map V.ref)) (fun j H' => Same H H' ∧ ∃ us : List Addr, H' D = some (.lst (us.map V.ref)) ∧ us.length = j ∧ Paired (ChF CS (wo D H')) us (cs.take j)) ⟨same_new hD _, [], upd_same, rfl, .nil⟩ (fun _ _ _ h => SqL.of (h.1 _ _ hgl)) ?_ ?_
    · rintro j x H9' H9 hj ⟨s9, us, hus, hul, hpu⟩ ⟨e3, hx⟩
      subst e3
      obtain ⟨t, ht, rfl⟩ : ∃ t, ts[j]? = some t ∧ x = .ref t := by
        rw [List.getElem?_map] at hx
        cases e : ts[j]? with
        | none => rw [e] at hx; cases hx
        | some t => rw [e] at hx; exact ⟨t, rfl, (Option.some.inj hx).symm⟩
      obtain ⟨c, hc, hct⟩ := pget hd ht
      refine ⟨rfl, yes_go ⟨_, rfl, ?_⟩⟩
      refine ⟨t, c, rfl, hct.kd (.of s9), hco c (List.mem_of_getElem? hc), fun t' H2 s2 hch nl => ?_⟩
      have hus2 := s2 _ _ hus
      have hjl : j < ts.length := (List.getElem?_eq_some_iff.mp ht).1
      have lcs : ts.length = cs.length := plen hd
      refine ⟨_, hus2, small1000 (by rw [List.length_map]; omega), same_set (s9.trans s2) hD, us ++ [t'], by rw [upd_same, List.map_append]; rfl, by rw [List.length_append, hul]; rfl, ?_⟩
      rw [wo_upd, show cs.take (j + 1) = cs.take j ++ [c] by rw [List.take_succ, hc]; rfl]
      exact Paired.snoc (L2.Paired.mapP hpu fun _ _ z => z.same (wo_off (off_same s2))) (hch.cut hus2 (by rw [hus]; intro z; cases z) nl)
    · rintro H9 ⟨s9, us, hus, hul, hpu⟩
      rw [show (ts.map V.ref).length = cs.length by rw [List.length_map]; exact plen hd, List.take_length] at hpu
      have ho9 := s9 _ _ h1
      have Do : D ≠ o := fun z => by rw [z, ho9] at hus; cases hus
      refine ⟨o, D, wb, b, us, cs, m, rfl, hw.same s9, hb, ok, hm, hn, wo_at hus Do, L2.Paired.mapP hpu fun _ _ z => (z.same (wo_same D H9)).at ho9 W.nS, hco, ?_⟩
      cases es : steps b cs with
      | ok b' =>
        rw [es] at q
        exact fun H' f' w' => q H' (off_trans (off_same s9) f') w'
      | error r =>
        rw [es] at q
        cases r with
        | unk z =>
          intro d H' f' w' nd hxd
          have f' := off_trans (off_same s9) f'
          refine ⟨true, EC.uu, fun _ a na => ⟨rfl, ?_⟩, fun z => by cases z⟩
          exact ⟨_, rfl, rfl, rfl, d, _, _, rfl, hxd, rfl, by show 2 ≤ sizeLine; decide, fun p hp => q (.ref p) _ (off_trans f' (off_same (same_new hp _))) (w'.same (same_new hp _)) ⟨p, rfl, upd_same⟩⟩
        | used z =>
          intro d H' f' w' nd hxd
          have f' := off_trans (off_same s9) f'
          refine ⟨false, EC.nu, fun z => (by cases z), fun _ => ⟨true, EC.nn, fun _ a na => ⟨rfl, ?_⟩, fun z => (by cases z)⟩⟩
          exact ⟨_, rfl, rfl, rfl, d, _, _, rfl, hxd, rfl, by show 2 ≤ sizeLine; decide, fun p hp => q (.ref p) _ (off_trans f' (off_same (same_new hp _))) (w'.same (same_new hp _)) ⟨p, rfl, upd_same⟩⟩
        | shape =>
          intro H' f' w'
          have f' := off_trans (off_same s9) f'
          refine ⟨false, EC.cu, fun z => (by cases z), fun _ => ⟨false, EC.cn, fun z => (by cases z), fun _ => ⟨true, EC.cc, fun _ a na => ?_, fun z => (by cases z)⟩⟩⟩
          exact ⟨by show 2 ≤ sizeLine; decide, fun p hp => q (.ref p) _ (off_trans f' (off_same (same_new hp _))) (w'.same (same_new hp _)) ⟨p, rfl, upd_same⟩⟩
        | quest =>
          intro H' f' w'
          have f' := off_trans (off_same s9) f'
          refine ⟨false, EC.qu, fun z => (by cases z), fun _ => ⟨false, EC.qn, fun z => (by cases z), fun _ => ⟨false, EC.qc, fun z => (by cases z), fun _ => ⟨true, EC.qq, fun _ a na => ?_, fun z => (by cases z)⟩⟩⟩⟩
          exact ⟨by show 2 ≤ sizeLine; decide, fun p hp => q (.ref p) _ (off_trans f' (off_same (same_new hp _))) (w'.same (same_new hp _)) ⟨p, rfl, upd_same⟩⟩
end
end Bs

set_option Elab.async false
set_option linter.all false
set_option maxRecDepth 100000
set_option maxHeartbeats 8000000
namespace Bs
open PySem L2
/-! ### k86: a turn, tried -/
abbrev sUndone : Stmt := top 126
abbrev sRedone : Stmt := top 127
def spBack (CW CB CS : Addr) : Sp := fun vs H Q _ => ∃ (o pl fl : Addr) (wb : Wb) (ps fs : List Addr), vs = [.ref o, .ref pl, .ref fl] ∧ Tl CW CB CS o pl fl H wb ps fs ∧ wb.at_ < wb.bds.length ∧ wb.bds.length ≤ 1000 ∧
  ∀ H' wb' ps' fs', (∀ a u, a ≠ o → hid pl fl H a = some u → hid pl fl H' a = some u) → Tl CW CB CS o pl fl H' wb' ps' fs' → wb'.bds = wb.bds → Q (.bl true) H'
section
variable {P : Program} {w : World} {K : PySem.W.Frag} {mg : Str → Option Value} {base : Heap} {f CU CX CB CS CW : Addr} {fd : FuncData}
abbrev nUndone : List Str := ["bench", "past", "future"]
theorem scUndone : FnScope nUndone ["bench", "past", "future"] (defScope sUndone) := ⟨rfl, rfl, rfl, by decide +kernel, rfl, by decide +kernel, by decide +kernel⟩
abbrev nRedone : List Str := ["bench", "past", "future"]
theorem scRedone : FnScope nRedone ["bench", "past", "future"] (defScope sRedone) := ⟨rfl, rfl, rfl, by decide +kernel, rfl, by decide +kernel, by decide +kernel⟩
theorem ok_undone (F : Fun K "_law_undone" "_law_undone" sUndone f fd) (W : WbC K CW CB CS) (gU : mg "NothingToUndo" = some (.ref CU)) (uu : PySem.W.exmOne K (.ref CU) (.ref CU) = some true)
    (mU : Mt P w K mg base (L2.CX P w) 1 CW "undo" ["self"] (spUndo CW CB CS CU)) (ml : mg "len" = none) : FnOk P w K mg base CX0 2 f fd nUndone (spBack CW CB CS) := by
  refine F.ok scUndone (fun vs H Q E h => ?_) (fun cdv A outer s H vs Q E hr h => ?_)
  · obtain ⟨o, pl, fl, wb, ps, fs, rfl, _⟩ := h
    rfl
  · obtain ⟨o, pl, fl, wb, ps, fs, rfl, tl, hat, hbl, q⟩ := h
    obtain ⟨f1, fd1, m1, G1, b1⟩ := mU.ex
    refine ⟨_, pss_cons (Rj.ps_try_mix (tb := fun W => tDrop (Rj.tMethAt CW "undo" (spUndo CW CB CS CU) (WE W) (tVar 0) tNil)) (Wout := fun _ _ _ _ => False) rfl rfl scUndone.nd takes0
        (fun Wx pn xe tk _ => pss_one (ps_expr (by exact Rj.pe_methAt0 (pv 0) W.cl m1 G1 hr b1 (fun σ => passAt tk σ))))
        (.plain (c := .ref CU) ⟨rfl, by decide, Or.inl gU⟩ (fun a oe cls d pn hz hf => pss_one (ps_ret (pe_cmpR op_eq (pe_callB (r := rLen K) call_len (by rfl) ml boot_len (pa_cons (pv 1) pa_nil)) pe_int (nomark _)))) .nil)) (pss_cons (ps_if (pt_cmpR op_eq (pe_callB call_len (by rfl) ml boot_len (pa_cons (pv 1) pa_nil)) pe_int (nomark _)) (pss_one (ps_ret pe_bl)) pss_nil)
      (pss_cons (ps_expr (pe_bm PySem.F.plainAttrs_list PySem.F.slot_list_append PySem.F.type_list_append mt_append (pv 2) (pa_cons (pe_bm0 PySem.F.plainAttrs_list PySem.F.slot_list_pop PySem.F.type_list_pop mt_pop (pv 1)) pa_nil)))
      (pss_one (ps_ret pe_bl)))), ?_⟩
    obtain ⟨dx, l, kn, e, bs, h1, h2, h3⟩ := id (tl.w.same hid_same).h
    have tl2 := tl.l
    have tn2 := tl.len
    refine ⟨_, rfl, o, dx, _, rfl, h1, wfs_no (by decide +kernel), o, wb, rfl, tl.w.same hid_same, fun a0 => ?_, fun a0 H3 f3 w3 => ?_⟩
    · refine ⟨true, uu, fun _ a na => ?_, fun z => by cases z⟩
      refine ⟨_, rfl, _, _, rfl, .inl ⟨_, SqL.of tl.p, rfl⟩, rfl, ?_⟩
      rw [decide_eq_true (congrArg V.int (by rw [List.length_map]; omega : (((ps.map V.ref).length : Nat) : Int) = 1))]
      exact q H wb ps fs (fun _ _ _ e => e) tl rfl
    · obtain ⟨p3, q3, s3, w3'⟩ := tl.off f3 w3 rfl
      refine ⟨_, rfl, _, _, rfl, .inl ⟨_, SqL.of p3, rfl⟩, rfl, _, rfl, ?_⟩
      rw [decide_eq_false (fun z => by have z := V.int.inj z; rw [List.length_map] at z; omega : ¬ V.int (((ps.map V.ref).length : Nat) : Int) = V.int 1)]
      refine iteF ?_
      obtain ⟨ps0, x, rfl⟩ : ∃ b0 x, ps = b0 ++ [x] := by
        rcases List.eq_nil_or_concat ps with h | ⟨b0, x, h⟩
        · exfalso; rw [h, List.length_nil] at tl2; omega
        · exact ⟨b0, x, by rw [h]; simp⟩
      have ex : ((ps0 ++ [x]).map V.ref)[((ps0 ++ [x]).map V.ref).length - 1]? = some (.ref x) := by simp
      have ed : ((ps0 ++ [x]).map V.ref).dropLast = ps0.map V.ref := by simp
      have ol : (fs.map V.ref).length < sizeLine := small1000 (by rw [List.length_map]; simp at tn2; omega)
      refine ⟨_, rfl, .inl ⟨rfl, _, SqL.of q3⟩, _, rfl, .inl ⟨rfl, _, SqL.of p3⟩, pl, _, .ref x, rfl, rfl, p3, ex, fl, _, _, rfl, rfl, by rw [upd_ne (Ne.symm tl.ne)]; exact q3, ol, ?_⟩
      rw [ed]
      have eh : hid pl fl (upd (upd H3 pl (.lst (ps0.map V.ref))) fl (.lst (fs.map V.ref ++ [.ref x]))) = hid pl fl H3 := hid_f.trans hid_p
      refine q _ ⟨wb.bds, wb.at_ - 1⟩ ps0 (fs ++ [x]) (fun a u n e => ?_) ⟨by rw [upd_ne tl.ne, upd_same], by rw [upd_same, List.map_append]; rfl, tl.ne, by rw [eh]; rw [show ps0 ++ (fs ++ [x]).reverse = (ps0 ++ [x]) ++ fs.reverse by simp]; exact s3, by rw [List.length_append, List.length_singleton] at tl2; show ps0.length = wb.at_ - 1 + 1; omega, by rw [eh]; exact w3', tl.q⟩ rfl
      rw [eh]
      obtain ⟨n1, n2⟩ := hid_no e
      exact hid_at (f3 _ _ n (hid_same _ _ e)) n1 n2
theorem ok_redone (F : Fun K "_law_redone" "_law_redone" sRedone f fd) (W : WbC K CW CB CS) (gX : mg "NothingToRedo" = some (.ref CX)) (xx : PySem.W.exmOne K (.ref CX) (.ref CX) = some true)
    (mR : Mt P w K mg base (L2.CX P w) 1 CW "redo" ["self"] (spRedo CW CB CS CX)) (ml : mg "len" = none) : FnOk P w K mg base CX0 2 f fd nRedone (spBack CW CB CS) := by
  refine F.ok scRedone (fun vs H Q E h => ?_) (fun cdv A outer s H vs Q E hr h => ?_)
  · obtain ⟨o, pl, fl, wb, ps, fs, rfl, _⟩ := h
    rfl
  · obtain ⟨o, pl, fl, wb, ps, fs, rfl, tl, hat, hbl, q⟩ := h
    obtain ⟨f1, fd1, m1, G1, b1⟩ := mR.ex
    refine ⟨_, pss_cons (Rj.ps_try_mix (tb := fun W => tDrop (Rj.tMethAt CW "redo" (spRedo CW CB CS CX) (WE W) (tVar 0) tNil)) (Wout := fun _ _ _ _ => False) rfl rfl scRedone.nd takes0
        (fun Wx pn xe tk _ => pss_one (ps_expr (by exact Rj.pe_methAt0 (pv 0) W.cl m1 G1 hr b1 (fun σ => passAt tk σ))))
        (.plain (c := .ref CX) ⟨rfl, by decide, Or.inl gX⟩ (fun a oe cls d pn hz hf => pss_one (ps_ret (pe_cmpR op_eq (pe_callB (r := rLen K) call_len (by rfl) ml boot_len (pa_cons (pv 2) pa_nil)) pe_int (nomark _)))) .nil)) (pss_cons (ps_if (pt_cmpR op_eq (pe_callB call_len (by rfl) ml boot_len (pa_cons (pv 2) pa_nil)) pe_int (nomark _)) (pss_one (ps_ret pe_bl)) pss_nil)
      (pss_cons (ps_expr (pe_bm PySem.F.plainAttrs_list PySem.F.slot_list_append PySem.F.type_list_append mt_append (pv 1) (pa_cons (pe_bm0 PySem.F.plainAttrs_list PySem.F.slot_list_pop PySem.F.type_list_pop mt_pop (pv 2)) pa_nil)))
      (pss_one (ps_ret pe_bl)))), ?_⟩
    obtain ⟨dx, l, kn, e, bs, h1, h2, h3⟩ := id (tl.w.same hid_same).h
    have tl2 := tl.l
    have tn2 := tl.len
    refine ⟨_, rfl, o, dx, _, rfl, h1, wfs_no (by decide +kernel), o, wb, rfl, tl.w.same hid_same, fun a0 => ?_, fun a0 H3 f3 w3 => ?_, hat⟩
    · refine ⟨true, xx, fun _ a na => ?_, fun z => by cases z⟩
      refine ⟨_, rfl, _, _, rfl, .inl ⟨_, SqL.of tl.f, rfl⟩, rfl, ?_⟩
      rw [decide_eq_true (congrArg V.int (by rw [List.length_map]; omega : (((fs.map V.ref).length : Nat) : Int) = 0))]
      exact q H wb ps fs (fun _ _ _ e => e) tl rfl
    · obtain ⟨p3, q3, s3, w3'⟩ := tl.off f3 w3 rfl
      refine ⟨_, rfl, _, _, rfl, .inl ⟨_, SqL.of q3, rfl⟩, rfl, _, rfl, ?_⟩
      rw [decide_eq_false (fun z => by have z := V.int.inj z; rw [List.length_map] at z; omega : ¬ V.int (((fs.map V.ref).length : Nat) : Int) = V.int 0)]
      refine iteF ?_
      obtain ⟨fs0, x, rfl⟩ : ∃ b0 x, fs = b0 ++ [x] := by
        rcases List.eq_nil_or_concat fs with h | ⟨b0, x, h⟩
        · exfalso; rw [h, List.length_nil] at tn2; omega
        · exact ⟨b0, x, by rw [h]; simp⟩
      have ex : ((fs0 ++ [x]).map V.ref)[((fs0 ++ [x]).map V.ref).length - 1]? = some (.ref x) := by simp
      have ed : ((fs0 ++ [x]).map V.ref).dropLast = fs0.map V.ref := by simp
      have ol : (ps.map V.ref).length < sizeLine := small1000 (by rw [List.length_map]; simp at tn2; omega)
      refine ⟨_, rfl, .inl ⟨rfl, _, SqL.of p3⟩, _, rfl, .inl ⟨rfl, _, SqL.of q3⟩, fl, _, .ref x, rfl, rfl, q3, ex, pl, _, _, rfl, rfl, by rw [upd_ne tl.ne]; exact p3, ol, ?_⟩
      rw [ed]
      have eh : hid pl fl (upd (upd H3 fl (.lst (fs0.map V.ref))) pl (.lst (ps.map V.ref ++ [.ref x]))) = hid pl fl H3 := hid_p.trans hid_f
      refine q _ ⟨wb.bds, wb.at_ + 1⟩ (ps ++ [x]) fs0 (fun a u n e => ?_) ⟨by rw [upd_same, List.map_append]; rfl, by rw [upd_ne (Ne.symm tl.ne), upd_same], tl.ne, by rw [eh]; rw [show (ps ++ [x]) ++ fs0.reverse = ps ++ (fs0 ++ [x]).reverse by simp]; exact s3, by rw [List.length_append, List.length_singleton]; show ps.length + 1 = wb.at_ + 1 + 1; omega, by rw [eh]; exact w3', tl.q⟩ rfl
      rw [eh]
      obtain ⟨n1, n2⟩ := hid_no e
      exact hid_at (f3 _ _ n (hid_same _ _ e)) n1 n2
end
end Bs

set_option Elab.async false
set_option linter.all false
set_option maxRecDepth 100000
set_option maxHeartbeats 8000000
namespace Bs
open PySem L2
/-! ### k86: all changes or none -/
def lastB (b : Bd) : List Bd → Bd
  | [] => b
  | x :: r => lastB x r
theorem steps_snoc : ∀ {cs : List Ch} {b : Bd} {c : Ch}, steps b (cs ++ [c]) = match steps b cs with
    | .error e => .error e
    | .ok bs => match step (lastB b bs) c with
      | .error e => .error e
      | .ok b' => .ok (bs ++ [b'])
  | [], b, c => by
    (simp only [List.nil_append, steps, lastB]) <;> (cases step b c <;> rfl)
  | c0 :: r, b, c => by
    simp only [List.cons_append, steps]
    cases step b c0 with
    | error e => rfl
    | ok b1 =>
      simp only [steps_snoc (cs := r) (b := b1) (c := c)]
      cases steps b1 r with
      | error e => rfl
      | ok l =>
        simp only [lastB]
        cases step (lastB b1 l) c <;> rfl
theorem steps_err {r : Er} : ∀ {cs cs' : List Ch} {b : Bd}, steps b cs = .error r → steps b (cs ++ cs') = .error r
  | [], cs', b, h => by cases h
  | c0 :: q, cs', b, h => by
    simp only [List.cons_append, steps] at h ⊢
    cases e : step b c0 with
    | error e2 => rw [e] at h; exact h
    | ok b1 =>
      rw [e] at h
      simp only at h ⊢
      cases e2 : steps b1 q with
      | error e3 => rw [e2] at h; rw [steps_err e2]; exact h
      | ok l => rw [e2] at h; cases h
theorem Bd.ok.mono {i j : Nat} (h : i ≤ j) {b : Bd} (o : b.ok i) : b.ok j := ⟨o.n1, o.n2, Nat.le_trans o.l1 h, Nat.le_trans o.l2 h, o.s, o.q⟩
theorem lastB_snoc : ∀ {bs : List Bd} {b x : Bd}, lastB b (bs ++ [x]) = x
  | [], _, _ => rfl
  | y :: r, b, x => lastB_snoc (bs := r) (b := y) (x := x)
theorem pdropN {α β : Type} {F : α → β → Prop} : ∀ (n : Nat) {xs : List α} {ys : List β}, Paired F xs ys → Paired F (xs.drop n) (ys.drop n)
  | 0, _, _, h => h
  | _ + 1, _, _, .nil => .nil
  | n + 1, _, _, .cons _ t => pdropN n t
theorem cut_mid (xs : List V) (a b : Nat) (h : a + b ≤ xs.length) : cutV xs (some (a : Int)) (some ((a : Int) + (b : Int))) = (xs.drop a).take b := by
  unfold cutV
  rw [show (a : Int) + (b : Int) = ((a + b : Nat) : Int) by omega, HT.sIx_nat, HT.sIx_nat, Nat.min_eq_left (show a + b ≤ xs.length by omega), Nat.min_eq_left (show a ≤ xs.length by omega), show a + b - a = b by omega]
theorem cut_one1 (a : V) (r : List V) : cutV (a :: r) (some 1) none = r := by
  unfold cutV
  rw [show (1 : Int) = ((1 : Nat) : Int) by rfl, HT.sIx_nat, HT.sIx_none]
  simp
/-- many new boards, many new states, in lists of their own -/
theorem Tl.pushN {CW CB CS o pl fl p2 f2 : Addr} {H H9 H10 : Hp} {wb : Wb} {ps fs ls : List Addr} {bs : List Bd} (t : Tl CW CB CS o pl fl H wb ps fs) (f : Off o H H9) (n0 : bs ≠ []) (w9 : WbAt CW CB CS o (wb.push bs) H9) (st : Paired (StAt (hid pl fl H9)) ls bs) (q' : ∀ x ∈ bs, x.q1)
    (s10 : Same H9 H10) (h1 : H9 p2 = none) (h2 : H9 f2 = none) (e1 : H10 p2 = some (.lst ((ps ++ ls).map V.ref))) (e2 : H10 f2 = some (.lst [])) (ne : p2 ≠ f2) :
    Same (hid pl fl H9) (hid p2 f2 H10) ∧ Tl CW CB CS o p2 f2 H10 (wb.push bs) (ps ++ ls) [] := by
  have hp : wb.push bs = ⟨wb.bds.take (wb.at_ + 1) ++ bs, wb.at_ + bs.length⟩ := by rw [Wb.push, if_neg n0]
  have nn : (wb.push bs).bds ≠ [] := by rw [hp]; simp [n0]
  obtain ⟨p9, f9, s9, w9', sp, sf⟩ := t.mid f w9 nn
  have hs : Same (hid pl fl H9) (hid p2 f2 H10) := fun a u e => by
    have e := hid_same _ _ e
    exact hid_at (s10 _ _ e) (ne_of_none e h1) (ne_of_none e h2)
  refine ⟨hs, ⟨e1, e2, ne, ?_, ?_, w9'.same hs, ?_⟩⟩
  · rw [List.reverse_nil, List.append_nil, hp]
    have := papp (ptakeL (L2.Paired.mapP s9 fun _ _ z => z.kd (.of hs))) (L2.Paired.mapP st fun _ _ z => z.kd (.of hs))
    rw [t.l] at this
    exact this
  · rw [List.length_append, t.l, hp]
    show wb.at_ + 1 + ls.length = wb.at_ + bs.length + 1
    rw [plen st]; omega
  · intro x hx
    rw [hp] at hx
    rcases List.mem_append.mp hx with hx | hx
    · exact t.q x (List.mem_of_mem_take hx)
    · exact q' x hx
theorem last_pair {α : Type} {F : α → Bd → Prop} : ∀ {xs : List α} {ys : List Bd} {x : α} {y : Bd}, F x y → Paired F xs ys → ∃ z, F z (lastB y ys) ∧ (x :: xs)[xs.length]? = some z
  | _, _, x, y, h, .nil => ⟨x, h, rfl⟩
  | _, _, x, y, h, .cons a t => by
    obtain ⟨z, h1, h2⟩ := last_pair a t
    exact ⟨z, h1, by rw [List.length_cons, List.getElem?_cons_succ]; exact h2⟩
theorem lastB_all {p : Bd → Prop} : ∀ {bs : List Bd} {b : Bd}, p b → (∀ x ∈ bs, p x) → p (lastB b bs)
  | [], _, h, _ => h
  | y :: r, _, _, h => lastB_all (bs := r) (h y (List.mem_cons_self ..)) fun x hx => h x (List.mem_cons_of_mem _ hx)
/-- a new state does not rest upon the three lists -/
theorem st_hid3 {H : Hp} {pl fl tl l' : Addr} {ps fs us : List Addr} {b' : Bd} (hp : SL H pl ps) (hf : SL H fl fs) (ht : SL (hid pl fl H) tl us) (q1 : b'.q1) (h : StAt H l' b') : StAt (Bs.hid tl tl (Bs.hid pl fl H)) l' b' := StAt.hid ht ht q1 (StAt.hid hp hf q1 h)
def tTold6 (K : PySem.W.Frag) (CW CB CS : Addr) : TS := tIfS (tNot (tB (tCl (spTold CW CB CS) E0 (tCons (tVar 3) (tCons (tOp (rIxL K) (tVar 4) (tUn (rU fun i => V.int (-i)) (tC (V.int 1)))) tNil))))) (tRet (tC (V.bl false))) tNext
def tTurn6 (K : PySem.W.Frag) (CW CB CS : Addr) (n : Int) : TS := tIfS (tAnd (tTest (tOp rEq (tOp (rI (fun x j => 0 < j) fun i j => V.int (i % j)) (tCB Bm.rInt1 (tCons (tOp (rIxL K) (tVar 1) (tOp (rI0 fun i j => V.int (i + j)) (tC (V.int 220)) (tVar 7))) tNil)) (tC (V.int 4))) (tC (V.int n)))) (tNot (tB (tCl (spBack CW CB CS) E0 (tCons (tVar 3) (tCons (tVar 4) (tCons (tVar 5) tNil))))))) (tRet (tC (V.bl false))) tNext
def tTail6 (K : PySem.W.Frag) (CW CB CS : Addr) : TS := tSeq (tTold6 K CW CB CS) (tSeq (tTurn6 K CW CB CS 0) (tSeq (tTurn6 K CW CB CS 1) (tTold6 K CW CB CS)))
section
variable {K : PySem.W.Frag} {CW CB CS o pl fl pn : Addr} {v0 v2 v6 v8 v9 va vb : Option V} {i m : Nat} {rs : List Int}
theorem told6 {D : L2.Ends} {H : Hp} {wb : Wb} {ps fs : List Addr} (T : Tl CW CB CS o pl fl H wb ps fs) (ok : ∀ b ∈ wb.bds, b.ok m ∧ b.nm) (hm : m < 64) (q : ∀ H', Same H H' → D.nx [v0, some (.ref pn), v2, some (.ref o), some (.ref pl), some (.ref fl), v6, some (.int (0 + (i : Int))), v8, v9, va, vb] H') :
    tTold6 K CW CB CS D [v0, some (.ref pn), v2, some (.ref o), some (.ref pl), some (.ref fl), v6, some (.int (0 + (i : Int))), v8, v9, va, vb] H := by
  obtain ⟨sl3, b3, ei3, eb3, st3⟩ := T.last
  obtain ⟨ok3, nm3⟩ := ok b3 (List.mem_of_getElem? eb3)
  exact ⟨_, rfl, _, rfl, _, rfl, pl, _, _, _, rfl, rfl, SqL.of T.p, ei3, o, sl3, _, b3, m, rfl, T.w.same hid_same, eb3, st3.kd (.of hid_same), ok3, hm, nm3, fun H11 s11 => ⟨_, rfl, iteF (q H11 s11)⟩⟩
theorem turn6 {n : Int} {D : L2.Ends} {H : Hp} {wb : Wb} {ps fs : List Addr} {v : Int} (T : Tl CW CB CS o pl fl H wb ps fs) (hpn : hid pl fl H pn = some (.lst (rs.map V.int))) (ev : atI (rs.map V.int) ((220 : Int) + (0 + (i : Int))) = some (.int v)) (hb : wb.bds.length ≤ 1000)
    (q : ∀ H' wb' ps' fs', (∀ a u, a ≠ o → hid pl fl H a = some u → hid pl fl H' a = some u) → Tl CW CB CS o pl fl H' wb' ps' fs' → wb'.bds = wb.bds → D.nx [v0, some (.ref pn), v2, some (.ref o), some (.ref pl), some (.ref fl), v6, some (.int (0 + (i : Int))), v8, v9, va, vb] H') :
    tTurn6 K CW CB CS n D [v0, some (.ref pn), v2, some (.ref o), some (.ref pl), some (.ref fl), v6, some (.int (0 + (i : Int))), v8, v9, va, vb] H := by
  refine ⟨_, rfl, _, rfl, _, _, rfl, rfl, pn, _, _, _, rfl, rfl, SqL.of (hid_same _ _ hpn), ev, .inl ⟨_, rfl, _, _, rfl, rfl, (by show (0 : Int) < 4; decide), rfl, _, rfl, ?_⟩⟩
  have hat : wb.at_ < wb.bds.length := by have := T.l; have := T.len; omega
  refine ite2 (fun _ => ?_) (fun _ => ?_)
  · exact ⟨_, rfl, _, rfl, _, rfl, o, pl, fl, wb, ps, fs, rfl, T, hat, hb, fun H' wb' ps' fs' kx T' eb => ⟨_, rfl, iteF (q H' wb' ps' fs' kx T' eb)⟩⟩
  · exact iteF (q H wb ps fs (fun _ _ _ e => e) T rfl)
theorem keep_kd {H H' : Hp} {wb : Wb} {ps fs : List Addr} (T : Tl CW CB CS o pl fl H wb ps fs) (kx : ∀ a u, a ≠ o → hid pl fl H a = some u → hid pl fl H' a = some u) : Kd (hid pl fl H) (hid pl fl H') := by
  obtain ⟨dx, _, _, _, _, ho, _⟩ := id T.w.h
  exact ⟨fun a xs e => kx _ _ (fun z => by rw [z, ho] at e; cases e) e, fun a xs e => kx _ _ (fun z => by rw [z, ho] at e; cases e) e, fun a xs e => kx _ _ (fun z => by rw [z, ho] at e; cases e) e⟩
theorem tail6 {D : L2.Ends} {H : Hp} {wb : Wb} {ps fs : List Addr} {v : Int} (T : Tl CW CB CS o pl fl H wb ps fs) (hpn : hid pl fl H pn = some (.lst (rs.map V.int))) (ok : ∀ b ∈ wb.bds, b.ok m ∧ b.nm) (hm : m < 64) (ev : atI (rs.map V.int) ((220 : Int) + (0 + (i : Int))) = some (.int v)) (hb : wb.bds.length ≤ 1000)
    (q : ∀ H' wb' ps' fs', Kd (hid pl fl H) (hid pl fl H') → Tl CW CB CS o pl fl H' wb' ps' fs' → wb'.bds = wb.bds → D.nx [v0, some (.ref pn), v2, some (.ref o), some (.ref pl), some (.ref fl), v6, some (.int (0 + (i : Int))), v8, v9, va, vb] H') :
    tTail6 K CW CB CS D [v0, some (.ref pn), v2, some (.ref o), some (.ref pl), some (.ref fl), v6, some (.int (0 + (i : Int))), v8, v9, va, vb] H := by
  refine told6 T ok hm fun H1 s1 => ?_
  have k1 : Kd (hid pl fl H) (hid pl fl H1) := .of (hid_of s1)
  have T1 := T.same s1
  refine turn6 T1 (k1.l _ _ hpn) ev hb fun H2 wb2 ps2 fs2 kx2 T2 e2 => ?_
  have k2 := k1.trans (keep_kd T1 kx2)
  refine turn6 T2 (k2.l _ _ hpn) ev (by rw [e2]; exact hb) fun H3 wb3 ps3 fs3 kx3 T3 e3 => ?_
  have k3 := k2.trans (keep_kd T2 kx3)
  have e4 := e3.trans e2
  refine told6 T3 (by rw [e4]; exact ok) hm fun H4 s4 => ?_
  exact q H4 wb3 ps3 fs3 (k3.trans (.of (hid_of s4))) (T3.same s4) e4
end
abbrev sLaw86 : Stmt := top 128
section
variable {P : Program} {w : World} {K : PySem.W.Frag} {mg : Str → Option Value} {base : Heap} {f fW C CU CN CQ CB CS CW : Addr} {fd fdW : FuncData}
abbrev nLaw86 : List Str := ["script", "numbers", "names", "bench", "past", "future", "deeds", "k", "group", "states", "fault", "deed"]
theorem scLaw86 : FnScope nLaw86 ["script"] (defScope Bm.sLaw) := ⟨rfl, rfl, rfl, by decide +kernel, rfl, by decide +kernel, by decide +kernel⟩
theorem ok_law86 {k : Nat} (hk : 6 ≤ k) (F : Fun K "law" "law" Bm.sLaw f fd) (gNum : Cal P w K mg base CX0 k "_law_numbers" ["script", "many"] (Bm.spNums 240 K)) (gNam : Cal P w K mg base CX0 k "_law_names" ["number", "many"] Bm.spNames) (M : Mk K CW fW) (GW : FnOk P w K mg base CX0 3 fW fdW ["self"] (spWInit CW CB CS)) (bW : Binds K fdW ["self"] []) (gWb : mg "Workbench" = some (.ref CW))
    (W : WbC K CW CB CS) (gWo : Cal P w K mg base CX0 k "_law_words" ["numbers", "at", "many", "names"] spWords) (gF : Cal P w K mg base CX0 k "_law_fault" ["state", "deed"] spFault) (gT : Cal P w K mg base CX0 k "_law_tried_all" ["bench", "deeds"] (spTriedAll CW CB CS)) (gX : Cal P w K mg base CX0 k "_law_next" ["state", "deed", "entry"] spNext) (gTo : Cal P w K mg base (L2.CX P w) k "_law_told" ["bench", "state"] (spTold CW CB CS))
    (gU : Cal P w K mg base CX0 k "_law_undone" ["bench", "past", "future"] (spBack CW CB CS)) (gR : Cal P w K mg base CX0 k "_law_redone" ["bench", "past", "future"] (spBack CW CB CS)) (mint : mg "int" = none) (mr : mg "range" = none) (ml : mg "len" = none) : FnOk P w K mg base CX0 (k + 1) f fd ["script"] (Bm.spLaw K) := by
  refine F.ok scLaw86 (fun vs H Q E h => ?_) (fun cdv A outer s H vs Q E hr h => ?_)
  · obtain ⟨a, ns, rfl, _⟩ := h
    rfl
  · obtain ⟨a, ns, rfl, hS, hl, q⟩ := h
    have hu := hu_of hr
    have hu64 : (cxOf CX0 P w K mg base nLaw86 "law" (defScope Bm.sLaw) f cdv A outer s H E).nox.A.units + 64 < cLine := Nat.lt_of_le_of_lt (Nat.le_refl _) hr.units
    refine ⟨_, (pss_cons (ps_set (i := 1) scLaw86.nd rfl (.inl rfl) (pe_cal gNum hr pass0 (pa_cons (pv 0) (pa_cons pe_int pa_nil))))
      (pss_cons (ps_set (i := 2) scLaw86.nd rfl (.inl rfl) (pe_cal gNam hr pass0 (pa_cons (pe_ix ix_list (pv 1) pe_int (fun _ _ => rfl)) (pa_cons pe_int pa_nil))))
      (pss_cons (ps_set (i := 3) scLaw86.nd rfl (.inl rfl) (pe_make0 M GW (hr.mono (by omega)) (by rfl) gWb bW .nil pass0))
      (pss_cons (ps_set (i := 4) scLaw86.nd rfl (.inl rfl) (pe_lst (pa_cons (pe_lst (pa_cons pe_dnewK (pa_cons pe_dnewK pa_nil))) pa_nil)))
      (pss_cons (ps_set (i := 5) scLaw86.nd rfl (.inl rfl) (pe_lst pa_nil))
      (pss_cons (ps_set (i := 6) scLaw86.nd rfl (.inl rfl) (pe_cal gWo hr pass0 (pa_cons (pv 1) (pa_cons pe_int (pa_cons pe_int (pa_cons (pv 2) pa_nil))))))
      (pss_cons (ps_for PassesOwn.never rfl (pi_range1 (by rfl) mr (pa_cons (pe_op op_add pe_int (pe_op op_mod (pe_callTy (r := Bm.rInt1) call_int1 (by rfl) mint (by decide +kernel) (pa_cons (pe_ix (r := rIxL K) ix_list (pv 1) pe_int (fun _ _ => rfl)) pa_nil)) pe_int)) pa_nil)) (pg_name (i := 7) scLaw86.nd rfl (.inl rfl))
        (pss_cons (ps_set (i := 8) scLaw86.nd rfl (.inl rfl) (pe_slice sl_list (pv 6) (po_some (pe_op op_mul pe_int (pv 7))) (po_some (pe_op op_add (pe_op op_mul pe_int (pv 7)) (pe_op op_mod (pe_callTy (r := Bm.rInt1) call_int1 (by rfl) mint (by decide +kernel) (pa_cons (pe_ix (r := rIxL K) ix_list (pv 1) (pe_op op_add pe_int (pv 7)) (fun _ _ => rfl)) pa_nil)) pe_int)))))
      (pss_cons (ps_set (i := 9) scLaw86.nd rfl (.inl rfl) (pe_lst (pa_cons (pe_ix ix_list (pv 4) (pe_un un_neg pe_int) (fun _ _ => rfl)) pa_nil)))
      (pss_cons (ps_set (i := 10) scLaw86.nd rfl (.inl rfl) pe_non)
      (pss_cons (ps_for PassesOwn.never rfl (pi_list (pv 8)) (pg_name (i := 11) scLaw86.nd rfl (.inl rfl))
        (pss_one (ps_if (pt_cmp (pc_isN (pv 10)) (by rfl)) (pss_cons (ps_set (i := 10) scLaw86.nd rfl (.inl rfl) (pe_cal gF hr pass0 (pa_cons (pe_ix ix_list (pv 9) (pe_un un_neg pe_int) (fun _ _ => rfl)) (pa_cons (pv 11) pa_nil))))
      (pss_one (ps_if (pt_cmp (pc_isN (pv 10)) (by rfl)) (pss_one (ps_expr (pe_bm PySem.F.plainAttrs_list PySem.F.slot_list_append PySem.F.type_list_append mt_append (pv 9) (pa_cons (pe_cal gX hr pass0 (pa_cons (pe_ix ix_list (pv 9) (pe_un un_neg pe_int) (fun _ _ => rfl)) (pa_cons (pv 11) (pa_cons pe_int pa_nil)))) pa_nil)))) pss_nil))) pss_nil)))
      (pss_cons (ps_if (pt_cmpR (op_neD hu64) (pe_cal gT hr pass0 (pa_cons (pv 3) (pa_cons (pv 8) pa_nil))) (pv 10) (nomark _)) (pss_one (ps_ret pe_bl)) pss_nil)
      (pss_cons (ps_if (PW.pt (pw_and (pt_cmp (pc_isN (pv 10)) (by rfl)) (pw_and1 (pt_cmpR op_gt (pe_callB call_len (by rfl) ml boot_len (pa_cons (pv 9) pa_nil)) pe_int (nomark _))))) (pss_cons (ps_set (i := 4) scLaw86.nd rfl (.inl rfl) (pe_op op_cat (pv 4) (pe_slice sl_list (pv 9) (po_some pe_int) po_none)))
      (pss_one (ps_set (i := 5) scLaw86.nd rfl (.inl rfl) (pe_lst pa_nil)))) pss_nil)
      (pss_cons (ps_if (pt_not (pt_val (pe_cal gTo hr passE0 (pa_cons (pv 3) (pa_cons (pe_ix ix_list (pv 4) (pe_un un_neg pe_int) (fun _ _ => rfl)) pa_nil))))) (pss_one (ps_ret pe_bl)) pss_nil)
      (pss_cons (ps_if (PW.pt (pw_and (pt_cmpR op_eq (pe_op op_mod (pe_callTy (r := Bm.rInt1) call_int1 (by rfl) mint (by decide +kernel) (pa_cons (pe_ix (r := rIxL K) ix_list (pv 1) (pe_op op_add pe_int (pv 7)) (fun _ _ => rfl)) pa_nil)) pe_int) pe_int (nomark _)) (pw_and1 (pt_not (pt_val (pe_cal gU hr pass0 (pa_cons (pv 3) (pa_cons (pv 4) (pa_cons (pv 5) pa_nil))))))))) (pss_one (ps_ret pe_bl)) pss_nil)
      (pss_cons (ps_if (PW.pt (pw_and (pt_cmpR op_eq (pe_op op_mod (pe_callTy (r := Bm.rInt1) call_int1 (by rfl) mint (by decide +kernel) (pa_cons (pe_ix (r := rIxL K) ix_list (pv 1) (pe_op op_add pe_int (pv 7)) (fun _ _ => rfl)) pa_nil)) pe_int) pe_int (nomark _)) (pw_and1 (pt_not (pt_val (pe_cal gR hr pass0 (pa_cons (pv 3) (pa_cons (pv 4) (pa_cons (pv 5) pa_nil))))))))) (pss_one (ps_ret pe_bl)) pss_nil)
      (pss_one (ps_if (pt_not (pt_val (pe_cal gTo hr passE0 (pa_cons (pv 3) (pa_cons (pe_ix ix_list (pv 4) (pe_un un_neg pe_int) (fun _ _ => rfl)) pa_nil))))) (pss_one (ps_ret pe_bl)) pss_nil))))))))))))
      (pss_one (ps_ret pe_bl))))))))), ?_⟩
    refine ⟨_, rfl, a, ns, rfl, by decide, hS, hl, fun pn rs H1 s1 hpn lrs nb => ?_⟩
    have gx : ∀ (j : Nat), j < 240 → ∃ v, atI (rs.map V.int) (j : Int) = some (.int v) ∧ 0 ≤ v ∧ v < 1009 := fun j hj => by
      have g : rs[j]? = some (rs[j]'(by omega)) := List.getElem?_eq_getElem (by omega)
      exact ⟨_, atI_nat (by rw [List.getElem?_map, g]; rfl), nb _ (List.mem_of_getElem? g)⟩
    obtain ⟨vn, en, _⟩ := gx 238 (by decide)
    obtain ⟨vm, em, vm0, vm1⟩ := gx 239 (by decide)
    refine ⟨_, rfl, pn, _, _, _, rfl, rfl, SqL.of hpn, en, vn, 3, rfl, by decide, fun zl zs H2 s2 nz hzl lz _ hzs _ => ?_⟩
    intro o dx no ndx nex
    have sA : Same H2 (upd (upd H2 dx (.own o)) o (.ins CW dx [])) := fun b u e => by
      rw [upd_ne (ne_of_none e no), upd_ne (ne_of_none e ndx)]; exact e
    refine ⟨o, dx, rfl, upd_same, fun H3 off hw3 => ⟨rfl, ?_⟩⟩
    have s3 : Same H2 H3 := fun b u e => off b u (ne_of_none e no) (sA b u e)
    clear off sA
    intro d1 hd1
    have t1 := same_new hd1 (.dK [])
    intro d2 hd2
    have t2 := same_new hd2 (.dK [])
    have e1 : (upd (upd H3 d1 (.dK [])) d2 (.dK [])) d1 = some (.dK []) := t2 _ _ upd_same
    have e2 : (upd (upd H3 d1 (.dK [])) d2 (.dK [])) d2 = some (.dK []) := upd_same
    have t12 := t1.trans t2
    generalize upd (upd H3 d1 (.dK [])) d2 (.dK []) = H4 at t12 e1 e2 ⊢
    refine ⟨by show 2 ≤ sizeLine; decide, fun sl hsl => ?_⟩
    have t3 := same_new hsl (.lst [.ref d1, .ref d2])
    have st5 : StAt (upd H4 sl (.lst [.ref d1, .ref d2])) sl ⟨[], []⟩ := ⟨d1, d2, [], [], upd_same, t3 _ _ e1, .nil, t3 _ _ e2, .nil⟩
    have S5 := t12.trans t3
    generalize upd H4 sl (.lst [.ref d1, .ref d2]) = H5 at S5 st5 ⊢
    refine ⟨by show 1 ≤ sizeLine; decide, fun pl hpl => ?_⟩
    have t5 := same_new hpl (.lst [.ref sl])
    have hpl' : upd H5 pl (.lst [.ref sl]) pl = some (.lst [.ref sl]) := upd_same
    have S25 := s3.trans S5
    have hpn5 := S25 _ _ (s2 _ _ hpn)
    have npn : pn ≠ pl := ne_of_none hpn5 hpl
    refine ⟨by show 0 ≤ sizeLine; decide, fun fl hfl => ?_⟩
    have t6 := same_new hfl (.lst [])
    have nfl : pl ≠ fl := ne_of_none hpl' hfl
    have npf : pn ≠ fl := ne_of_none (t5 _ _ hpn5) hfl
    have hpl7 := t6 _ _ hpl'
    have hfl7 : upd (upd H5 pl (.lst [.ref sl])) fl (.lst []) fl = some (.lst []) := upd_same
    have S57 := t5.trans t6
    generalize upd (upd H5 pl (.lst [.ref sl])) fl (.lst []) = H7 at S57 hpl7 hfl7 ⊢
    clear t6
    have hpn7 := S57 _ _ hpn5
    have hzl7 := S57 _ _ (S25 _ _ hzl)
    refine ⟨_, rfl, _, rfl, pn, zl, rs, 20, zs, rfl, hpn7, nb, by omega, by omega, hzl7, lz, fun z hz => (hzs z hz).1, fun dl ts cs H8 s8 ndl hdl pcs an lcs hcs => ?_⟩
    have lts : ts.length = cs.length := plen pcs
    have hpl8 := s8 _ _ hpl7
    have hfl8 := s8 _ _ hfl7
    have st8 := st5.kd (.of (S57.trans s8))
    obtain ⟨da, db, ka, kb, hsa, hda, _⟩ := id st8.h
    have sp8 : SL H8 pl [sl] := ⟨hpl8, fun a ha => by
      rw [List.mem_singleton.mp ha]
      exact ⟨da, db, hsa, ka, hda⟩⟩
    have sf8 : SL H8 fl [] := ⟨hfl8, fun a ha => by cases ha⟩
    have nn : ∀ {z : Addr} {u : HO}, H7 z = some u → H7 z ≠ none := fun e => by rw [e]; exact fun h => by cases h
    have dp8 : Paired (DeedAt (hid pl fl H8)) ts cs := pmapM pcs fun t ht c h => deed_hid an (nn hpl7) (nn hfl7) hpl8 hfl8 ht h
    have dl8 : hid pl fl H8 dl = some (.lst (ts.map V.ref)) := hid_at hdl (fun z => nn hpl7 (z ▸ ndl)) (fun z => nn hfl7 (z ▸ ndl))
    have pn8 : hid pl fl H8 pn = some (.lst (rs.map V.int)) := hid_at (s8 _ _ hpn7) npn npf
    have T8 : Tl CW CB CS o pl fl H8 wb0 [sl] [] := ⟨hpl8, hfl8, nfl, .cons (st8.hid sp8 sf8 (fun p h => by cases h)) .nil, rfl, (hw3.same ((S5.trans S57).trans s8)).hid sp8 sf8 (by decide), fun b hb => by rw [List.mem_singleton.mp hb]; exact fun p h => by cases h⟩
    have ok8 : ∀ b ∈ wb0.bds, b.ok 0 ∧ b.nm := fun b hb => by
      rw [List.mem_singleton.mp hb]
      exact ⟨⟨.nil, .nil, Nat.le_refl _, Nat.le_refl _, fun p h => (by cases h), fun p h => (by cases h)⟩, ⟨fun p h => (by cases h), fun p h => (by cases h)⟩⟩
    have e1 : ∀ z : Nat, (1 : Int) + ((z : Nat) : Int) = ((1 + z : Nat) : Int) := fun z => by omega
    refine ⟨_, rfl, pn, _, _, _, rfl, rfl, SqL.of (hid_same _ _ pn8), em, .inl ⟨_, rfl, _, _, rfl, rfl, (by show (0 : Int) < 5; decide), _, _, rfl, rfl, _, rfl, by omega, by omega, for_range (lo := 0) (n := (1 + vm % 5).toNat) (fun i σ H' => ∃ (pl fl : Addr) (wb : Wb) (ps fs : List Addr) (o7 o8 o9 oa ob : Option V), σ = [some (.ref a), some (.ref pn), some (.ref zl), some (.ref o), some (.ref pl), some (.ref fl), some (.ref dl), o7, o8, o9, oa, ob] ∧ Tl CW CB CS o pl fl H' wb ps fs ∧ hid pl fl H' pn = some (.lst (rs.map V.int)) ∧ hid pl fl H' dl = some (.lst (ts.map V.ref)) ∧ Paired (DeedAt (hid pl fl H')) ts cs ∧ (∀ b ∈ wb.bds, b.ok (4 * i) ∧ b.nm) ∧ wb.bds.length ≤ 4 * i + 1 ∧ wb.at_ < wb.bds.length)
      ⟨pl, fl, wb0, [sl], [], _, _, _, _, _, rfl, T8, pn8, dl8, dp8, ok8, Nat.le_refl _, by decide⟩ ?_ ?_⟩⟩
    · clear T8 pn8 dl8 dp8 ok8 sp8 sf8 hfl8 hfl7 nfl npf an hfl hpl hpl' npn hpl7 hpl8 t5
      rintro i σ H2' hi ⟨pl, fl, wb, ps, fs, o7, o8, o9, oa, ob, rfl, tl, hpnx, hdlx, dpx, okx, lbx, hat⟩
      have hi5 : i < 5 := by omega
      obtain ⟨va, ea, va0, _⟩ := gx (210 + i) (by omega)
      have va5 : va % 5 = (((va % 5).toNat : Nat) : Int) := by omega
      have vb5 : (va % 5).toNat ≤ 4 := by omega
      generalize (va % 5).toNat = gn at va5 vb5
      obtain ⟨vb, eb, _⟩ := gx (220 + i) (by omega)
      have eb' : atI (rs.map V.int) ((220 : Int) + (0 + (i : Int))) = some (.int vb) := by
        rw [show (220 : Int) + (0 + (i : Int)) = ((220 + i : Nat) : Int) by omega]; exact eb
      clear eb
      have ea' : atI (rs.map V.int) ((210 : Int) + (0 + (i : Int))) = some (.int va) := by
        rw [show (210 : Int) + (0 + (i : Int)) = ((210 + i : Nat) : Int) by omega]; exact ea
      refine ⟨_, rfl, _, rfl, _, _, rfl, rfl, .inl ⟨by decide, by decide⟩, _, rfl, _, rfl, _, _, rfl, rfl, .inl ⟨by decide, by decide⟩, _, rfl, _, rfl, _, _, rfl, rfl, pn, _, _, _, rfl, rfl, SqL.of (hid_same _ _ hpnx), ea', .inl ⟨_, rfl, _, _, rfl, rfl, (by show (0 : Int) < 5; decide), _, _, rfl, rfl, _, rfl, dl, _, rfl, SqL.of (hid_same _ _ hdlx), fun gl hgl => ?_⟩⟩
      rw [show (4 : Int) * (0 + (i : Int)) = ((4 * i : Nat) : Int) by omega, va5, cut_mid _ _ _ (by rw [List.length_map]; omega), ← List.map_drop, ← List.map_take]
      have pg0 : Paired (DeedAt (hid pl fl H2')) ((ts.drop (4 * i)).take gn) ((cs.drop (4 * i)).take gn) := ptake gn (pdropN (4 * i) dpx)
      have lcg : ((cs.drop (4 * i)).take gn).length ≤ 4 := by rw [List.length_take]; omega
      have cgm : ∀ c ∈ (cs.drop (4 * i)).take gn, c.ok ∧ c.nm := fun c hc => by
        have := hcs c (List.mem_of_mem_drop (List.mem_of_mem_take hc))
        exact ⟨this.1, this.2.1⟩
      generalize (ts.drop (4 * i)).take gn = gs at pg0 ⊢
      generalize (cs.drop (4 * i)).take gn = cg at pg0 lcg cgm
      have sg := same_new hgl (.lst (gs.map V.ref))
      have tl0 := tl.same sg
      have khg := hid_of (p := pl) (f := fl) sg
      have hpn0 := khg _ _ hpnx
      have hdl0 := khg _ _ hdlx
      have dp0 := L2.Paired.mapP dpx fun _ _ z => z.kd (.of khg)
      have pg1 := L2.Paired.mapP pg0 fun _ _ z => z.kd (.of khg)
      have hgl0 : upd H2' gl (.lst (gs.map V.ref)) gl = some (.lst (gs.map V.ref)) := upd_same
      clear tl hpnx hdlx dpx pg0 khg
      generalize upd H2' gl (.lst (gs.map V.ref)) = H0 at tl0 hpn0 hdl0 dp0 pg1 hgl0 ⊢
      obtain ⟨slx, b, eix, ebx, stx⟩ := tl0.last
      obtain ⟨okb, nmb⟩ := okx b (List.mem_of_getElem? ebx)
      have q1b := tl0.q b (List.mem_of_getElem? ebx)
      refine ⟨_, rfl, _, rfl, pl, _, _, _, rfl, rfl, SqL.of tl0.p, eix, by show 1 ≤ sizeLine; decide, fun sx hsx => ?_⟩
      have hsx : H0 sx = none := hsx
      have ssx := same_new hsx (.lst [.ref slx])
      have lgs : gs.length = cg.length := plen pg1
      refine ⟨_, rfl, gl, rfl, ⟨_, SqL.of (ssx _ _ hgl0)⟩, for_it (walk_list (K := K) (a := gl) (xs := gs.map V.ref)) (fun j σ H' => ∃ (fv : V) (ob : Option V) (bs : List Bd) (ls : List Addr), σ = [some (.ref a), some (.ref pn), some (.ref zl), some (.ref o), some (.ref pl), some (.ref fl), some (.ref dl), some (.int (0 + (i : Int))), some (.ref gl), some (.ref sx), some fv, ob] ∧ Same H0 H' ∧ H' sx = some (.lst ((slx :: ls).map V.ref)) ∧ ls.length ≤ j ∧ Paired (StAt (hid sx sx (hid pl fl H'))) ls bs ∧ (∀ x ∈ bs, x.ok (4 * i + j) ∧ x.nm ∧ x.q1) ∧ ((fv = .non ∧ steps b (cg.take j) = .ok bs) ∨ ∃ r, FltAt H' fv (some r) ∧ r.lay ∧ steps b (cg.take j) = .error r))
        ⟨.non, _, [], [], rfl, ssx, upd_same, Nat.le_refl _, .nil, fun x hx => (by cases hx), .inl ⟨rfl, rfl⟩⟩ (fun _ _ H' _ h => ?_) ?_ ?_⟩
      · obtain ⟨fv, ob, bs, ls, _, s, _⟩ := h
        exact SqL.of (s _ _ hgl0)
      · rintro j x σ H9' H9 hj ⟨fv, ob, bs, ls, rfl, s9, hls, lls, pls, oks, hfv⟩ ⟨e3, hx⟩
        subst e3
        obtain ⟨t, ht, rfl⟩ : ∃ t, gs[j]? = some t ∧ x = .ref t := by
          rw [List.getElem?_map] at hx
          cases e : gs[j]? with
          | none => rw [e] at hx; cases hx
          | some t => rw [e] at hx; exact ⟨t, rfl, (Option.some.inj hx).symm⟩
        obtain ⟨c, hc, hct⟩ := pget pg1 ht
        obtain ⟨cok, cnm⟩ := cgm c (List.mem_of_getElem? hc)
        have tj : cg.take (j + 1) = cg.take j ++ [c] := by rw [List.take_succ, hc]; rfl
        have jl : j < 4 := by have := (List.getElem?_eq_some_iff.mp hc).1; omega
        refine ⟨_, rfl, _, rfl, ?_⟩
        rcases hfv with ⟨rfl, hst⟩ | ⟨r, hfr, hlay, hst⟩
        · refine iteT ?_
          have tl9 := tl0.same s9
          have hid9 := hid_of (p := pl) (f := fl) s9
          have ne_p : sx ≠ pl := fun z => absurd tl0.p (by rw [← z, hsx]; intro e; cases e)
          have ne_f : sx ≠ fl := fun z => absurd tl0.f (by rw [← z, hsx]; intro e; cases e)
          have stx9 : StAt H9 slx b := (stx.kd (.of hid9)).kd (.of hid_same)
          have pls9 : Paired (StAt H9) ls bs := L2.Paired.mapP pls fun _ _ z => (z.kd (.of hid_same)).kd (.of hid_same)
          obtain ⟨sc, stc, gc⟩ := last_pair stx9 pls9
          have ec : atI ((slx :: ls).map V.ref) (-1) = some (.ref sc) := atI_last gc rfl
          have okc : (lastB b bs).ok (4 * i + j) := lastB_all (p := fun x => x.ok (4 * i + j)) (okb.mono (by omega)) fun x hx => (oks x hx).1
          have nmc : (lastB b bs).nm := lastB_all (p := fun x => x.nm) nmb fun x hx => (oks x hx).2.1
          have qc : (lastB b bs).q1 := lastB_all (p := fun x => x.q1) q1b fun x hx => (oks x hx).2.2
          have ct9 := (hct.kd (.of hid9)).kd (.of hid_same)
          have lsb : ls.length = bs.length := plen pls
          refine ⟨_, rfl, _, rfl, sx, _, _, _, rfl, rfl, SqL.of hls, ec, _, rfl, sc, t, lastB b bs, c, 4 * i + j, rfl, stc, ct9, okc, cok, fun fv H10 s10 hf => ?_⟩
          have hls10 := s10 _ _ hls
          refine ⟨_, rfl, _, rfl, ?_⟩
          cases es : step (lastB b bs) c with
          | ok b' =>
            rw [es] at hf
            obtain rfl : fv = .non := hf
            refine iteT ?_
            have ol : ((slx :: ls).map V.ref).length < sizeLine := small1000 (by rw [List.length_map, List.length_cons]; omega)
            refine ⟨_, rfl, .inl ⟨rfl, _, SqL.of hls10⟩, _, rfl, _, rfl, sx, _, _, _, rfl, rfl, SqL.of hls10, ec, _, rfl, sc, t, 0, lastB b bs, b', c, 4 * i + j, rfl, stc.kd (.of s10), ct9.kd (.of s10), okc, by omega, cok, es, fun l' H11 s11 st11 => ⟨sx, _, _, rfl, rfl, s11 _ _ hls10, ol, ?_⟩⟩
            have s0 := (s9.trans s10).trans s11
            have q1' : b'.q1 := step_q1 qc es
            have hls11 := s11 _ _ hls10
            have tl11 := tl0.same s0
            have sls := tl11.sl
            have stx11 := stx.kd (.of (hid_of (p := pl) (f := fl) s0))
            have s911 := hid_of (p := sx) (f := sx) (hid_of (p := pl) (f := fl) (s10.trans s11))
            have pls11 := L2.Paired.mapP pls fun _ _ z => z.kd (.of s911)
            have sl3 : SL (hid pl fl H11) sx (slx :: ls) := ⟨hid_at hls11 ne_p ne_f, fun y hy => by
              rcases List.mem_cons.mp hy with rfl | hy
              · obtain ⟨d1, d2, k1, k2, e1, e2, _⟩ := stx11.h
                exact ⟨d1, d2, e1, k1, e2⟩
              · obtain ⟨bb, _, h⟩ := pmem pls11 y hy
                obtain ⟨d1, d2, k1, k2, e1, e2, _⟩ := h.h
                exact ⟨d1, d2, hid_same _ _ e1, k1, hid_same _ _ e2⟩⟩
            have st3 := st_hid3 sls.1 sls.2 sl3 q1' st11
            have eh : hid sx sx (hid pl fl (upd H11 sx (.lst ((slx :: ls).map V.ref ++ [.ref l'])))) = hid sx sx (hid pl fl H11) := by
              funext z
              unfold hid
              by_cases c1 : z = sx ∨ z = sx
              · rw [if_pos c1, if_pos c1]
              · rw [if_neg c1, if_neg c1]
                by_cases c2 : z = pl ∨ z = fl
                · rw [if_pos c2, if_pos c2]
                · rw [if_neg c2, if_neg c2, upd_ne (fun e => c1 (.inl e))]
            refine ⟨.non, _, bs ++ [b'], ls ++ [l'], rfl, same_set s0 hsx, by rw [upd_same]; simp, by rw [List.length_append, List.length_singleton]; omega, by rw [eh]; exact Paired.snoc pls11 st3, fun x hx => ?_, .inl ⟨rfl, ?_⟩⟩
            · rcases List.mem_append.mp hx with hx | hx
              · exact ⟨(oks x hx).1.mono (by omega), (oks x hx).2⟩
              · rw [List.mem_singleton.mp hx]
                exact ⟨step_ok okc cok es, step_nm nmc cnm es, q1'⟩
            · rw [tj, steps_snoc, hst]
              simp only [es]
          | error r =>
            rw [es] at hf
            have hf : FltAt H10 fv (some r) := hf
            have fvn : ¬ fv = .non := fun e => by
              subst e
              cases r <;> (obtain ⟨_, e, _⟩ := hf; cases e)
            rw [decide_eq_false fvn]
            refine iteF ?_
            exact ⟨fv, _, bs, ls, rfl, s9.trans s10, hls10, by omega, L2.Paired.mapP pls fun _ _ z => z.kd (.of (hid_of (hid_of s10))), fun x hx => ⟨(oks x hx).1.mono (by omega), (oks x hx).2⟩, .inr ⟨r, hf, step_lay cnm es, by rw [tj, steps_snoc, hst]; simp only [es]⟩⟩
        · have fvn : ¬ fv = .non := fun e => by
            subst e
            cases r <;> (obtain ⟨_, e, _⟩ := hfr; cases e)
          rw [decide_eq_false fvn]
          refine iteF ?_
          exact ⟨fv, _, bs, ls, rfl, s9, hls, by omega, pls, fun x hx => ⟨(oks x hx).1.mono (by omega), (oks x hx).2⟩, .inr ⟨r, hfr, hlay, by rw [tj]; exact steps_err hst⟩⟩
      · rintro σ H9 ⟨fv, ob, bs, ls, rfl, s9, hls, lls, pls, oks, hfv⟩
        rw [show (gs.map V.ref).length = cg.length by rw [List.length_map]; exact lgs] at lls oks hfv
        rw [List.take_length] at hfv
        have tl9 := tl0.same s9
        have hid9 := hid_of (p := pl) (f := fl) s9
        have hpn9 := hid9 _ _ hpn0
        have hdl9 := hid9 _ _ hdl0
        have dp9 := L2.Paired.mapP dp0 fun _ _ z => z.kd (.of hid9)
        have lsb : ls.length = bs.length := plen pls
        refine ⟨_, rfl, _, rfl, o, gl, wb, b, gs, cg, 4 * i, rfl, s9 _ _ hgl0, L2.Paired.mapP pg1 fun _ _ z => (z.kd (.of hid9)).kd (.of hid_same), tl9.w.same hid_same, ebx, okb, by omega, by omega, fun c hc => (cgm c hc).1, ?_⟩
        obtain ⟨dx9, lq, knq, eq9, bsq, ho9, _⟩ := id tl9.w.h
        have nbd : ∀ {l : List Bd}, (wb.push l).bds ≠ [] := fun {l} z => by
          unfold Wb.push at z
          split at z
          · rw [z] at ebx; cases ebx
          · rename_i hne
            exact hne (List.append_eq_nil_iff.mp z).2
        rcases hfv with ⟨rfl, hst⟩ | ⟨r, hfr, hlay, hst⟩
        · rw [hst]
          intro H10 f10 w10
          have k910 := hid_kd ho9 f10
          have shp : SeqAt.shaped (.none : PyData) = true := by decide +kernel
          refine ⟨_, rfl, .none, .none, .non, .non, shp, shp, ?_⟩
          rw [show PyData.eqv .none .none = true from refl_of shp]
          refine ⟨_, rfl, iteF ?_⟩
          have sxo : sx ≠ o := fun z => by rw [z, hid_same _ _ ho9] at hls; cases hls
          have hls10 := f10 _ _ sxo hls
          refine ⟨_, rfl, _, rfl, ?_⟩
          refine iteT ?_
          refine ⟨_, rfl, _, _, rfl, .inl ⟨_, SqL.of hls10, rfl⟩, _, _, rfl, rfl, _, rfl, ?_⟩
          obtain ⟨p10, g10, s10, w10', _⟩ := tl9.mid f10 w10 nbd
          have pls10 : Paired (StAt (hid pl fl H10)) ls bs := L2.Paired.mapP pls fun _ _ z => (z.kd (.of hid_same)).kd k910
          have hpn10 := k910.l _ _ hpn9
          have hdl10 := k910.l _ _ hdl9
          have dp10 := L2.Paired.mapP dp9 fun _ _ z => z.kd k910
          have lps : ps.length + fs.length = wb.bds.length := tl9.len
          by_cases hne : bs = []
          · subst hne
            have ls0 : ls = [] := List.length_eq_zero_iff.mp lsb
            subst ls0
            refine iteF ?_
            have wp : wb.push [] = wb := by unfold Wb.push; rw [if_pos rfl]
            rw [wp] at w10 w10'
            have T10 : Tl CW CB CS o pl fl H10 wb ps fs := ⟨p10, g10, tl9.ne, s10, tl9.l, w10', tl9.q⟩
            refine tail6 (m := 4 * (i + 1)) T10 hpn10 (fun x hx => ⟨(okx x hx).1.mono (by omega), (okx x hx).2⟩) (by omega) eb' (by omega) fun H' wb' ps' fs' kd T' eb => ?_
            exact ⟨pl, fl, wb', ps', fs', _, _, _, _, _, rfl, T', kd.l _ _ hpn10, kd.l _ _ hdl10, L2.Paired.mapP dp10 fun _ _ z => z.kd kd, by rw [eb]; exact fun x hx => ⟨(okx x hx).1.mono (by omega), (okx x hx).2⟩, by rw [eb]; omega, by have := T'.l; have := T'.len; omega⟩
          · have lb1 : 1 ≤ bs.length := by cases bs with | nil => exact absurd rfl hne | cons _ _ => simp
            rw [decide_eq_true (by rw [List.length_map, List.length_cons]; omega)]
            refine iteT ?_
            refine ⟨_, rfl, _, rfl, _, rfl, sx, _, rfl, SqL.of hls10, fun p1 hp1 => ?_⟩
            rw [show cutV ((slx :: ls).map V.ref) (some 1) none = ls.map V.ref from cut_one1 _ _]
            have sp1 := same_new hp1 (.lst (ls.map V.ref))
            have lls2 : ps.length + ls.length ≤ 1000 := by omega
            refine ⟨pl, p1, _, _, rfl, rfl, sp1 _ _ p10, upd_same, le_line (by rw [List.length_map, List.length_map]; omega), fun p2 hp2 => ?_⟩
            rw [← List.map_append]
            have s2 := sp1.trans (same_new hp2 (.lst ((ps ++ ls).map V.ref)))
            have np2 : H10 p2 = none := sp1.free hp2
            have e2 : upd (upd H10 p1 (.lst (ls.map V.ref))) p2 (.lst ((ps ++ ls).map V.ref)) p2 = some (.lst ((ps ++ ls).map V.ref)) := upd_same
            refine ⟨by show 0 ≤ sizeLine; decide, fun f2 hf2 => ?_⟩
            have hf2 : upd (upd H10 p1 (.lst (ls.map V.ref))) p2 (.lst ((ps ++ ls).map V.ref)) f2 = none := hf2
            have nf2 : H10 f2 = none := s2.free hf2
            have ne2 : p2 ≠ f2 := ne_of_none e2 hf2
            have s3 := s2.trans (same_new hf2 (.lst []))
            have e2' := same_new hf2 (.lst []) _ _ e2
            have e3 : upd (upd (upd H10 p1 (.lst (ls.map V.ref))) p2 (.lst ((ps ++ ls).map V.ref))) f2 (.lst []) f2 = some (.lst []) := upd_same
            obtain ⟨hs, T13⟩ := tl9.pushN f10 hne w10 pls10 (fun x hx => (oks x hx).2.2) s3 np2 nf2 e2' e3 ne2
            have kd13 : Kd (hid pl fl H10) _ := .of hs
            have hpn13 := kd13.l _ _ hpn10
            have hdl13 := kd13.l _ _ hdl10
            have dp13 := L2.Paired.mapP dp10 fun _ _ z => z.kd kd13
            have hpp : wb.push bs = ⟨wb.bds.take (wb.at_ + 1) ++ bs, wb.at_ + bs.length⟩ := by rw [Wb.push, if_neg hne]
            have ok13 : ∀ x ∈ (wb.push bs).bds, x.ok (4 * (i + 1)) ∧ x.nm := fun x hx => by
              rw [hpp] at hx
              rcases List.mem_append.mp hx with hx | hx
              · exact ⟨(okx x (List.mem_of_mem_take hx)).1.mono (by omega), (okx x (List.mem_of_mem_take hx)).2⟩
              · exact ⟨(oks x hx).1.mono (by omega), (oks x hx).2.1⟩
            have lb13 : (wb.push bs).bds.length ≤ 4 * (i + 1) + 1 := by
              rw [hpp]
              show (wb.bds.take (wb.at_ + 1) ++ bs).length ≤ _
              rw [List.length_append, List.length_take]
              omega
            refine tail6 (m := 4 * (i + 1)) T13 hpn13 ok13 (by omega) eb' (by omega) fun H' wb' ps' fs' kd T' eb => ?_
            exact ⟨p2, f2, wb', ps', fs', _, _, _, _, _, rfl, T', kd.l _ _ hpn13, kd.l _ _ hdl13, L2.Paired.mapP dp13 fun _ _ z => z.kd kd, by rw [eb]; exact ok13, by rw [eb]; exact lb13, by have := T'.l; have := T'.len; omega⟩
        · rw [hst]
          intro v H10 f10 w10 hv
          have k910 := hid_kd ho9 f10
          have shp : SeqAt.shaped (fltD (some r)) = true := flt_shaped fun e he => by cases he; exact hlay
          have hfr10 : FltAt H10 fv (some r) := hfr.kd (Kd.off (hid_same _ _ ho9) f10)
          refine ⟨_, rfl, fltD (some r), fltD (some r), flt_dp hv, flt_dp hfr10, shp, shp, ?_⟩
          rw [refl_of shp]
          refine ⟨_, rfl, iteF ?_⟩
          have fvn : ¬ fv = .non := fun e => by
            subst e
            cases r <;> (obtain ⟨_, e, _⟩ := hfr; cases e)
          refine ⟨_, rfl, _, rfl, ?_⟩
          rw [decide_eq_false fvn]
          refine iteF ?_
          refine iteF ?_
          obtain ⟨p10, g10, s10, w10', _⟩ := tl9.mid f10 w10 (fun z => by rw [z] at ebx; cases ebx)
          have hpn10 := k910.l _ _ hpn9
          have hdl10 := k910.l _ _ hdl9
          have dp10 := L2.Paired.mapP dp9 fun _ _ z => z.kd k910
          have T10 : Tl CW CB CS o pl fl H10 wb ps fs := ⟨p10, g10, tl9.ne, s10, tl9.l, w10', tl9.q⟩
          refine tail6 (m := 4 * (i + 1)) T10 hpn10 (fun x hx => ⟨(okx x hx).1.mono (by omega), (okx x hx).2⟩) (by omega) eb' (by omega) fun H' wb' ps' fs' kd T' eb => ?_
          exact ⟨pl, fl, wb', ps', fs', _, _, _, _, _, rfl, T', kd.l _ _ hpn10, kd.l _ _ hdl10, L2.Paired.mapP dp10 fun _ _ z => z.kd kd, by rw [eb]; exact fun x hx => ⟨(okx x hx).1.mono (by omega), (okx x hx).2⟩, by rw [eb]; omega, by have := T'.l; have := T'.len; omega⟩
    · rintro σ H2' ⟨pl, fl, wb, ps, fs, o7, o8, o9, oa, ob, rfl, _⟩
      exact q _
end
end Bs


set_option Elab.async false
set_option linter.all false
set_option maxRecDepth 100000
set_option maxHeartbeats 4000000
namespace Bs
open PySem L2
/-! ### all defs together -/
section
variable {P : Program} {w : World} {K : PySem.W.Frag} {mg : Str → Option Value} {h base : Heap} {C : Addr}
theorem fun_of {x q : Str} {st : Stmt} {f : Addr} {fd : FuncData} (F : FunD K x q (defArgs st) (defBody st) (defScope st) [] [] f fd) : Fun K x q st f fd := by
  obtain ⟨oc, od, dV, kV, doc, pm, an, cdv, ct, osl, rfl, lk, c, d, _⟩ := F.ex
  have e : dV = .none := d.elim (·.2) (fun z => absurd rfl z.1)
  subst e
  exact ⟨⟨oc, od, kV, doc, pm, an, cdv, ct, osl, rfl, lk, c⟩, F.kp⟩
theorem def_of (c : He.SaysT fas fns tbs w K) (j : Nat) {x : Str} {i : Nat} (e : fns[j]? = some (gDef x i)) : ∃ fd, Fun K x x (top i) (He.ga K x) fd := by
  obtain ⟨fd, F⟩ := c.d.def_ j (d := gDef x i) e
  exact ⟨fd, fun_of F⟩
theorem cal_of (X : K.In h) (G : h.Ns mainGlobals mg) (c : He.SaysT fas fns tbs w K) (j jg : Nat) {x : Str} {i : Nat} (e : fns[j]? = some (gDef x i)) (eg : fas[jg]? = some (.glo x)) {CX : CXT} {k : Nat} {ps : List Str} {sp : Sp}
    (bn : ∀ (f : Addr) (fd : FuncData), Fun K x x (top i) f fd → Binds K fd ps []) (ok : ∀ (f : Addr) (fd : FuncData), Fun K x x (top i) f fd → FnOk P w K mg base CX k f fd ps sp) : Cal P w K mg base CX k x ps sp := by
  obtain ⟨fd, F⟩ := def_of c j e
  exact ⟨_, fd, He.glo_ok X G (c.d.fact jg eg), F.kp, bn _ fd F, ok _ fd F⟩
theorem Cal.mono {CX : CXT} {j k : Nat} {x : Str} {ps : List Str} {sp : Sp} (g : Cal P w K mg base CX j x ps sp) (h : j ≤ k) : Cal P w K mg base CX k x ps sp := by
  obtain ⟨f, fd, h1, h2, h3, h4⟩ := g.ex
  exact ⟨f, fd, h1, h2, h3, h4.mono h⟩
theorem Cal.no {CX : CXT} {j k : Nat} {x : Str} {ps : List Str} {sp sq : Sp} (g : Cal P w K mg base CX j x ps sp) (no : ∀ vs H Q E, ¬ sq vs H Q E) : Cal P w K mg base CX k x ps sq := by
  obtain ⟨f, fd, h1, h2, h3, h4⟩ := g.ex
  exact ⟨f, fd, h1, h2, h3, ⟨fun _ _ _ _ z => (no _ _ _ _ z).elim, fun _ _ _ _ _ _ _ _ _ _ _ _ _ z => (no _ _ _ _ z).elim⟩⟩
theorem shpC (X : K.In h) (G : h.Ns mainGlobals mg) (c : He.SaysT fas fns tbs w K) (ex : exs K = true) : ShpC K mg (He.ga K "InvalidShape") := by
  obtain ⟨h1, h2, h3, h4⟩ := He.exc_ok (c.d.fact 65 (f := .exc "InvalidShape") rfl)
  exact ⟨(He.glo_ok X G (c.d.fact 25 (f := .glo "InvalidShape") rfl)), h2, h1, h3, h4⟩
theorem shapeC (X : K.In h) (G : h.Ns mainGlobals mg) (c : He.SaysT fas fns tbs w K) (ex : exs K = true) : ShapeC K (He.ga K "Shape") := ⟨He.cls_ok (c.d.fact 57 (f := .cls "Shape") rfl), He.noat_ok (c.d.fact 58 (f := .noat "Shape" "parts") rfl), He.noat_ok (c.d.fact 59 (f := .noat "Shape" "_rows") rfl), He.noat_ok (c.d.fact 60 (f := .noat "Shape" "names") rfl), He.noat_ok (c.d.fact 61 (f := .noat "Shape" "_least") rfl), He.noat_ok (c.d.fact 62 (f := .noat "Shape" "_greatest") rfl), He.noat_ok (c.d.fact 63 (f := .noat "Shape" "_row_of") rfl)⟩
theorem ex_all (ex : exs K = true) : He.tupB K "WITH_BLOCKS" [.str "repeat", .str "either", .str "switch"] = true ∧ He.tupB K "MULTIPLES" [.int 1, .int 2, .int 4, .int 8, .int 16] = true ∧ He.valsB K (He.ga K "PARTS") kinds = true ∧ He.valsB K (He.ga K "RULES") rules = true ∧ excB K (He.ga K "InvalidShape") = true ∧ kitB2 K = true := by
  obtain ⟨h1, ex⟩ := He.ba ex
  obtain ⟨h2, ex⟩ := He.ba ex
  obtain ⟨h3, ex⟩ := He.ba ex
  obtain ⟨h4, ex⟩ := He.ba ex
  obtain ⟨h5, h6⟩ := He.ba ex
  exact ⟨h1, h2, h3, h4, h5, h6⟩
theorem excC_of {D : Addr} (e : excB K D = true) : ExcC K D := by
  obtain ⟨h1, e⟩ := He.ba e
  obtain ⟨h2, e⟩ := He.ba e
  obtain ⟨h3, e⟩ := He.ba e
  obtain ⟨h4, e⟩ := He.ba e
  obtain ⟨h5, e⟩ := He.ba e
  obtain ⟨h6, e⟩ := He.ba e
  obtain ⟨h7, h8⟩ := He.ba e
  exact ⟨He.eqO_ok h1, He.eqO_ok h2, of_decide_eq_true h3, h4, He.eqO_ok h5, He.eqO_ok h6, of_decide_eq_true h7, of_decide_eq_true h8⟩
theorem kindsC (X : K.In h) (G : h.Ns mainGlobals mg) (c : He.SaysT fas fns tbs w K) (ex : exs K = true) : Kinds K w mg := by
  obtain ⟨h1, h2, h3, h4, h5, h6⟩ := ex_all ex
  refine ⟨?_, ⟨_, (He.glo_ok X G (c.d.fact 29 (f := .glo "WITH_BLOCKS") rfl)), fun H => He.tupB_ok h1 H⟩⟩
  obtain ⟨es, n, D⟩ := c.tab 0 (t := (fun K => He.ga K "PARTS", kinds.map (·.1))) rfl
  refine ⟨_, es, n, (He.glo_ok X G (c.d.fact 27 (f := .glo "PARTS") rfl)), D, fun x ho => ?_, fun z hz => He.eqO_ok ((List.all_eq_true.mp h6) z hz)⟩
  have f : ∀ (z : Str) (i : Int), (z, He.Dv.int i) ∈ kinds → ∃ t, PySem.W.nsIn K (He.ga K "PARTS") z = some (some (.int i t)) := fun z i hz => by
    obtain ⟨u, e, r⟩ := He.valsB_ok h3 hz
    obtain ⟨t, rfl⟩ := (show ∃ t, u = Value.int i t from r)
    exact ⟨t, e⟩
  cases x with
  | odd => cases ho
  | num => exact f "number" 6 (.head _)
  | byt => exact f "bytes" 3 (.tail _ (.head _))
  | txt => exact f "text" 4 (.tail _ (.tail _ (.head _)))
  | rep => exact f "repeat" 4 (.tail _ (.tail _ (.tail _ (.head _))))
  | eit => exact f "either" 3 (.tail _ (.tail _ (.tail _ (.tail _ (.head _)))))
  | swi => exact f "switch" 4 (.tail _ (.tail _ (.tail _ (.tail _ (.tail _ (.head _))))))
  | chk => exact f "check" 3 (.tail _ (.tail _ (.tail _ (.tail _ (.tail _ (.tail _ (.head _)))))))
  | pad => exact f "pad" 4 (.tail _ (.tail _ (.tail _ (.tail _ (.tail _ (.tail _ (.tail _ (.head _))))))))
theorem multsC (X : K.In h) (G : h.Ns mainGlobals mg) (c : He.SaysT fas fns tbs w K) (ex : exs K = true) : Mults K mg := ⟨_, (He.glo_ok X G (c.d.fact 30 (f := .glo "MULTIPLES") rfl)), fun H => He.tupB_ok (ex_all ex).2.1 H⟩
theorem cRequire (X : K.In h) (G : h.Ns mainGlobals mg) (c : He.SaysT fas fns tbs w K) (ex : exs K = true) : Cal P w K mg base (L2.CX P w) 1 "require" ["holds", "words"] (spRequire (He.ga K "InvalidShape")) := cal_of X G c 3 3 (i := 83) rfl rfl (fun _ _ F => F.binds fun _ _ _ _ _ _ us hl => match us, hl with | [_, _], _ => rfl) fun _ _ F => ok_require F (shpC X G c ex)
theorem cIsInt (X : K.In h) (G : h.Ns mainGlobals mg) (c : He.SaysT fas fns tbs w K) (ex : exs K = true) : Cal P w K mg base CX0 1 "is_integer" ["value", "low", "high"] spIsInt := cal_of X G c 2 2 (i := 82) rfl rfl (fun _ _ F => F.binds fun _ _ _ _ _ _ us hl => match us, hl with | [_, _, _], _ => rfl) fun _ _ F => ok_isint F (He.free_ok X G (c.d.fact 31 (f := .free "isinstance") rfl)) (He.free_ok X G (c.d.fact 32 (f := .free "int") rfl)) (He.free_ok X G (c.d.fact 33 (f := .free "bool") rfl))
theorem cIsName (X : K.In h) (G : h.Ns mainGlobals mg) (c : He.SaysT fas fns tbs w K) (ex : exs K = true) : Cal P w K mg base CX0 1 "is_name" ["text"] spIsName := cal_of X G c 14 14 (i := 104) rfl rfl (fun _ _ F => F.binds fun _ _ _ _ _ _ us hl => match us, hl with | [_], _ => rfl) fun _ _ F => ok_isname F (He.free_ok X G (c.d.fact 31 (f := .free "isinstance") rfl)) (He.free_ok X G (c.d.fact 34 (f := .free "str") rfl)) (He.free_ok X G (c.d.fact 37 (f := .free "len") rfl)) (He.free_ok X G (c.d.fact 38 (f := .free "all") rfl)) (He.str_ok X G (c.d.fact 55 (f := .str "LETTERS" letters) rfl)) (He.str_ok X G (c.d.fact 56 (f := .str "DIGITS" digits) rfl)) (He.int_ok X G (c.d.fact 46 (f := .int "LONGEST_NAME" 12) rfl))
theorem cIsRow (X : K.In h) (G : h.Ns mainGlobals mg) (c : He.SaysT fas fns tbs w K) (ex : exs K = true) : Cal P w K mg base CX0 1 "is_row" ["rows", "least", "most"] spIsRow := cal_of X G c 15 15 (i := 105) rfl rfl (fun _ _ F => F.binds fun _ _ _ _ _ _ us hl => match us, hl with | [_, _, _], _ => rfl) fun _ _ F => ok_isrow F (He.free_ok X G (c.d.fact 31 (f := .free "isinstance") rfl)) (He.free_ok X G (c.d.fact 37 (f := .free "len") rfl)) (He.free_ok X G (c.d.fact 35 (f := .free "list") rfl)) (He.free_ok X G (c.d.fact 36 (f := .free "tuple") rfl))
theorem cAmount (X : K.In h) (G : h.Ns mainGlobals mg) (c : He.SaysT fas fns tbs w K) (ex : exs K = true) : Cal P w K mg base (L2.CX P w) 2 "amount_bounds" ["amount", "visible", "most"] (spAmount (He.ga K "InvalidShape")) := cal_of X G c 4 4 (i := 84) rfl rfl (fun _ _ F => F.binds fun _ _ _ _ _ _ us hl => match us, hl with | [_, _, _], _ => rfl) fun _ _ F => ok_amount F (cRequire X G c ex) (cIsInt X G c ex) (He.free_ok X G (c.d.fact 31 (f := .free "isinstance") rfl)) (He.free_ok X G (c.d.fact 34 (f := .free "str") rfl))
theorem rulesC (X : K.In h) (G : h.Ns mainGlobals mg) (c : He.SaysT fas fns tbs w K) (ex : exs K = true) {n k : Nat} (hk : 3 ≤ k) (gL : Cal P w K mg base (L2.CX P w) (k - 1) "list_lengths" ["items", "visible"] (spSub (spLensList (He.ga K "InvalidShape")) n)) : Rules P w K mg base (He.ga K "InvalidShape") k n := by
  obtain ⟨h1, h2, h3, h4, h5, h6⟩ := ex_all ex
  obtain ⟨es, nn, D⟩ := c.tab 1 (t := (fun K => He.ga K "RULES", rules.map (·.1))) rfl
  refine ⟨_, es, nn, (He.glo_ok X G (c.d.fact 28 (f := .glo "RULES") rfl)), D, fun x ho => ?_⟩
  have f : ∀ (z y : Str), (z, He.Dv.glo y) ∈ rules → PySem.W.nsIn K (He.ga K "RULES") z = some (some (.ref (He.ga K y))) := fun z y hz => by
    obtain ⟨u, e, r⟩ := He.valsB_ok h4 hz
    have e2 : u = Value.ref (He.ga K y) := r
    rw [e, e2]
  have g : ∀ (j i : Nat) (y : Str), fns[j]? = some (gDef y i) → (y, x.kind) = (y, x.kind) → (x.kind, He.Dv.glo y) ∈ rules → (∀ (f : Addr) (fd : FuncData), Fun K y y (top i) f fd → Binds K fd ["item", "visible"] []) → (∀ (f : Addr) (fd : FuncData), Fun K y y (top i) f fd → FnOk P w K mg base (L2.CX P w) k f fd ["item", "visible"] (spLens (He.ga K "InvalidShape") x.kind n)) →
      ∃ f fd, PySem.W.nsIn K (He.ga K "RULES") x.kind = some (some (.ref f)) ∧ PySem.W.keepIn K (.ref f) = true ∧ Binds K fd ["item", "visible"] [] ∧ FnOk P w K mg base (L2.CX P w) k f fd ["item", "visible"] (spLens (He.ga K "InvalidShape") x.kind n) := fun j i y e _ hz bn ok => by
    obtain ⟨fd, F⟩ := def_of c j e
    exact ⟨_, fd, f _ _ hz, F.kp, bn _ fd F, ok _ fd F⟩
  obtain ⟨k, rfl⟩ : ∃ m, k = m + 1 := ⟨k - 1, by omega⟩
  rw [Nat.add_sub_cancel] at gL
  have hk2 : 2 ≤ k := by omega
  cases x with
  | odd => cases ho
  | num => exact g 5 85 "number_lengths" rfl rfl (.head _) (fun _ _ F => F.binds fun _ _ _ _ _ _ us hl => match us, hl with | [_, _], _ => rfl) fun _ _ F => (ok_number F (cRequire X G c ex) (cIsInt X G c ex) (He.int_ok X G (c.d.fact 50 (f := .int "GREATEST_BYTE" 255) rfl)) (He.int_ok X G (c.d.fact 51 (f := .int "GREATEST_PAIR" 65535) rfl))).mono (by omega)
  | byt => exact g 6 86 "bytes_lengths" rfl rfl (.tail _ (.head _)) (fun _ _ F => F.binds fun _ _ _ _ _ _ us hl => match us, hl with | [_, _], _ => rfl) fun _ _ F => (ok_bytes F (cAmount X G c ex) (He.int_ok X G (c.d.fact 52 (f := .int "GREATEST_LENGTH" 64) rfl))).mono (by omega)
  | txt => exact g 7 87 "text_lengths" rfl rfl (.tail _ (.tail _ (.head _))) (fun _ _ F => F.binds fun _ _ _ _ _ _ us hl => match us, hl with | [_, _], _ => rfl) fun _ _ F => (ok_text F (cRequire X G c ex) (cIsInt X G c ex) (He.int_ok X G (c.d.fact 52 (f := .int "GREATEST_LENGTH" 64) rfl)) (He.int_ok X G (c.d.fact 50 (f := .int "GREATEST_BYTE" 255) rfl))).mono (by omega)
  | rep => exact g 8 88 "repeat_lengths" rfl rfl (.tail _ (.tail _ (.tail _ (.head _)))) (fun _ _ F => F.binds fun _ _ _ _ _ _ us hl => match us, hl with | [_, _], _ => rfl) fun _ _ F => ok_repeat hk2 F (cRequire X G c ex) (cAmount X G c ex) (He.int_ok X G (c.d.fact 53 (f := .int "GREATEST_COUNT" 16) rfl)) gL
  | eit => exact g 9 89 "either_lengths" rfl rfl (.tail _ (.tail _ (.tail _ (.tail _ (.head _))))) (fun _ _ F => F.binds fun _ _ _ _ _ _ us hl => match us, hl with | [_, _], _ => rfl) fun _ _ F => ok_either hk2 F (cRequire X G c ex) (He.free_ok X G (c.d.fact 37 (f := .free "len") rfl)) (He.free_ok X G (c.d.fact 41 (f := .free "min") rfl)) (He.free_ok X G (c.d.fact 42 (f := .free "max") rfl)) gL
  | swi => exact g 10 90 "switch_lengths" rfl rfl (.tail _ (.tail _ (.tail _ (.tail _ (.tail _ (.head _)))))) (fun _ _ F => F.binds fun _ _ _ _ _ _ us hl => match us, hl with | [_, _], _ => rfl) fun _ _ F => ok_switch hk2 F (cRequire X G c ex) (cIsInt X G c ex) (He.int_ok X G (c.d.fact 51 (f := .int "GREATEST_PAIR" 65535) rfl)) (He.free_ok X G (c.d.fact 37 (f := .free "len") rfl)) (He.free_ok X G (c.d.fact 41 (f := .free "min") rfl)) (He.free_ok X G (c.d.fact 42 (f := .free "max") rfl)) (He.free_ok X G (c.d.fact 40 (f := .free "set") rfl)) (He.free_ok X G (c.d.fact 31 (f := .free "isinstance") rfl)) (He.free_ok X G (c.d.fact 34 (f := .free "str") rfl)) gL
  | chk => exact g 11 91 "check_lengths" rfl rfl (.tail _ (.tail _ (.tail _ (.tail _ (.tail _ (.tail _ (.head _))))))) (fun _ _ F => F.binds fun _ _ _ _ _ _ us hl => match us, hl with | [_, _], _ => rfl) fun _ _ F => (ok_check F (cRequire X G c ex) (cIsInt X G c ex) (He.int_ok X G (c.d.fact 54 (f := .int "GREATEST_MODULUS" 16) rfl))).mono (by omega)
  | pad => exact g 12 92 "pad_lengths" rfl rfl (.tail _ (.tail _ (.tail _ (.tail _ (.tail _ (.tail _ (.tail _ (.head _)))))))) (fun _ _ F => F.binds fun _ _ _ _ _ _ us hl => match us, hl with | [_, _], _ => rfl) fun _ _ F => (ok_pad F (cRequire X G c ex) (cIsInt X G c ex) (He.int_ok X G (c.d.fact 50 (f := .int "GREATEST_BYTE" 255) rfl)) (multsC X G c ex)).mono (by omega)
theorem cLens (X : K.In h) (G : h.Ns mainGlobals mg) (c : He.SaysT fas fns tbs w K) (ex : exs K = true) : ∀ n : Nat, Cal P w K mg base (L2.CX P w) (4 + 2 * n) "list_lengths" ["items", "visible"] (spLensList (He.ga K "InvalidShape") n) := by
  have st : ∀ {n k : Nat}, 3 ≤ k → Cal P w K mg base (L2.CX P w) (k - 1) "list_lengths" ["items", "visible"] (spSub (spLensList (He.ga K "InvalidShape")) n) → Cal P w K mg base (L2.CX P w) (k + 1) "list_lengths" ["items", "visible"] (spLensList (He.ga K "InvalidShape") n) := fun hk gL =>
    cal_of X G c 13 13 (i := 94) rfl rfl (fun _ _ F => F.binds fun _ _ _ _ _ _ us hl => match us, hl with | [_, _], _ => rfl) fun _ _ F => ok_listlen F (He.free_ok X G (c.d.fact 39 (f := .free "dict") rfl)) (rulesC X G c ex hk gL)
  intro n
  induction n with
  | zero =>
    exact st (k := 3) (by decide) (cal_of X G c 13 13 (i := 94) rfl rfl (fun _ _ F => F.binds fun _ _ _ _ _ _ us hl => match us, hl with | [_, _], _ => rfl) fun _ _ F => ⟨fun _ _ _ _ z => (show False from z).elim, fun _ _ _ _ _ _ _ _ _ _ _ _ _ z => (show False from z).elim⟩)
  | succ n ih =>
    rw [show 4 + 2 * (n + 1) = 5 + 2 * n + 1 by omega]
    exact st (n := n + 1) (k := 5 + 2 * n) (by omega) (ih.mono (by omega))
theorem cCop (X : K.In h) (G : h.Ns mainGlobals mg) (c : He.SaysT fas fns tbs w K) (ex : exs K = true) : ∀ n : Nat, Cal P w K mg base (L2.CX P w) (3 + 3 * n) "copied_list" ["items", "depth"] (spCopList (He.ga K "InvalidShape") n) ∧ Cal P w K mg base (L2.CX P w) (4 + 3 * n) "copied_choices" ["choices", "depth"] (spCopChoices (He.ga K "InvalidShape") n) ∧ Cal P w K mg base (L2.CX P w) (4 + 3 * n) "copied_cases" ["cases", "depth"] (spCopCases (He.ga K "InvalidShape") n) := by
  have st : ∀ {n k : Nat}, 1 ≤ k → Cal P w K mg base (L2.CX P w) k "copied_list" ["items", "depth"] (spSub (spCopList (He.ga K "InvalidShape")) n) → Cal P w K mg base (L2.CX P w) k "copied_choices" ["choices", "depth"] (spSub (spCopChoices (He.ga K "InvalidShape")) n) → Cal P w K mg base (L2.CX P w) k "copied_cases" ["cases", "depth"] (spSub (spCopCases (He.ga K "InvalidShape")) n) →
      Cal P w K mg base (L2.CX P w) (k + 2) "copied_list" ["items", "depth"] (spCopList (He.ga K "InvalidShape") n) ∧ Cal P w K mg base (L2.CX P w) (k + 3) "copied_choices" ["choices", "depth"] (spCopChoices (He.ga K "InvalidShape") n) ∧ Cal P w K mg base (L2.CX P w) (k + 3) "copied_cases" ["cases", "depth"] (spCopCases (He.ga K "InvalidShape") n) := fun {n k} hk gL gCh gCa => by
    have gI : Cal P w K mg base (L2.CX P w) (k + 1) "copied_item" ["item", "depth"] (spCopItem (He.ga K "InvalidShape") n) := cal_of X G c 17 17 (i := 107) rfl rfl (fun _ _ F => F.binds fun _ _ _ _ _ _ us hl => match us, hl with | [_, _], _ => rfl) fun _ _ F => ok_copitem F hk (kindsC X G c ex) (cRequire X G c ex) (cIsName X G c ex) (He.free_ok X G (c.d.fact 36 (f := .free "tuple") rfl)) (He.free_ok X G (c.d.fact 31 (f := .free "isinstance") rfl)) (He.free_ok X G (c.d.fact 37 (f := .free "len") rfl)) (He.free_ok X G (c.d.fact 34 (f := .free "str") rfl)) (He.int_ok X G (c.d.fact 48 (f := .int "DEEPEST" 3) rfl)) gL gCh gCa
    have gL2 : Cal P w K mg base (L2.CX P w) (k + 2) "copied_list" ["items", "depth"] (spCopList (He.ga K "InvalidShape") n) := cal_of X G c 16 16 (i := 106) rfl rfl (fun _ _ F => F.binds fun _ _ _ _ _ _ us hl => match us, hl with | [_, _], _ => rfl) fun _ _ F => ok_coplist F (by omega) (cRequire X G c ex) (cIsRow X G c ex) (He.int_ok X G (c.d.fact 47 (f := .int "LONGEST_LIST" 12) rfl)) (He.free_ok X G (c.d.fact 36 (f := .free "tuple") rfl)) gI
    exact ⟨gL2, cal_of X G c 18 18 (i := 108) rfl rfl (fun _ _ F => F.binds fun _ _ _ _ _ _ us hl => match us, hl with | [_, _], _ => rfl) fun _ _ F => ok_copchoices F (by omega) (cRequire X G c ex) (cIsRow X G c ex) (He.free_ok X G (c.d.fact 36 (f := .free "tuple") rfl)) gL2,
      cal_of X G c 19 19 (i := 109) rfl rfl (fun _ _ F => F.binds fun _ _ _ _ _ _ us hl => match us, hl with | [_, _], _ => rfl) fun _ _ F => ok_copcases F (by omega) (cRequire X G c ex) (cIsRow X G c ex) (He.free_ok X G (c.d.fact 36 (f := .free "tuple") rfl)) (He.free_ok X G (c.d.fact 31 (f := .free "isinstance") rfl)) (He.free_ok X G (c.d.fact 37 (f := .free "len") rfl)) gL2⟩
  intro n
  induction n with
  | zero =>
    exact st (k := 1) (by decide) (cal_of X G c 16 16 (i := 106) rfl rfl (fun _ _ F => F.binds fun _ _ _ _ _ _ us hl => match us, hl with | [_, _], _ => rfl) fun _ _ F => ⟨fun _ _ _ _ z => (show False from z).elim, fun _ _ _ _ _ _ _ _ _ _ _ _ _ z => (show False from z).elim⟩)
      (cal_of X G c 18 18 (i := 108) rfl rfl (fun _ _ F => F.binds fun _ _ _ _ _ _ us hl => match us, hl with | [_, _], _ => rfl) fun _ _ F => ⟨fun _ _ _ _ z => (show False from z).elim, fun _ _ _ _ _ _ _ _ _ _ _ _ _ z => (show False from z).elim⟩)
      (cal_of X G c 19 19 (i := 109) rfl rfl (fun _ _ F => F.binds fun _ _ _ _ _ _ us hl => match us, hl with | [_, _], _ => rfl) fun _ _ F => ⟨fun _ _ _ _ z => (show False from z).elim, fun _ _ _ _ _ _ _ _ _ _ _ _ _ z => (show False from z).elim⟩)
  | succ n ih =>
    obtain ⟨i1, i2, i3⟩ := ih
    rw [show 3 + 3 * (n + 1) = 4 + 3 * n + 2 by omega, show 4 + 3 * (n + 1) = 4 + 3 * n + 3 by omega]
    exact st (n := n + 1) (k := 4 + 3 * n) (by omega) (i1.mono (by omega)) i2 i3
theorem cListed (X : K.In h) (G : h.Ns mainGlobals mg) (c : He.SaysT fas fns tbs w K) (ex : exs K = true) : ∀ n : Nat, Cal P w K mg base CX0 (2 + n) "listed" ["items", "depth"] (spListed n) := by
  have gB : Cal P w K mg base CX0 1 "blocks_of" ["item"] spBlocks := cal_of X G c 0 0 (i := 13) rfl rfl (fun _ _ F => F.binds fun _ _ _ _ _ _ us hl => match us, hl with | [_], _ => rfl) fun _ _ F => ok_blocks F (He.free_ok X G (c.d.fact 36 (f := .free "tuple") rfl))
  have st : ∀ {n k : Nat}, 1 ≤ k → Cal P w K mg base CX0 k "listed" ["items", "depth"] (spSub spListed n) → Cal P w K mg base CX0 (k + 1) "listed" ["items", "depth"] (spListed n) := fun hk gS =>
    cal_of X G c 1 1 (i := 16) rfl rfl (fun _ _ F => F.binds fun _ _ _ _ _ _ us hl => match us, hl with | [_, _], _ => rfl) fun _ _ F => ok_listed hk F gB gS
  intro n
  induction n with
  | zero => exact st (k := 1) (by decide) (cal_of X G c 1 1 (i := 16) rfl rfl (fun _ _ F => F.binds fun _ _ _ _ _ _ us hl => match us, hl with | [_, _], _ => rfl) fun _ _ F => ⟨fun _ _ _ _ z => (show False from z).elim, fun _ _ _ _ _ _ _ _ _ _ _ _ _ z => (show False from z).elim⟩)
  | succ n ih =>
    rw [show 2 + (n + 1) = 2 + n + 1 by omega]
    exact st (n := n + 1) (k := 2 + n) (by omega) ih
theorem cInit (X : K.In h) (G : h.Ns mainGlobals mg) (c : He.SaysT fas fns tbs w K) (ex : exs K = true) {f : Addr} {fdI : FuncData} (FI : Fun K "__init__" "Shape.__init__" sInit f fdI) : FnOk P w K mg base (L2.CX P w) 13 f fdI ["self", "items"] (spInit (He.ga K "InvalidShape") (He.ga K "Shape")) :=
  ok_init (k := 12) (by decide) FI (shapeC X G c ex) (cRequire X G c ex) (cCop X G c ex 3).1 ((cListed X G c ex 3).mono (by decide)) ((cLens X G c ex 3).mono (by decide)) (He.free_ok X G (c.d.fact 37 (f := .free "len") rfl)) (He.free_ok X G (c.d.fact 36 (f := .free "tuple") rfl)) (He.free_ok X G (c.d.fact 40 (f := .free "set") rfl)) (He.int_ok X G (c.d.fact 49 (f := .int "MOST_ITEMS" 30) rfl))
theorem calB (X : K.In h) (G : h.Ns mainGlobals mg) (c : He.SaysT fas fns tbs w K) (j jg : Nat) {x : Str} {i : Nat} (e : fns[j]? = some (gDef x i)) (eg : fas[jg]? = some (.glo x)) {CX : CXT} {k : Nat} {ps : List Str} {sp : Sp}
    (bn : ∀ (f : Addr) (fd : FuncData), Fun K x x (top i) f fd → Binds K fd ps []) (ok : ∀ (f : Addr) (fd : FuncData), Fun K x x (top i) f fd → FnOk P w K mg base CX k f fd ps sp) : Bm.Cal P w K mg base CX k x ps sp := ⟨(cal_of X G c j jg e eg bn ok).ex⟩
theorem noB {CX : CXT} {j k : Nat} {x : Str} {ps : List Str} {sp sq : Sp} (g : Bm.Cal P w K mg base CX j x ps sp) (no : ∀ vs H Q E, ¬ sq vs H Q E) : Bm.Cal P w K mg base CX k x ps sq := by
  obtain ⟨f, fd, h1, h2, h3, h4⟩ := g.ex
  exact ⟨f, fd, h1, h2, h3, ⟨fun _ _ _ _ z => (no _ _ _ _ z).elim, fun _ _ _ _ _ _ _ _ _ _ _ _ _ z => (no _ _ _ _ z).elim⟩⟩
theorem cS {CX : CXT} {k : Nat} {x : Str} {ps : List Str} {sp : Sp} (g : Bm.Cal P w K mg base CX k x ps sp) : Cal P w K mg base CX k x ps sp := ⟨g.ex⟩
theorem unk_binds {K : PySem.W.Frag} {cc : Addr} {kV doc pm cd ctv : Value} {an : Option Addr} : Binds K (PySem.W.fnX "__init__" "UnknownName.__init__" (defArgs sUnk) (defBody sUnk) (defScope sUnk) [(("__class__" : Str), cc)] .none kV doc pm an cd ctv) ["self", "name"] [] := .all fun us hl => match us, hl with | [_, _], _ => rfl
theorem use_binds {K : PySem.W.Frag} {cc : Addr} {kV doc pm cd ctv : Value} {an : Option Addr} : Binds K (PySem.W.fnX "__init__" "NameInUse.__init__" (defArgs sUsed) (defBody sUsed) (defScope sUsed) [(("__class__" : Str), cc)] .none kV doc pm an cd ctv) ["self", "name"] [] := .all fun us hl => match us, hl with | [_, _], _ => rfl
theorem ask_binds {K : PySem.W.Frag} {f : Addr} {fd : FuncData} (F : Fun K "ask" "Workbench.ask" sAsk f fd) : KBinds K fd ["self", "name", "word", "shapes"] ["word", "shapes"] Rj.g22 Rj.g22 := by
  obtain ⟨oc, od, kV, doc, pm, an, cdv, ct, osl, rfl, lk, hcd⟩ := F.ex
  exact Rj.kb22 fun a b c d => rfl
theorem facts (X : K.In h) (G : h.Ns mainGlobals mg) (c : He.SaysT fas fns tbs w K) (ex : exs K = true) (e4 : exs4 P.main.file K = true) (hd : Rj.defAt K (unkAt K) = unkV K) (hd2 : Rj.defAt K (useAt K) = useV K) (ht : (P.main.scope.names.lookup ("super" : Str)).isSome = false) {fa : Addr} (hfa : mg ("law" : Str) = some (.ref fa)) : ∃ fd : FuncData, (∀ (s : Shared) (v : Value), BindsTo s fd ⟨[v], []⟩ [("script", v)]) ∧ ∀ base : Heap, K.In base → base.Ns mainGlobals mg → FnOk P w K mg base CX0 21 fa fd ["script"] (Bm.spLaw K) := by
  have e := hfa.symm.trans (He.glo_ok X G (c.d.fact 23 (f := .glo "law") rfl))
  cases e
  obtain ⟨fdI, FI⟩ := c.d.def_ 21 (d := dInit) rfl
  have FI := fun_of (st := sInit) FI
  have bI : Binds K fdI ["self", "items"] [] := FI.binds fun _ _ _ _ _ _ us hl => match us, hl with | [_, _], _ => rfl
  obtain ⟨fd, FD⟩ := c.d.def_ 20 (d := gDef "law" 128) rfl
  have b := FunD.bindsA (ps := ["script"]) FD fun _ _ _ _ _ _ us hl => match us, hl with | [_], _ => rfl
  have F : Fun K "law" "law" (Bm.sLaw) (He.ga K "law") fd := fun_of FD
  refine ⟨fd, fun s v => b s [v] rfl, fun base _ _ => ?_⟩
  have gInit := cInit (P := P) (base := base) X G c ex FI
  have MS := He.mkr_ok (c.d.fact 64 (f := .mkr "Shape") rfl)
  have gSh := He.glo_ok X G (c.d.fact 24 (f := .glo "Shape") rfl)
  have T := shapeC X G c ex
  obtain ⟨u1, e4⟩ := He.ba e4
  obtain ⟨u2, e4⟩ := He.ba e4
  obtain ⟨u3, e4⟩ := He.ba e4
  obtain ⟨u4, e4⟩ := He.ba e4
  obtain ⟨u5, e4⟩ := He.ba e4
  obtain ⟨u6, e4⟩ := He.ba e4
  obtain ⟨u7, e4⟩ := He.ba e4
  obtain ⟨u8, e4⟩ := He.ba e4
  obtain ⟨w1, e4⟩ := He.ba e4
  obtain ⟨w2, e4⟩ := He.ba e4
  obtain ⟨w3, e4⟩ := He.ba e4
  obtain ⟨w4, e4⟩ := He.ba e4
  obtain ⟨w5, e4⟩ := He.ba e4
  obtain ⟨w6, e4⟩ := He.ba e4
  obtain ⟨w7, e4⟩ := He.ba e4
  obtain ⟨w8, e4⟩ := He.ba e4
  obtain ⟨x1, e4⟩ := He.ba e4
  obtain ⟨x2, e4⟩ := He.ba e4
  obtain ⟨x3, x4⟩ := He.ba e4
  obtain ⟨oc, od, osl, kV, doc, pm, an, ctv, lk⟩ := Rj.defAt_ok hd u3
  obtain ⟨oc2, od2, osl2, kV2, doc2, pm2, an2, ctv2, lk2⟩ := Rj.defAt_ok hd2 w3
  obtain ⟨fdM0, FM0⟩ := c.d.def_ 42 (d := dM0) rfl
  have FM0 := fun_of (st := sRow) FM0
  obtain ⟨fdM1, FM1⟩ := c.d.def_ 43 (d := dM1) rfl
  have FM1 := fun_of (st := sWithItem) FM1
  obtain ⟨fdM2, FM2⟩ := c.d.def_ 44 (d := dM2) rfl
  have FM2 := fun_of (st := sWithout) FM2
  obtain ⟨fdM3, FM3⟩ := c.d.def_ 45 (d := dM3) rfl
  have FM3 := fun_of (st := sBInit) FM3
  obtain ⟨fdM4, FM4⟩ := c.d.def_ 46 (d := dM4) rfl
  have FM4 := fun_of (st := sWithEntry) FM4
  obtain ⟨fdM5, FM5⟩ := c.d.def_ 47 (d := dM5) rfl
  have FM5 := fun_of (st := sWithoutS) FM5
  obtain ⟨fdM6, FM6⟩ := c.d.def_ 48 (d := dM6) rfl
  have FM6 := fun_of (st := sWithQ) FM6
  obtain ⟨fdM7, FM7⟩ := c.d.def_ 49 (d := dM7) rfl
  have FM7 := fun_of (st := sWithoutQ) FM7
  obtain ⟨fdM8, FM8⟩ := c.d.def_ 50 (d := dM8) rfl
  have FM8 := fun_of (st := sWInit) FM8
  obtain ⟨fdM9, FM9⟩ := c.d.def_ 51 (d := dM9) rfl
  have FM9 := fun_of (st := sSetShape) FM9
  obtain ⟨fdM10, FM10⟩ := c.d.def_ 52 (d := dM10) rfl
  have FM10 := fun_of (st := sRemoveShape) FM10
  obtain ⟨fdM11, FM11⟩ := c.d.def_ 53 (d := dM11) rfl
  have FM11 := fun_of (st := sReplaceItem) FM11
  obtain ⟨fdM12, FM12⟩ := c.d.def_ 54 (d := dM12) rfl
  have FM12 := fun_of (st := sRemoveItem) FM12
  obtain ⟨fdM13, FM13⟩ := c.d.def_ 55 (d := dM13) rfl
  have FM13 := fun_of (st := sAsk) FM13
  obtain ⟨fdM14, FM14⟩ := c.d.def_ 56 (d := dM14) rfl
  have FM14 := fun_of (st := sDrop) FM14
  obtain ⟨fdM15, FM15⟩ := c.d.def_ 57 (d := dM15) rfl
  have FM15 := fun_of (st := sChangeAll) FM15
  obtain ⟨fdM16, FM16⟩ := c.d.def_ 58 (d := dM16) rfl
  have FM16 := fun_of (st := sShapeNames) FM16
  obtain ⟨fdM17, FM17⟩ := c.d.def_ 59 (d := dM17) rfl
  have FM17 := fun_of (st := sQuestionNames) FM17
  obtain ⟨fdM18, FM18⟩ := c.d.def_ 60 (d := dM18) rfl
  have FM18 := fun_of (st := sShapeOf) FM18
  obtain ⟨fdM19, FM19⟩ := c.d.def_ 61 (d := dM19) rfl
  have FM19 := fun_of (st := sQuestionOf) FM19
  obtain ⟨fdM20, FM20⟩ := c.d.def_ 62 (d := dM20) rfl
  have FM20 := fun_of (st := sBoard) FM20
  obtain ⟨fdM21, FM21⟩ := c.d.def_ 63 (d := dM21) rfl
  have FM21 := fun_of (st := sBehind) FM21
  obtain ⟨fdM22, FM22⟩ := c.d.def_ 64 (d := dM22) rfl
  have FM22 := fun_of (st := sWithShape) FM22
  obtain ⟨fdM23, FM23⟩ := c.d.def_ 65 (d := dM23) rfl
  have FM23 := fun_of (st := sUndo) FM23
  obtain ⟨fdM24, FM24⟩ := c.d.def_ 66 (d := dM24) rfl
  have FM24 := fun_of (st := sRedo) FM24
  have GU := ok_unk (P := P) (w := w) (mg := mg) (base := base) lk u7 (Rj.supB_ok rfl ht u8) (Rj.oexB_ok u2) (He.free_ok X G (c.d.fact 129 (f := .free "super") rfl)) (He.eqO_ok u6)
  have U : UnkC K mg (He.ga K "UnknownName") (unkAt K) := ⟨Rj.oexB_ok u2, (He.glo_ok X G (c.d.fact 87 (f := .glo "UnknownName") rfl)), He.eqO_ok u5, of_decide_eq_true u4⟩
  have GN := ok_used (P := P) (w := w) (mg := mg) (base := base) lk2 w7 (Rj.supB_ok rfl ht w8) (Rj.oexB_ok w2) (He.free_ok X G (c.d.fact 129 (f := .free "super") rfl)) (He.eqO_ok w6)
  have UN : UsedC K mg (He.ga K "NameInUse") (useAt K) := ⟨Rj.oexB_ok w2, (He.glo_ok X G (c.d.fact 88 (f := .glo "NameInUse") rfl)), He.eqO_ok w5, of_decide_eq_true w4⟩
  have QC : QstC K mg (He.ga K "InvalidQuestion") := by
    obtain ⟨h1, h2, h3, h4⟩ := He.exc_ok (c.d.fact 128 (f := .exc "InvalidQuestion") rfl)
    exact ⟨(He.glo_ok X G (c.d.fact 89 (f := .glo "InvalidQuestion") rfl)), h2, h1, h3, h4⟩
  have WC : WordsC K w mg := by
    obtain ⟨es, n, D⟩ := c.tab 2 (t := (fun K => He.ga K "WORDS", wordsT.map (·.1))) rfl
    refine ⟨_, es, n, (He.glo_ok X G (c.d.fact 92 (f := .glo "WORDS") rfl)), D, fun z hz => ?_⟩
    have f : ∀ (z : Str) (i : Int), (z, He.Dv.int i) ∈ wordsT → ∃ t, PySem.W.nsIn K (He.ga K "WORDS") z = some (some (.int i t)) := fun z i hz => by
      obtain ⟨u, e, r⟩ := He.valsB_ok x1 hz
      obtain ⟨t, rfl⟩ := (show ∃ t, u = Value.int i t from r)
      exact ⟨t, e⟩
    simp only [qWords, List.mem_cons, List.not_mem_nil, or_false] at hz
    rcases hz with rfl | rfl | rfl | rfl | rfl | rfl
    · rw [show wordOf "ways" = some 1 by decide +kernel]; exact f "ways" 1 (.head _)
    · rw [show wordOf "shortest" = some 1 by decide +kernel]; exact f "shortest" 1 (.tail _ (.head _))
    · rw [show wordOf "longest" = some 1 by decide +kernel]; exact f "longest" 1 (.tail _ (.tail _ (.head _)))
    · rw [show wordOf "covers" = some 2 by decide +kernel]; exact f "covers" 2 (.tail _ (.tail _ (.tail _ (.head _))))
    · rw [show wordOf "same" = some 2 by decide +kernel]; exact f "same" 2 (.tail _ (.tail _ (.tail _ (.tail _ (.head _)))))
    · rw [show wordOf "way" = none by decide +kernel]; exact He.eqO_ok x2
  have xf : ∀ {D : Addr}, excB K D = true → XfC K D := fun {D} h => by
    obtain ⟨v1, r⟩ := He.ba h
    obtain ⟨v2, r⟩ := He.ba r
    obtain ⟨v3, r⟩ := He.ba r
    obtain ⟨v4, r⟩ := He.ba r
    exact ⟨He.eqO_ok v1, He.eqO_ok v2, of_decide_eq_true v3, v4⟩
  have EC : ErrC K mg (He.ga K "UnknownName") (He.ga K "NameInUse") (He.ga K "InvalidShape") (He.ga K "InvalidQuestion") := ⟨(He.glo_ok X G (c.d.fact 87 (f := .glo "UnknownName") rfl)), (He.glo_ok X G (c.d.fact 88 (f := .glo "NameInUse") rfl)), He.glo_ok X G (c.d.fact 25 (f := .glo "InvalidShape") rfl), (He.glo_ok X G (c.d.fact 89 (f := .glo "InvalidQuestion") rfl)), xf u1, xf w1, He.eqO_ok u6, He.eqO_ok w6, He.exm_ok (c.d.fact 137 (f := .exm "UnknownName" "UnknownName" true) rfl), He.exm_ok (c.d.fact 138 (f := .exm "NameInUse" "UnknownName" false) rfl), He.exm_ok (c.d.fact 139 (f := .exm "NameInUse" "NameInUse" true) rfl), He.exm_ok (c.d.fact 140 (f := .exm "InvalidShape" "UnknownName" false) rfl), He.exm_ok (c.d.fact 141 (f := .exm "InvalidShape" "NameInUse" false) rfl), He.exm_ok (c.d.fact 66 (f := .exm "InvalidShape" "InvalidShape" true) rfl), He.exm_ok (c.d.fact 142 (f := .exm "InvalidQuestion" "UnknownName" false) rfl), He.exm_ok (c.d.fact 143 (f := .exm "InvalidQuestion" "NameInUse" false) rfl), He.exm_ok (c.d.fact 144 (f := .exm "InvalidQuestion" "InvalidShape" false) rfl), He.exm_ok (c.d.fact 145 (f := .exm "InvalidQuestion" "InvalidQuestion" true) rfl)⟩
  have TB : BoardC K (He.ga K "Board") := ⟨He.cls_ok (c.d.fact 116 (f := .cls "Board") rfl), He.noat_ok (c.d.fact 118 (f := .noat "Board" "shapes") rfl), He.noat_ok (c.d.fact 119 (f := .noat "Board" "questions") rfl)⟩
  have W : WbC K (He.ga K "Workbench") (He.ga K "Board") (He.ga K "Shape") := ⟨He.cls_ok (c.d.fact 117 (f := .cls "Workbench") rfl), fun g hg => ?_, of_decide_eq_true x3, of_decide_eq_true x4⟩
  rotate_left
  · simp only [fldW, List.mem_cons, List.not_mem_nil, or_false] at hg
    rcases hg with rfl | rfl | rfl | rfl | rfl | rfl
    · exact He.noat_ok (c.d.fact 120 (f := .noat "Workbench" "decided") rfl)
    · exact He.noat_ok (c.d.fact 121 (f := .noat "Workbench" "kept") rfl)
    · exact He.noat_ok (c.d.fact 122 (f := .noat "Workbench" "_boards") rfl)
    · exact He.noat_ok (c.d.fact 123 (f := .noat "Workbench" "_at") rfl)
    · exact He.noat_ok (c.d.fact 124 (f := .noat "Workbench" "_entries") rfl)
    · exact He.noat_ok (c.d.fact 125 (f := .noat "Workbench" "_known") rfl)
  have gWb : Cal P w K mg base CX0 1 "with_blocks" ["item", "blocks"] (spWithB) := cS (calB X G c 25 70 (i := 14) rfl rfl (fun _ _ F => F.binds fun _ _ _ _ _ _ us hl => match us, hl with | [_, _], _ => rfl) fun _ _ F => ok_withb F (He.free_ok X G (c.d.fact 36 (f := .free "tuple") rfl)) (He.free_ok X G (c.d.fact 130 (f := .free "zip") rfl)))
  have gBo : Cal P w K mg base CX0 1 "blocks_of" ["item"] spBlocks := cal_of X G c 0 0 (i := 13) rfl rfl (fun _ _ F => F.binds fun _ _ _ _ _ _ us hl => match us, hl with | [_], _ => rfl) fun _ _ F => ok_blocks F (He.free_ok X G (c.d.fact 36 (f := .free "tuple") rfl))
  have gEx : Cal P w K mg base CX0 1 "edited" ["items", "name", "made"] (spSub spEdited 0) := cS (calB X G c 26 71 (i := 17) rfl rfl (fun _ _ F => F.binds fun _ _ _ _ _ _ us hl => match us, hl with | [_, _, _], _ => rfl) fun _ _ F => ⟨fun _ _ _ _ z => z.elim, fun _ _ _ _ _ _ _ _ _ _ _ _ _ z => z.elim⟩)
  have gE0 : Cal P w K mg base CX0 2 "edited" ["items", "name", "made"] (spEdited 0) := cS (calB X G c 26 71 (i := 17) rfl rfl (fun _ _ F => F.binds fun _ _ _ _ _ _ us hl => match us, hl with | [_, _, _], _ => rfl) fun _ _ F => ok_edited (n := 0) (k := 1) (by decide) F gWb gBo gEx (He.free_ok X G (c.d.fact 36 (f := .free "tuple") rfl)))
  have gEp1 : Cal P w K mg base CX0 2 "edited" ["items", "name", "made"] (spSub spEdited 1) := gE0
  have gE1 : Cal P w K mg base CX0 3 "edited" ["items", "name", "made"] (spEdited 1) := cS (calB X G c 26 71 (i := 17) rfl rfl (fun _ _ F => F.binds fun _ _ _ _ _ _ us hl => match us, hl with | [_, _, _], _ => rfl) fun _ _ F => ok_edited (n := 1) (k := 2) (by decide) F gWb gBo gEp1 (He.free_ok X G (c.d.fact 36 (f := .free "tuple") rfl)))
  have gEp2 : Cal P w K mg base CX0 3 "edited" ["items", "name", "made"] (spSub spEdited 2) := gE1
  have gE2 : Cal P w K mg base CX0 4 "edited" ["items", "name", "made"] (spEdited 2) := cS (calB X G c 26 71 (i := 17) rfl rfl (fun _ _ F => F.binds fun _ _ _ _ _ _ us hl => match us, hl with | [_, _, _], _ => rfl) fun _ _ F => ok_edited (n := 2) (k := 3) (by decide) F gWb gBo gEp2 (He.free_ok X G (c.d.fact 36 (f := .free "tuple") rfl)))
  have gEp3 : Cal P w K mg base CX0 4 "edited" ["items", "name", "made"] (spSub spEdited 3) := gE2
  have gE3 : Cal P w K mg base CX0 5 "edited" ["items", "name", "made"] (spEdited 3) := cS (calB X G c 26 71 (i := 17) rfl rfl (fun _ _ F => F.binds fun _ _ _ _ _ _ us hl => match us, hl with | [_, _, _], _ => rfl) fun _ _ F => ok_edited (n := 3) (k := 4) (by decide) F gWb gBo gEp3 (He.free_ok X G (c.d.fact 36 (f := .free "tuple") rfl)))
  have GR := ok_row FM0 T U GU unk_binds
  have bR : Binds K fdM0 ["self", "name"] [] := (FM0.binds fun _ _ _ _ _ _ us hl => match us, hl with | [_, _], _ => rfl)
  have mI : Mt P w K mg base (L2.CX P w) 15 (He.ga K "Shape") "with_item" ["self", "name", "item"] (spWithItem (He.ga K "InvalidShape") (He.ga K "UnknownName") (He.ga K "Shape")) := ⟨_, _, (He.meth_ok (c.d.fact 94 (f := .meth "Shape" "with_item") rfl)), ok_withitem (k := 13) (by decide) FM1 T (He.meth_ok (c.d.fact 93 (f := .meth "Shape" "_row") rfl)) GR bR (gE3.mono (by decide)) MS gInit bI gSh, (FM1.binds fun _ _ _ _ _ _ us hl => match us, hl with | [_, _, _], _ => rfl)⟩
  have mO : Mt P w K mg base (L2.CX P w) 15 (He.ga K "Shape") "without_item" ["self", "name"] (spWithout (He.ga K "InvalidShape") (He.ga K "UnknownName") (He.ga K "Shape")) := ⟨_, _, (He.meth_ok (c.d.fact 95 (f := .meth "Shape" "without_item") rfl)), ok_without (k := 13) (by decide) FM2 T (He.meth_ok (c.d.fact 93 (f := .meth "Shape" "_row") rfl)) GR bR (gE3.mono (by decide)) MS gInit bI gSh, (FM2.binds fun _ _ _ _ _ _ us hl => match us, hl with | [_, _], _ => rfl)⟩
  have gNa : Cal P w K mg base (L2.CX P w) 3 "named" ["table", "name"] (spNamed (He.ga K "UnknownName")) := cS (calB X G c 27 72 (i := 71) rfl rfl (fun _ _ F => F.binds fun _ _ _ _ _ _ us hl => match us, hl with | [_, _], _ => rfl) fun _ _ F => ok_named F U GU unk_binds)
  have gWt : Cal P w K mg base (L2.CX P w) 4 "without" ["table", "name"] (spWithoutT (He.ga K "UnknownName")) := cS (calB X G c 28 73 (i := 72) rfl rfl (fun _ _ F => F.binds fun _ _ _ _ _ _ us hl => match us, hl with | [_, _], _ => rfl) fun _ _ F => ok_withoutT F gNa)
  have MB := He.mkr_ok (c.d.fact 126 (f := .mkr "Board") rfl)
  have gBd := (He.glo_ok X G (c.d.fact 90 (f := .glo "Board") rfl))
  have GBI := ok_binit (P := P) (w := w) (mg := mg) (base := base) FM3 TB
  have bBI : Binds K fdM3 ["self", "shapes", "questions"] [] := (FM3.binds fun _ _ _ _ _ _ us hl => match us, hl with | [_, _, _], _ => rfl)
  have mWE : Mt P w K mg base CX0 3 (He.ga K "Board") "with_entry" ["self", "name", "entry"] (spWithEntry (He.ga K "Board") (He.ga K "Shape")) := ⟨_, _, (He.meth_ok (c.d.fact 96 (f := .meth "Board" "with_entry") rfl)), ok_withentry FM4 TB MB GBI bBI gBd, (FM4.binds fun _ _ _ _ _ _ us hl => match us, hl with | [_, _, _], _ => rfl)⟩
  have mWoS : Mt P w K mg base (L2.CX P w) 5 (He.ga K "Board") "without_shape" ["self", "name"] (spWoShape (He.ga K "Board") (He.ga K "Shape") (He.ga K "UnknownName") (He.ga K "NameInUse") (He.ga K "InvalidShape") (He.ga K "InvalidQuestion")) := ⟨_, _, (He.meth_ok (c.d.fact 97 (f := .meth "Board" "without_shape") rfl)), ok_woshape FM5 TB MB GBI bBI gBd UN GN use_binds gWt (He.free_ok X G (c.d.fact 131 (f := .free "any") rfl)), (FM5.binds fun _ _ _ _ _ _ us hl => match us, hl with | [_, _], _ => rfl)⟩
  have mWQ : Mt P w K mg base (L2.CX P w) 5 (He.ga K "Board") "with_question" ["self", "name", "word", "names"] (spWQuest (He.ga K "Board") (He.ga K "Shape") (He.ga K "UnknownName") (He.ga K "NameInUse") (He.ga K "InvalidShape") (He.ga K "InvalidQuestion")) := ⟨_, _, (He.meth_ok (c.d.fact 98 (f := .meth "Board" "with_question") rfl)), ok_wquest FM6 TB MB GBI bBI gBd U GU unk_binds QC WC gNa (He.free_ok X G (c.d.fact 37 (f := .free "len") rfl)) (He.free_ok X G (c.d.fact 36 (f := .free "tuple") rfl)), (FM6.binds fun _ _ _ _ _ _ us hl => match us, hl with | [_, _, _, _], _ => rfl)⟩
  have mWoQ : Mt P w K mg base (L2.CX P w) 5 (He.ga K "Board") "without_question" ["self", "name"] (spWoQuest (He.ga K "Board") (He.ga K "Shape") (He.ga K "UnknownName") (He.ga K "NameInUse") (He.ga K "InvalidShape") (He.ga K "InvalidQuestion")) := ⟨_, _, (He.meth_ok (c.d.fact 99 (f := .meth "Board" "without_question") rfl)), ok_woquest FM7 TB MB GBI bBI gBd gWt, (FM7.binds fun _ _ _ _ _ _ us hl => match us, hl with | [_, _], _ => rfl)⟩
  have mWS : Mt P w K mg base CX0 4 (He.ga K "Workbench") "_with_shape" ["self", "board", "name", "shape"] (spWithShape (He.ga K "Workbench") (He.ga K "Board") (He.ga K "Shape")) := ⟨_, _, (He.meth_ok (c.d.fact 113 (f := .meth "Workbench" "_with_shape") rfl)), ok_withshape FM22 TB W mWE, (FM22.binds fun _ _ _ _ _ _ us hl => match us, hl with | [_, _, _, _], _ => rfl)⟩
  have mBh : Mt P w K mg base (L2.CX P w) 16 (He.ga K "Workbench") "_behind" ["self", "board", "change"] (spBehind (He.ga K "Workbench") (He.ga K "Board") (He.ga K "Shape") (He.ga K "UnknownName") (He.ga K "NameInUse") (He.ga K "InvalidShape") (He.ga K "InvalidQuestion")) := ⟨_, _, (He.meth_ok (c.d.fact 112 (f := .meth "Workbench" "_behind") rfl)), ok_behind (k := 15) (by decide) FM21 TB T W mWS mWoS mWQ mWoQ mI mO gNa, (FM21.binds fun _ _ _ _ _ _ us hl => match us, hl with | [_, _, _], _ => rfl)⟩
  have mBo : Mt P w K mg base CX0 1 (He.ga K "Workbench") "_board" ["self"] (spBoard (He.ga K "Workbench") (He.ga K "Board") (He.ga K "Shape")) := ⟨_, _, (He.meth_ok (c.d.fact 111 (f := .meth "Workbench" "_board") rfl)), ok_board FM20 W, (FM20.binds fun _ _ _ _ _ _ us hl => match us, hl with | [_], _ => rfl)⟩
  have mBoR : Mt P w K mg base CX0 1 (He.ga K "Workbench") "_board" ["self"] (spBoardR (He.ga K "Workbench") (He.ga K "Board") (He.ga K "Shape")) := ⟨_, _, (He.meth_ok (c.d.fact 111 (f := .meth "Workbench" "_board") rfl)), ok_boardR FM20 W, (FM20.binds fun _ _ _ _ _ _ us hl => match us, hl with | [_], _ => rfl)⟩
  have mCA : Mt P w K mg base (L2.CX P w) 17 (He.ga K "Workbench") "change_all" ["self", "changes"] (spChangeAll (He.ga K "Workbench") (He.ga K "Board") (He.ga K "Shape") (He.ga K "UnknownName") (He.ga K "NameInUse") (He.ga K "InvalidShape") (He.ga K "InvalidQuestion")) := ⟨_, _, (He.meth_ok (c.d.fact 106 (f := .meth "Workbench" "change_all") rfl)), ok_changeall (k := 16) (by decide) FM15 W mBo mBh (He.free_ok X G (c.d.fact 37 (f := .free "len") rfl)), (FM15.binds fun _ _ _ _ _ _ us hl => match us, hl with | [_, _], _ => rfl)⟩
  have mD0 : Mt P w K mg base (L2.CX P w) 18 (He.ga K "Workbench") "set_shape" ["self", "name", "shape"] (spDo (He.ga K "Workbench") (He.ga K "Board") (He.ga K "Shape") (He.ga K "UnknownName") (He.ga K "NameInUse") (He.ga K "InvalidShape") (He.ga K "InvalidQuestion") 0) := ⟨_, _, (He.meth_ok (c.d.fact 100 (f := .meth "Workbench" "set_shape") rfl)), ok_set_shape (k := 17) FM9 W mCA, (FM9.binds fun _ _ _ _ _ _ us hl => match us, hl with | [_, _, _], _ => rfl)⟩
  have mD1 : Mt P w K mg base (L2.CX P w) 18 (He.ga K "Workbench") "remove_shape" ["self", "name"] (spDo (He.ga K "Workbench") (He.ga K "Board") (He.ga K "Shape") (He.ga K "UnknownName") (He.ga K "NameInUse") (He.ga K "InvalidShape") (He.ga K "InvalidQuestion") 1) := ⟨_, _, (He.meth_ok (c.d.fact 101 (f := .meth "Workbench" "remove_shape") rfl)), ok_remove_shape (k := 17) FM10 W mCA, (FM10.binds fun _ _ _ _ _ _ us hl => match us, hl with | [_, _], _ => rfl)⟩
  have mD2 : Mt P w K mg base (L2.CX P w) 18 (He.ga K "Workbench") "replace_item" ["self", "name", "item_name", "item"] (spDo (He.ga K "Workbench") (He.ga K "Board") (He.ga K "Shape") (He.ga K "UnknownName") (He.ga K "NameInUse") (He.ga K "InvalidShape") (He.ga K "InvalidQuestion") 2) := ⟨_, _, (He.meth_ok (c.d.fact 102 (f := .meth "Workbench" "replace_item") rfl)), ok_replace_item (k := 17) FM11 W mCA, (FM11.binds fun _ _ _ _ _ _ us hl => match us, hl with | [_, _, _, _], _ => rfl)⟩
  have mD3 : Mt P w K mg base (L2.CX P w) 18 (He.ga K "Workbench") "remove_item" ["self", "name", "item_name"] (spDo (He.ga K "Workbench") (He.ga K "Board") (He.ga K "Shape") (He.ga K "UnknownName") (He.ga K "NameInUse") (He.ga K "InvalidShape") (He.ga K "InvalidQuestion") 3) := ⟨_, _, (He.meth_ok (c.d.fact 103 (f := .meth "Workbench" "remove_item") rfl)), ok_remove_item (k := 17) FM12 W mCA, (FM12.binds fun _ _ _ _ _ _ us hl => match us, hl with | [_, _, _], _ => rfl)⟩
  have mD4 : MtK P w K mg base (L2.CX P w) 18 (He.ga K "Workbench") "ask" ["self", "name", "word", "shapes"] ["word", "shapes"] (spDo (He.ga K "Workbench") (He.ga K "Board") (He.ga K "Shape") (He.ga K "UnknownName") (He.ga K "NameInUse") (He.ga K "InvalidShape") (He.ga K "InvalidQuestion") 4) := ⟨_, _, (He.meth_ok (c.d.fact 104 (f := .meth "Workbench" "ask") rfl)), ok_ask (k := 17) FM13 W mCA, ask_binds FM13⟩
  have mD5 : Mt P w K mg base (L2.CX P w) 18 (He.ga K "Workbench") "drop" ["self", "name"] (spDo (He.ga K "Workbench") (He.ga K "Board") (He.ga K "Shape") (He.ga K "UnknownName") (He.ga K "NameInUse") (He.ga K "InvalidShape") (He.ga K "InvalidQuestion") 5) := ⟨_, _, (He.meth_ok (c.d.fact 105 (f := .meth "Workbench" "drop") rfl)), ok_drop (k := 17) FM14 W mCA, (FM14.binds fun _ _ _ _ _ _ us hl => match us, hl with | [_, _], _ => rfl)⟩
  have mSN : Mt P w K mg base CX0 2 (He.ga K "Workbench") "shape_names" ["self"] (spNamesS (He.ga K "Workbench") (He.ga K "Board") (He.ga K "Shape") fun b => b.sh.map (·.1)) := ⟨_, _, (He.meth_ok (c.d.fact 107 (f := .meth "Workbench" "shape_names") rfl)), ok_snames FM16 TB W mBo (He.free_ok X G (c.d.fact 132 (f := .free "sorted") rfl)), (FM16.binds fun _ _ _ _ _ _ us hl => match us, hl with | [_], _ => rfl)⟩
  have mQN : Mt P w K mg base CX0 2 (He.ga K "Workbench") "question_names" ["self"] (spNamesS (He.ga K "Workbench") (He.ga K "Board") (He.ga K "Shape") fun b => b.qs.map (·.1)) := ⟨_, _, (He.meth_ok (c.d.fact 108 (f := .meth "Workbench" "question_names") rfl)), ok_qnames FM17 TB W mBo (He.free_ok X G (c.d.fact 132 (f := .free "sorted") rfl)), (FM17.binds fun _ _ _ _ _ _ us hl => match us, hl with | [_], _ => rfl)⟩
  have mSh : Mt P w K mg base (L2.CX P w) 4 (He.ga K "Workbench") "shape" ["self", "name"] (spShapeOf (He.ga K "Workbench") (He.ga K "Board") (He.ga K "Shape") (He.ga K "UnknownName")) := ⟨_, _, (He.meth_ok (c.d.fact 109 (f := .meth "Workbench" "shape") rfl)), ok_shapeof FM18 TB W mBoR gNa, (FM18.binds fun _ _ _ _ _ _ us hl => match us, hl with | [_, _], _ => rfl)⟩
  have mQu : Mt P w K mg base (L2.CX P w) 4 (He.ga K "Workbench") "question" ["self", "name"] (spQuestionOf (He.ga K "Workbench") (He.ga K "Board") (He.ga K "Shape") (He.ga K "UnknownName")) := ⟨_, _, (He.meth_ok (c.d.fact 110 (f := .meth "Workbench" "question") rfl)), ok_questionof FM19 TB W mBoR gNa, (FM19.binds fun _ _ _ _ _ _ us hl => match us, hl with | [_, _], _ => rfl)⟩
  have gRowB : Bm.Cal P w K mg base CX0 1 "_law_row" ["cell", "many"] (Bm.spRow) := calB X G c 22 67 (i := 112) rfl rfl (fun _ _ F => F.binds fun _ _ _ _ _ _ us hl => match us, hl with | [_, _], _ => rfl) fun _ _ F => Bm.ok_row F (He.free_ok X G (c.d.fact 44 (f := .free "abs") rfl)) (He.free_ok X G (c.d.fact 32 (f := .free "int") rfl)) (He.free_ok X G (c.d.fact 43 (f := .free "range") rfl))
  have gNum : Cal P w K mg base CX0 2 "_law_numbers" ["script", "many"] (Bm.spNums 240 K) := cS (calB X G c 23 68 (i := 113) rfl rfl (fun _ _ F => F.binds fun _ _ _ _ _ _ us hl => match us, hl with | [_, _], _ => rfl) fun _ _ F => Bm.ok_nums (k := 1) (by decide) F gRowB (He.free_ok X G (c.d.fact 42 (f := .free "max") rfl)) (He.free_ok X G (c.d.fact 37 (f := .free "len") rfl)))
  have gNam : Cal P w K mg base CX0 1 "_law_names" ["number", "many"] (Bm.spNames) := cS (calB X G c 24 69 (i := 114) rfl rfl (fun _ _ F => F.binds fun _ _ _ _ _ _ us hl => match us, hl with | [_, _], _ => rfl) fun _ _ F => Bm.ok_names F (He.free_ok X G (c.d.fact 37 (f := .free "len") rfl)) (He.free_ok X G (c.d.fact 43 (f := .free "range") rfl)) (He.free_ok X G (c.d.fact 32 (f := .free "int") rfl)) (He.free_ok X G (c.d.fact 41 (f := .free "min") rfl)))
  have gSm : Cal P w K mg base CX0 1 "_law_small" ["row"] (spSmall) := cS (calB X G c 29 74 (i := 115) rfl rfl (fun _ _ F => F.binds fun _ _ _ _ _ _ us hl => match us, hl with | [_], _ => rfl) fun _ _ F => ok_small F (He.free_ok X G (c.d.fact 43 (f := .free "range") rfl)) (He.free_ok X G (c.d.fact 34 (f := .free "str") rfl)) (He.free_ok X G (c.d.fact 36 (f := .free "tuple") rfl)))
  have gNw : Cal P w K mg base CX0 1 "_law_new" ["number", "name"] (spNew) := cS (calB X G c 30 75 (i := 116) rfl rfl (fun _ _ F => F.binds fun _ _ _ _ _ _ us hl => match us, hl with | [_, _], _ => rfl) fun _ _ F => ok_new F (He.free_ok X G (c.d.fact 32 (f := .free "int") rfl)))
  have gWo : Cal P w K mg base CX0 2 "_law_words" ["numbers", "at", "many", "names"] (spWords) := cS (calB X G c 31 76 (i := 117) rfl rfl (fun _ _ F => F.binds fun _ _ _ _ _ _ us hl => match us, hl with | [_, _, _, _], _ => rfl) fun _ _ F => ok_words F gSm gNw (He.free_ok X G (c.d.fact 43 (f := .free "range") rfl)) (He.free_ok X G (c.d.fact 32 (f := .free "int") rfl)))
  have gNiX : Cal P w K mg base CX0 0 "_law_names_in" ["parts"] (spSub spNamesIn 0) := cS (calB X G c 32 77 (i := 118) rfl rfl (fun _ _ F => F.binds fun _ _ _ _ _ _ us hl => match us, hl with | [_], _ => rfl) fun _ _ F => ⟨fun _ _ _ _ z => z.elim, fun _ _ _ _ _ _ _ _ _ _ _ _ _ z => z.elim⟩)
  have gNi0 : Cal P w K mg base CX0 1 "_law_names_in" ["parts"] (spNamesIn 0) := cS (calB X G c 32 77 (i := 118) rfl rfl (fun _ _ F => F.binds fun _ _ _ _ _ _ us hl => match us, hl with | [_], _ => rfl) fun _ _ F => ok_namesin (n := 0) F gNiX)
  have gNi0p : Cal P w K mg base CX0 1 "_law_names_in" ["parts"] (spSub spNamesIn 1) := gNi0
  have gNi1 : Cal P w K mg base CX0 2 "_law_names_in" ["parts"] (spNamesIn 1) := cS (calB X G c 32 77 (i := 118) rfl rfl (fun _ _ F => F.binds fun _ _ _ _ _ _ us hl => match us, hl with | [_], _ => rfl) fun _ _ F => ok_namesin (n := 1) F gNi0p)
  have gLeX : Cal P w K mg base CX0 0 "_law_edited" ["parts", "name", "others"] (spSub spLEdited 0) := cS (calB X G c 33 78 (i := 119) rfl rfl (fun _ _ F => F.binds fun _ _ _ _ _ _ us hl => match us, hl with | [_, _, _], _ => rfl) fun _ _ F => ⟨fun _ _ _ _ z => z.elim, fun _ _ _ _ _ _ _ _ _ _ _ _ _ z => z.elim⟩)
  have gLe0 : Cal P w K mg base CX0 1 "_law_edited" ["parts", "name", "others"] (spLEdited 0) := cS (calB X G c 33 78 (i := 119) rfl rfl (fun _ _ F => F.binds fun _ _ _ _ _ _ us hl => match us, hl with | [_, _, _], _ => rfl) fun _ _ F => ok_ledited (n := 0) F gLeX (He.free_ok X G (c.d.fact 36 (f := .free "tuple") rfl)))
  have gLe0p : Cal P w K mg base CX0 1 "_law_edited" ["parts", "name", "others"] (spSub spLEdited 1) := gLe0
  have gLe1 : Cal P w K mg base CX0 2 "_law_edited" ["parts", "name", "others"] (spLEdited 1) := cS (calB X G c 33 78 (i := 119) rfl rfl (fun _ _ F => F.binds fun _ _ _ _ _ _ us hl => match us, hl with | [_, _, _], _ => rfl) fun _ _ F => ok_ledited (n := 1) F gLe0p (He.free_ok X G (c.d.fact 36 (f := .free "tuple") rfl)))
  have gLvX : Cal P w K mg base CX0 1 "_law_valid" ["parts"] (spSub spLValid 0) := cS (calB X G c 34 79 (i := 120) rfl rfl (fun _ _ F => F.binds fun _ _ _ _ _ _ us hl => match us, hl with | [_], _ => rfl) fun _ _ F => ⟨fun _ _ _ _ z => z.elim, fun _ _ _ _ _ _ _ _ _ _ _ _ _ z => z.elim⟩)
  have gLv0 : Cal P w K mg base CX0 2 "_law_valid" ["parts"] (spLValid 0) := cS (calB X G c 34 79 (i := 120) rfl rfl (fun _ _ F => F.binds fun _ _ _ _ _ _ us hl => match us, hl with | [_], _ => rfl) fun _ _ F => ok_lvalid (n := 0) (k := 1) (by decide) F gLvX gNi0 (He.free_ok X G (c.d.fact 43 (f := .free "range") rfl)) (He.free_ok X G (c.d.fact 37 (f := .free "len") rfl)))
  have gLv0p : Cal P w K mg base CX0 2 "_law_valid" ["parts"] (spSub spLValid 1) := gLv0
  have gLv1 : Cal P w K mg base CX0 3 "_law_valid" ["parts"] (spLValid 1) := cS (calB X G c 34 79 (i := 120) rfl rfl (fun _ _ F => F.binds fun _ _ _ _ _ _ us hl => match us, hl with | [_], _ => rfl) fun _ _ F => ok_lvalid (n := 1) (k := 2) (by decide) F gLv0p gNi1 (He.free_ok X G (c.d.fact 43 (f := .free "range") rfl)) (He.free_ok X G (c.d.fact 37 (f := .free "len") rfl)))
  have gFa : Cal P w K mg base CX0 4 "_law_fault" ["state", "deed"] (spFault) := cS (calB X G c 35 80 (i := 121) rfl rfl (fun _ _ F => F.binds fun _ _ _ _ _ _ us hl => match us, hl with | [_, _], _ => rfl) fun _ _ F => ok_fault F gNi1 gLe1 gLv1 (He.free_ok X G (c.d.fact 37 (f := .free "len") rfl)) (He.free_ok X G (c.d.fact 32 (f := .free "int") rfl)) (He.free_ok X G (c.d.fact 35 (f := .free "list") rfl)))
  have gNx : Cal P w K mg base CX0 3 "_law_next" ["state", "deed", "entry"] (spNext) := cS (calB X G c 36 81 (i := 122) rfl rfl (fun _ _ F => F.binds fun _ _ _ _ _ _ us hl => match us, hl with | [_, _, _], _ => rfl) fun _ _ F => ok_next F gLe1 (He.free_ok X G (c.d.fact 39 (f := .free "dict") rfl)) (He.free_ok X G (c.d.fact 35 (f := .free "list") rfl)))
  have gTo : Cal P w K mg base (L2.CX P w) 5 "_law_told" ["bench", "state"] (spTold (He.ga K "Workbench") (He.ga K "Board") (He.ga K "Shape")) := cS (calB X G c 37 82 (i := 123) rfl rfl (fun _ _ F => F.binds fun _ _ _ _ _ _ us hl => match us, hl with | [_, _], _ => rfl) fun _ _ F => ok_told F T W mSN mQN mSh mQu (He.free_ok X G (c.d.fact 132 (f := .free "sorted") rfl)) (He.free_ok X G (c.d.fact 36 (f := .free "tuple") rfl)))
  have bWI : Binds K fdM8 ["self"] [] := (FM8.binds fun _ _ _ _ _ _ us hl => match us, hl with | [_], _ => rfl)
  have PCUndo : PlainC K mg "NothingToUndo" (He.ga K "NothingToUndo") := by
    obtain ⟨h1, h2, h3, h4⟩ := He.exc_ok (c.d.fact 135 (f := .exc "NothingToUndo") rfl)
    exact ⟨(He.glo_ok X G (c.d.fact 133 (f := .glo "NothingToUndo") rfl)), h2, h1, h3, h4⟩
  have PCRedo : PlainC K mg "NothingToRedo" (He.ga K "NothingToRedo") := by
    obtain ⟨h1, h2, h3, h4⟩ := He.exc_ok (c.d.fact 136 (f := .exc "NothingToRedo") rfl)
    exact ⟨(He.glo_ok X G (c.d.fact 134 (f := .glo "NothingToRedo") rfl)), h2, h1, h3, h4⟩
  have mUn : Mt P w K mg base (L2.CX P w) 1 (He.ga K "Workbench") "undo" ["self"] (spUndo (He.ga K "Workbench") (He.ga K "Board") (He.ga K "Shape") (He.ga K "NothingToUndo")) := ⟨_, _, (He.meth_ok (c.d.fact 114 (f := .meth "Workbench" "undo") rfl)), ok_undo FM23 W PCUndo, (FM23.binds fun _ _ _ _ _ _ us hl => match us, hl with | [_], _ => rfl)⟩
  have mRe : Mt P w K mg base (L2.CX P w) 1 (He.ga K "Workbench") "redo" ["self"] (spRedo (He.ga K "Workbench") (He.ga K "Board") (He.ga K "Shape") (He.ga K "NothingToRedo")) := ⟨_, _, (He.meth_ok (c.d.fact 115 (f := .meth "Workbench" "redo") rfl)), ok_redo FM24 W PCRedo (He.free_ok X G (c.d.fact 37 (f := .free "len") rfl)), (FM24.binds fun _ _ _ _ _ _ us hl => match us, hl with | [_], _ => rfl)⟩
  have gCh : Cal P w K mg base CX0 15 "_law_change" ["deed"] (spChange (He.ga K "Shape")) := cS (calB X G c 38 83 (i := 124) rfl rfl (fun _ _ F => F.binds fun _ _ _ _ _ _ us hl => match us, hl with | [_], _ => rfl) fun _ _ F => ok_change (k := 14) (kI := 13) (by decide) F MS gInit bI gSh (He.free_ok X G (c.d.fact 35 (f := .free "list") rfl)))
  have gTa : Cal P w K mg base CX0 18 "_law_tried_all" ["bench", "deeds"] (spTriedAll (He.ga K "Workbench") (He.ga K "Board") (He.ga K "Shape")) := cS (calB X G c 39 84 (i := 125) rfl rfl (fun _ _ F => F.binds fun _ _ _ _ _ _ us hl => match us, hl with | [_, _], _ => rfl) fun _ _ F => ok_triedall (k := 17) F EC W (gCh.mono (by decide)) mCA)
  have gUn : Cal P w K mg base CX0 2 "_law_undone" ["bench", "past", "future"] (spBack (He.ga K "Workbench") (He.ga K "Board") (He.ga K "Shape")) := cS (calB X G c 40 85 (i := 126) rfl rfl (fun _ _ F => F.binds fun _ _ _ _ _ _ us hl => match us, hl with | [_, _, _], _ => rfl) fun _ _ F => ok_undone F W (He.glo_ok X G (c.d.fact 133 (f := .glo "NothingToUndo") rfl)) (He.exm_ok (c.d.fact 146 (f := .exm "NothingToUndo" "NothingToUndo" true) rfl)) mUn (He.free_ok X G (c.d.fact 37 (f := .free "len") rfl)))
  have gRe : Cal P w K mg base CX0 2 "_law_redone" ["bench", "past", "future"] (spBack (He.ga K "Workbench") (He.ga K "Board") (He.ga K "Shape")) := cS (calB X G c 41 86 (i := 127) rfl rfl (fun _ _ F => F.binds fun _ _ _ _ _ _ us hl => match us, hl with | [_, _, _], _ => rfl) fun _ _ F => ok_redone F W (He.glo_ok X G (c.d.fact 134 (f := .glo "NothingToRedo") rfl)) (He.exm_ok (c.d.fact 148 (f := .exm "NothingToRedo" "NothingToRedo" true) rfl)) mRe (He.free_ok X G (c.d.fact 37 (f := .free "len") rfl)))
  exact ok_law86 (k := 20) (by decide) F (gNum.mono (by decide)) (gNam.mono (by decide)) (He.mkr_ok (c.d.fact 127 (f := .mkr "Workbench") rfl)) (ok_winit FM8 W MB GBI bBI gBd) bWI (He.glo_ok X G (c.d.fact 91 (f := .glo "Workbench") rfl)) W (gWo.mono (by decide)) (gFa.mono (by decide)) (gTa.mono (by decide)) (gNx.mono (by decide)) (gTo.mono (by decide)) (gUn.mono (by decide)) (gRe.mono (by decide)) (He.free_ok X G (c.d.fact 32 (f := .free "int") rfl)) (He.free_ok X G (c.d.fact 43 (f := .free "range") rfl)) (He.free_ok X G (c.d.fact 37 (f := .free "len") rfl))
end
theorem walk {l : PySem.W.OpenLaw} {q : Program} {loose : List Str} {XP : (Str → Option Value) → Heap → Prop} {YP : World → Heap → Prop} {d : DefRec} {K : Params → PySem.W.Frag} (hn : l.most = some 63) (hdf : d.params.defaults = [])
    (hY : ∀ (w : World) (h : Heap), YP w h → (K w.params).In h)
    (F : ∀ (w : World) (mg : Str → Option Value) (fa : Addr) (h : Heap), (K w.params).In h → h.Ns mainGlobals mg → mg d.name = some (.ref fa) →
      ∃ fd : FuncData, (∀ (s : Shared) (u : Value), BindsTo s fd ⟨[u], []⟩ [("script", u)]) ∧ ∀ base : Heap, (K w.params).In base → base.Ns mainGlobals mg → FnOk l.prog w (K w.params) mg base CX0 21 fa fd ["script"] (Bm.spLaw (K w.params))) :
    PySem.W.WalkO q loose XP YP l.row.toRowW d [] (fun f vs => PySem.call f vs) :=
  L2.walk_of (n := 63) (k := 21) (x := "script") (CX := fun _ => CX0) (sp := fun w => Bm.spLaw (K w.params)) hn (by decide) hdf ⟨rfl, by decide, by decide⟩ hY F (fun _ _ a ns hl _ hS => ⟨a, ns, rfl, hS, hl, fun _ => rfl⟩) fun _ _ _ _ _ z => z
end Bs

set_option Elab.async false
set_option linter.all false
set_option maxRecDepth 100000
set_option maxHeartbeats 0
open PySem PySem.W PySem.Calls PyProof.Rows
theorem PySem.Challenge.cw_byteshape_k86_all_changes_or_none_holds : PySem.Challenge.rw_byteshape_k86_all_changes_or_none.Holds := by
  w_on; o_law
  refine HandSHeadRun.head_any (r := OpenLaw.row PySem.Challenge.rw_byteshape_k86_all_changes_or_none) (q := HT.qv) (H := HT.hk) (ob := HT.ob) (M := 20000) (loose := HT.names) (d := HandSHeadRun.topDef (OpenLaw.row PySem.Challenge.rw_byteshape_k86_all_changes_or_none).prog 128) (kwd := []) HT.ob_eq
    (by kernel_rfl) (fun s => by kernel_rfl) HT.run (by kernel_rfl) (by kernel_rfl) (by kernel_rfl) (by rfl) (by first | assumption | decide +kernel) (by decide +kernel) ⟨rfl, rfl, rfl, rfl, rfl, by decide +kernel⟩ ?hw ?hc
  case hw => w_witness2
  case hc =>
    refine L2.walk_ofE (l := PySem.Challenge.rw_byteshape_k86_all_changes_or_none) (n := 63) (k := 21) (x := "script") (CX := L2.CX0) rfl (by decide) (by kernel_rfl) ⟨rfl, by decide, by decide⟩ ?F (fun _ _ _ _ z => z)
    intro w mg fa h Y G hmg0
    obtain ⟨K, KX, c⟩ := Y
    have hmg : mg ("law" : PySem.Str) = some (.ref fa) := by
      have e : (HandSHeadRun.topDef (OpenLaw.row PySem.Challenge.rw_byteshape_k86_all_changes_or_none).prog 128).name = ("law" : PySem.Str) := by kernel_rfl
      rw [← e]
      exact hmg0
    obtain ⟨fd, hb, hF⟩ := Bs.facts (P := (PySem.Challenge.rw_byteshape_k86_all_changes_or_none).prog) (w := w) KX G c.t (He.ba c.more).1 (He.ba c.more).2 (Hb.dropC_ok (c.x 0)) (Hb.dropC_ok (c.x 1)) (by kernel_rfl) hmg
    exact ⟨K, fd, Bm.spLaw K, KX, hb, fun H a ns hl _ hS => ⟨a, ns, rfl, hS, hl, fun _ => rfl⟩, hF⟩

